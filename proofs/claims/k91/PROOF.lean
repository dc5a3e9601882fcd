import PyProof.Rows.All
import Wide.All
import OpenK.AllK
import Wide.FinOn
import HandS.ForMost
import HandS.ForExc
import HandS.ExcInit
import HandS.Flow
import HandS.StrMore
import HandS.Deep
import HandS.Zip
import HandS.Conv
import HandS.CallSlots
import HandS.WordsDict
import HandS.ExcValue
import HandS.FStr
import HandS.FStrTup
import KE.KExcIs
import KE.KExcSuper
import HandS.Nested
import KE.KSuper
import HandS.ExcIs
import HandS.ExcField
import PySem.Challenge.RW_farscale_k91_errors
import Open.Row
set_option Elab.async false
set_option maxRecDepth 100000
set_option maxHeartbeats 4000001
set_option linter.all false
namespace DW
open PySem PySem.Spec
open PyProof.Rows L2
/-! ### data -/
inductive D where
  | non | bl (b : Bool) | int (i : Int) | str (x : Str)
  | lst (xs : List D) | fro (xs : List D) | tup (xs : List D) | dct (kvs : List (Key × D)) | ins (C : Addr) (fs : List (Str × D)) | exc (C : Addr) (fs : List (Str × D)) | ref (a : Addr) | ty (n : String)
/-- a list, a tuple that stands outside of A, or is written in the top -/
def LsA (K : PySem.W.Frag) (A : Addr → Prop) (H : Hp) (a : Addr) (vs : List V) : Prop := (¬ A a ∧ Rd H a (.lst vs)) ∨ SqL K (fun _ => none) a vs
def TuA (K : PySem.W.Frag) (A : Addr → Prop) (H : Hp) (a : Addr) (vs : List V) : Prop := (¬ A a ∧ Rd H a (.tup vs)) ∨ SqT K (fun _ => none) a vs
mutual
inductive Dat (K : PySem.W.Frag) (A : Addr → Prop) (H : Hp) : D → V → Prop where
  | non : Dat K A H .non .non
  | bl (b : Bool) : Dat K A H (.bl b) (.bl b)
  | int (i : Int) : Dat K A H (.int i) (.int i)
  | str (x : Str) : Dat K A H (.str x) (.str x)
  | lst {a : Addr} {xs : List D} {vs : List V} (na : ¬ A a) (h : H a = some (.lst vs)) (hs : Dats K A H xs vs) : Dat K A H (.lst xs) (.ref a)
  | fro {a : Addr} {xs : List D} {vs : List V} (h : LsA K A H a vs) (hs : Dats K A H xs vs) : Dat K A H (.fro xs) (.ref a)
  | tup {a : Addr} {xs : List D} {vs : List V} (h : TuA K A H a vs) (hs : Dats K A H xs vs) : Dat K A H (.tup xs) (.ref a)
  | dct {a : Addr} {kvs : List (Key × D)} {kws : List (Key × V)} (na : ¬ A a) (h : H a = some (.dK kws)) (hk : kws.map (·.1) = kvs.map (·.1)) (hs : Dats K A H (kvs.map (·.2)) (kws.map (·.2))) : Dat K A H (.dct kvs) (.ref a)
  | ins {a C dx : Addr} {fs : List (Str × D)} {gs : List (Str × V)} (na : ¬ A a) (h : H a = some (.ins C dx gs)) (hk : gs.map (·.1) = fs.map (·.1)) (hs : Dats K A H (fs.map (·.2)) (gs.map (·.2))) : Dat K A H (.ins C fs) (.ref a)
  | exc {a C dx : Addr} {fs : List (Str × D)} {gs : List (Str × V)} (na : ¬ A a) (h : H a = some (exo a C (some dx))) (nx : ¬ A dx) (hx : H dx = some (exd dx gs)) (hk : gs.map (·.1) = fs.map (·.1)) (hs : Dats K A H (fs.map (·.2)) (gs.map (·.2))) : Dat K A H (.exc C fs) (.ref a)
  | exc0 {a C : Addr} (na : ¬ A a) (h : H a = some (exo a C none)) : Dat K A H (.exc C []) (.ref a)
  | ref (a : Addr) : Dat K A H (.ref a) (.ref a)
  | ty (n : String) : Dat K A H (.ty n) (.ty n)
inductive Dats (K : PySem.W.Frag) (A : Addr → Prop) (H : Hp) : List D → List V → Prop where
  | nil : Dats K A H [] []
  | cons {d : D} {v : V} {ds : List D} {vs : List V} (h : Dat K A H d v) (t : Dats K A H ds vs) : Dats K A H (d :: ds) (v :: vs)
end
/-- what may change, and what is known of it -/
structure Md where
  M : Addr → Prop
  J : Hp → Prop
  al : ∀ H b, J H → M b → H b ≠ none
  st : ∀ H H', (∀ b, M b → H' b = H b) → J H → J H'
def Grow (m : Md) (H H' : Hp) : Prop := ∀ b o, H b = some o → ¬ m.M b → H' b = some o
theorem Grow.refl (m : Md) (H : Hp) : Grow m H H := fun _ _ h _ => h
theorem Grow.trans {m : Md} {H H1 H2 : Hp} (a : Grow m H H1) (b : Grow m H1 H2) : Grow m H H2 := fun c o h n => b c o (a c o h n) n
section
variable {K : PySem.W.Frag} {A A' : Addr → Prop} {H H' : Hp} {m : Md}
theorem Rd.none {a : Addr} {u : HO} (h : Rd (fun _ => none) a u) : False := by
  rcases h with h | ⟨o, h⟩ <;> cases h
theorem LsA.sq {a : Addr} {xs : List V} (h : LsA K A H a xs) : SqL K H a xs := by
  rcases h with ⟨_, h⟩ | (h | h)
  · exact .inl h
  · exact (Rd.none h).elim
  · exact .inr h
theorem TuA.sq {a : Addr} {xs : List V} (h : TuA K A H a xs) : SqT K H a xs := by
  rcases h with ⟨_, h⟩ | (h | h)
  · exact .inl h
  · exact (Rd.none h).elim
  · exact .inr h
theorem rd_grow {a : Addr} {u : HO} (g : Grow m H H') (n : ¬ m.M a) (h : Rd H a u) : Rd H' a u := by
  rcases h with h | ⟨o, h⟩
  · exact .inl (g _ _ h n)
  · exact .inr ⟨o, g _ _ h n⟩
/-- what a step does to the heap, as a datum sees it -/
def Keeps (A : Addr → Prop) (H H' : Hp) (A' : Addr → Prop) : Prop := ∀ b o, H b = some o → ¬ A b → H' b = some o ∧ ¬ A' b
theorem Keeps.of (g : Grow m H H') (am : ∀ b, m.M b → A b) (aa : ∀ b, A' b → A b) : Keeps A H H' A' := fun b o h n => ⟨g b o h fun z => n (am b z), fun z => n (aa b z)⟩
theorem Keeps.rd (k : Keeps A H H' A') {a : Addr} {u : HO} (n : ¬ A a) (h : Rd H a u) : ¬ A' a ∧ Rd H' a u := by
  rcases h with h | ⟨o, h⟩
  · exact ⟨(k _ _ h n).2, .inl (k _ _ h n).1⟩
  · exact ⟨(k _ _ h n).2, .inr ⟨o, (k _ _ h n).1⟩⟩
mutual
theorem Dat.keep (k : Keeps A H H' A') : ∀ {d : D} {v : V}, Dat K A H d v → Dat K A' H' d v
  | _, _, .non => .non
  | _, _, .bl b => .bl b
  | _, _, .int i => .int i
  | _, _, .str x => .str x
  | _, _, .lst na h hs => .lst (k _ _ h na).2 (k _ _ h na).1 (Dats.keep k hs)
  | _, _, .fro h hs => .fro (h.imp (fun z => k.rd z.1 z.2) id) (Dats.keep k hs)
  | _, _, .tup h hs => .tup (h.imp (fun z => k.rd z.1 z.2) id) (Dats.keep k hs)
  | _, _, .dct na h hk hs => .dct (k _ _ h na).2 (k _ _ h na).1 hk (Dats.keep k hs)
  | _, _, .ins na h hk hs => .ins (k _ _ h na).2 (k _ _ h na).1 hk (Dats.keep k hs)
  | _, _, .exc na h nx hx hk hs => .exc (k _ _ h na).2 (k _ _ h na).1 (k _ _ hx nx).2 (k _ _ hx nx).1 hk (Dats.keep k hs)
  | _, _, .exc0 na h => .exc0 (k _ _ h na).2 (k _ _ h na).1
  | _, _, .ref a => .ref a
  | _, _, .ty n => .ty n
theorem Dats.keep (k : Keeps A H H' A') : ∀ {ds : List D} {vs : List V}, Dats K A H ds vs → Dats K A' H' ds vs
  | _, _, .nil => .nil
  | _, _, .cons h t => .cons (Dat.keep k h) (Dats.keep k t)
end
theorem Dat.mono (g : Grow m H H') (am : ∀ b, m.M b → A b) (aa : ∀ b, A' b → A b) {d : D} {v : V} (h : Dat K A H d v) : Dat K A' H' d v := h.keep (.of g am aa)
theorem Dats.mono (g : Grow m H H') (am : ∀ b, m.M b → A b) (aa : ∀ b, A' b → A b) {d : List D} {v : List V} (h : Dats K A H d v) : Dats K A' H' d v := h.keep (.of g am aa)
/-- a new object -/
theorem Keeps.new {p : Addr} {o : HO} (hp : H p = none) : Keeps A H (upd H p o) (fun b => A b ∨ b = p) := fun b u h n => by
  have q : b ≠ p := ne_of_none h hp
  exact ⟨by rw [upd_ne q]; exact h, fun z => z.elim n q⟩
theorem Keeps.new' {p : Addr} {o : HO} (hp : H p = none) : Keeps A H (upd H p o) A := fun b u h n => by
  have q : b ≠ p := ne_of_none h hp
  exact ⟨by rw [upd_ne q]; exact h, n⟩
/-- an own object written -/
theorem Keeps.put {p : Addr} {o : HO} (hp : A p) : Keeps A H (upd H p o) A := fun b u h n => by
  have q : b ≠ p := fun z => n (z ▸ hp)
  exact ⟨by rw [upd_ne q]; exact h, n⟩
theorem Keeps.sub (aa : ∀ b, A' b → A b) : Keeps A H H A' := fun b o h n => ⟨h, fun z => n (aa b z)⟩
theorem Dats.length : ∀ {ds : List D} {vs : List V}, Dats K A H ds vs → ds.length = vs.length
  | _, _, .nil => rfl
  | _, _, .cons _ t => congrArg (· + 1) t.length
theorem Dats.get : ∀ {ds : List D} {vs : List V} {i : Nat} {v : V}, Dats K A H ds vs → vs[i]? = some v → ∃ d, ds[i]? = some d ∧ Dat K A H d v
  | _, _, _, _, .nil, z => by simp at z
  | _, _, 0, _, .cons h _, e => by simp at e; subst e; exact ⟨_, rfl, h⟩
  | _, _, i + 1, _, .cons _ t, e => by
    obtain ⟨d, h1, h2⟩ := Dats.get (i := i) t (by simpa using e)
    exact ⟨d, by simpa using h1, h2⟩
theorem Dats.at : ∀ {ds : List D} {vs : List V} {i : Nat} {d : D}, Dats K A H ds vs → ds[i]? = some d → ∃ v, vs[i]? = some v ∧ Dat K A H d v
  | _, _, _, _, .nil, z => by simp at z
  | _, _, 0, _, .cons h _, e => by simp at e; subst e; exact ⟨_, rfl, h⟩
  | _, _, i + 1, _, .cons _ t, e => by
    obtain ⟨d, h1, h2⟩ := Dats.at (i := i) t (by simpa using e)
    exact ⟨d, by simpa using h1, h2⟩
theorem Dats.app : ∀ {ds es : List D} {vs ws : List V}, Dats K A H ds vs → Dats K A H es ws → Dats K A H (ds ++ es) (vs ++ ws)
  | _, _, _, _, .nil, s => s
  | _, _, _, _, .cons h t, s => .cons h (Dats.app t s)
theorem Dats.one {d : D} {v : V} (h : Dat K A H d v) : Dats K A H [d] [v] := .cons h .nil
theorem Dats.take : ∀ {ds : List D} {vs : List V} (n : Nat), Dats K A H ds vs → Dats K A H (ds.take n) (vs.take n)
  | _, _, 0, _ => .nil
  | _, _, _ + 1, .nil => .nil
  | _, _, n + 1, .cons h t => .cons h (Dats.take n t)
theorem Dats.drop : ∀ {ds : List D} {vs : List V} (n : Nat), Dats K A H ds vs → Dats K A H (ds.drop n) (vs.drop n)
  | _, _, 0, h => h
  | _, _, _ + 1, .nil => .nil
  | _, _, n + 1, .cons _ t => Dats.drop n t
theorem Dats.set : ∀ {ds : List D} {vs : List V} {d : D} {v : V} (n : Nat), Dats K A H ds vs → Dat K A H d v → Dats K A H (ds.set n d) (vs.set n v)
  | _, _, _, _, _, .nil, _ => .nil
  | _, _, _, _, 0, .cons _ t, x => .cons x t
  | _, _, _, _, n + 1, .cons h t, x => .cons h (Dats.set n t x)
end
/-! ### slots -/
inductive Ow where
  | lst (xs : List D) | dct (kvs : List (Key × D)) | ins (C : Addr) (fs : List (Str × D))
inductive Sl where
  | dat (d : D) | own (o : Ow)
abbrev Ev := List (Option Sl)
def OwnAt (K : PySem.W.Frag) (A : Addr → Prop) (H : Hp) (p : Addr) : Ow → Prop
  | .lst xs => ∃ vs, H p = some (.lst vs) ∧ Dats K A H xs vs
  | .dct kvs => ∃ kws : List (Key × V), H p = some (.dK kws) ∧ kws.map (·.1) = kvs.map (·.1) ∧ Dats K A H (kvs.map (·.2)) (kws.map (·.2))
  | .ins C fs => ∃ (dx : Addr) (gs : List (Str × V)), H p = some (.ins C dx gs) ∧ gs.map (·.1) = fs.map (·.1) ∧ Dats K A H (fs.map (·.2)) (gs.map (·.2))
theorem OwnAt.keep {K : PySem.W.Frag} {A A' : Addr → Prop} {H H' : Hp} {p : Addr} (k : Keeps A H H' A') (n : H' p = H p) : ∀ {o : Ow}, OwnAt K A H p o → OwnAt K A' H' p o
  | .lst _, ⟨vs, h, hs⟩ => ⟨vs, n.trans h, hs.keep k⟩
  | .dct _, ⟨kws, h, hk, hs⟩ => ⟨kws, n.trans h, hk, hs.keep k⟩
  | .ins _ _, ⟨dx, gs, h, hk, hs⟩ => ⟨dx, gs, n.trans h, hk, hs.keep k⟩
theorem OwnAt.there {K : PySem.W.Frag} {A : Addr → Prop} {H : Hp} {p : Addr} : ∀ {o : Ow}, OwnAt K A H p o → H p ≠ none
  | .lst _, ⟨_, h, _⟩ => by rw [h]; intro z; cases z
  | .dct _, ⟨_, h, _⟩ => by rw [h]; intro z; cases z
  | .ins _ _, ⟨_, _, h, _⟩ => by rw [h]; intro z; cases z
/-- what is fixed in a def's body -/
structure Fx where
  m : Md
  A0 : Addr → Prop
  H0 : Hp
  am : ∀ b, m.M b → A0 b
  al : ∀ b, A0 b → H0 b ≠ none
structure Rel (K : PySem.W.Frag) (F : Fx) (π : List D × List V) (A : Addr → Prop) (σ : L2.St) (H : Hp) (ε : Ev) : Prop where
  pin : Dats K A H π.1 π.2
  gr : Grow F.m F.H0 H
  j : F.m.J H
  aa : ∀ b, F.A0 b → A b
  th : ∀ b, A b → H b ≠ none
  len : ε.length = σ.length
  dat : ∀ (i : Nat) (d : D), ε[i]? = some (some (.dat d)) → ∃ v, σ[i]? = some (some v) ∧ Dat K A H d v
  own : ∀ (i : Nat) (o : Ow), ε[i]? = some (some (.own o)) → ∃ p, σ[i]? = some (some (.ref p)) ∧ A p ∧ F.H0 p = none ∧ OwnAt K A H p o
  inj : ∀ (i j : Nat) (o o' : Ow) (v : V), ε[i]? = some (some (.own o)) → ε[j]? = some (some (.own o')) → σ[i]? = some (some v) → σ[j]? = some (some v) → i = j
section
variable {K : PySem.W.Frag} {F : Fx} {π : List D × List V} {A A' : Addr → Prop} {σ : L2.St} {H H' : Hp} {ε : Ev}
theorem Fx.nm (F : Fx) {p : Addr} (h : F.H0 p = none) : ¬ F.m.M p := fun z => F.al p (F.am p z) h
theorem Rel.am (R : Rel K F π A σ H ε) : ∀ b, F.m.M b → A b := fun b z => R.aa b (F.am b z)
theorem Rel.grow (R : Rel K F π A σ H ε) (g : Grow F.m H H') (j : F.m.J H') : Rel K F π A σ H' ε where
  pin := R.pin.mono g R.am fun _ z => z
  gr := R.gr.trans g
  j := j
  aa := R.aa
  th := fun b h z => by
    by_cases q : F.m.M b
    · exact F.m.al H' b j q z
    · cases e : H b with
      | none => exact R.th b h e
      | some o => rw [g b o e q] at z; cases z
  len := R.len
  dat := fun i d e => let ⟨v, h1, h2⟩ := R.dat i d e; ⟨v, h1, h2.mono g R.am fun _ z => z⟩
  own := fun i o e => by
    obtain ⟨p, h1, h2, h3, h4⟩ := R.own i o e
    refine ⟨p, h1, h2, h3, h4.keep (.of g R.am fun _ z => z) ?_⟩
    cases e : H p with
    | none => exact absurd e (R.th p h2)
    | some o => exact g p o e (F.nm h3)
  inj := R.inj
/-- a slot is given a datum -/
theorem Rel.set (R : Rel K F π A σ H ε) {i : Nat} {d : D} {v : V} (h : Dat K A H d v) : Rel K F π A (σ.set i (some v)) H (ε.set i (some (.dat d))) where
  pin := R.pin
  gr := R.gr
  j := R.j
  aa := R.aa
  th := R.th
  len := by rw [List.length_set, List.length_set]; exact R.len
  dat := fun k e h1 => by
    by_cases q : i = k
    · subst q
      by_cases z : i < ε.length
      · rw [List.getElem?_set_self z] at h1; cases h1
        exact ⟨v, List.getElem?_set_self (by rw [← R.len]; exact z), h⟩
      · rw [List.getElem?_eq_none (by rw [List.length_set]; omega)] at h1; cases h1
    · rw [List.getElem?_set_ne q] at h1
      obtain ⟨w, e1, e2⟩ := R.dat k e h1
      exact ⟨w, by rw [List.getElem?_set_ne q]; exact e1, e2⟩
  own := fun k o h1 => by
    by_cases q : i = k
    · subst q
      by_cases z : i < ε.length
      · rw [List.getElem?_set_self z] at h1; cases h1
      · rw [List.getElem?_eq_none (by rw [List.length_set]; omega)] at h1; cases h1
    · rw [List.getElem?_set_ne q] at h1
      obtain ⟨p, e1, e2⟩ := R.own k o h1
      exact ⟨p, by rw [List.getElem?_set_ne q]; exact e1, e2⟩
  inj := fun k l o o' w h1 h2 h3 h4 => by
    by_cases q : i = k
    · subst q
      by_cases z : i < ε.length
      · rw [List.getElem?_set_self z] at h1; cases h1
      · rw [List.getElem?_eq_none (by rw [List.length_set]; omega)] at h1; cases h1
    · by_cases q' : i = l
      · subst q'
        by_cases z : i < ε.length
        · rw [List.getElem?_set_self z] at h2; cases h2
        · rw [List.getElem?_eq_none (by rw [List.length_set]; omega)] at h2; cases h2
      · rw [List.getElem?_set_ne q] at h1 h3
        rw [List.getElem?_set_ne q'] at h2 h4
        exact R.inj k l o o' w h1 h2 h3 h4
/-- some slots forgotten -/
theorem Rel.weak (R : Rel K F π A σ H ε) {σ' : L2.St} {ε' : Ev} (hl : ε'.length = σ'.length) (h : ∀ (i : Nat) (s : Sl), ε'[i]? = some (some s) → ε[i]? = some (some s) ∧ σ'[i]? = σ[i]?) : Rel K F π A σ' H ε' where
  pin := R.pin
  gr := R.gr
  j := R.j
  aa := R.aa
  th := R.th
  len := hl
  dat := fun i d e => by
    obtain ⟨e1, e2⟩ := h i _ e
    rw [e2]; exact R.dat i d e1
  own := fun i o e => by
    obtain ⟨e1, e2⟩ := h i _ e
    rw [e2]; exact R.own i o e1
  inj := fun i j o o' v h1 h2 h3 h4 => by
    obtain ⟨e1, e2⟩ := h i _ h1
    obtain ⟨e3, e4⟩ := h j _ h2
    rw [e2] at h3; rw [e4] at h4
    exact R.inj i j o o' v e1 e3 h3 h4
theorem Rel.fresh (R : Rel K F π A σ H ε) {p : Addr} (h : H p = none) : F.H0 p = none ∧ ¬ A p := by
  refine ⟨?_, fun z => R.th p z h⟩
  cases e : F.H0 p with
  | none => rfl
  | some o =>
    by_cases q : F.m.M p
    · exact absurd h (F.m.al H p R.j q)
    · rw [R.gr p o e q] at h; cases h
theorem Rel.fresh_j (R : Rel K F π A σ H ε) {p : Addr} {u : HO} (h : H p = none) : F.m.J (upd H p u) := F.m.st H _ (fun b z => upd_ne fun q => F.m.al H b R.j z (q ▸ h)) R.j
/-- a new own object at a slot -/
theorem Rel.new (R : Rel K F π A σ H ε) {i : Nat} {p : Addr} {o : Ow} {u : HO} (hp : H p = none) (h' : OwnAt K (fun b => A b ∨ b = p) (upd H p u) p o) :
    Rel K F π (fun b => A b ∨ b = p) (σ.set i (some (.ref p))) (upd H p u) (ε.set i (some (.own o))) where
  pin := R.pin.keep (.new hp)
  gr := fun b o e n => by
    have z := R.gr b o e n
    rw [upd_ne (ne_of_none z hp)]; exact z
  j := R.fresh_j hp
  aa := fun b z => .inl (R.aa b z)
  th := fun b z => by
    by_cases q : b = p
    · rw [q, upd_same]; intro z; cases z
    · rw [upd_ne q]
      exact R.th b (z.resolve_right q)
  len := by rw [List.length_set, List.length_set]; exact R.len
  dat := fun k e h1 => by
    by_cases q : i = k
    · subst q
      by_cases z : i < ε.length
      · rw [List.getElem?_set_self z] at h1; cases h1
      · rw [List.getElem?_eq_none (by rw [List.length_set]; omega)] at h1; cases h1
    · rw [List.getElem?_set_ne q] at h1
      obtain ⟨w, e1, e2⟩ := R.dat k e h1
      exact ⟨w, by rw [List.getElem?_set_ne q]; exact e1, e2.keep (.new hp)⟩
  own := fun k o' h1 => by
    by_cases q : i = k
    · subst q
      by_cases z : i < ε.length
      · rw [List.getElem?_set_self z] at h1; cases h1
        exact ⟨p, List.getElem?_set_self (by rw [← R.len]; exact z), .inr rfl, (R.fresh hp).1, h'⟩
      · rw [List.getElem?_eq_none (by rw [List.length_set]; omega)] at h1; cases h1
    · rw [List.getElem?_set_ne q] at h1
      obtain ⟨r, e1, e2, e3, e4⟩ := R.own k o' h1
      exact ⟨r, by rw [List.getElem?_set_ne q]; exact e1, .inl e2, e3, e4.keep (.new hp) (upd_ne fun z => (R.fresh hp).2 (z ▸ e2))⟩
  inj := fun k l o1 o2 w h1 h2 h3 h4 => by
    have np := (R.fresh hp).2
    by_cases q : i = k
    · subst q
      by_cases q' : i = l
      · exact q'
      · by_cases z : i < ε.length
        · rw [List.getElem?_set_self (by rw [← R.len]; exact z)] at h3
          rw [List.getElem?_set_ne q'] at h2 h4
          obtain ⟨r, e1, e2, _⟩ := R.own l o2 h2
          rw [e1] at h4; cases h4; cases h3
          exact absurd e2 np
        · rw [List.getElem?_eq_none (by rw [List.length_set]; omega)] at h1; cases h1
    · by_cases q' : i = l
      · subst q'
        by_cases z : i < ε.length
        · rw [List.getElem?_set_self (by rw [← R.len]; exact z)] at h4
          rw [List.getElem?_set_ne q] at h1 h3
          obtain ⟨r, e1, e2, _⟩ := R.own k o1 h1
          rw [e1] at h3; cases h3; cases h4
          exact absurd e2 np
        · rw [List.getElem?_eq_none (by rw [List.length_set]; omega)] at h2; cases h2
      · rw [List.getElem?_set_ne q] at h1 h3
        rw [List.getElem?_set_ne q'] at h2 h4
        exact R.inj k l o1 o2 w h1 h2 h3 h4
/-- an own object is written -/
theorem Rel.put (R : Rel K F π A σ H ε) {i : Nat} {p : Addr} {o o' : Ow} {u : HO} (hi : ε[i]? = some (some (.own o))) (hs : σ[i]? = some (some (.ref p))) (h' : OwnAt K A (upd H p u) p o') :
    Rel K F π A σ (upd H p u) (ε.set i (some (.own o'))) := by
  obtain ⟨p', e1, e2, e3, e4⟩ := R.own i o hi
  rw [hs] at e1; cases e1
  have il : i < ε.length := (List.getElem?_eq_some_iff.mp hi).1
  exact {
    pin := R.pin.keep (.put e2)
    gr := fun b o e n => by
      have z := R.gr b o e n
      rw [upd_ne (ne_of_none e e3)]; exact z
    j := F.m.st H _ (fun b z => upd_ne fun q => F.nm e3 (q ▸ z)) R.j
    aa := R.aa
    th := fun b z => by
      by_cases q : b = p
      · rw [q, upd_same]; intro z; cases z
      · rw [upd_ne q]; exact R.th b z
    len := by rw [List.length_set]; exact R.len
    dat := fun k e h1 => by
      by_cases q : i = k
      · subst q
        rw [List.getElem?_set_self il] at h1; cases h1
      · rw [List.getElem?_set_ne q] at h1
        obtain ⟨w, f1, f2⟩ := R.dat k e h1
        exact ⟨w, f1, f2.keep (.put e2)⟩
    own := fun k o1 h1 => by
      by_cases q : i = k
      · subst q
        rw [List.getElem?_set_self il] at h1; cases h1
        exact ⟨p, hs, e2, e3, h'⟩
      · rw [List.getElem?_set_ne q] at h1
        obtain ⟨r, f1, f2, f3, f4⟩ := R.own k o1 h1
        refine ⟨r, f1, f2, f3, f4.keep (.put e2) (upd_ne fun z => q ?_)⟩
        subst z
        exact R.inj i k o o1 _ hi h1 hs f1
    inj := fun k l o1 o2 w h1 h2 h3 h4 => by
      have hk : ∃ o, ε[k]? = some (some (.own o)) := by
        by_cases q : i = k
        · exact ⟨o, q ▸ hi⟩
        · rw [List.getElem?_set_ne q] at h1; exact ⟨_, h1⟩
      have hl : ∃ o, ε[l]? = some (some (.own o)) := by
        by_cases q : i = l
        · exact ⟨o, q ▸ hi⟩
        · rw [List.getElem?_set_ne q] at h2; exact ⟨_, h2⟩
      obtain ⟨_, hk⟩ := hk
      obtain ⟨_, hl⟩ := hl
      exact R.inj k l _ _ w hk hl h3 h4 }
def Ow.toD : Ow → D
  | .lst xs => .lst xs
  | .dct kvs => .dct kvs
  | .ins C fs => .ins C fs
/-- an own object becomes a datum -/
theorem Rel.frz (R : Rel K F π A σ H ε) {i : Nat} {o : Ow} (hi : ε[i]? = some (some (.own o))) : ∃ A', Rel K F π A' σ H (ε.set i (some (.dat o.toD))) := by
  obtain ⟨p, e1, e2, e3, e4⟩ := R.own i o hi
  have il : i < ε.length := (List.getElem?_eq_some_iff.mp hi).1
  have ks : Keeps A H H (fun b => A b ∧ b ≠ p) := .sub fun _ z => z.1
  have dp : Dat K (fun b => A b ∧ b ≠ p) H o.toD (.ref p) := by
    cases o with
    | lst xs => obtain ⟨vs, h, hs⟩ := e4; exact .lst (fun z => z.2 rfl) h (hs.keep ks)
    | dct kvs => obtain ⟨kws, h, hk, hs⟩ := e4; exact .dct (fun z => z.2 rfl) h hk (hs.keep ks)
    | ins C fs => obtain ⟨dx, gs, h, hk, hs⟩ := e4; exact .ins (fun z => z.2 rfl) h hk (hs.keep ks)
  refine ⟨fun b => A b ∧ b ≠ p, R.pin.keep ks, R.gr, R.j, fun b z => ⟨R.aa b z, fun q => F.al b z (q ▸ e3)⟩, fun b z => R.th b z.1, by rw [List.length_set]; exact R.len, fun k e h1 => ?_, fun k o1 h1 => ?_, fun k l o1 o2 w h1 h2 h3 h4 => ?_⟩
  · by_cases q : i = k
    · subst q
      rw [List.getElem?_set_self il] at h1; cases h1
      exact ⟨_, e1, dp⟩
    · rw [List.getElem?_set_ne q] at h1
      obtain ⟨w, f1, f2⟩ := R.dat k e h1
      exact ⟨w, f1, f2.keep ks⟩
  · by_cases q : i = k
    · subst q
      rw [List.getElem?_set_self il] at h1; cases h1
    · rw [List.getElem?_set_ne q] at h1
      obtain ⟨r, f1, f2, f3, f4⟩ := R.own k o1 h1
      refine ⟨r, f1, ⟨f2, fun z => q ?_⟩, f3, f4.keep ks rfl⟩
      subst z
      exact R.inj i k o o1 _ hi h1 e1 f1
  · by_cases q : i = k
    · subst q
      rw [List.getElem?_set_self il] at h1; cases h1
    · by_cases q' : i = l
      · subst q'
        rw [List.getElem?_set_self il] at h2; cases h2
      · rw [List.getElem?_set_ne q] at h1
        rw [List.getElem?_set_ne q'] at h2
        exact R.inj k l o1 o2 w h1 h2 h3 h4
/-- a further pin -/
theorem Rel.pinned (R : Rel K F π A σ H ε) {ds : List D} {vs : List V} (h : Dats K A H ds vs) : Rel K F (ds ++ π.1, vs ++ π.2) A σ H ε :=
  ⟨h.app R.pin, R.gr, R.j, R.aa, R.th, R.len, R.dat, R.own, R.inj⟩
theorem Dats.split : ∀ {ds es : List D} {vs ws : List V}, ds.length = vs.length → Dats K A H (ds ++ es) (vs ++ ws) → Dats K A H ds vs ∧ Dats K A H es ws
  | [], _, [], _, _, h => ⟨.nil, h⟩
  | [], _, _ :: _, _, e, _ => by cases e
  | _ :: _, _, [], _, e, _ => by cases e
  | d :: ds, _, v :: vs, _, e, h => by
    cases h with
    | cons h t =>
      obtain ⟨a, b⟩ := Dats.split (ds := ds) (vs := vs) (by simpa using e) t
      exact ⟨.cons h a, b⟩
theorem Rel.unpin {ds : List D} {vs : List V} (hl : ds.length = vs.length) (R : Rel K F (ds ++ π.1, vs ++ π.2) A σ H ε) : Rel K F π A σ H ε ∧ Dats K A H ds vs :=
  let ⟨a, b⟩ := Dats.split hl R.pin
  ⟨⟨b, R.gr, R.j, R.aa, R.th, R.len, R.dat, R.own, R.inj⟩, a⟩
end
end DW
namespace DW
open PySem PySem.Spec
open PyProof.Rows L2
/-! ### what a piece of text does, over data -/
structure Ex where
  C : Addr
  fs : List (Str × D)
def ExAt (K : PySem.W.Frag) (A : Addr → Prop) (H : Hp) (x : Ex) (cls : Value) (dd : Option Addr) : Prop :=
  cls = .ref x.C ∧ ((dd = none ∧ x.fs = []) ∨ ∃ (d : Addr) (gs : List (Str × V)), dd = some d ∧ H d = some (.xd gs) ∧ gs.map (·.1) = x.fs.map (·.1) ∧ Dats K A H (x.fs.map (·.2)) (gs.map (·.2)))
abbrev WE := Ev → (D → Prop) → (Ex → Prop) → Prop
abbrev WT := Ev → (Bool → Prop) → (Ex → Prop) → Prop
abbrev WA := Ev → (List D → Prop) → (Ex → Prop) → Prop
structure En where
  nx : Ev → Prop
  rt : D → Prop
  bk : Ev → Prop := fun _ => False
  ct : Ev → Prop := fun _ => False
  ex : Ex → Ev → Prop := fun _ _ => False
abbrev WS := Ev → En → Prop
/-- a datum that is looked at, not kept: it may be one's own -/
def Bor (K : PySem.W.Frag) (m : Md) (A : Addr → Prop) (H : Hp) : D → V → Prop
  | .lst xs, v => ∃ (a : Addr) (vs : List V), v = .ref a ∧ ¬ m.M a ∧ H a = some (.lst vs) ∧ Dats K A H xs vs
  | .fro xs, v => ∃ a vs, v = .ref a ∧ LsA K m.M H a vs ∧ Dats K A H xs vs
  | .tup xs, v => ∃ a vs, v = .ref a ∧ TuA K m.M H a vs ∧ Dats K A H xs vs
  | .dct kvs, v => ∃ (a : Addr) (kws : List (Key × V)), v = .ref a ∧ ¬ m.M a ∧ H a = some (.dK kws) ∧ kws.map (·.1) = kvs.map (·.1) ∧ Dats K A H (kvs.map (·.2)) (kws.map (·.2))
  | .ins C fs, v => ∃ (a dx : Addr) (gs : List (Str × V)), v = .ref a ∧ ¬ m.M a ∧ H a = some (.ins C dx gs) ∧ gs.map (·.1) = fs.map (·.1) ∧ Dats K A H (fs.map (·.2)) (gs.map (·.2))
  | d, v => Dat K A H d v
section
variable {K : PySem.W.Frag} {F : Fx} {m : Md} {π : List D × List V} {A A' : Addr → Prop} {σ : L2.St} {H H' : Hp} {ε : Ev} {W : WX}
theorem Dat.bor (am : ∀ b, m.M b → A b) : ∀ {d : D} {v : V}, Dat K A H d v → Bor K m A H d v
  | _, _, .non => .non
  | _, _, .bl b => .bl b
  | _, _, .int i => .int i
  | _, _, .str x => .str x
  | _, _, .lst na h hs => ⟨_, _, rfl, fun q => na (am _ q), h, hs⟩
  | _, _, .fro h hs => ⟨_, _, rfl, h.imp (fun z => ⟨fun q => z.1 (am _ q), z.2⟩) id, hs⟩
  | _, _, .tup h hs => ⟨_, _, rfl, h.imp (fun z => ⟨fun q => z.1 (am _ q), z.2⟩) id, hs⟩
  | _, _, .dct na h hk hs => ⟨_, _, rfl, fun q => na (am _ q), h, hk, hs⟩
  | _, _, .ins na h hk hs => ⟨_, _, _, rfl, fun q => na (am _ q), h, hk, hs⟩
  | _, _, .exc na h nx hx hk hs => .exc na h nx hx hk hs
  | _, _, .exc0 na h => .exc0 na h
  | _, _, .ref a => .ref a
  | _, _, .ty n => .ty n
theorem Bor.grow (g : Grow m H H') (am : ∀ b, m.M b → A b) : ∀ {d : D} {v : V}, Bor K m A H d v → Bor K m A H' d v := fun {d v} h => by
  have kM : Keeps m.M H H' m.M := fun b o e n => ⟨g b o e n, n⟩
  cases d with
  | lst xs => obtain ⟨a, vs, rfl, na, h, hs⟩ := h; exact ⟨a, vs, rfl, na, g _ _ h na, hs.mono g am fun _ z => z⟩
  | fro xs => obtain ⟨a, vs, rfl, h, hs⟩ := h; exact ⟨a, vs, rfl, h.imp (fun z => kM.rd z.1 z.2) id, hs.mono g am fun _ z => z⟩
  | tup xs => obtain ⟨a, vs, rfl, h, hs⟩ := h; exact ⟨a, vs, rfl, h.imp (fun z => kM.rd z.1 z.2) id, hs.mono g am fun _ z => z⟩
  | dct kvs => obtain ⟨a, kws, rfl, na, h, hk, hs⟩ := h; exact ⟨a, kws, rfl, na, g _ _ h na, hk, hs.mono g am fun _ z => z⟩
  | ins C fs => obtain ⟨a, dx, gs, rfl, na, h, hk, hs⟩ := h; exact ⟨a, dx, gs, rfl, na, g _ _ h na, hk, hs.mono g am fun _ z => z⟩
  | non => exact Dat.mono g am (fun _ z => z) h
  | bl b => exact Dat.mono g am (fun _ z => z) h
  | int i => exact Dat.mono g am (fun _ z => z) h
  | str x => exact Dat.mono g am (fun _ z => z) h
  | exc C fs => exact Dat.mono g am (fun _ z => z) h
  | ref a => exact Dat.mono g am (fun _ z => z) h
  | ty n => exact Dat.mono g am (fun _ z => z) h
theorem ExAt.mono {x : Ex} {cls : Value} {dd : Option Addr} (aa : ∀ b, A' b → A b) (h : ExAt K A H x cls dd) : ExAt K A' H x cls dd :=
  ⟨h.1, h.2.imp id fun ⟨d, gs, e1, e2, e3, e4⟩ => ⟨d, gs, e1, e2, e3, e4.keep (.sub aa)⟩⟩
/-- what an exception out of an expression is wished to be -/
def XW (K : PySem.W.Frag) (F : Fx) (W : WX) (A : Addr → Prop) (σ : L2.St) (H : Hp) (X : Ex → Prop) : Prop :=
  ∀ x cls dd H', X x → Grow F.m H H' → F.m.J H' → ExAt K A H' x cls dd → W cls dd σ H'
theorem XW.grow {X : Ex → Prop} (w : XW K F W A σ H X) (g : Grow F.m H H') : XW K F W A σ H' X := fun x cls dd H2 h g2 j e => w x cls dd H2 h (g.trans g2) j e
def tE (K : PySem.W.Frag) (F : Fx) (W : WX) (f : WE) : TE := fun σ H Q => ∃ π A ε P X, Rel K F π A σ H ε ∧ XW K F W A σ H X ∧ f ε P X ∧ ∀ d v H', P d → Grow F.m H H' → F.m.J H' → Dat K A H' d v → Q v H'
def tB (K : PySem.W.Frag) (F : Fx) (W : WX) (f : WE) : TE := fun σ H Q => ∃ π A ε P X, Rel K F π A σ H ε ∧ XW K F W A σ H X ∧ f ε P X ∧ ∀ d v H', P d → Grow F.m H H' → F.m.J H' → Bor K F.m A H' d v → Q v H'
def tT (K : PySem.W.Frag) (F : Fx) (W : WX) (f : WT) : TT := fun σ H Q => ∃ π A ε P X, Rel K F π A σ H ε ∧ XW K F W A σ H X ∧ f ε P X ∧ ∀ b H', P b → Grow F.m H H' → F.m.J H' → Q b H'
def tA (K : PySem.W.Frag) (F : Fx) (W : WX) (f : WA) : TA := fun σ H Q => ∃ π A ε P X, Rel K F π A σ H ε ∧ XW K F W A σ H X ∧ f ε P X ∧ ∀ ds vs H', P ds → Grow F.m H H' → F.m.J H' → Dats K A H' ds vs → Q vs H'
def tS (K : PySem.W.Frag) (F : Fx) (W : WX) (g : WS) : TS := fun D σ H => ∃ π A ε N, Rel K F π A σ H ε ∧ g ε N ∧
  (∀ A' ε' σ' H', N.nx ε' → Rel K F π A' σ' H' ε' → D.nx σ' H') ∧
  (∀ d v H', N.rt d → Grow F.m F.H0 H' → F.m.J H' → Dat K F.A0 H' d v → D.rt v H') ∧
  (∀ A' ε' σ' H', N.bk ε' → Rel K F π A' σ' H' ε' → D.bk σ' H') ∧
  (∀ A' ε' σ' H', N.ct ε' → Rel K F π A' σ' H' ε' → D.ct σ' H') ∧
  (∀ x A' ε' σ' H' cls dd, N.ex x ε' → Rel K F π A' σ' H' ε' → ExAt K A' H' x cls dd → W cls dd σ' H')
end
section
variable {X : Cx} {F : Fx} {W : WX} {e a b c : Expr} {f g h : WE} {pos : Pos}
theorem imE {t t' : TE} (p : PE X e t) (q : ∀ σ H Q, t' σ H Q → t σ H Q) : PE X e t' := ⟨fun pins s σ H Q I z => p.run pins s σ H Q I (q σ H Q z)⟩
theorem imT {t t' : TT} (p : PT X e t) (q : ∀ σ H Q, t' σ H Q → t σ H Q) : PT X e t' := ⟨fun pins s σ H Q I z => p.run pins s σ H Q I (q σ H Q z)⟩
theorem imA {es : List Expr} {t t' : TA} (p : PA X es t) (q : ∀ σ H Q, t' σ H Q → t σ H Q) : PA X es t' := ⟨fun pos pins s σ H Q I z => p.run pos pins s σ H Q I (q σ H Q z)⟩
theorem imS {st : Stmt} {t t' : TS} (p : PS X st t) (q : ∀ D σ H, t' D σ H → t D σ H) : PS X st t' := ⟨fun pins s σ H D I z => p.run pins s σ H D I (q D σ H z)⟩
theorem imSs {sts : List Stmt} {t t' : TS} (p : PSs X sts t) (q : ∀ D σ H, t' D σ H → t D σ H) : PSs X sts t' := ⟨fun pins s σ H D I z => p.run pins s σ H D I (q D σ H z)⟩
/-- a datum is one to look at -/
theorem bor (p : PE X e (tE X.K F W f)) : PE X e (tB X.K F W f) := imE p fun σ H Q ⟨π, A, ε, P, Z, R, w, z, k⟩ => ⟨π, A, ε, P, Z, R, w, z, fun d v H' p g j h => k d v H' p g j (h.bor R.am)⟩
/-! ### names, constants -/
def wVar (i : Nat) : WE := fun ε P _ => ∃ d, ε[i]? = some (some (.dat d)) ∧ P d
def wOwn (i : Nat) : WE := fun ε P _ => ∃ o, ε[i]? = some (some (.own o)) ∧ P o.toD
def wC (d : D) : WE := fun _ P _ => P d
theorem dVar (i : Nat) (p : PE X e (tVar i)) : PE X e (tE X.K F W (wVar i)) := imE p fun σ H Q ⟨π, A, ε, P, Z, R, w, ⟨d, hd, z⟩, k⟩ => by
  obtain ⟨v, h1, h2⟩ := R.dat i d hd
  exact ⟨v, h1, k d v H z (.refl _ _) R.j h2⟩
theorem dOwn (i : Nat) (p : PE X e (tVar i)) : PE X e (tB X.K F W (wOwn i)) := imE p fun σ H Q ⟨π, A, ε, P, Z, R, w, ⟨o, hd, z⟩, k⟩ => by
  obtain ⟨q, h1, h2, h3, h4⟩ := R.own i o hd
  have nm := F.nm h3
  refine ⟨.ref q, h1, k _ _ H z (.refl _ _) R.j ?_⟩
  cases o with
  | lst xs => obtain ⟨vs, e1, e2⟩ := h4; exact ⟨q, vs, rfl, nm, e1, e2⟩
  | dct kvs => obtain ⟨vs, e1, e2, e3⟩ := h4; exact ⟨q, vs, rfl, nm, e1, e2, e3⟩
  | ins C fs => obtain ⟨dx, vs, e1, e2, e3⟩ := h4; exact ⟨q, dx, vs, rfl, nm, e1, e2, e3⟩
theorem dC {v : V} {d : D} (p : PE X e (tC v)) (r : ∀ K A H, Dat K A H d v) : PE X e (tE X.K F W (wC d)) := imE p fun σ H Q ⟨π, A, ε, P, Z, R, w, z, k⟩ => k d v H z (.refl _ _) R.j (r _ _ _)
theorem dInt {i : Int} {j pos} : PE X (.Constant (.int i) j pos) (tE X.K F W (wC (.int i))) := dC pe_int fun _ _ _ => .int i
theorem dBl {b : Bool} {j pos} : PE X (.Constant (.bool b) j pos) (tE X.K F W (wC (.bl b))) := dC pe_bl fun _ _ _ => .bl b
theorem dNon {j pos} : PE X (.Constant .none j pos) (tE X.K F W (wC .non)) := dC pe_non fun _ _ _ => .non
theorem dStr {x : Str} {j pos} : PE X (.Constant (.str x) j pos) (tE X.K F W (wC (.str x))) := dC pe_str fun _ _ _ => .str x
/-! ### two operands -/
/-- from a reading of two operands (each by tB) to the operation's -/
def w2 (f g : WE) (k : D → D → (D → Prop) → Prop) : WE := fun ε P Z => f ε (fun x => g ε (fun y => k x y P) Z) Z
def w1 (f : WE) (k : D → (D → Prop) → Prop) : WE := fun ε P Z => f ε (fun x => k x P) Z
/-- an operation on values answers one on data -/
def Op2 (K : PySem.W.Frag) (r : R2) (k : D → D → (D → Prop) → Prop) : Prop :=
  ∀ (m : Md) (A : Addr → Prop) (H : Hp) (x y : D) (u v : V) (P : D → Prop) (Q : VK), (∀ b, m.M b → A b) → (∀ b, A b → H b ≠ none) → m.J H → Bor K m A H x u → Bor K m A H y v → k x y P → (∀ d w H', P d → Grow m H H' → m.J H' → Dat K A H' d w → Q w H') → r u v H Q
theorem d2 {r : R2} {k : D → D → (D → Prop) → Prop} (ho : ∀ {ta tb : TE}, PE X a ta → PE X b tb → PE X e (tOp r ta tb)) (hk : Op2 X.K r k) (ha : PE X a (tB X.K F W f)) (hb : PE X b (tB X.K F W g)) : PE X e (tE X.K F W (w2 f g k)) :=
  imE (ho ha hb) fun σ H Q ⟨π, A, ε, P, Z, R, w, z, q⟩ => ⟨π, A, ε, _, Z, R, w, z, fun x u H1 z1 g1 j1 b1 => ⟨π, A, ε, _, Z, R.grow g1 j1, w.grow g1, z1, fun y v H2 z2 g2 j2 b2 =>
    hk F.m A H2 x y u v P Q R.am ((R.grow g1 j1).grow g2 j2).th j2 (b1.grow g2 R.am) b2 z2 fun d w' H3 p g3 j3 h3 => q d w' H3 p ((g1.trans g2).trans g3) j3 h3⟩⟩
theorem d2T {r : R2} {k : D → D → (D → Prop) → Prop} (ho : ∀ {ta tb : TE}, PE X a ta → PE X b tb → PT X e (tTest (tOp r ta tb))) (hk : Op2 X.K r k) (ha : PE X a (tB X.K F W f)) (hb : PE X b (tB X.K F W g)) :
    PT X e (tT X.K F W fun ε P Z => w2 f g k ε (fun d => ∃ c, d = .bl c ∧ P c) Z) :=
  imT (ho ha hb) fun σ H Q ⟨π, A, ε, P, Z, R, w, z, q⟩ => ⟨π, A, ε, _, Z, R, w, z, fun x u H1 z1 g1 j1 b1 => ⟨π, A, ε, _, Z, R.grow g1 j1, w.grow g1, z1, fun y v H2 z2 g2 j2 b2 =>
    hk F.m A H2 x y u v _ _ R.am ((R.grow g1 j1).grow g2 j2).th j2 (b1.grow g2 R.am) b2 z2 fun d w' H3 p g3 j3 h3 => by
      obtain ⟨c, rfl, pc⟩ := p
      cases h3
      exact ⟨c, rfl, q c H3 pc ((g1.trans g2).trans g3) j3⟩⟩⟩
/-- .. a plain function of the data, the heap stays -/
def kF (φ : D → D → D → Prop) : D → D → (D → Prop) → Prop := fun x y P => ∃ d, φ x y d ∧ P d
end
end DW
namespace DW
open PySem PySem.Spec
open PyProof.Rows L2
/-! ### data as plain Python data -/
mutual
def D.pd : D → PyData
  | .non => .none
  | .bl b => .bool b
  | .int i => .int i
  | .str x => .str x
  | .lst xs => .list (pds xs)
  | .fro xs => .list (pds xs)
  | .tup xs => .tuple (pds xs)
  | .dct _ => .dict []
  | .ins _ _ => .dict []
  | .exc _ _ => .dict []
  | .ref _ => .dict []
  | .ty _ => .dict []
def pds : List D → List PyData
  | [] => []
  | d :: ds => d.pd :: pds ds
end
theorem pds_map : ∀ ds : List D, pds ds = ds.map D.pd
  | [] => rfl
  | d :: ds => by rw [pds, pds_map ds, List.map_cons]
section
variable {K : PySem.W.Frag} {A : Addr → Prop} {H : Hp}
mutual
theorem Dat.dp : ∀ {d : D} {v : V}, Dat K A H d v → d.pd.canLay0 = true → Dp K H v d.pd
  | _, _, .non, _ => .non
  | _, _, .bl b, _ => .bl b
  | _, _, .int i, _ => .int i
  | _, _, .str x, _ => .str x
  | .lst xs, _, .lst na h hs, c => by
    rw [D.pd]; rw [D.pd, PyData.canLay0] at c
    exact .lst (.of h) (Dats.dp hs c)
  | .fro xs, _, .fro h hs, c => by
    rw [D.pd]; rw [D.pd, PyData.canLay0] at c
    exact .lst h.sq (Dats.dp hs c)
  | .tup xs, _, .tup h hs, c => by
    rw [D.pd]; rw [D.pd, PyData.canLay0] at c
    exact .tup h.sq (Dats.dp hs c)
  | _, _, .dct _ _ _ _, c => by rw [D.pd, PyData.canLay0] at c; cases c
  | _, _, .ins _ _ _ _, c => by rw [D.pd, PyData.canLay0] at c; cases c
  | _, _, .exc _ _ _ _ _ _, c => by rw [D.pd, PyData.canLay0] at c; cases c
  | _, _, .exc0 _ _, c => by rw [D.pd, PyData.canLay0] at c; cases c
  | _, _, .ref _, c => by rw [D.pd, PyData.canLay0] at c; cases c
  | _, _, .ty _, c => by rw [D.pd, PyData.canLay0] at c; cases c
theorem Dats.dp : ∀ {ds : List D} {vs : List V}, Dats K A H ds vs → PyData.canLayAll0 (pds ds) = true → DpAll K H vs (pds ds)
  | _, _, .nil, _ => .nil
  | d :: ds, _, .cons h t, c => by
    rw [pds, PyData.canLayAll0, Bool.and_eq_true] at c
    rw [pds]
    exact .cons (Dat.dp h c.1) (Dats.dp t c.2)
end
theorem Bor.dp {m : Md} {d : D} {v : V} (h : Bor K m A H d v) (c : d.pd.canLay0 = true) : Dp K H v d.pd := by
  cases d with
  | lst xs =>
    obtain ⟨a, vs, rfl, na, e, hs⟩ := h
    rw [D.pd]; rw [D.pd, PyData.canLay0] at c
    exact .lst (.of e) (Dats.dp hs c)
  | fro xs =>
    obtain ⟨a, vs, rfl, e, hs⟩ := h
    rw [D.pd]; rw [D.pd, PyData.canLay0] at c
    exact .lst e.sq (Dats.dp hs c)
  | tup xs =>
    obtain ⟨a, vs, rfl, e, hs⟩ := h
    rw [D.pd]; rw [D.pd, PyData.canLay0] at c
    exact .tup e.sq (Dats.dp hs c)
  | dct _ => rw [D.pd, PyData.canLay0] at c; cases c
  | ins _ _ => rw [D.pd, PyData.canLay0] at c; cases c
  | exc _ _ => rw [D.pd, PyData.canLay0] at c; cases c
  | ref _ => rw [D.pd, PyData.canLay0] at c; cases c
  | ty _ => rw [D.pd, PyData.canLay0] at c; cases c
  | non => exact Dat.dp h c
  | bl b => exact Dat.dp h c
  | int i => exact Dat.dp h c
  | str x => exact Dat.dp h c
end
/-! ### operations -/
def kAdd : D → D → (D → Prop) → Prop
  | .int i, .int j, P => P (.int (i + j))
  | .str x, .str y, P => x.length + y.length ≤ sizeLine ∧ P (.str (x ++ y))
  | .lst xs, .lst ys, P => xs.length + ys.length ≤ sizeLine ∧ P (.lst (xs ++ ys))
  | _, _, _ => False
def kI (φ : Int → Int → Prop) (ψ : Int → Int → D) : D → D → (D → Prop) → Prop
  | .int i, .int j, P => φ i j ∧ P (ψ i j)
  | _, _, _ => False
def kMul : D → D → (D → Prop) → Prop
  | .int i, .int j, P => CMul i j ∧ P (.int (i * j))
  | .lst xs, .int k, P => k < 2 ^ 63 ∧ xs.length * k.toNat ≤ sizeLine ∧ P (.lst (List.replicate k.toNat xs).flatten)
  | _, _, _ => False
def kEq (neg : Bool) : D → D → (D → Prop) → Prop := fun x y P => SeqAt.shaped x.pd = true ∧ SeqAt.shaped y.pd = true ∧ P (.bl (if neg then !PyData.eqv x.pd y.pd else PyData.eqv x.pd y.pd))
section
variable {X : Cx} {K : PySem.W.Frag}
theorem bInt {m : Md} {A : Addr → Prop} {H : Hp} {i : Int} {v : V} (h : Bor K m A H (.int i) v) : v = .int i := by cases h; rfl
theorem bStr {m : Md} {A : Addr → Prop} {H : Hp} {x : Str} {v : V} (h : Bor K m A H (.str x) v) : v = .str x := by cases h; rfl
theorem bBl {m : Md} {A : Addr → Prop} {H : Hp} {b : Bool} {v : V} (h : Bor K m A H (.bl b) v) : v = .bl b := by cases h; rfl
theorem bNon {m : Md} {A : Addr → Prop} {H : Hp} {v : V} (h : Bor K m A H .non v) : v = .non := by cases h; rfl
/-- a new object, outside of all that may change -/
theorem grow_new {m : Md} {H : Hp} {p : Addr} {o : HO} (hp : H p = none) : Grow m H (upd H p o) := fun b u h _ => by rw [upd_ne (ne_of_none h hp)]; exact h
theorem j_new {m : Md} {H : Hp} {p : Addr} {o : HO} (hp : H p = none) (j : m.J H) : m.J (upd H p o) := m.st H _ (fun b z => upd_ne fun q => m.al H b j z (q ▸ hp)) j
theorem o2I {φ : Int → Int → Prop} {ψ : Int → Int → V} {ψ' : Int → Int → D} (hψ : ∀ K A H i j, Dat K A H (ψ' i j) (ψ i j)) : Op2 K (rI φ ψ) (kI φ ψ') := fun m A H x y u v P Q am al j bx b2 k q => by
  cases x <;> try exact k.elim
  cases y <;> try exact k.elim
  obtain ⟨k1, k2⟩ := k
  exact ⟨_, _, bInt bx, bInt b2, k1, q _ _ H k2 (.refl _ _) j (hψ _ _ _ _ _)⟩
theorem o2I0 {ψ : Int → Int → V} {ψ' : Int → Int → D} (hψ : ∀ K A H i j, Dat K A H (ψ' i j) (ψ i j)) : Op2 K (rI0 ψ) (kI (fun _ _ => True) ψ') := fun m A H x y u v P Q am al j bx b2 k q => by
  cases x <;> try exact k.elim
  cases y <;> try exact k.elim
  exact ⟨_, _, bInt bx, bInt b2, q _ _ H k.2 (.refl _ _) j (hψ _ _ _ _ _)⟩
theorem Op2.or {r r' : R2} {k k' : D → D → (D → Prop) → Prop} (a : Op2 K r k) (b : Op2 K r' k') : Op2 K (fun x y H Q => r x y H Q ∨ r' x y H Q) (fun x y P => k x y P ∨ k' x y P) :=
  fun m A H x y u v P Q am al j bx b2 z q => z.imp (fun z => a m A H x y u v P Q am al j bx b2 z q) (fun z => b m A H x y u v P Q am al j bx b2 z q)
theorem Op2.imp {r : R2} {k k' : D → D → (D → Prop) → Prop} (a : Op2 K r k) (h : ∀ x y P, k' x y P → k x y P) : Op2 K r k' := fun m A H x y u v P Q am al j bx b2 z q => a m A H x y u v P Q am al j bx b2 (h _ _ _ z) q
def rAddA : R2 := fun x y H Q => (∃ i j, x = .int i ∧ y = .int j ∧ Q (.int (i + j)) H) ∨ (∃ i j, x = .str i ∧ y = .str j ∧ i.length + j.length ≤ sizeLine ∧ Q (.str (i ++ j)) H) ∨ rCat x y H Q
theorem opAdd : OpR X (binaryOp .Add) rAddA := op_add.or (op_add_str.or op_cat)
theorem k2Add : Op2 K rAddA kAdd := fun m A H x y u v P Q am al j bx b2 k q => by
  cases x <;> try exact k.elim
  · cases y <;> try exact k.elim
    exact .inl ⟨_, _, bInt bx, bInt b2, q _ _ H k (.refl _ _) j (.int _)⟩
  · cases y <;> try exact k.elim
    exact .inr (.inl ⟨_, _, bStr bx, bStr b2, k.1, q _ _ H k.2 (.refl _ _) j (.str _)⟩)
  · cases y <;> try exact k.elim
    obtain ⟨a, vs, rfl, na, e, hs⟩ := bx
    obtain ⟨b, ws, rfl, nb, e', hs'⟩ := b2
    refine .inr (.inr ⟨a, b, vs, ws, rfl, rfl, e, e', by rw [← hs.length, ← hs'.length]; exact k.1, fun p hp => ?_⟩)
    refine q _ _ _ k.2 (grow_new hp) (j_new hp j) (.lst (fun z => al p z hp) upd_same ?_)
    exact (hs.app hs').keep (.new' hp)
theorem k2Mul : Op2 K (fun x y H Q => rI CMul (fun i j => .int (i * j)) x y H Q ∨ rRep x y H Q) (fun x y P => match x, y with | .int i, .int j => CMul i j ∧ P (.int (i * j)) | _, _ => False) := fun m A H x y u v P Q am al j bx b2 k q => by
  cases x <;> try exact k.elim
  cases y <;> try exact k.elim
  exact .inl ⟨_, _, bInt bx, bInt b2, k.1, q _ _ H k.2 (.refl _ _) j (.int _)⟩
theorem k2Eq : Op2 K (rEqD K) (kEq false) := fun m A H x y u v P Q am al j bx b2 k q => by
  obtain ⟨k1, k2, k3⟩ := k
  exact ⟨_, _, bx.dp (SeqAt.canLay_of_shaped k1), b2.dp (SeqAt.canLay_of_shaped k2), k1, k2, q _ _ H k3 (.refl _ _) j (.bl _)⟩
theorem k2Ne : Op2 K (rNeD K) (kEq true) := fun m A H x y u v P Q am al j bx b2 k q => by
  obtain ⟨k1, k2, k3⟩ := k
  exact ⟨_, _, bx.dp (SeqAt.canLay_of_shaped k1), b2.dp (SeqAt.canLay_of_shaped k2), k1, k2, q _ _ H k3 (.refl _ _) j (.bl _)⟩
end
section
variable {X : Cx} {F : Fx} {W : WX} {a b : Expr} {f g : WE} {pos : Pos}
theorem dAdd (ha : PE X a (tB X.K F W f)) (hb : PE X b (tB X.K F W g)) : PE X (.BinOp a .Add b pos) (tE X.K F W (w2 f g kAdd)) := d2 (fun p q => pe_op opAdd p q) k2Add ha hb
theorem dSub (ha : PE X a (tB X.K F W f)) (hb : PE X b (tB X.K F W g)) : PE X (.BinOp a .Sub b pos) (tE X.K F W (w2 f g (kI (fun _ _ => True) fun i j => .int (i - j)))) := d2 (fun p q => pe_op op_sub p q) (o2I0 fun _ _ _ _ _ => .int _) ha hb
theorem dMulI (ha : PE X a (tB X.K F W f)) (hb : PE X b (tB X.K F W g)) : PE X (.BinOp a .Mult b pos) (tE X.K F W (w2 f g (kI CMul fun i j => .int (i * j)))) := d2 (fun p q => pe_op op_mul p q) (o2I fun _ _ _ _ _ => .int _) ha hb
theorem dMod (ha : PE X a (tB X.K F W f)) (hb : PE X b (tB X.K F W g)) : PE X (.BinOp a .Mod b pos) (tE X.K F W (w2 f g (kI (fun _ j => 0 < j) fun i j => .int (i % j)))) := d2 (fun p q => pe_op op_mod p q) (o2I fun _ _ _ _ _ => .int _) ha hb
theorem dDiv (ha : PE X a (tB X.K F W f)) (hb : PE X b (tB X.K F W g)) : PE X (.BinOp a .FloorDiv b pos) (tE X.K F W (w2 f g (kI CDiv fun i j => .int (i / j)))) := d2 (fun p q => pe_op op_fdiv p q) (o2I fun _ _ _ _ _ => .int _) ha hb
theorem dPow (ha : PE X a (tB X.K F W f)) (hb : PE X b (tB X.K F W g)) : PE X (.BinOp a .Pow b pos) (tE X.K F W (w2 f g (kI CPow fun i j => .int (i ^ j.toNat)))) := d2 (fun p q => pe_op op_pow p q) (o2I fun _ _ _ _ _ => .int _) ha hb
/-- comparisons, as values and as tests -/
def wTst (f : WE) : WT := fun ε P Z => f ε (fun d => ∃ c, d = .bl c ∧ P c) Z
abbrev kLt : D → D → (D → Prop) → Prop := kI (fun _ _ => True) fun i j => .bl (decide (i < j))
abbrev kLe : D → D → (D → Prop) → Prop := kI (fun _ _ => True) fun i j => .bl (decide (i ≤ j))
abbrev kGt : D → D → (D → Prop) → Prop := kI (fun _ _ => True) fun i j => .bl (decide (j < i))
abbrev kGe : D → D → (D → Prop) → Prop := kI (fun _ _ => True) fun i j => .bl (decide (j ≤ i))
theorem dLt (ha : PE X a (tB X.K F W f)) (hb : PE X b (tB X.K F W g)) : PE X (.Compare a [.Lt] [b] pos) (tE X.K F W (w2 f g kLt)) := d2 (fun p q => pe_cmpR op_lt p q (nomark _)) (o2I0 fun _ _ _ _ _ => .bl _) ha hb
theorem dLe (ha : PE X a (tB X.K F W f)) (hb : PE X b (tB X.K F W g)) : PE X (.Compare a [.LtE] [b] pos) (tE X.K F W (w2 f g kLe)) := d2 (fun p q => pe_cmpR op_le p q (nomark _)) (o2I0 fun _ _ _ _ _ => .bl _) ha hb
theorem dGt (ha : PE X a (tB X.K F W f)) (hb : PE X b (tB X.K F W g)) : PE X (.Compare a [.Gt] [b] pos) (tE X.K F W (w2 f g kGt)) := d2 (fun p q => pe_cmpR op_gt p q (nomark _)) (o2I0 fun _ _ _ _ _ => .bl _) ha hb
theorem dGe (ha : PE X a (tB X.K F W f)) (hb : PE X b (tB X.K F W g)) : PE X (.Compare a [.GtE] [b] pos) (tE X.K F W (w2 f g kGe)) := d2 (fun p q => pe_cmpR op_ge p q (nomark _)) (o2I0 fun _ _ _ _ _ => .bl _) ha hb
theorem dEq (hu : X.A.units + 64 < cLine) (ha : PE X a (tB X.K F W f)) (hb : PE X b (tB X.K F W g)) : PE X (.Compare a [.Eq] [b] pos) (tE X.K F W (w2 f g (kEq false))) := d2 (fun p q => pe_cmpR (op_eqD hu) p q (nomark _)) k2Eq ha hb
theorem dNe (hu : X.A.units + 64 < cLine) (ha : PE X a (tB X.K F W f)) (hb : PE X b (tB X.K F W g)) : PE X (.Compare a [.NotEq] [b] pos) (tE X.K F W (w2 f g (kEq true))) := d2 (fun p q => pe_cmpR (op_neD hu) p q (nomark _)) k2Ne ha hb
theorem tLt (ha : PE X a (tB X.K F W f)) (hb : PE X b (tB X.K F W g)) : PT X (.Compare a [.Lt] [b] pos) (tT X.K F W (wTst (w2 f g kLt))) := d2T (fun p q => pt_cmpR op_lt p q (nomark _)) (o2I0 fun _ _ _ _ _ => .bl _) ha hb
theorem tLe (ha : PE X a (tB X.K F W f)) (hb : PE X b (tB X.K F W g)) : PT X (.Compare a [.LtE] [b] pos) (tT X.K F W (wTst (w2 f g kLe))) := d2T (fun p q => pt_cmpR op_le p q (nomark _)) (o2I0 fun _ _ _ _ _ => .bl _) ha hb
theorem tGt (ha : PE X a (tB X.K F W f)) (hb : PE X b (tB X.K F W g)) : PT X (.Compare a [.Gt] [b] pos) (tT X.K F W (wTst (w2 f g kGt))) := d2T (fun p q => pt_cmpR op_gt p q (nomark _)) (o2I0 fun _ _ _ _ _ => .bl _) ha hb
theorem tGe (ha : PE X a (tB X.K F W f)) (hb : PE X b (tB X.K F W g)) : PT X (.Compare a [.GtE] [b] pos) (tT X.K F W (wTst (w2 f g kGe))) := d2T (fun p q => pt_cmpR op_ge p q (nomark _)) (o2I0 fun _ _ _ _ _ => .bl _) ha hb
theorem tEq (hu : X.A.units + 64 < cLine) (ha : PE X a (tB X.K F W f)) (hb : PE X b (tB X.K F W g)) : PT X (.Compare a [.Eq] [b] pos) (tT X.K F W (wTst (w2 f g (kEq false)))) := d2T (fun p q => pt_cmpR (op_eqD hu) p q (nomark _)) k2Eq ha hb
theorem tNe (hu : X.A.units + 64 < cLine) (ha : PE X a (tB X.K F W f)) (hb : PE X b (tB X.K F W g)) : PT X (.Compare a [.NotEq] [b] pos) (tT X.K F W (wTst (w2 f g (kEq true)))) := d2T (fun p q => pt_cmpR (op_neD hu) p q (nomark _)) k2Ne ha hb
end
end DW
namespace DW
open PySem PySem.Spec
open PyProof.Rows L2
/-! ### tests -/
def truD : D → (Bool → Prop) → Prop
  | .non, P => P false
  | .bl b, P => P b
  | .int i, P => P (i != 0)
  | .str x, P => x.length ≤ sizeLine ∧ P ((x.length : Int) != 0)
  | .lst xs, P => P (!xs.isEmpty)
  | .fro xs, P => P (!xs.isEmpty)
  | .tup xs, P => P (!xs.isEmpty)
  | .dct kvs, P => P (!kvs.isEmpty)
  | _, _ => False
theorem emp_len {α β : Type} {xs : List α} {ys : List β} (h : xs.length = ys.length) : xs.isEmpty = ys.isEmpty := by
  cases xs <;> cases ys <;> simp_all
section
variable {X : Cx} {F : Fx} {W : WX} {e a b c : Expr} {rest : List Expr} {f g h : WE} {t u : WT} {pos : Pos}
theorem tru_of {K : PySem.W.Frag} {m : Md} {A : Addr → Prop} {H : Hp} {d : D} {v : V} {P : Bool → Prop} (hb : Bor K m A H d v) (p : truD d P) : ∃ k, TruV K v H k ∧ P k := by
  cases d with
  | non => cases bNon hb; exact ⟨false, rfl, p⟩
  | bl b => cases bBl hb; exact ⟨b, rfl, p⟩
  | int i => cases bInt hb; exact ⟨_, rfl, p⟩
  | str x => cases bStr hb; exact ⟨_, ⟨p.1, rfl⟩, p.2⟩
  | lst xs => obtain ⟨q, vs, rfl, na, e, hs⟩ := hb; exact ⟨_, .inl ⟨vs, .of e, rfl⟩, by rw [← emp_len hs.length]; exact p⟩
  | fro xs => obtain ⟨q, vs, rfl, e, hs⟩ := hb; exact ⟨_, .inl ⟨vs, e.sq, rfl⟩, by rw [← emp_len hs.length]; exact p⟩
  | tup xs => obtain ⟨q, vs, rfl, e, hs⟩ := hb; exact ⟨_, .inr (.inl ⟨vs, e.sq, rfl⟩), by rw [← emp_len hs.length]; exact p⟩
  | dct kvs =>
    obtain ⟨q, kws, rfl, na, e, hk, hs⟩ := hb
    have hl : kvs.length = kws.length := by simpa using (congrArg List.length hk).symm
    exact ⟨_, .inr (.inr ⟨kws, e, rfl⟩), by rw [← emp_len hl]; exact p⟩
  | ins _ _ => exact p.elim
  | exc _ _ => exact p.elim
  | ref _ => exact p.elim
  | ty _ => exact p.elim
/-- an expression as a test, by its truth -/
def wTru (f : WE) : WT := fun ε P Z => f ε (fun d => truD d P) Z
theorem tTru (p : PE X e (tB X.K F W f)) (he : ∀ whole, isTrue e X.env whole = (do let v ← whole; standAt e.pos; holding [v] (truthy v)) := by intro _; rfl) : PT X e (tT X.K F W (wTru f)) :=
  imT (pt_truth p he) fun σ H Q ⟨π, A, ε, P, Z, R, w, z, q⟩ => ⟨π, A, ε, _, Z, R, w, z, fun d v H1 p g j b => by
    obtain ⟨k, h1, h2⟩ := tru_of b p
    exact ⟨k, h1, q k H1 h2 g j⟩⟩
def wAnd (t u : WT) : WT := fun ε P Z => t ε (fun c => if c = true then u ε P Z else P false) Z
def wOr (t u : WT) : WT := fun ε P Z => t ε (fun c => if c = true then P true else u ε P Z) Z
def wNot (t : WT) : WT := fun ε P Z => t ε (fun c => P (!c)) Z
theorem imW {t t' : TT} (p : PW X e t) (q : ∀ σ H Q, t' σ H Q → t σ H Q) : PW X e t' := ⟨fun wh pins s σ H Q I z => p.run wh pins s σ H Q I (q σ H Q z)⟩
theorem wwAnd1 (ha : PT X a (tT X.K F W t)) : PW X (.BoolOp .And [a] pos) (tT X.K F W t) := pw_and1 ha
theorem wwOr1 (ha : PT X a (tT X.K F W t)) : PW X (.BoolOp .Or [a] pos) (tT X.K F W t) := pw_or1 ha
theorem wwAnd (ha : PT X a (tT X.K F W t)) (hb : PW X (.BoolOp .And (b :: rest) pos) (tT X.K F W u)) : PW X (.BoolOp .And (a :: b :: rest) pos) (tT X.K F W (wAnd t u)) :=
  imW (pw_and ha hb) fun σ H Q ⟨π, A, ε, P, Z, R, w, z, q⟩ => ⟨π, A, ε, _, Z, R, w, z, fun c H1 p g j => by
    cases c with
    | true => exact ⟨π, A, ε, P, Z, R.grow g j, w.grow g, p, fun b H' p' g' j' => q b H' p' (g.trans g') j'⟩
    | false => exact q false H1 p g j⟩
theorem wwOr (ha : PT X a (tT X.K F W t)) (hb : PW X (.BoolOp .Or (b :: rest) pos) (tT X.K F W u)) : PW X (.BoolOp .Or (a :: b :: rest) pos) (tT X.K F W (wOr t u)) :=
  imW (pw_or ha hb) fun σ H Q ⟨π, A, ε, P, Z, R, w, z, q⟩ => ⟨π, A, ε, _, Z, R, w, z, fun c H1 p g j => by
    cases c with
    | false => exact ⟨π, A, ε, P, Z, R.grow g j, w.grow g, p, fun b H' p' g' j' => q b H' p' (g.trans g') j'⟩
    | true => exact q true H1 p g j⟩
theorem tNotD (ha : PT X a (tT X.K F W t)) : PT X (.UnaryOp .Not a pos) (tT X.K F W (wNot t)) :=
  imT (pt_not ha) fun σ H Q ⟨π, A, ε, P, Z, R, w, z, q⟩ => ⟨π, A, ε, _, Z, R, w, z, fun c H1 p g j => q (!c) H1 p g j⟩
/-- not e as a value, e True or False -/
def wNotV (f : WE) : WE := fun ε P Z => f ε (fun d => ∃ c, d = .bl c ∧ P (.bl (!c))) Z
theorem dNot (ha : PE X a (tE X.K F W f)) : PE X (.UnaryOp .Not a pos) (tE X.K F W (wNotV f)) :=
  imE (pe_not ha) fun σ H Q ⟨π, A, ε, P, Z, R, w, z, q⟩ => ⟨π, A, ε, _, Z, R, w, z, fun d v H1 p g j b => by
    obtain ⟨c, rfl, p⟩ := p
    cases b
    exact ⟨c, rfl, q _ _ H1 p g j (.bl _)⟩⟩
/-- and, or of True and False as values -/
def wAndV (f g : WE) : WE := fun ε P Z => f ε (fun d => ∃ c, d = .bl c ∧ if c = true then g ε P Z else P (.bl false)) Z
def wOrV (f g : WE) : WE := fun ε P Z => f ε (fun d => ∃ c, d = .bl c ∧ if c = true then P (.bl true) else g ε P Z) Z
theorem dOne {op} (ha : PE X a (tE X.K F W f)) : PE X (.BoolOp op [a] pos) (tE X.K F W f) := pe_one ha
theorem dAnd (ha : PE X a (tE X.K F W f)) (hb : PE X (.BoolOp .And (b :: rest) pos) (tE X.K F W g)) : PE X (.BoolOp .And (a :: b :: rest) pos) (tE X.K F W (wAndV f g)) :=
  imE (pe_and ha hb) fun σ H Q ⟨π, A, ε, P, Z, R, w, z, q⟩ => ⟨π, A, ε, _, Z, R, w, z, fun d v H1 p g j b => by
    obtain ⟨c, rfl, p⟩ := p
    cases b
    refine ⟨c, rfl, ?_⟩
    cases c with
    | true => exact ⟨π, A, ε, P, Z, R.grow g j, w.grow g, p, fun d v H' p' g' j' b' => q d v H' p' (g.trans g') j' b'⟩
    | false => exact q _ _ H1 p g j (.bl _)⟩
theorem dOr (ha : PE X a (tE X.K F W f)) (hb : PE X (.BoolOp .Or (b :: rest) pos) (tE X.K F W g)) : PE X (.BoolOp .Or (a :: b :: rest) pos) (tE X.K F W (wOrV f g)) :=
  imE (pe_or ha hb) fun σ H Q ⟨π, A, ε, P, Z, R, w, z, q⟩ => ⟨π, A, ε, _, Z, R, w, z, fun d v H1 p g j b => by
    obtain ⟨c, rfl, p⟩ := p
    cases b
    refine ⟨c, rfl, ?_⟩
    cases c with
    | false => exact ⟨π, A, ε, P, Z, R.grow g j, w.grow g, p, fun d v H' p' g' j' b' => q d v H' p' (g.trans g') j' b'⟩
    | true => exact q _ _ H1 p g j (.bl _)⟩
def wIfE (t : WT) (f g : WE) : WE := fun ε P Z => t ε (fun c => if c = true then f ε P Z else g ε P Z) Z
theorem dIf (hc : PT X c (tT X.K F W t)) (ha : PE X a (tE X.K F W f)) (hb : PE X b (tE X.K F W g)) : PE X (.IfExp c a b pos) (tE X.K F W (wIfE t f g)) :=
  imE (pe_ifExp hc ha hb) fun σ H Q ⟨π, A, ε, P, Z, R, w, z, q⟩ => ⟨π, A, ε, _, Z, R, w, z, fun c H1 p g j => by
    cases c with
    | true => exact ⟨π, A, ε, P, Z, R.grow g j, w.grow g, p, fun d v H' p' g' j' b' => q d v H' p' (g.trans g') j' b'⟩
    | false => exact ⟨π, A, ε, P, Z, R.grow g j, w.grow g, p, fun d v H' p' g' j' b' => q d v H' p' (g.trans g') j' b'⟩⟩
/-- is None, is not None -/
def isNon : D → Bool
  | .non => true
  | _ => false
theorem isNon_of {K : PySem.W.Frag} {m : Md} {A : Addr → Prop} {H : Hp} {d : D} {v : V} (hb : Bor K m A H d v) : decide (v = .non) = isNon d := by
  cases d with
  | non => cases bNon hb; rfl
  | bl b => cases bBl hb; rfl
  | int i => cases bInt hb; rfl
  | str x => cases bStr hb; rfl
  | lst xs => obtain ⟨q, vs, rfl, _⟩ := hb; rfl
  | fro xs => obtain ⟨q, vs, rfl, _⟩ := hb; rfl
  | tup xs => obtain ⟨q, vs, rfl, _⟩ := hb; rfl
  | dct kvs => obtain ⟨q, kws, rfl, _⟩ := hb; rfl
  | ins _ _ => obtain ⟨q, dx, kws, rfl, _⟩ := hb; rfl
  | exc _ _ => cases hb <;> rfl
  | ref _ => cases hb; rfl
  | ty _ => cases hb; rfl
def wIsN (neg : Bool) (f : WE) : WE := fun ε P Z => f ε (fun d => P (.bl (if neg then !isNon d else isNon d))) Z
theorem dIsN {j p2} (ha : PE X a (tB X.K F W f)) : PE X (.Compare a [.Is] [.Constant .none j p2] pos) (tE X.K F W (wIsN false f)) :=
  imE (pe_cmp (pc_isN ha) rfl) fun σ H Q ⟨π, A, ε, P, Z, R, w, z, q⟩ => ⟨π, A, ε, _, Z, R, w, z, fun d v H1 p g j b => by
    show Q (V.bl (decide (v = V.non))) H1
    rw [isNon_of b]
    exact q _ _ H1 p g j (.bl _)⟩
theorem dNotN {j p2} (ha : PE X a (tB X.K F W f)) : PE X (.Compare a [.IsNot] [.Constant .none j p2] pos) (tE X.K F W (wIsN true f)) :=
  imE (pe_cmp (pc_notN ha) rfl) fun σ H Q ⟨π, A, ε, P, Z, R, w, z, q⟩ => ⟨π, A, ε, _, Z, R, w, z, fun d v H1 p g j b => by
    show Q (V.bl (!decide (v = V.non))) H1
    rw [isNon_of b]
    exact q _ _ H1 p g j (.bl _)⟩
/-- a value that is a truth value, as a test -/
theorem tVal (p : PE X e (tE X.K F W f)) (he : ∀ whole, isTrue e X.env whole = (do let v ← whole; standAt e.pos; holding [v] (truthy v)) := by intro _; rfl) : PT X e (tT X.K F W (wTst f)) :=
  imT (pt_val p he) fun σ H Q ⟨π, A, ε, P, Z, R, w, z, q⟩ => ⟨π, A, ε, _, Z, R, w, z, fun d v H1 p g j b => by
    obtain ⟨c, rfl, p⟩ := p
    cases b
    exact ⟨c, rfl, q c H1 p g j⟩⟩
theorem tCmpV {op : CmpOp} (p : PE X (.Compare a [op] [b] pos) (tE X.K F W f)) (q : PC X op a b (tE X.K F W f)) (h1 : behindInMarks op b = false := by rfl) : PT X (.Compare a [op] [b] pos) (tT X.K F W (wTst f)) :=
  imT (pt_cmp q h1) fun σ H Q ⟨π, A, ε, P, Z, R, w, z, q⟩ => ⟨π, A, ε, _, Z, R, w, z, fun d v H1 p g j b => by
    obtain ⟨c, rfl, p⟩ := p
    cases b
    exact ⟨c, rfl, q c H1 p g j⟩⟩
/-- a op b op' c -/
def w3 (f g h : WE) (k k' : D → D → (D → Prop) → Prop) : WE := fun ε P Z => f ε (fun x => g ε (fun y => k x y (fun d => ∃ c, d = .bl c ∧ if c = true then h ε (fun z => k' y z P) Z else P (.bl false))) Z) Z
theorem d3 {op op' : CmpOp} {r r' : R2} {k k' : D → D → (D → Prop) → Prop} (ho : OpR X (compareOp op) r) (ho' : OpR X (compareOp op') r') (hk : Op2 X.K r k) (hk' : Op2 X.K r' k') (ha : PE X a (tB X.K F W f)) (hb : PE X b (tB X.K F W g)) (hc : PE X c (tB X.K F W h))
    (hm : lastMarks [op, op'] [b, c] = false := by with_unfolding_all rfl) : PE X (.Compare a [op, op'] [b, c] pos) (tE X.K F W (w3 f g h k k')) :=
  imE (pe_chain ho ho' ha hb hc hm) fun σ H Q ⟨π, A, ε, P, Z, R, w, z, q⟩ => ⟨π, A, ε, _, Z, R, w, z, fun x u H1 z1 g1 j1 b1 => ⟨π, A, ε, _, Z, R.grow g1 j1, w.grow g1, z1, fun y v H2 z2 g2 j2 b2 =>
    hk F.m A H2 x y u v _ _ R.am ((R.grow g1 j1).grow g2 j2).th j2 (b1.grow g2 R.am) b2 z2 fun d w' H3 p g3 j3 h3 => by
      obtain ⟨c, rfl, p⟩ := p
      cases h3
      refine ⟨c, rfl, ?_⟩
      cases c with
      | false => exact q _ _ H3 p ((g1.trans g2).trans g3) j3 (.bl _)
      | true => exact ⟨π, A, ε, _, Z, ((R.grow g1 j1).grow g2 j2).grow g3 j3, w.grow ((g1.trans g2).trans g3), p, fun z' v' H4 z4 g4 j4 b4 =>
          hk' F.m A H4 y z' v v' P Q R.am ((((R.grow g1 j1).grow g2 j2).grow g3 j3).grow g4 j4).th j4 ((b2.grow g3 R.am).grow g4 R.am) b4 z4 fun d w' H5 p g5 j5 h5 => q d w' H5 p ((((g1.trans g2).trans g3).trans g4).trans g5) j5 h5⟩⟩⟩
theorem d3T {op op' : CmpOp} {r r' : R2} {k k' : D → D → (D → Prop) → Prop} (ho : OpR X (compareOp op) r) (ho' : OpR X (compareOp op') r') (hk : Op2 X.K r k) (hk' : Op2 X.K r' k') (ha : PE X a (tB X.K F W f)) (hb : PE X b (tB X.K F W g)) (hc : PE X c (tB X.K F W h))
    (hm : lastMarks [op, op'] [b, c] = false := by with_unfolding_all rfl) : PT X (.Compare a [op, op'] [b, c] pos) (tT X.K F W (wTst (w3 f g h k k'))) :=
  imT (pt_chain ho ho' ha hb hc hm) fun σ H Q ⟨π, A, ε, P, Z, R, w, z, q⟩ => ⟨π, A, ε, _, Z, R, w, z, fun x u H1 z1 g1 j1 b1 => ⟨π, A, ε, _, Z, R.grow g1 j1, w.grow g1, z1, fun y v H2 z2 g2 j2 b2 =>
    hk F.m A H2 x y u v _ _ R.am ((R.grow g1 j1).grow g2 j2).th j2 (b1.grow g2 R.am) b2 z2 fun d w' H3 p g3 j3 h3 => by
      obtain ⟨c, rfl, p⟩ := p
      cases h3
      refine ⟨c, rfl, ?_⟩
      cases c with
      | false =>
        obtain ⟨c', e, p⟩ := p
        cases e
        exact ⟨false, rfl, q _ H3 p ((g1.trans g2).trans g3) j3⟩
      | true => exact ⟨π, A, ε, _, Z, ((R.grow g1 j1).grow g2 j2).grow g3 j3, w.grow ((g1.trans g2).trans g3), p, fun z' v' H4 z4 g4 j4 b4 =>
          hk' F.m A H4 y z' v v' _ _ R.am ((((R.grow g1 j1).grow g2 j2).grow g3 j3).grow g4 j4).th j4 ((b2.grow g3 R.am).grow g4 R.am) b4 z4 fun d w' H5 p g5 j5 h5 => by
            obtain ⟨c', rfl, p⟩ := p
            cases h5
            exact ⟨c', rfl, q _ H5 p ((((g1.trans g2).trans g3).trans g4).trans g5) j5⟩⟩⟩⟩
/-- in, not in a list of data -/
def kIn (neg : Bool) : D → D → (D → Prop) → Prop := fun x y P => match y with
  | .lst ys => SeqAt.shaped x.pd = true ∧ SeqAt.shaped (PyData.list (pds ys)) = true ∧ P (.bl (if neg then !((pds ys).any fun z => PyData.eqv z x.pd) else (pds ys).any fun z => PyData.eqv z x.pd))
  | .fro ys => SeqAt.shaped x.pd = true ∧ SeqAt.shaped (PyData.list (pds ys)) = true ∧ P (.bl (if neg then !((pds ys).any fun z => PyData.eqv z x.pd) else (pds ys).any fun z => PyData.eqv z x.pd))
  | _ => False
theorem k2In {K : PySem.W.Frag} : Op2 K (rInD K) (kIn false) := fun m A H x y u v P Q am al j bx b2 k q => by
  cases y <;> try exact k.elim
  all_goals
    obtain ⟨k1, k2, k3⟩ := k
    exact ⟨_, _, bx.dp (SeqAt.canLay_of_shaped k1), b2.dp (SeqAt.canLay_of_shaped k2), k1, k2, q _ _ H k3 (.refl _ _) j (.bl _)⟩
theorem k2NotIn {K : PySem.W.Frag} : Op2 K (rNotInD K) (kIn true) := fun m A H x y u v P Q am al j bx b2 k q => by
  cases y <;> try exact k.elim
  all_goals
    obtain ⟨k1, k2, k3⟩ := k
    exact ⟨_, _, bx.dp (SeqAt.canLay_of_shaped k1), b2.dp (SeqAt.canLay_of_shaped k2), k1, k2, q _ _ H k3 (.refl _ _) j (.bl _)⟩
theorem dIn (hu : X.A.units + 65 < cLine) (ha : PE X a (tB X.K F W f)) (hb : PE X b (tB X.K F W g)) (hm : behindInMarks .In b = false := by rfl) : PE X (.Compare a [.In] [b] pos) (tE X.K F W (w2 f g (kIn false))) := d2 (fun p q => pe_cmpR (op_inD hu) p q hm) k2In ha hb
theorem dNotIn (hu : X.A.units + 65 < cLine) (ha : PE X a (tB X.K F W f)) (hb : PE X b (tB X.K F W g)) (hm : behindInMarks .NotIn b = false := by rfl) : PE X (.Compare a [.NotIn] [b] pos) (tE X.K F W (w2 f g (kIn true))) := d2 (fun p q => pe_cmpR (op_notInD hu) p q hm) k2NotIn ha hb
theorem tIn (hu : X.A.units + 65 < cLine) (ha : PE X a (tB X.K F W f)) (hb : PE X b (tB X.K F W g)) (hm : behindInMarks .In b = false := by rfl) : PT X (.Compare a [.In] [b] pos) (tT X.K F W (wTst (w2 f g (kIn false)))) := d2T (fun p q => pt_cmpR (op_inD hu) p q hm) k2In ha hb
theorem tNotIn (hu : X.A.units + 65 < cLine) (ha : PE X a (tB X.K F W f)) (hb : PE X b (tB X.K F W g)) (hm : behindInMarks .NotIn b = false := by rfl) : PT X (.Compare a [.NotIn] [b] pos) (tT X.K F W (wTst (w2 f g (kIn true)))) := d2T (fun p q => pt_cmpR (op_notInD hu) p q hm) k2NotIn ha hb
/-- one sign in a text -/
def kSign : D → D → (D → Prop) → Prop
  | .str x, .str y, P => ∃ c, x = ⟨#[c]⟩ ∧ P (.bl (decide (c ∈ y.cps.toList)))
  | _, _, _ => False
theorem k2Sign {K : PySem.W.Frag} : Op2 K (fun x y H Q => ∃ (c : Nat) (z : Str), x = .str ⟨#[c]⟩ ∧ y = .str z ∧ Q (.bl (decide (c ∈ z.cps.toList))) H) kSign := fun m A H x y u v P Q am al j bx b2 k q => by
  cases x <;> try exact k.elim
  cases y <;> try exact k.elim
  obtain ⟨c, rfl, k⟩ := k
  exact ⟨c, _, bStr bx, bStr b2, q _ _ H k (.refl _ _) j (.bl _)⟩
theorem dSign (ha : PE X a (tB X.K F W f)) (hb : PE X b (tB X.K F W g)) (hm : behindInMarks .In b = false := by rfl) : PE X (.Compare a [.In] [b] pos) (tE X.K F W (w2 f g kSign)) := d2 (fun p q => pe_cmpR op_in_sign p q hm) k2Sign ha hb
end
end DW
namespace DW
open PySem PySem.Spec
open PyProof.Rows L2
/-! ### statements -/
section
variable {X : Cx} {F : Fx} {W : WX} {e a b c : Expr} {st : Stmt} {sts els : List Stmt} {f g h : WE} {t u : WT} {G G' : WS} {pos : Pos}
theorem tS_intro {K : PySem.W.Frag} {π : List D × List V} {A : Addr → Prop} {ε : Ev} {σ : L2.St} {H : Hp} {D : Ends} {N : En} (R : Rel K F π A σ H ε) (z : G ε N)
    (h1 : ∀ A' ε' σ' H', N.nx ε' → Rel K F π A' σ' H' ε' → D.nx σ' H')
    (h2 : ∀ d v H', N.rt d → Grow F.m F.H0 H' → F.m.J H' → Dat K F.A0 H' d v → D.rt v H')
    (h3 : ∀ A' ε' σ' H', N.bk ε' → Rel K F π A' σ' H' ε' → D.bk σ' H')
    (h4 : ∀ A' ε' σ' H', N.ct ε' → Rel K F π A' σ' H' ε' → D.ct σ' H')
    (h5 : ∀ x A' ε' σ' H' cls dd, N.ex x ε' → Rel K F π A' σ' H' ε' → ExAt K A' H' x cls dd → W cls dd σ' H') : tS K F W G D σ H := ⟨π, A, ε, N, R, z, h1, h2, h3, h4, h5⟩
def sNil : WS := fun ε N => N.nx ε
def sSeq (G G' : WS) : WS := fun ε N => G ε { N with nx := fun ε' => G' ε' N }
theorem ssNil : PSs X [] (tS X.K F W sNil) := imSs pss_nil fun D σ H ⟨π, A, ε, N, R, z, h1, _⟩ => h1 A ε σ H z R
theorem ssCons (p : PS X st (tS X.K F W G)) (q : PSs X sts (tS X.K F W G')) : PSs X (st :: sts) (tS X.K F W (sSeq G G')) :=
  imSs (pss_cons p q) fun D σ H ⟨π, A, ε, N, R, z, h1, h2, h3, h4, h5⟩ =>
    ⟨π, A, ε, { N with nx := fun ε' => G' ε' N }, R, z, fun A' ε' σ' H' n r => ⟨π, A', ε', N, r, n, h1, h2, h3, h4, h5⟩, h2, h3, h4, h5⟩
theorem ssOne (p : PS X st (tS X.K F W G)) : PSs X [st] (tS X.K F W G) := pss_one p
/-- an own object of a slot is from here on a datum -/
def sFrz (i : Nat) (G : WS) : WS := fun ε N => ∃ o, ε[i]? = some (some (.own o)) ∧ G (ε.set i (some (.dat o.toD))) N
theorem psFrz (i : Nat) (p : PS X st (tS X.K F W G)) : PS X st (tS X.K F W (sFrz i G)) :=
  imS p fun D σ H ⟨π, A, ε, N, R, ⟨o, ho, z⟩, h1, h2, h3, h4, h5⟩ => by
    obtain ⟨A', R'⟩ := R.frz ho
    exact ⟨π, A', _, N, R', z, h1, h2, h3, h4, h5⟩
theorem ssFrz (i : Nat) (p : PSs X sts (tS X.K F W G)) : PSs X sts (tS X.K F W (sFrz i G)) :=
  imSs p fun D σ H ⟨π, A, ε, N, R, ⟨o, ho, z⟩, h1, h2, h3, h4, h5⟩ => by
    obtain ⟨A', R'⟩ := R.frz ho
    exact ⟨π, A', _, N, R', z, h1, h2, h3, h4, h5⟩
def sPass : WS := fun ε N => N.nx ε
def sBrk : WS := fun ε N => N.bk ε
def sCnt : WS := fun ε N => N.ct ε
theorem psPass : PS X (.Pass pos) (tS X.K F W sPass) := imS ps_pass fun D σ H ⟨π, A, ε, N, R, z, h1, _⟩ => h1 A ε σ H z R
theorem psBrk : PS X (.Break pos) (tS X.K F W sBrk) := imS ps_break fun D σ H ⟨π, A, ε, N, R, z, h1, h2, h3, _⟩ => h3 A ε σ H z R
theorem psCnt : PS X (.Continue pos) (tS X.K F W sCnt) := imS ps_continue fun D σ H ⟨π, A, ε, N, R, z, h1, h2, h3, h4, _⟩ => h4 A ε σ H z R
theorem psDoc {x : Str} {j p2} : PS X (.Expr (.Constant (.str x) j pos) p2) (tS X.K F W sPass) := imS ps_doc fun D σ H ⟨π, A, ε, N, R, z, h1, _⟩ => h1 A ε σ H z R
theorem xw_of {K : PySem.W.Frag} {π : List D × List V} {A : Addr → Prop} {σ : L2.St} {H : Hp} {ε : Ev} {N : En} (R : Rel K F π A σ H ε) (h5 : ∀ x A' ε' σ' H' cls dd, N.ex x ε' → Rel K F π A' σ' H' ε' → ExAt K A' H' x cls dd → W cls dd σ' H') :
    XW K F W A σ H (fun x => N.ex x ε) := fun x cls dd H' z g j e => h5 x A ε σ H' cls dd z (R.grow g j) e
def sExp (f : WE) : WS := fun ε N => f ε (fun _ => N.nx ε) (fun x => N.ex x ε)
theorem psExp (he : PE X e (tE X.K F W f)) (hs : swapsWith e none pos.line X.env = pure false := by rfl) : PS X (.Expr e pos) (tS X.K F W (sExp f)) :=
  imS (ps_expr he hs) fun D σ H ⟨π, A, ε, N, R, z, h1, h2, h3, h4, h5⟩ => ⟨π, A, ε, _, _, R, xw_of R h5, z, fun d v H' p g j b => h1 A ε σ H' p (R.grow g j)⟩
def sRet (f : WE) : WS := fun ε N => f ε N.rt (fun x => N.ex x ε)
theorem psRet (he : PE X e (tE X.K F W f)) : PS X (.Return (some e) pos) (tS X.K F W (sRet f)) :=
  imS (ps_ret he) fun D σ H ⟨π, A, ε, N, R, z, h1, h2, h3, h4, h5⟩ => ⟨π, A, ε, _, _, R, xw_of R h5, z, fun d v H' p g j b => h2 d v H' p (R.gr.trans g) j (b.keep (.sub R.aa))⟩
def sRetN : WS := fun ε N => N.rt .non
theorem psRetN : PS X (.Return none pos) (tS X.K F W sRetN) := imS ps_retN fun D σ H ⟨π, A, ε, N, R, z, h1, h2, _⟩ => h2 _ _ H z R.gr R.j .non
def sIf (t : WT) (G G' : WS) : WS := fun ε N => t ε (fun c => if c = true then G ε N else G' ε N) (fun x => N.ex x ε)
theorem psIf (hc : PT X c (tT X.K F W t)) (ha : PSs X sts (tS X.K F W G)) (hb : PSs X els (tS X.K F W G')) : PS X (.If c sts els pos) (tS X.K F W (sIf t G G')) :=
  imS (ps_if hc ha hb) fun D σ H ⟨π, A, ε, N, R, z, h1, h2, h3, h4, h5⟩ => ⟨π, A, ε, _, _, R, xw_of R h5, z, fun c H' p g j => by
    cases c with
    | true => exact ⟨π, A, ε, N, R.grow g j, p, h1, h2, h3, h4, h5⟩
    | false => exact ⟨π, A, ε, N, R.grow g j, p, h1, h2, h3, h4, h5⟩⟩
/-! ### targets -/
abbrev WG := D → Ev → (Ev → Prop) → Prop
def tG (K : PySem.W.Frag) (F : Fx) (vs : List Nat) (g : WG) : TG := fun v σ H Q => ∃ π A ε d P, Rel K F π A σ H ε ∧ Dat K A H d v ∧ g d ε P ∧
  ∀ ε' σ', P ε' → Rel K F π A σ' H ε' → σ'.length = σ.length → (∀ j, j ∉ vs → σ'[j]? = σ[j]?) → Q σ' H
theorem imG {tg : Expr} {q q' : TG} (p : PG X tg q) (h : ∀ v σ H Q, q' v σ H Q → q v σ H Q) : PG X tg q' := ⟨fun pins s σ H v u Q I r z => p.run pins s σ H v u Q I r (h v σ H Q z)⟩
def gNm (i : Nat) : WG := fun d ε P => P (ε.set i (some (.dat d)))
theorem tgName {i : Nat} {tg : Expr} (p : PG X tg (gName i)) : PG X tg (tG X.K F [i] (gNm i)) := imG p fun v σ H Q ⟨π, A, ε, d, P, R, b, z, q⟩ =>
  q _ _ z (R.set b) (by rw [List.length_set]) fun j hj => by rw [List.getElem?_set_ne (fun q => hj (by simp [q]))]
/-- several names -/
def hTs : List Nat → TGs
  | [] => gNil
  | i :: is => gCons (gName i) (hTs is)
def sets (ε : Ev) : List Nat → List D → Ev
  | i :: is, d :: ds => sets (ε.set i (some (.dat d))) is ds
  | _, _ => ε
theorem hTs_run {K : PySem.W.Frag} {π : List D × List V} {A : Addr → Prop} {H : Hp} {Q : L2.St → Hp → Prop} : ∀ {is : List Nat} {ds : List D} {vs : List V} {σ : L2.St} {ε : Ev}, Rel K F π A σ H ε → Dats K A H ds vs → is.length = ds.length →
    (∀ σ', Rel K F π A σ' H (sets ε is ds) → σ'.length = σ.length → (∀ j, j ∉ is → σ'[j]? = σ[j]?) → Q σ' H) → hTs is vs σ H Q
  | [], [], _, σ, ε, R, .nil, _, q => ⟨rfl, q σ R rfl fun _ _ => rfl⟩
  | i :: is, d :: ds, v :: vs, σ, ε, R, .cons h t, hl, q => by
    refine ⟨v, vs, rfl, hTs_run (R.set h) t (by simpa using hl) fun σ' R' l' n' => q σ' R' (by rw [l', List.length_set]) fun j hj => ?_⟩
    rw [List.mem_cons, not_or] at hj
    rw [n' j hj.2, List.getElem?_set_ne (fun q => hj.1 q.symm)]
  | [], _ :: _, _, _, _, _, _, hl, _ => by cases hl
  | _ :: _, [], _, _, _, _, _, hl, _ => by cases hl
def gTps (is : List Nat) : WG := fun d ε P => ∃ ds, d = .tup ds ∧ is.length = ds.length ∧ P (sets ε is ds)
theorem tgTup {tg : Expr} (is : List Nat) (p : PG X tg (gTup X.K is.length (hTs is))) : PG X tg (tG X.K F is (gTps is)) := imG p fun v σ H Q ⟨π, A, ε, d, P, R, b, ⟨ds, e, hl, z⟩, q⟩ => by
  subst e
  cases b with
  | tup h hs => exact ⟨_, _, rfl, h.sq, by rw [← hs.length]; exact hl.symm, hTs_run R hs hl fun σ' R' l' n' => q _ _ z R' l' n'⟩
/-- target = value -/
def sAsg (f : WE) (g : WG) : WS := fun ε N => f ε (fun d => g d ε N.nx) (fun x => N.ex x ε)
theorem psAsg {tg : Expr} {vs : List Nat} {gg : WG} (he : PE X e (tE X.K F W f)) (hg : PG X tg (tG X.K F vs gg)) (hs : swapsWithSole [tg] e pos.line X.env = pure false := by rfl) (hw : swappedStores [tg] e X.env = pure none := by rfl)
    (h1 : (assignEach [tg] X.env).map (·.2) = [assign tg X.env] := by rfl) : PS X (.Assign [tg] e pos) (tS X.K F W (sAsg f gg)) :=
  imS (ps_asg he hg hs hw h1) fun D σ H ⟨π, A, ε, N, R, z, h1, h2, h3, h4, h5⟩ => ⟨π, A, ε, _, _, R, xw_of R h5, z, fun d v H' p g j b =>
    ⟨π, A, ε, d, _, R.grow g j, b, p, fun ε' σ' n r _ _ => h1 A ε' σ' H' n r⟩⟩
/-- name = value -/
theorem psSet {i : Nat} {x : Str} {p2 : Pos} (hN : X.N.Nodup) (hi : X.N[i]? = some x) (hx : Loc X.env.scope x) (he : PE X e (tE X.K F W f)) (hs : swapsWith e (some (.Name x p2)) pos.line X.env = pure false := by rfl) (hf : X.fn x = true ∨ X.env.scope.names.lookup x = some .local := by first | exact .inl rfl | exact .inr rfl | assumption) :
    PS X (.Assign [.Name x p2] e pos) (tS X.K F W (sAsg f (gNm i))) :=
  imS (ps_set hN hi hx he hs hf) fun D σ H ⟨π, A, ε, N, R, z, h1, h2, h3, h4, h5⟩ => ⟨π, A, ε, _, _, R, xw_of R h5, z, fun d v H' p g j b => h1 A _ _ H' p ((R.grow g j).set b)⟩
/-! ### what is walked -/
def Wk (K : PySem.W.Frag) (J : It) (ds : List D) (vs : List V) (xs : List D) : Prop :=
  (∀ (A : Addr → Prop) (H : Hp) (i : Nat), (∀ b, A b → H b ≠ none) → Dats K A H ds vs → i < xs.length → J.go i H ∧ ∀ x H', J.yld i H x H' → (∀ b o, H b = some o → H' b = some o) ∧ ∀ d, xs[i]? = some d → Dat K A H' d x) ∧
  ∀ (A : Addr → Prop) (H : Hp), Dats K A H ds vs → J.stop xs.length H
abbrev WI := Ev → (List D → Prop) → (Ex → Prop) → Prop
def tI (K : PySem.W.Frag) (F : Fx) (W : WX) (f : WI) : TI := fun σ H R => ∃ π A ε P X, Rel K F π A σ H ε ∧ XW K F W A σ H X ∧ f ε P X ∧
  ∀ xs J H' ds vs, P xs → Grow F.m H H' → F.m.J H' → Dats K A H' ds vs → Wk K J ds vs xs → R J H'
theorem imI {tg it : Expr} {t t' : TI} (p : PI X tg it t) (h : ∀ σ H R, t' σ H R → t σ H R) : PI X tg it t' := ⟨fun pins s σ H R I z => p.run pins s σ H R I (h σ H R z)⟩
def iL (f : WE) : WI := fun ε P Z => f ε (fun d => ∃ xs, (d = .lst xs ∨ d = .fro xs) ∧ P xs) Z
theorem wk_list {K : PySem.W.Frag} {a : Addr} {d : D} {xs : List D} (hd : d = .lst xs ∨ d = .fro xs) : Wk K (Itl K a) [d] [.ref a] xs := by
  have key : ∀ (A : Addr → Prop) (H : Hp), Dats K A H [d] [.ref a] → ∃ vs, SqL K H a vs ∧ Dats K A H xs vs := fun A H h => by
    cases h with
    | cons h t =>
      rcases hd with rfl | rfl
      · cases h with
        | lst na e hs => exact ⟨_, .of e, hs⟩
      · cases h with
        | fro e hs => exact ⟨_, e.sq, hs⟩
  refine ⟨fun A H i al h hi => ?_, fun A H h => ?_⟩
  · obtain ⟨vs, hq, hs⟩ := key A H h
    have hl : i < vs.length := by rw [← hs.length]; exact hi
    refine ⟨⟨vs, vs[i], hq, by simp [hl]⟩, fun x H' y => ?_⟩
    obtain ⟨e, y⟩ := y
    subst e
    refine ⟨fun _ _ h => h, fun d e => ?_⟩
    obtain ⟨v, h1, h2⟩ := hs.at e
    have := y vs hq
    rw [h1] at this; cases this
    exact h2
  · obtain ⟨vs, hq, hs⟩ := key A H h
    exact ⟨vs, hq, by rw [hs.length]; exact Nat.le_refl _⟩
theorem dIterL {tg it : Expr} (p : PE X it (tE X.K F W f)) : PI X tg it (tI X.K F W (iL f)) := imI (pi_list p) fun σ H R ⟨π, A, ε, P, Z, rel, w, z, q⟩ => ⟨π, A, ε, _, Z, rel, w, z, fun d v H' p g j b => by
  obtain ⟨xs, hd, p⟩ := p
  rcases hd with rfl | rfl
  · cases b with
    | lst na e hs => exact ⟨_, rfl, ⟨_, .of e⟩, q xs _ H' _ _ p g j (.one (.lst na e hs)) (wk_list (.inl rfl))⟩
  · cases b with
    | fro e hs => exact ⟨_, rfl, ⟨_, e.sq⟩, q xs _ H' _ _ p g j (.one (.fro e hs)) (wk_list (.inr rfl))⟩⟩
def iT (f : WE) : WI := fun ε P Z => f ε (fun d => ∃ xs, d = .tup xs ∧ P xs) Z
theorem wk_tup {K : PySem.W.Frag} {a : Addr} {xs : List D} : Wk K (Itt K a) [.tup xs] [.ref a] xs := by
  have key : ∀ (A : Addr → Prop) (H : Hp), Dats K A H [.tup xs] [.ref a] → ∃ vs, SqT K H a vs ∧ Dats K A H xs vs := fun A H h => by
    cases h with
    | cons h t =>
      cases h with
      | tup e hs => exact ⟨_, e.sq, hs⟩
  refine ⟨fun A H i al h hi => ?_, fun A H h => ?_⟩
  · obtain ⟨vs, hq, hs⟩ := key A H h
    have hl : i < vs.length := by rw [← hs.length]; exact hi
    refine ⟨⟨vs, vs[i], hq, by simp [hl]⟩, fun x H' y => ?_⟩
    obtain ⟨e, y⟩ := y
    subst e
    refine ⟨fun _ _ h => h, fun d e => ?_⟩
    obtain ⟨v, h1, h2⟩ := hs.at e
    have := y vs hq
    rw [h1] at this; cases this
    exact h2
  · obtain ⟨vs, hq, hs⟩ := key A H h
    exact ⟨vs, hq, by rw [hs.length]; exact Nat.le_refl _⟩
theorem dIterT {tg it : Expr} (p : PE X it (tE X.K F W f)) : PI X tg it (tI X.K F W (iT f)) := imI (pi_tup p) fun σ H R ⟨π, A, ε, P, Z, rel, w, z, q⟩ => ⟨π, A, ε, _, Z, rel, w, z, fun d v H' p g j b => by
  obtain ⟨xs, rfl, p⟩ := p
  cases b with
  | tup e hs => exact ⟨_, rfl, ⟨_, e.sq⟩, q xs _ H' _ _ p g j (.one (.tup e hs)) wk_tup⟩⟩
/-- a text, sign by sign -/
def signs (x : Str) : List D := x.cps.toList.map fun c => .str ⟨#[c]⟩
def iS (f : WE) : WI := fun ε P Z => f ε (fun d => ∃ x, d = .str x ∧ P (signs x)) Z
theorem dIterS {tg it : Expr} (p : PE X it (tE X.K F W f)) : PI X tg it (tI X.K F W (iS f)) := imI (pi_str p) fun σ H R ⟨π, A, ε, P, Z, rel, w, z, q⟩ => ⟨π, A, ε, _, Z, rel, w, z, fun d v H' p g j b => by
  obtain ⟨x, rfl, p⟩ := p
  cases b
  refine ⟨x, rfl, q _ _ H' [] [] p g j .nil ⟨fun A H i al h hi => ?_, fun A H h => ?_⟩⟩
  · have hi' : i < x.cps.size := by simpa [signs] using hi
    refine ⟨hi', fun v H2 y => ?_⟩
    obtain ⟨e, c, hc, hv⟩ := y
    subst e
    refine ⟨fun _ _ h => h, fun d e => ?_⟩
    have : d = .str ⟨#[c]⟩ := by
      rw [signs, List.getElem?_map, Array.getElem?_toList, hc] at e
      exact (Option.some.inj e).symm
    subst this
    rw [hv]
    exact .str _
  · show x.cps.size ≤ (signs x).length
    simp [signs]⟩
/-- range(n), range(a, b) -/
def rngD (lo : Int) (n : Nat) : List D := (List.range n).map fun (i : Nat) => D.int (lo + (i : Int))
theorem wk_range {K : PySem.W.Frag} {lo : Int} {n : Nat} : Wk K (Itr lo n) [] [] (rngD lo n) := by
  refine ⟨fun A H i al h hi => ?_, fun A H h => ?_⟩
  · have hi' : i < n := by simpa [rngD] using hi
    refine ⟨hi', fun x H' y => ?_⟩
    obtain ⟨e, hv⟩ := y
    subst e
    refine ⟨fun _ _ h => h, fun d e => ?_⟩
    have : d = .int (lo + i) := by
      rw [rngD, List.getElem?_map, List.getElem?_range hi'] at e
      exact (Option.some.inj e).symm
    subst this
    rw [hv]
    exact .int _
  · show n ≤ (rngD lo n).length
    simp [rngD]
/-- arguments -/
def aNil : WA := fun _ P _ => P []
def aCons (f : WE) (r : WA) : WA := fun ε P Z => f ε (fun d => r ε (fun ds => P (d :: ds)) Z) Z
theorem daNil : PA X [] (tA X.K F W aNil) := imA pa_nil fun σ H Q ⟨π, A, ε, P, Z, rel, w, z, q⟩ => q [] [] H z (.refl _ _) rel.j .nil
theorem daCons {es : List Expr} {r : WA} (ha : PE X e (tE X.K F W f)) (hr : PA X es (tA X.K F W r)) (hs : starEach (e :: es) X.env = (false, eval e X.env) :: starEach es X.env := by rfl) : PA X (e :: es) (tA X.K F W (aCons f r)) :=
  imA (pa_cons ha hr hs) fun σ H Q ⟨π, A, ε, P, Z, rel, w, z, q⟩ => ⟨π, A, ε, _, Z, rel, w, z, fun d v H1 p g j b =>
    ⟨π, A, ε, _, Z, rel.grow g j, w.grow g, p, fun ds vs H2 p' g' j' b' => q _ _ H2 p' (g.trans g') j' (.cons (b.mono g' rel.am fun _ z => z) b')⟩⟩
def iR1 (r : WA) : WI := fun ε P Z => r ε (fun ds => ∃ n, ds = [.int n] ∧ -(2 ^ 62) ≤ n ∧ n < 2 ^ 62 ∧ P (rngD 0 n.toNat)) Z
theorem dIterR1 {tg a : Expr} {r : WA} {p pos : Pos} (hg : Gl X "range") (hm : X.mg "range" = none) (ha : PA X [a] (tA X.K F W r)) (hs : starEach [a] X.env = [(false, eval a X.env)] := by rfl) : PI X tg (.Call (.Name "range" p) [a] [] pos) (tI X.K F W (iR1 r)) :=
  imI (pi_range1 hg hm ha hs) fun σ H R ⟨π, A, ε, P, Z, rel, w, z, q⟩ => ⟨π, A, ε, _, Z, rel, w, z, fun ds vs H' p g j b => by
    obtain ⟨n, rfl, h1, h2, p⟩ := p
    cases b with
    | cons b t =>
      cases b; cases t
      exact ⟨n, rfl, h1, h2, q _ _ H' [] [] p g j .nil wk_range⟩⟩
def iR2 (r : WA) : WI := fun ε P Z => r ε (fun ds => ∃ i n, ds = [.int i, .int n] ∧ (-(2 ^ 62) ≤ i ∧ i < 2 ^ 62 ∧ -(2 ^ 62) ≤ n ∧ n < 2 ^ 62) ∧ P (rngD i (n - i).toNat)) Z
theorem dIterR2 {tg a b : Expr} {r : WA} {p pos : Pos} (hg : Gl X "range") (hm : X.mg "range" = none) (ha : PA X [a, b] (tA X.K F W r)) (hs : starEach [a, b] X.env = [(false, eval a X.env), (false, eval b X.env)] := by rfl) (hs2 : starEach [b] X.env = [(false, eval b X.env)] := by rfl) :
    PI X tg (.Call (.Name "range" p) [a, b] [] pos) (tI X.K F W (iR2 r)) :=
  imI (pi_range2 hg hm ha hs hs2) fun σ H R ⟨π, A, ε, P, Z, rel, w, z, q⟩ => ⟨π, A, ε, _, Z, rel, w, z, fun ds vs H' p g j b => by
    obtain ⟨i, n, rfl, h1, p⟩ := p
    cases b with
    | cons b t =>
      cases b
      cases t with
      | cons b t =>
        cases b; cases t
        exact ⟨i, n, rfl, h1, q _ _ H' [] [] p g j .nil wk_range⟩⟩
/-! ### for -/
def forW (g : WG) (B : WS) : List D → Ev → En → Prop
  | [], ε, N => N.nx ε
  | x :: xs, ε, N => g x ε (fun ε' => B ε' { N with nx := fun ε2 => forW g B xs ε2 N, ct := fun ε2 => forW g B xs ε2 N, bk := N.nx })
def sFor (it : WI) (g : WG) (B : WS) : WS := fun ε N => it ε (fun xs => forW g B xs ε N) (fun x => N.ex x ε)
theorem psFor {tg it : Expr} {body : List Stmt} {wi : WI} {vs : List Nat} {gg : WG} {B : WS} (hp : PassesOwn (model X.prog X.w) X.A X.env X.xe) (hc : X.calm = true) (hi : PI X tg it (tI X.K F W wi)) (hg : PG X tg (tG X.K F vs gg)) (hb : PSs X body (tS X.K F W B))
    (hs : ∀ x, foldedSetIterable it X.env x = pure x := by intro _; rfl) : PS X (.For tg it body [] pos) (tS X.K F W (sFor wi gg B)) :=
  imS (ps_for hp hc hi hg hb hs) fun D σ H ⟨π, A, ε, N, R, z, h1, h2, h3, h4, h5⟩ => ⟨π, A, ε, _, _, R, xw_of R h5, z, fun xs J H1 ds ws p g j b wk => by
    have hl := b.length
    refine ⟨fun i m σ H => m = xs.length - i ∧ i ≤ xs.length ∧ ∃ A ε, Rel X.K F (ds ++ π.1, ws ++ π.2) A σ H ε ∧ forW gg B (xs.drop i) ε N, ⟨_, rfl, Nat.zero_le _, A, ε, (R.grow g j).pinned b, p⟩, ?_⟩
    rintro i m σ2 H2 ⟨rfl, hi, A2, ε2, R2, z2⟩
    by_cases hlt : i < xs.length
    · obtain ⟨go, yl⟩ := wk.1 A2 H2 i R2.th (R2.unpin hl).2 hlt
      refine .inr ⟨go, fun σ' H' => ∃ A ε, Rel X.K F (ds ++ π.1, ws ++ π.2) A σ' H' ε ∧ forW gg B (xs.drop (i + 1)) ε N, fun σ' H' q => ⟨xs.length - (i + 1), by omega, rfl, hlt, q⟩, fun x H' y => ?_⟩
      obtain ⟨k1, k2⟩ := yl x H' y
      have gr : Grow F.m H2 H' := fun b o h _ => k1 b o h
      have jj : F.m.J H' := F.m.st H2 H' (fun b z => by
        cases e : H2 b with
        | none => exact absurd e (F.m.al H2 b R2.j z)
        | some o => rw [k1 b o e]) R2.j
      have R3 := R2.grow gr jj
      have hx : xs[i]? = some xs[i] := by simp [hlt]
      have dx := k2 _ hx
      rw [List.drop_eq_getElem_cons hlt] at z2
      refine ⟨_, A2, ε2, xs[i], _, R3, dx, z2, fun ε' σ' q r _ _ => ?_⟩
      exact ⟨_, A2, ε', _, r, q, fun A' ε' σ' H' n r => ⟨A', ε', r, n⟩, h2, fun A' ε' σ' H' n r => h1 A' ε' σ' H' n (r.unpin hl).1, fun A' ε' σ' H' n r => ⟨A', ε', r, n⟩, fun x A' ε' σ' H' cls dd n r e => h5 x A' ε' σ' H' cls dd n (r.unpin hl).1 e⟩
    · have e : i = xs.length := Nat.le_antisymm hi (Nat.le_of_not_lt hlt)
      subst e
      rw [List.drop_of_length_le (Nat.le_refl _)] at z2
      exact .inl ⟨wk.2 A2 H2 (R2.unpin hl).2, h1 A2 ε2 σ2 H2 z2 (R2.unpin hl).1⟩⟩
/-! ### while, by what holds of it and a measure -/
def sWhl (t : WT) (B : WS) : WS := fun ε N => ∃ I : Nat → Ev → Prop, (∃ m, I m ε) ∧ ∀ m ε, I m ε → t ε (fun c => if c = true then B ε { N with nx := fun ε' => ∃ m', m' < m ∧ I m' ε', ct := fun ε' => ∃ m', m' < m ∧ I m' ε', bk := N.nx } else N.nx ε) (fun x => N.ex x ε)
theorem psWhl {body : List Stmt} {B : WS} (hp : PassesOwn (model X.prog X.w) X.A X.env X.xe) (hc : PT X c (tT X.K F W t)) (hb : PSs X body (tS X.K F W B)) : PS X (.While c body [] pos) (tS X.K F W (sWhl t B)) :=
  imS (ps_while hp hc hb) fun D σ H ⟨π, A, ε, N, R, ⟨I, ⟨m0, i0⟩, turn⟩, h1, h2, h3, h4, h5⟩ => by
    refine ⟨fun m σ H => ∃ A ε, Rel X.K F π A σ H ε ∧ I m ε, ⟨m0, A, ε, R, i0⟩, ?_⟩
    rintro m σ2 H2 ⟨A2, ε2, R2, i2⟩
    refine ⟨π, A2, ε2, _, _, R2, xw_of R2 h5, turn m ε2 i2, fun c H' p g j => ?_⟩
    cases c with
    | true =>
      refine ⟨fun σ' H' => ∃ m', m' < m ∧ ∃ A ε, Rel X.K F π A σ' H' ε ∧ I m' ε, fun σ' H' q => q, ?_⟩
      exact ⟨π, A2, ε2, _, R2.grow g j, p, fun A' ε' σ' H' ⟨m', hm, n⟩ r => ⟨m', hm, A', ε', r, n⟩, h2, h1, fun A' ε' σ' H' ⟨m', hm, n⟩ r => ⟨m', hm, A', ε', r, n⟩, h5⟩
    | false => exact h1 A2 ε2 σ2 H' p (R2.grow g j)
end
end DW
namespace DW
open PySem PySem.Spec
open PyProof.Rows L2
/-! ### objects of one's own -/
section
variable {K : PySem.W.Frag} {F : Fx} {π : List D × List V} {A A' : Addr → Prop} {σ : L2.St} {H H' : Hp} {ε : Ev}
theorem fresh_back {m : Md} {p : Addr} (g : Grow m H H') (j : m.J H') (h : H' p = none) : H p = none := by
  cases e : H p with
  | none => rfl
  | some o =>
    by_cases q : m.M p
    · exact absurd h (m.al H' p j q)
    · rw [g p o e q] at h; cases h
theorem Keeps.newG {m : Md} {p : Addr} (g : Grow m H H') (am : ∀ b, m.M b → A b) (hp : H p = none) : Keeps A H H' (fun b => A b ∨ b = p) := fun b u h n =>
  ⟨g b u h fun z => n (am b z), fun z => z.elim n (ne_of_none h hp)⟩
/-- a new own object at a slot, from an earlier heap -/
theorem Rel.newG (R : Rel K F π A σ H ε) {i : Nat} {p : Addr} {o : Ow} (g : Grow F.m H H') (j : F.m.J H') (hp : H p = none) (h' : OwnAt K (fun b => A b ∨ b = p) H' p o) :
    Rel K F π (fun b => A b ∨ b = p) (σ.set i (some (.ref p))) H' (ε.set i (some (.own o))) where
  pin := R.pin.keep (.newG g R.am hp)
  gr := R.gr.trans g
  j := j
  aa := fun b z => .inl (R.aa b z)
  th := fun b z => by
    rcases z with z | z
    · exact (R.grow g j).th b z
    · rw [z]; exact h'.there
  len := by rw [List.length_set, List.length_set]; exact R.len
  dat := fun k e h1 => by
    by_cases q : i = k
    · subst q
      by_cases z : i < ε.length
      · rw [List.getElem?_set_self z] at h1; cases h1
      · rw [List.getElem?_eq_none (by rw [List.length_set]; omega)] at h1; cases h1
    · rw [List.getElem?_set_ne q] at h1
      obtain ⟨w, e1, e2⟩ := R.dat k e h1
      exact ⟨w, by rw [List.getElem?_set_ne q]; exact e1, e2.keep (.newG g R.am hp)⟩
  own := fun k o' h1 => by
    by_cases q : i = k
    · subst q
      by_cases z : i < ε.length
      · rw [List.getElem?_set_self z] at h1; cases h1
        exact ⟨p, List.getElem?_set_self (by rw [← R.len]; exact z), .inr rfl, (R.fresh hp).1, h'⟩
      · rw [List.getElem?_eq_none (by rw [List.length_set]; omega)] at h1; cases h1
    · rw [List.getElem?_set_ne q] at h1
      obtain ⟨r, e1, e2, e3, e4⟩ := R.own k o' h1
      refine ⟨r, by rw [List.getElem?_set_ne q]; exact e1, .inl e2, e3, e4.keep (.newG g R.am hp) ?_⟩
      cases e : H r with
      | none => exact absurd e (R.th r e2)
      | some u => exact g r u e (F.nm e3)
  inj := fun k l o1 o2 w h1 h2 h3 h4 => by
    have np := (R.fresh hp).2
    by_cases q : i = k
    · subst q
      by_cases q' : i = l
      · exact q'
      · by_cases z : i < ε.length
        · rw [List.getElem?_set_self (by rw [← R.len]; exact z)] at h3
          rw [List.getElem?_set_ne q'] at h2 h4
          obtain ⟨r, e1, e2, _⟩ := R.own l o2 h2
          rw [e1] at h4; cases h4; cases h3
          exact absurd e2 np
        · rw [List.getElem?_eq_none (by rw [List.length_set]; omega)] at h1; cases h1
    · by_cases q' : i = l
      · subst q'
        by_cases z : i < ε.length
        · rw [List.getElem?_set_self (by rw [← R.len]; exact z)] at h4
          rw [List.getElem?_set_ne q] at h1 h3
          obtain ⟨r, e1, e2, _⟩ := R.own k o1 h1
          rw [e1] at h3; cases h3; cases h4
          exact absurd e2 np
        · rw [List.getElem?_eq_none (by rw [List.length_set]; omega)] at h2; cases h2
      · rw [List.getElem?_set_ne q] at h1 h3
        rw [List.getElem?_set_ne q'] at h2 h4
        exact R.inj k l o1 o2 w h1 h2 h3 h4
/-- outside of the slots something new stands at p, and what stands there may be written -/
theorem Rel.wide (R : Rel K F π A σ H ε) {p : Addr} {u : HO} (hp : H p = none) : Rel K F π (fun b => A b ∨ b = p) σ (upd H p u) ε where
  pin := R.pin.keep (.new hp)
  gr := fun b o e n => by rw [upd_ne (ne_of_none (R.gr b o e n) hp)]; exact R.gr b o e n
  j := R.fresh_j hp
  aa := fun b z => .inl (R.aa b z)
  th := fun b z => by
    by_cases q : b = p
    · rw [q, upd_same]; intro z; cases z
    · rw [upd_ne q]; exact R.th b (z.resolve_right q)
  len := R.len
  dat := fun k e h1 => let ⟨w, e1, e2⟩ := R.dat k e h1; ⟨w, e1, e2.keep (.new hp)⟩
  own := fun k o h1 => by
    obtain ⟨r, e1, e2, e3, e4⟩ := R.own k o h1
    exact ⟨r, e1, .inl e2, e3, e4.keep (.new hp) (upd_ne fun z => (R.fresh hp).2 (z ▸ e2))⟩
  inj := R.inj
theorem Rel.touch (R : Rel K F π A σ H ε) {p : Addr} {u : HO} (hp : A p) (h0 : F.H0 p = none) (hn : ∀ (i : Nat) (o : Ow), ε[i]? = some (some (.own o)) → σ[i]? ≠ some (some (.ref p))) : Rel K F π A σ (upd H p u) ε where
  pin := R.pin.keep (.put hp)
  gr := fun b o e n => by rw [upd_ne (ne_of_none e h0)]; exact R.gr b o e n
  j := F.m.st H _ (fun b z => upd_ne fun q => F.nm h0 (q ▸ z)) R.j
  aa := R.aa
  th := fun b z => by
    by_cases q : b = p
    · rw [q, upd_same]; intro z; cases z
    · rw [upd_ne q]; exact R.th b z
  len := R.len
  dat := fun k e h1 => let ⟨w, e1, e2⟩ := R.dat k e h1; ⟨w, e1, e2.keep (.put hp)⟩
  own := fun k o h1 => by
    obtain ⟨r, e1, e2, e3, e4⟩ := R.own k o h1
    exact ⟨r, e1, e2, e3, e4.keep (.put hp) (upd_ne fun z => hn k o h1 (by rw [e1, z]))⟩
  inj := R.inj
abbrev WO := Ev → (Ow → Prop) → (Ex → Prop) → Prop
/-- a value that is a new object, known to no one else -/
def tO (K : PySem.W.Frag) (F : Fx) (W : WX) (f : WO) : TE := fun σ H Q => ∃ π A ε P X, Rel K F π A σ H ε ∧ XW K F W A σ H X ∧ f ε P X ∧ ∀ o p H', P o → Grow F.m H H' → F.m.J H' → H p = none → OwnAt K (fun b => A b ∨ b = p) H' p o → Q (.ref p) H'
theorem OwnAt.dat {p : Addr} {o : Ow} (np : ¬ A p) (h : OwnAt K (fun b => A b ∨ b = p) H p o) : Dat K A H o.toD (.ref p) := by
  have ks : Keeps (fun b => A b ∨ b = p) H H A := .sub fun b z => .inl z
  cases o with
  | lst xs => obtain ⟨vs, h, hs⟩ := h; exact .lst np h (hs.keep ks)
  | dct kvs => obtain ⟨kws, h, hk, hs⟩ := h; exact .dct np h hk (hs.keep ks)
  | ins C fs => obtain ⟨dx, gs, h, hk, hs⟩ := h; exact .ins np h hk (hs.keep ks)
end
section
variable {X : Cx} {F : Fx} {W : WX} {e a b c : Expr} {es : List Expr} {f g h : WE} {t : WT} {o : WO} {r : WA} {pos : Pos}
/-- .. as a datum -/
def wFr (o : WO) : WE := fun ε P Z => o ε (fun x => P x.toD) Z
theorem frE (p : PE X e (tO X.K F W o)) : PE X e (tE X.K F W (wFr o)) := imE p fun σ H Q ⟨π, A, ε, P, Z, R, w, z, q⟩ => ⟨π, A, ε, _, Z, R, w, z, fun x p H' h g j np ow => q _ _ H' h g j (ow.dat (R.fresh np).2)⟩
/-- name = a new object, the name's own -/
def sOwn (i : Nat) (o : WO) : WS := fun ε N => o ε (fun x => N.nx (ε.set i (some (.own x)))) (fun x => N.ex x ε)
theorem psOwn {i : Nat} {x : Str} {p2 : Pos} (hN : X.N.Nodup) (hi : X.N[i]? = some x) (hx : Loc X.env.scope x) (he : PE X e (tO X.K F W o)) (hs : swapsWith e (some (.Name x p2)) pos.line X.env = pure false := by rfl) (hf : X.fn x = true ∨ X.env.scope.names.lookup x = some .local := by first | exact .inl rfl | exact .inr rfl | assumption) :
    PS X (.Assign [.Name x p2] e pos) (tS X.K F W (sOwn i o)) :=
  imS (ps_set hN hi hx he hs hf) fun D σ H ⟨π, A, ε, N, R, z, h1, h2, h3, h4, h5⟩ => ⟨π, A, ε, _, _, R, xw_of R h5, z, fun x p H' q g j np ow => h1 _ _ _ H' q (R.newG g j np ow)⟩
/-! ### displays -/
def oLst (r : WA) : WO := fun ε P Z => r ε (fun ds => ds.length ≤ sizeLine ∧ P (.lst ds)) Z
theorem doLst (ha : PA X es (tA X.K F W r)) : PE X (.List es pos) (tO X.K F W (oLst r)) := imE (pe_lst ha) fun σ H Q ⟨π, A, ε, P, Z, R, w, z, q⟩ => ⟨π, A, ε, _, Z, R, w, z, fun ds vs H1 p g j b =>
  ⟨by rw [← b.length]; exact p.1, fun a ha => q _ a _ p.2 (g.trans (grow_new ha)) (j_new ha j) (fresh_back g j ha) ⟨vs, upd_same, b.keep (.new ha)⟩⟩⟩
def wTup (r : WA) : WE := fun ε P Z => r ε (fun ds => ds.length ≤ sizeLine ∧ P (.tup ds)) Z
theorem dTup (ha : PA X es (tA X.K F W r)) {k : Nat} : PE X (.Tuple es k pos) (tE X.K F W (wTup r)) := imE (pe_tup ha) fun σ H Q ⟨π, A, ε, P, Z, R, w, z, q⟩ => ⟨π, A, ε, _, Z, R, w, z, fun ds vs H1 p g j b =>
  ⟨by rw [← b.length]; exact p.1, fun a ha => q _ _ _ p.2 (g.trans (grow_new ha)) (j_new ha j) (.tup (.inl ⟨fun z => (R.grow g j).th a z ha, .inl upd_same⟩) (b.keep (.new' ha)))⟩⟩
/-! ### list comprehensions, one clause -/
def wipeE (ε : Ev) (vs : List Nat) : Ev := vs.foldr (fun i e => e.set i none) ε
theorem wipeE_len (ε : Ev) : ∀ vs : List Nat, (wipeE ε vs).length = ε.length
  | [] => rfl
  | v :: vs => by
    show ((wipeE ε vs).set v none).length = _
    rw [List.length_set, wipeE_len ε vs]
theorem wipeE_get {ε : Ev} {i : Nat} {s : Sl} : ∀ {vs : List Nat}, (wipeE ε vs)[i]? = some (some s) → ε[i]? = some (some s) ∧ i ∉ vs
  | [], h => ⟨h, by simp⟩
  | v :: vs, h => by
    have h : ((wipeE ε vs).set v none)[i]? = some (some s) := h
    by_cases q : v = i
    · subst q
      by_cases z : v < (wipeE ε vs).length
      · rw [List.getElem?_set_self z] at h; cases h
      · rw [List.getElem?_eq_none (by rw [List.length_set]; omega)] at h; cases h
    · rw [List.getElem?_set_ne q] at h
      obtain ⟨h1, h2⟩ := wipeE_get h
      exact ⟨h1, by simp only [List.mem_cons, not_or]; exact ⟨fun e => q e.symm, h2⟩⟩
theorem wipe_ne {σ : L2.St} {i : Nat} : ∀ {vs : List Nat}, i ∉ vs → (wipe σ vs)[i]? = σ[i]?
  | [], _ => rfl
  | v :: vs, h => by
    rw [List.mem_cons] at h
    rw [not_or] at h
    show ((wipe σ vs).set v none)[i]? = _
    rw [List.getElem?_set_ne (fun e => h.1 e.symm), wipe_ne h.2]
theorem wipe_in {σ : L2.St} {i : Nat} : ∀ {vs : List Nat}, i ∈ vs → i < σ.length → (wipe σ vs)[i]? = some none
  | v :: vs, h, hl => by
    show ((wipe σ vs).set v none)[i]? = _
    by_cases q : v = i
    · subst q
      rw [List.getElem?_set_self (by rw [wipe_length]; exact hl)]
    · rw [List.getElem?_set_ne q]
      exact wipe_in ((List.mem_cons.mp h).resolve_left fun e => q e.symm) hl
theorem wipe_eq {σ τ : L2.St} {vs : List Nat} (hl : τ.length = (wipe σ vs).length) (h : ∀ j, j ∉ vs → τ[j]? = (wipe σ vs)[j]?) : wipe τ vs = wipe σ vs := by
  apply List.ext_getElem?
  intro i
  by_cases q : i ∈ vs
  · rw [wipe_length] at hl
    by_cases z : i < σ.length
    · rw [wipe_in q z, wipe_in q (by rw [hl]; exact z)]
    · rw [List.getElem?_eq_none (by rw [wipe_length]; omega), List.getElem?_eq_none (by rw [wipe_length]; omega)]
  · rw [wipe_ne q]
    exact h i q
theorem Rel.wiped {K : PySem.W.Frag} {π : List D × List V} {A : Addr → Prop} {σ : L2.St} {H : Hp} {ε : Ev} (R : Rel K F π A σ H ε) (vs : List Nat) : Rel K F π A (wipe σ vs) H (wipeE ε vs) :=
  R.weak (by rw [wipeE_len, wipe_length]; exact R.len) fun i s e => let ⟨a, b⟩ := wipeE_get e; ⟨a, wipe_ne b⟩
abbrev W0 : WX := fun _ _ _ _ => False
abbrev Z0 : Ex → Prop := fun _ => False
def lcW (g : WG) (tt : WT) (te : WE) (vs : List Nat) : List D → List D → Ev → (List D → Prop) → Prop
  | [], acc, ε, P => P acc
  | x :: xs, acc, ε, P => g x (wipeE ε vs) fun ε' => tt ε' (fun b => if b = true then te ε' (fun d => acc.length < sizeLine ∧ lcW g tt te vs xs (acc ++ [d]) ε P) Z0 else lcW g tt te vs xs acc ε P) Z0
def oLc (it : WI) (g : WG) (tt : WT) (te : WE) (vs : List Nat) : WO := fun ε P Z => it ε (fun xs => lcW g tt te vs xs [] ε (fun acc => P (.lst acc))) Z
def wYes : WT := fun _ P _ => P true
theorem imTs {ifs : List Expr} {t t' : TT} (p : PTs X ifs t) (q : ∀ σ H Q, t' σ H Q → t σ H Q) : PTs X ifs t' := ⟨fun pins s σ H Q I z => p.run pins s σ H Q I (q σ H Q z)⟩
theorem tsNil : PTs X [] (tT X.K F W wYes) := imTs pts_nil fun σ H Q ⟨π, A, ε, P, Z, R, w, z, q⟩ => q true H z (.refl _ _) R.j
theorem tsOne (p : PT X c (tT X.K F W t)) : PTs X [c] (tT X.K F W t) := pts_one p
theorem lc_sound {K : PySem.W.Frag} {it : WI} {gg : WG} {tt : WT} {te : WE} {vs : List Nat} {σ : L2.St} {H : Hp} {Q : VK} (h : tO K F W (oLc it gg tt te vs) σ H Q) : tLc (tI K F W it) (tG K F vs gg) (tT K F W0 tt) (tE K F W0 te) vs σ H Q := by
  obtain ⟨π, A, ε, P, Z, R, w, z, q⟩ := h
  refine ⟨π, A, ε, _, Z, R, w, z, fun xs J H1 ds ws p g j b wk D hD => ?_⟩
  have hl := b.length
  have h0D : H D = none := fresh_back g j hD
  have R1 := (R.grow g j).pinned b
  have nA : ¬ A D := (R1.fresh hD).2
  have h0 : F.H0 D = none := (R1.fresh hD).1
  have nw : ∀ (i : Nat) (o : Ow), (wipeE ε vs)[i]? = some (some (.own o)) → (wipe σ vs)[i]? ≠ some (some (.ref D)) := fun i o e1 e2 => by
    obtain ⟨e3, e4⟩ := wipeE_get e1
    rw [wipe_ne e4] at e2
    obtain ⟨r, f1, f2, _⟩ := R.own i o e3
    rw [e2] at f1; cases f1
    exact nA f2
  refine ⟨fun i m H2 => m = xs.length - i ∧ i ≤ xs.length ∧ ∃ acc, Rel K F (ds ++ π.1, ws ++ π.2) (fun b => A b ∨ b = D) (wipe σ vs) H2 (wipeE ε vs) ∧ Grow F.m H H2 ∧
      (∃ vs', H2 D = some (.lst vs') ∧ Dats K (fun b => A b ∨ b = D) H2 acc vs') ∧ lcW gg tt te vs (xs.drop i) acc ε fun acc => P (.lst acc), ⟨_, rfl, Nat.zero_le _, [], (R1.wide hD).wiped vs, g.trans (grow_new hD), ⟨[], upd_same, .nil⟩, p⟩, ?_⟩
  rintro i m H2 ⟨rfl, hi, acc, R2, g2, ⟨vs', e2, d2⟩, z2⟩
  by_cases hlt : i < xs.length
  · obtain ⟨go, yl⟩ := wk.1 _ H2 i R2.th (R2.unpin hl).2 hlt
    refine .inr ⟨go, fun H' => ∃ acc, Rel K F (ds ++ π.1, ws ++ π.2) (fun b => A b ∨ b = D) (wipe σ vs) H' (wipeE ε vs) ∧ Grow F.m H H' ∧
      (∃ vs', H' D = some (.lst vs') ∧ Dats K (fun b => A b ∨ b = D) H' acc vs') ∧ lcW gg tt te vs (xs.drop (i + 1)) acc ε fun acc => P (.lst acc), fun H' q => ⟨xs.length - (i + 1), by omega, rfl, hlt, q⟩, fun x H' y => ?_⟩
    obtain ⟨k1, k2⟩ := yl x H' y
    have gr : Grow F.m H2 H' := fun b o h _ => k1 b o h
    have jj : F.m.J H' := F.m.st H2 H' (fun b z => by
      cases e : H2 b with
      | none => exact absurd e (F.m.al H2 b R2.j z)
      | some o => rw [k1 b o e]) R2.j
    have R3 := R2.grow gr jj
    have hx : xs[i]? = some xs[i] := by simp [hlt]
    rw [List.drop_eq_getElem_cons hlt] at z2
    refine ⟨_, _, wipeE ε vs, xs[i], _, R3, k2 _ hx, z2, fun ε' σ' q' r hl' hn' => ⟨wipe_eq hl' hn', ?_⟩⟩
    refine ⟨_, _, ε', _, _, r, (fun _ _ _ _ z => z.elim), q', fun bb H3 pb g3 j3 => ?_⟩
    have gD : ∀ {Ha Hb : Hp} {vv : List V}, Grow F.m Ha Hb → Ha D = some (.lst vv) → Hb D = some (.lst vv) := fun gg' e => gg' D _ e (F.nm h0)
    cases bb with
    | true =>
      simp only [if_true] at pb ⊢
      refine ⟨_, _, ε', _, _, r.grow g3 j3, (fun _ _ _ _ z => z.elim), pb, fun d v H4 pd g4 j4 dd => ?_⟩
      have e4 : H4 D = some (.lst vs') := gD (gr.trans (g3.trans g4)) e2
      have d4 := d2.mono (gr.trans (g3.trans g4)) R2.am fun _ z => z
      refine ⟨vs', e4, by rw [← d2.length]; exact pd.1, acc ++ [d], ?_, ?_, ⟨vs' ++ [v], upd_same, (d4.app (.one dd)).keep (.put (.inr rfl))⟩, pd.2⟩
      · exact ((R3.grow g3 j3).grow g4 j4).touch (.inr rfl) h0 nw
      · intro b o hb nb
        have hbd : b ≠ D := ne_of_none hb h0D
        rw [upd_ne hbd]
        exact (g2.trans (gr.trans (g3.trans g4))) b o hb nb
    | false =>
      simp only [Bool.false_eq_true, if_false] at pb ⊢
      exact ⟨acc, R3.grow g3 j3, g2.trans (gr.trans g3), ⟨vs', gD (gr.trans g3) e2, d2.mono (gr.trans g3) R2.am fun _ z => z⟩, pb⟩
  · have e : i = xs.length := Nat.le_antisymm hi (Nat.le_of_not_lt hlt)
    subst e
    rw [List.drop_of_length_le (Nat.le_refl _)] at z2
    exact .inl ⟨wk.2 _ H2 (R2.unpin hl).2, q _ D H2 z2 g2 R2.j h0D ⟨vs', e2, d2⟩⟩
theorem doLc {elt tg iter : Expr} {ifs : List Expr} {scope : Scope} {own : List (Str × Nat)} {it : WI} {gg : WG} {tt : WT} {te : WE} (hc : X.calm = true) (hN : X.N.Nodup) (hi : PI X tg iter (tI X.K F W it)) (ok : BlkOk X.N X.env.scope scope own)
    (hg : ∀ (s : Shared) (H : Hp) (C : Addr) (cl : List (Str × Addr)) (fp : List Addr), PG (X.blk s H scope (compEnvC scope cl C X.env) fp) tg (tG X.K F (own.map (·.2)) gg))
    (ht : ∀ (s : Shared) (H : Hp) (C : Addr) (cl : List (Str × Addr)) (fp : List Addr), PTs (X.blk s H scope (compEnvC scope cl C X.env) fp) ifs (tT X.K F W0 tt))
    (he : ∀ (s : Shared) (H : Hp) (C : Addr) (cl : List (Str × Addr)) (fp : List Addr), PE (X.blk s H scope (compEnvC scope cl C X.env) fp) elt (tE X.K F W0 te)) (hs : ∀ x, foldedSetIterable iter X.env x = pure x := by intro _; rfl) :
    PE X (.ListComp elt [⟨tg, iter, ifs, 0⟩] scope pos) (tO X.K F W (oLc it gg tt te (own.map (·.2)))) :=
  imE (pe_lc hc hN hi ok hg ht he hs) fun σ H Q h => lc_sound h
/-- name = [..] -/
theorem psLc {i : Nat} {y : Str} {py : Pos} {elt tg iter : Expr} {ifs : List Expr} {scope : Scope} {own : List (Str × Nat)} {spos : Pos} {it : WI} {gg : WG} {tt : WT} {te : WE} (hc : X.calm = true) (hN : X.N.Nodup) (hy : X.N[i]? = some y) (hyl : X.env.scope.names.lookup y = some .local)
    (hsw : swapsWith (.ListComp elt [⟨tg, iter, ifs, 0⟩] scope pos) (some (.Name y py)) spos.line X.env = pure true) (hi : PI X tg iter (tI X.K F W it)) (ok : BlkOk X.N X.env.scope scope own)
    (hg : ∀ (s : Shared) (H : Hp) (C : Addr) (cl : List (Str × Addr)) (fp : List Addr), PG (X.blk s H scope (compEnvC scope cl C X.env) fp) tg (tG X.K F (own.map (·.2)) gg))
    (ht : ∀ (s : Shared) (H : Hp) (C : Addr) (cl : List (Str × Addr)) (fp : List Addr), PTs (X.blk s H scope (compEnvC scope cl C X.env) fp) ifs (tT X.K F W0 tt))
    (he : ∀ (s : Shared) (H : Hp) (C : Addr) (cl : List (Str × Addr)) (fp : List Addr), PE (X.blk s H scope (compEnvC scope cl C X.env) fp) elt (tE X.K F W0 te)) (hs : ∀ x, foldedSetIterable iter X.env x = pure x := by intro _; rfl) :
    PS X (.Assign [.Name y py] (.ListComp elt [⟨tg, iter, ifs, 0⟩] scope pos) spos) (tS X.K F W (sOwn i (oLc it gg tt te (own.map (·.2))))) :=
  imS (ps_setLc hc hN hy hyl hsw hi ok hg ht he hs) fun D σ H ⟨π, A, ε, N, R, z, h1, h2, h3, h4, h5⟩ =>
    lc_sound ⟨π, A, ε, _, _, R, xw_of R h5, z, fun x p H' q g j np ow => h1 _ _ _ H' q (R.newG g j np ow)⟩
end
end DW
namespace DW
open PySem PySem.Spec
open PyProof.Rows L2
/-! ### items, slices -/
def kIx : D → D → (D → Prop) → Prop
  | .lst xs, .int i, P => ∃ d, atI xs i = some d ∧ P d
  | .fro xs, .int i, P => ∃ d, atI xs i = some d ∧ P d
  | .tup xs, .int i, P => ∃ d, atI xs i = some d ∧ P d
  | .str x, .int i, P => x.length ≤ sizeLine ∧ ∃ c, atI x.cps.toList i = some c ∧ P (.str ⟨#[c]⟩)
  | _, _, _ => False
theorem atI_of {K : PySem.W.Frag} {A : Addr → Prop} {H : Hp} {ds : List D} {vs : List V} {i : Int} {d : D} (h : Dats K A H ds vs) (e : atI ds i = some d) : ∃ v, atI vs i = some v ∧ Dat K A H d v := by
  unfold atI at e ⊢
  rw [← h.length]
  cases q : ixN ds.length i with
  | none => rw [q] at e; cases e
  | some j =>
    rw [q] at e
    exact h.at (i := j) e
theorem k2Ix {K : PySem.W.Frag} : Op2 K (rIx K) kIx := fun m A H x y u v P Q am al j bx b2 k q => by
  cases x <;> try exact k.elim
  · cases y <;> try exact k.elim
    obtain ⟨hl, c, hc, k⟩ := k
    exact .inr (.inr ⟨_, _, c, bStr bx, bInt b2, hl, hc, q _ _ H k (.refl _ _) j (.str _)⟩)
  · cases y <;> try exact k.elim
    obtain ⟨d, e, k⟩ := k
    obtain ⟨p, vs, rfl, na, e1, hs⟩ := bx
    obtain ⟨w, e2, dw⟩ := atI_of hs e
    exact .inl ⟨_, _, _, w, rfl, bInt b2, .of e1, e2, q _ _ H k (.refl _ _) j dw⟩
  · cases y <;> try exact k.elim
    obtain ⟨d, e, k⟩ := k
    obtain ⟨p, vs, rfl, e1, hs⟩ := bx
    obtain ⟨w, e2, dw⟩ := atI_of hs e
    exact .inl ⟨_, _, _, w, rfl, bInt b2, e1.sq, e2, q _ _ H k (.refl _ _) j dw⟩
  · cases y <;> try exact k.elim
    obtain ⟨d, e, k⟩ := k
    obtain ⟨p, vs, rfl, e1, hs⟩ := bx
    obtain ⟨w, e2, dw⟩ := atI_of hs e
    exact .inr (.inl ⟨_, _, _, w, rfl, bInt b2, e1.sq, e2, q _ _ H k (.refl _ _) j dw⟩)
/-- what a dict holds under a key -/
def keyD : D → Option Key
  | .int i => some (.inl i)
  | .str x => some (.inr x)
  | _ => none
def valD (kvs : List (Key × D)) (k : Key) : Option D := (kvs.find? fun p => decide (p.1 = k)).map (·.2)
theorem valD_of {K : PySem.W.Frag} {A : Addr → Prop} {H : Hp} {k : Key} : ∀ {kvs : List (Key × D)} {kws : List (Key × V)}, kws.map (·.1) = kvs.map (·.1) → Dats K A H (kvs.map (·.2)) (kws.map (·.2)) →
    (valV kws k = none ∧ valD kvs k = none) ∨ ∃ d v, valD kvs k = some d ∧ valV kws k = some v ∧ Dat K A H d v
  | [], [], _, _ => .inl ⟨rfl, rfl⟩
  | [], _ :: _, e, _ => by cases e
  | _ :: _, [], e, _ => by cases e
  | p :: kvs, w :: kws, e, h => by
    have e1 : w.1 = p.1 := by simpa using (List.cons.inj e).1
    cases h with
    | cons h t =>
      by_cases q : p.1 = k
      · exact .inr ⟨p.2, w.2, by simp [valD, List.find?_cons, q], by simp [valV, List.find?_cons, e1, q], h⟩
      · have := valD_of (k := k) (by simpa using (List.cons.inj e).2) t
        have a1 : valD (p :: kvs) k = valD kvs k := by simp [valD, List.find?_cons, q]
        have a2 : valV (w :: kws) k = valV kws k := by simp [valV, List.find?_cons, e1, q]
        rw [a1, a2]
        exact this
theorem keyD_kV {K : PySem.W.Frag} {m : Md} {A : Addr → Prop} {H : Hp} {d : D} {v : V} {k : Key} (e : keyD d = some k) (b : Bor K m A H d v) : v = kV k := by
  cases d <;> try cases e
  · exact bInt b
  · exact bStr b
section
variable {X : Cx} {F : Fx} {W : WX} {e a b c : Expr} {es : List Expr} {f g h : WE} {t : WT} {o : WO} {r : WA} {pos : Pos}
theorem dIx (ha : PE X a (tB X.K F W f)) (hb : PE X b (tB X.K F W g)) (hs : PlainIx b := by exact fun _ _ => rfl) : PE X (.Subscript a b pos) (tE X.K F W (w2 f g kIx)) := d2 (fun p q => pe_ix ix_seq p q hs) k2Ix ha hb
/-- d[k] -/
def wGet (f g : WE) : WE := fun ε P Z => f ε (fun x => g ε (fun y => ∃ kvs k d, x = .dct kvs ∧ keyD y = some k ∧ valD kvs k = some d ∧ P d) Z) Z
theorem dGet (hu : X.A.units + 1 < cLine) (ha : PE X a (tB X.K F W f)) (hb : PE X b (tB X.K F W g)) (hs : NoSl b := by exact fun _ _ => rfl) : PE X (.Subscript a b pos) (tE X.K F W (wGet f g)) :=
  imE (pe_dget hu ha hb hs) fun σ H Q ⟨π, A, ε, P, Z, R, w, z, q⟩ => ⟨π, A, ε, _, Z, R, w, z, fun x u H1 z1 g1 j1 b1 => ⟨π, A, ε, _, Z, R.grow g1 j1, w.grow g1, z1, fun y v H2 z2 g2 j2 b2 => by
    obtain ⟨kvs, k, d, rfl, hk, hd, p⟩ := z2
    obtain ⟨p', kws, rfl, na, h1, h2, h3⟩ := b1.grow g2 R.am
    rcases valD_of (k := k) h2 h3 with ⟨_, e2⟩ | ⟨d', v', e1, e2, dd⟩
    · rw [hd] at e2; cases e2
    · rw [hd] at e1; cases e1
      exact ⟨p', v', rfl, by rw [keyD_kV hk b2, ← e2]; exact DGet.k h1, q _ _ H2 p (g1.trans g2) j2 dd⟩⟩⟩
/-- k in d, k not in d -/
def wInD (neg : Bool) (f g : WE) : WE := fun ε P Z => f ε (fun y => g ε (fun x => ∃ kvs k, x = .dct kvs ∧ keyD y = some k ∧ P (.bl (if neg then !(valD kvs k).isSome else (valD kvs k).isSome))) Z) Z
theorem pcInD (hu : X.A.units + 1 < cLine) (ha : PE X a (tB X.K F W f)) (hb : PE X b (tB X.K F W g)) : PC X .In a b (tE X.K F W (wInD false f g)) :=
  ⟨fun pins s σ H Q I ⟨π, A, ε, P, Z, R, w, z, q⟩ => (pc_din hu ha hb).run pins s σ H Q I ⟨π, A, ε, _, Z, R, w, z, fun y v H1 z1 g1 j1 b1 => ⟨π, A, ε, _, Z, R.grow g1 j1, w.grow g1, z1, fun x u H2 z2 g2 j2 b2 => by
    obtain ⟨kvs, k, rfl, hk, p⟩ := z2
    obtain ⟨p', kws, rfl, na, h1, h2, h3⟩ := b2
    refine ⟨p', valV kws k, rfl, by rw [keyD_kV hk (b1.grow g2 R.am)]; exact DGet.k h1, ?_⟩
    rcases valD_of (k := k) h2 h3 with ⟨e1, e2⟩ | ⟨d', v', e1, e2, dd⟩
    · rw [e2] at p; rw [e1]; exact q _ _ H2 p (g1.trans g2) j2 (.bl _)
    · rw [e1] at p; rw [e2]; exact q _ _ H2 p (g1.trans g2) j2 (.bl _)⟩⟩⟩
theorem pcNotInD (hu : X.A.units + 1 < cLine) (ha : PE X a (tB X.K F W f)) (hb : PE X b (tB X.K F W g)) : PC X .NotIn a b (tE X.K F W (wInD true f g)) :=
  ⟨fun pins s σ H Q I ⟨π, A, ε, P, Z, R, w, z, q⟩ => (pc_dnotin hu ha hb).run pins s σ H Q I ⟨π, A, ε, _, Z, R, w, z, fun y v H1 z1 g1 j1 b1 => ⟨π, A, ε, _, Z, R.grow g1 j1, w.grow g1, z1, fun x u H2 z2 g2 j2 b2 => by
    obtain ⟨kvs, k, rfl, hk, p⟩ := z2
    obtain ⟨p', kws, rfl, na, h1, h2, h3⟩ := b2
    refine ⟨p', valV kws k, rfl, by rw [keyD_kV hk (b1.grow g2 R.am)]; exact DGet.k h1, ?_⟩
    rcases valD_of (k := k) h2 h3 with ⟨e1, e2⟩ | ⟨d', v', e1, e2, dd⟩
    · rw [e2] at p; rw [e1]; exact q _ _ H2 p (g1.trans g2) j2 (.bl _)
    · rw [e1] at p; rw [e2]; exact q _ _ H2 p (g1.trans g2) j2 (.bl _)⟩⟩⟩
/-! ### slices: a new list -/
abbrev WP := Ev → (Option Int → Prop) → (Ex → Prop) → Prop
def tP (K : PySem.W.Frag) (F : Fx) (W : WX) (f : WP) : TO := fun σ H Q => ∃ π A ε P X, Rel K F π A σ H ε ∧ XW K F W A σ H X ∧ f ε P X ∧ ∀ i H', P i → Grow F.m H H' → F.m.J H' → Q i H'
theorem imP {e : Option Expr} {t t' : TO} (p : PO X e t) (q : ∀ σ H Q, t' σ H Q → t σ H Q) : PO X e t' := ⟨fun pins s σ H Q I z => p.run pins s σ H Q I (q σ H Q z)⟩
def pNon : WP := fun _ P _ => P none
def pSom (f : WE) : WP := fun ε P Z => f ε (fun d => ∃ i, d = .int i ∧ P (some i)) Z
theorem dpNon : PO X none (tP X.K F W pNon) := imP po_none fun σ H Q ⟨π, A, ε, P, Z, R, w, z, q⟩ => q none H z (.refl _ _) R.j
theorem dpSom (ha : PE X a (tE X.K F W f)) : PO X (some a) (tP X.K F W (pSom f)) := imP (po_some ha) fun σ H Q ⟨π, A, ε, P, Z, R, w, z, q⟩ => ⟨π, A, ε, _, Z, R, w, z, fun d v H1 p g j b => by
  obtain ⟨i, rfl, p⟩ := p
  cases b
  exact ⟨i, rfl, q _ H1 p g j⟩⟩
def cutD (xs : List D) (lo hi : Option Int) : List D := (xs.drop (HT.sIx xs.length 0 lo)).take (HT.sIx xs.length xs.length hi - HT.sIx xs.length 0 lo)
def oSl (f : WE) (l u : WP) : WO := fun ε P Z => f ε (fun x => l ε (fun i => u ε (fun k => ∃ xs, (x = .lst xs ∨ x = .fro xs) ∧ P (.lst (cutD xs i k))) Z) Z) Z
theorem doSl {lo hi : Option Expr} {l u : WP} {p2 : Pos} (ha : PE X a (tB X.K F W f)) (hl : PO X lo (tP X.K F W l)) (hu : PO X hi (tP X.K F W u)) : PE X (.Subscript a (.Slice lo hi none p2) pos) (tO X.K F W (oSl f l u)) :=
  imE (pe_slice sl_list ha hl hu) fun σ H Q ⟨π, A, ε, P, Z, R, w, z, q⟩ => ⟨π, A, ε, _, Z, R, w, z, fun x v H1 z1 g1 j1 b1 => ⟨π, A, ε, _, Z, R.grow g1 j1, w.grow g1, z1, fun i H2 z2 g2 j2 => ⟨π, A, ε, _, Z, (R.grow g1 j1).grow g2 j2, w.grow (g1.trans g2), z2, fun k H3 z3 g3 j3 => by
    obtain ⟨xs, hx, p⟩ := z3
    have b3 := (b1.grow g2 R.am).grow g3 R.am
    have key : ∃ a vs, v = .ref a ∧ SqL X.K H3 a vs ∧ Dats X.K A H3 xs vs := by
      rcases hx with rfl | rfl
      · obtain ⟨a, vs, rfl, na, e, hs⟩ := b3; exact ⟨a, vs, rfl, .of e, hs⟩
      · obtain ⟨a, vs, rfl, e, hs⟩ := b3; exact ⟨a, vs, rfl, e.sq, hs⟩
    obtain ⟨a, vs, rfl, hq, hs⟩ := key
    have gg := (g1.trans g2).trans g3
    refine ⟨a, vs, rfl, hq, fun p' hp => q _ p' _ p (gg.trans (grow_new hp)) (j_new hp j3) (fresh_back gg j3 hp) ⟨cutV vs i k, upd_same, ?_⟩⟩
    unfold cutD cutV
    rw [hs.length]
    exact ((hs.drop _).take _).keep (.new hp)⟩⟩⟩
/-- a text's slice -/
def wSlS (f : WE) (l u : WP) : WE := fun ε P Z => f ε (fun x => l ε (fun i => u ε (fun k => ∃ y, x = .str y ∧ y.length ≤ sizeLine ∧ P (.str (cutS y i k))) Z) Z) Z
theorem dSlS {lo hi : Option Expr} {l u : WP} {p2 : Pos} (ha : PE X a (tB X.K F W f)) (hl : PO X lo (tP X.K F W l)) (hu : PO X hi (tP X.K F W u)) : PE X (.Subscript a (.Slice lo hi none p2) pos) (tE X.K F W (wSlS f l u)) :=
  imE (pe_slice sl_str ha hl hu) fun σ H Q ⟨π, A, ε, P, Z, R, w, z, q⟩ => ⟨π, A, ε, _, Z, R, w, z, fun x v H1 z1 g1 j1 b1 => ⟨π, A, ε, _, Z, R.grow g1 j1, w.grow g1, z1, fun i H2 z2 g2 j2 => ⟨π, A, ε, _, Z, (R.grow g1 j1).grow g2 j2, w.grow (g1.trans g2), z2, fun k H3 z3 g3 j3 => by
    obtain ⟨y, rfl, hy, p⟩ := z3
    exact ⟨y, bStr b1, hy, q _ _ H3 p ((g1.trans g2).trans g3) j3 (.str _)⟩⟩⟩⟩
/-! ### calls of built-ins -/
inductive Bors (K : PySem.W.Frag) (m : Md) (A : Addr → Prop) (H : Hp) : List D → List V → Prop where
  | nil : Bors K m A H [] []
  | cons {d : D} {v : V} {ds : List D} {vs : List V} (h : Bor K m A H d v) (t : Bors K m A H ds vs) : Bors K m A H (d :: ds) (v :: vs)
theorem Bors.grow {K : PySem.W.Frag} {m : Md} {A : Addr → Prop} {H H' : Hp} (g : Grow m H H') (am : ∀ b, m.M b → A b) : ∀ {ds : List D} {vs : List V}, Bors K m A H ds vs → Bors K m A H' ds vs
  | _, _, .nil => .nil
  | _, _, .cons h t => .cons (h.grow g am) (Bors.grow g am t)
def tAB (K : PySem.W.Frag) (F : Fx) (W : WX) (f : WA) : TA := fun σ H Q => ∃ π A ε P X, Rel K F π A σ H ε ∧ XW K F W A σ H X ∧ f ε P X ∧ ∀ ds vs H', P ds → Grow F.m H H' → F.m.J H' → Bors K F.m A H' ds vs → Q vs H'
theorem dbNil : PA X [] (tAB X.K F W aNil) := imA pa_nil fun σ H Q ⟨π, A, ε, P, Z, rel, w, z, q⟩ => q [] [] H z (.refl _ _) rel.j .nil
theorem dbCons (ha : PE X e (tB X.K F W f)) (hr : PA X es (tAB X.K F W r)) (hs : starEach (e :: es) X.env = (false, eval e X.env) :: starEach es X.env := by rfl) : PA X (e :: es) (tAB X.K F W (aCons f r)) :=
  imA (pa_cons ha hr hs) fun σ H Q ⟨π, A, ε, P, Z, rel, w, z, q⟩ => ⟨π, A, ε, _, Z, rel, w, z, fun d v H1 p g j b =>
    ⟨π, A, ε, _, Z, rel.grow g j, w.grow g, p, fun ds vs H2 p' g' j' b' => q _ _ H2 p' (g.trans g') j' (.cons (b.grow g' rel.am) b')⟩⟩
/-- a call of values answers one of data -/
def Cl (K : PySem.W.Frag) (r : List V → Hp → VK → Prop) (k : List D → (D → Prop) → Prop) : Prop :=
  ∀ (m : Md) (A : Addr → Prop) (H : Hp) (ds : List D) (vs : List V) (P : D → Prop) (Q : VK), (∀ b, m.M b → A b) → (∀ b, A b → H b ≠ none) → m.J H → Bors K m A H ds vs → k ds P → (∀ d w H', P d → Grow m H H' → m.J H' → Dat K A H' d w → Q w H') → r vs H Q
def wCl (r : WA) (k : List D → (D → Prop) → Prop) : WE := fun ε P Z => r ε (fun ds => k ds P) Z
theorem dCl {q : List V → Hp → VK → Prop} {k : List D → (D → Prop) → Prop} {ta : ∀ {t : TA}, PA X es t → PE X e (tCB q t)} (hk : Cl X.K q k) (ha : PA X es (tAB X.K F W r)) : PE X e (tE X.K F W (wCl r k)) :=
  imE (ta ha) fun σ H Q ⟨π, A, ε, P, Z, rel, w, z, q⟩ => ⟨π, A, ε, _, Z, rel, w, z, fun ds vs H1 p g j b =>
    hk F.m A H1 ds vs P Q rel.am (rel.grow g j).th j b p fun d w' H2 p' g' j' b' => q d w' H2 p' (g.trans g') j' b'⟩
def lenD : D → (Nat → Prop) → Prop
  | .str x, P => x.length ≤ sizeLine ∧ P x.length
  | .lst xs, P => P xs.length
  | .fro xs, P => P xs.length
  | .tup xs, P => P xs.length
  | _, _ => False
def k1 (φ : D → (D → Prop) → Prop) : List D → (D → Prop) → Prop
  | [d], P => φ d P
  | _, _ => False
def kk2 (φ : D → D → (D → Prop) → Prop) : List D → (D → Prop) → Prop
  | [d, e], P => φ d e P
  | _, _ => False
theorem bors1 {K : PySem.W.Frag} {m : Md} {A : Addr → Prop} {H : Hp} {d : D} {vs : List V} (h : Bors K m A H [d] vs) : ∃ v, vs = [v] ∧ Bor K m A H d v := by
  cases h with
  | cons h t => cases t; exact ⟨_, rfl, h⟩
theorem bors2 {K : PySem.W.Frag} {m : Md} {A : Addr → Prop} {H : Hp} {d e : D} {vs : List V} (h : Bors K m A H [d, e] vs) : ∃ v u, vs = [v, u] ∧ Bor K m A H d v ∧ Bor K m A H e u := by
  cases h with
  | cons h t =>
    obtain ⟨u, rfl, h2⟩ := bors1 t
    exact ⟨_, u, rfl, h, h2⟩
def kLen : List D → (D → Prop) → Prop := k1 fun d P => lenD d fun n => P (.int n)
theorem clLen {K : PySem.W.Frag} : Cl K (fun xs H Q => ∃ x n, xs = [x] ∧ LenV K x H n ∧ Q (.int n) H) kLen := fun m A H ds vs P Q am al j b k q => by
  match ds, b, k with
  | [d], b, k =>
    obtain ⟨v, rfl, bd⟩ := bors1 b
    have k : lenD d fun n => P (.int n) := k
    cases d <;> try exact k.elim
    · cases bStr bd
      exact ⟨_, _, rfl, ⟨k.1, rfl⟩, q _ _ H k.2 (.refl _ _) j (.int _)⟩
    · obtain ⟨a, ws, rfl, na, e, hs⟩ := bd
      exact ⟨_, _, rfl, .inl ⟨ws, .of e, rfl⟩, q _ _ H k (.refl _ _) j (by rw [hs.length]; exact .int _)⟩
    · obtain ⟨a, ws, rfl, e, hs⟩ := bd
      exact ⟨_, _, rfl, .inl ⟨ws, e.sq, rfl⟩, q _ _ H k (.refl _ _) j (by rw [hs.length]; exact .int _)⟩
    · obtain ⟨a, ws, rfl, e, hs⟩ := bd
      exact ⟨_, _, rfl, .inr ⟨ws, e.sq, rfl⟩, q _ _ H k (.refl _ _) j (by rw [hs.length]; exact .int _)⟩
theorem clInt {K : PySem.W.Frag} : Cl K (fun xs H Q => (∃ i, xs = [.int i] ∧ Q (.int i) H) ∨ ∃ k, xs = [.bl k] ∧ Q (.int (if k then 1 else 0)) H) (k1 fun d P => match d with | .int i => P (.int i) | .bl b => P (.int (if b then 1 else 0)) | _ => False) := fun m A H ds vs P Q am al j b k q => by
  match ds, b, k with
  | [d], b, k =>
    obtain ⟨v, rfl, bd⟩ := bors1 b
    cases d <;> try exact False.elim k
    · cases bBl bd
      exact .inr ⟨_, rfl, q _ _ H k (.refl _ _) j (.int _)⟩
    · cases bInt bd
      exact .inl ⟨_, rfl, q _ _ H k (.refl _ _) j (.int _)⟩
theorem clAbs {K : PySem.W.Frag} : Cl K (fun xs H Q => ∃ i, xs = [.int i] ∧ Q (.int (if i < 0 then -i else i)) H) (k1 fun d P => match d with | .int i => P (.int (if i < 0 then -i else i)) | _ => False) := fun m A H ds vs P Q am al j b k q => by
  match ds, b, k with
  | [d], b, k =>
    obtain ⟨v, rfl, bd⟩ := bors1 b
    cases d <;> try exact False.elim k
    cases bInt bd
    exact ⟨_, rfl, q _ _ H k (.refl _ _) j (.int _)⟩
theorem clStrI {K : PySem.W.Frag} : Cl K (fun xs H Q => ∃ i, xs = [.int i] ∧ i.natAbs.log2 < 1920 ∧ Q (.str (toString i)) H) (k1 fun d P => match d with | .int i => i.natAbs.log2 < 1920 ∧ P (.str (toString i)) | _ => False) := fun m A H ds vs P Q am al j b k q => by
  match ds, b, k with
  | [d], b, k =>
    obtain ⟨v, rfl, bd⟩ := bors1 b
    cases d <;> try exact False.elim k
    cases bInt bd
    exact ⟨_, rfl, k.1, q _ _ H k.2 (.refl _ _) j (.str _)⟩
theorem clMax {K : PySem.W.Frag} : Cl K (fun xs H Q => ∃ i j, xs = [.int i, .int j] ∧ Q (.int (if j > i then j else i)) H) (kk2 fun d e P => match d, e with | .int i, .int j => P (.int (if j > i then j else i)) | _, _ => False) := fun m A H ds vs P Q am al j b k q => by
  match ds, b, k with
  | [d, e], b, k =>
    obtain ⟨v, u, rfl, bd, be⟩ := bors2 b
    cases d <;> try exact False.elim k
    cases e <;> try exact False.elim k
    cases bInt bd; cases bInt be
    exact ⟨_, _, rfl, q _ _ H k (.refl _ _) j (.int _)⟩
theorem clMin {K : PySem.W.Frag} : Cl K (fun xs H Q => ∃ i j, xs = [.int i, .int j] ∧ Q (.int (if j < i then j else i)) H) (kk2 fun d e P => match d, e with | .int i, .int j => P (.int (if j < i then j else i)) | _, _ => False) := fun m A H ds vs P Q am al j b k q => by
  match ds, b, k with
  | [d, e], b, k =>
    obtain ⟨v, u, rfl, bd, be⟩ := bors2 b
    cases d <;> try exact False.elim k
    cases e <;> try exact False.elim k
    cases bInt bd; cases bInt be
    exact ⟨_, _, rfl, q _ _ H k (.refl _ _) j (.int _)⟩
/-- a call that makes a list -/
def ClO (K : PySem.W.Frag) (r : List V → Hp → VK → Prop) (k : List D → (Ow → Prop) → Prop) : Prop :=
  ∀ (m : Md) (A : Addr → Prop) (H : Hp) (ds : List D) (vs : List V) (P : Ow → Prop) (Q : VK), (∀ b, m.M b → A b) → (∀ b, A b → H b ≠ none) → m.J H → Bors K m A H ds vs → k ds P → (∀ o p H', P o → Grow m H H' → m.J H' → H p = none → OwnAt K (fun b => A b ∨ b = p) H' p o → Q (.ref p) H') → r vs H Q
def oCl (r : WA) (k : List D → (Ow → Prop) → Prop) : WO := fun ε P Z => r ε (fun ds => k ds P) Z
theorem doCl {q : List V → Hp → VK → Prop} {k : List D → (Ow → Prop) → Prop} {ta : ∀ {t : TA}, PA X es t → PE X e (tCB q t)} (hk : ClO X.K q k) (ha : PA X es (tAB X.K F W r)) : PE X e (tO X.K F W (oCl r k)) :=
  imE (ta ha) fun σ H Q ⟨π, A, ε, P, Z, rel, w, z, q⟩ => ⟨π, A, ε, _, Z, rel, w, z, fun ds vs H1 p g j b =>
    hk F.m A H1 ds vs P Q rel.am (rel.grow g j).th j b p fun o p' H2 p2 g' j' np ow => q o p' H2 p2 (g.trans g') j' (fresh_back g j np) ow⟩
def kList : List D → (Ow → Prop) → Prop
  | [.lst xs], P => P (.lst xs)
  | [.fro xs], P => P (.lst xs)
  | [.tup xs], P => P (.lst xs)
  | _, _ => False
theorem clList {K : PySem.W.Frag} : ClO K (fun xs H Q => ∃ p ys, xs = [.ref p] ∧ (SqL K H p ys ∨ SqT K H p ys) ∧ ∀ l, H l = none → Q (.ref l) (upd H l (.lst ys))) kList := fun m A H ds vs P Q am al j b k q => by
  match ds, b, k with
  | [.lst xs], b, k =>
    obtain ⟨v, rfl, bd⟩ := bors1 b
    obtain ⟨a, ws, rfl, na, e, hs⟩ := bd
    exact ⟨a, ws, rfl, .inl (.of e), fun l hl => q _ l _ k (grow_new hl) (j_new hl j) hl ⟨ws, upd_same, hs.keep (.new hl)⟩⟩
  | [.fro xs], b, k =>
    obtain ⟨v, rfl, bd⟩ := bors1 b
    obtain ⟨a, ws, rfl, e, hs⟩ := bd
    exact ⟨a, ws, rfl, .inl e.sq, fun l hl => q _ l _ k (grow_new hl) (j_new hl j) hl ⟨ws, upd_same, hs.keep (.new hl)⟩⟩
  | [.tup xs], b, k =>
    obtain ⟨v, rfl, bd⟩ := bors1 b
    obtain ⟨a, ws, rfl, e, hs⟩ := bd
    exact ⟨a, ws, rfl, .inr e.sq, fun l hl => q _ l _ k (grow_new hl) (j_new hl j) hl ⟨ws, upd_same, hs.keep (.new hl)⟩⟩
/-- tuple(a new list) -/
def kTuple : List D → (D → Prop) → Prop
  | [.lst xs], P => P (.tup xs)
  | [.fro xs], P => P (.tup xs)
  | _, _ => False
theorem clTuple {K : PySem.W.Frag} : Cl K (fun xs H Q => ∃ p ys, xs = [.ref p] ∧ ((SqL K H p ys ∧ ∀ l, H l = none → Q (.ref l) (upd H l (.tup ys))) ∨ (SqT K H p ys ∧ Q (.ref p) H))) kTuple := fun m A H ds vs P Q am al j b k q => by
  match ds, b, k with
  | [.lst xs], b, k =>
    obtain ⟨v, rfl, bd⟩ := bors1 b
    obtain ⟨a, ws, rfl, na, e, hs⟩ := bd
    exact ⟨a, ws, rfl, .inl ⟨.of e, fun l hl => q _ _ _ k (grow_new hl) (j_new hl j) (.tup (.inl ⟨fun z => al l z hl, .inl upd_same⟩) (hs.keep (.new' hl)))⟩⟩
  | [.fro xs], b, k =>
    obtain ⟨v, rfl, bd⟩ := bors1 b
    obtain ⟨a, ws, rfl, e, hs⟩ := bd
    exact ⟨a, ws, rfl, .inl ⟨e.sq, fun l hl => q _ _ _ k (grow_new hl) (j_new hl j) (.tup (.inl ⟨fun z => al l z hl, .inl upd_same⟩) (hs.keep (.new' hl)))⟩⟩
end
end DW
namespace DW
open PySem PySem.Spec
open PyProof.Rows L2
/-! ### what a def promises, over data -/
abbrev Spd := List D → (D → Prop) → (Ex → Prop) → Prop
/-- nothing may change -/
def md0 : Md := ⟨fun _ => False, fun _ => True, fun _ _ _ h => h.elim, fun _ _ _ h => h⟩
def lift (K : PySem.W.Frag) (m : Md) (s : Spd) : Sp := fun vs H Q E => ∃ A ds P Z, (∀ b, m.M b → A b) ∧ (∀ b, A b → H b ≠ none) ∧ m.J H ∧ Dats K A H ds vs ∧ s ds P Z ∧
  (∀ d v H', P d → Grow m H H' → m.J H' → Dat K A H' d v → Q v H') ∧ ∀ x cls dd H', Z x → Grow m H H' → m.J H' → ExAt K A H' x cls dd → E cls dd H'
def liftG {ι : Type} (K : PySem.W.Frag) (mf : ι → Md) (s : ι → Spd) : Sp := fun vs H Q E => ∃ i, lift K (mf i) (s i) vs H Q E
abbrev liftP (K : PySem.W.Frag) (s : Spd) : Sp := liftG K (fun _ : Unit => md0) fun _ => s
section
variable {K : PySem.W.Frag} {F : Fx} {π : List D × List V} {A : Addr → Prop} {σ : L2.St} {H H' : Hp} {ε : Ev}
theorem grow0 {m : Md} (g : Grow md0 H H') : Grow m H H' := fun b o h _ => g b o h fun z => z
theorem j0 {m : Md} (g : Grow md0 H H') (j : m.J H) : m.J H' := m.st H H' (fun b z => by
  cases e : H b with
  | none => exact absurd e (m.al H b j z)
  | some o => exact g b o e fun z => z) j
/-- how a callee's way of changing stands in the caller's -/
def Sub (m m' : Md) : Prop := m = m' ∨ m = md0
theorem Sub.m {m m' : Md} (s : Sub m m') : ∀ b, m.M b → m'.M b := by
  rcases s with rfl | rfl
  · exact fun _ z => z
  · exact fun _ z => z.elim
theorem Sub.j {m m' : Md} (s : Sub m m') (j : m'.J H) : m.J H := by
  rcases s with rfl | rfl
  · exact j
  · trivial
theorem Sub.g {m m' : Md} (s : Sub m m') (g : Grow m H H') : Grow m' H H' := by
  rcases s with rfl | rfl
  · exact g
  · exact grow0 g
theorem Sub.j' {m m' : Md} (s : Sub m m') (g : Grow m H H') (j : m'.J H) (j2 : m.J H') : m'.J H' := by
  rcases s with rfl | rfl
  · exact j2
  · exact j0 g j
end
/-! ### calls of defs -/
def wCall (s : Spd) (r : WA) : WE := fun ε P Z => r ε (fun ds => s ds P Z) Z
section
variable {X : Cx} {F : Fx} {W : WX} {e o : Expr} {es : List Expr} {r : WA} {f : WE} {pos p apos : Pos} {ι : Type} {mf : ι → Md} {s : ι → Spd} {x m : Str} {k : Nat} {g C : Addr} {fd : FuncData} {ps : List Str}
/-- what is known of a def that is called by its name -/
structure Clb (P : Program) (w : World) (K : PySem.W.Frag) (mg : Str → Option Value) (base : Heap) (k : Nat) (x : Str) (sp : Sp) : Prop where
  ex : ∃ (g : Addr) (fd : FuncData) (ps : List Str), FnOk P w K mg base (L2.CX P w) k g fd ps sp ∧ mg x = some (.ref g) ∧ PySem.W.keepIn K (.ref g) = true ∧ Binds K fd ps []
theorem lift_use {A : Addr → Prop} {π : List D × List V} {σ : L2.St} {H : Hp} {ε : Ev} {i : ι} {ds : List D} {vs : List V} {P : D → Prop} {Z : Ex → Prop} {Q : VK} (hm : Sub (mf i) F.m) (R : Rel X.K F π A σ H ε) (b : Dats X.K A H ds vs) (z : s i ds P Z)
    (q : ∀ d v H', P d → Grow F.m H H' → F.m.J H' → Dat X.K A H' d v → Q v H') (w : XW X.K F W A σ H Z) : liftG X.K mf s vs H Q (L2.WE W σ) :=
  ⟨i, A, ds, P, Z, fun b z => R.am b (hm.m b z), R.th, hm.j R.j, b, z, fun d v H' p g j h => q d v H' p (hm.g g) (hm.j' g R.j j) h, fun x cls dd H' z g j e => w x cls dd H' z (hm.g g) (hm.j' g R.j j) e⟩
theorem dCall (i : ι) (hm : Sub (mf i) F.m) (c : Clb X.prog X.w X.K X.mg X.base k x (liftG X.K mf s)) (hr : Room k X.A) (tk : Takes X W) (hg : Gl X x) (ha : PA X (e :: es) (tA X.K F W r)) (hdb : (x == ("__debug__" : Str)) = false := by decide)
    (he : starEach (e :: es) X.env = (false, eval e X.env) :: starEach es X.env := by rfl) (hpl : (backTo pos (starEach es X.env)).any (·.1) = false := by rfl) : PE X (.Call (.Name x p) (e :: es) [] pos) (tE X.K F W (wCall (s i) r)) := by
  obtain ⟨g, fd, ps, Fn, hm', hk, hb⟩ := c.ex
  exact imE (pe_callS Fn hr hg hm' hk hb (fun σ => passAt tk σ) ha hdb he hpl) fun σ H Q ⟨π, A, ε, P, Z, R, w, z, q⟩ => ⟨π, A, ε, _, Z, R, w, z, fun ds vs H1 pz gr j b =>
    lift_use hm (R.grow gr j) b pz (fun d v H2 p g2 j2 h => q d v H2 p (gr.trans g2) j2 h) (w.grow gr)⟩
/-- f() -/
def wCall0 (s : Spd) : WE := fun _ P _ => s [] P Z0
theorem dCall0 (i : ι) (hm : Sub (mf i) F.m) (c : Clb X.prog X.w X.K X.mg X.base k x (liftG X.K mf s)) (hr : Room k X.A) (hg : Gl X x) (hdb : (x == ("__debug__" : Str)) = false := by decide) : PE X (.Call (.Name x p) [] [] pos) (tE X.K F W (wCall0 (s i))) := by
  obtain ⟨g, fd, ps, Fn, hm', hk, hb⟩ := c.ex
  refine imE (pe_call0 (E := E0) Fn hr hg hm' hk hb .nil passL hdb) fun σ H Q ⟨π, A, ε, P, Z, R, w, z, q⟩ => ?_
  exact ⟨i, A, [], P, Z0, fun b z => R.am b (hm.m b z), R.th, hm.j R.j, .nil, z, fun d v H' p g j h => q d v H' p (hm.g g) (hm.j' g R.j j) h, fun x cls dd H' z g j e => z.elim⟩
/-! ### a def keeps its promise -/
def startE (N : List Str) (ds : List D) : Ev := ds.map (fun d => some (Sl.dat d)) ++ List.replicate (N.length - ds.length) none
theorem rel_start {K : PySem.W.Frag} {m : Md} {A : Addr → Prop} {N : List Str} {H : Hp} {ds : List D} {vs : List V} (am : ∀ b, m.M b → A b) (al : ∀ b, A b → H b ≠ none) (j : m.J H) (b : Dats K A H ds vs) :
    Rel K ⟨m, A, H, am, al⟩ ([], []) A (L2.start N vs) H (startE N ds) := by
  have hl := b.length
  refine ⟨.nil, .refl _ _, j, fun _ z => z, al, ?_, fun i d e => ?_, fun i o e => ?_, fun i k o o' v e => ?_⟩
  · unfold startE L2.start
    simp only [List.length_append, List.length_map, List.length_replicate]
    omega
  · unfold startE at e
    by_cases q : i < ds.length
    · rw [List.getElem?_append_left (by simpa using q), List.getElem?_map] at e
      cases e2 : ds[i]? with
      | none => rw [e2] at e; cases e
      | some d' =>
        rw [e2] at e; cases e
        obtain ⟨v, h1, h2⟩ := b.at e2
        refine ⟨v, ?_, h2⟩
        unfold L2.start
        rw [List.getElem?_append_left (by simpa using (by omega : i < vs.length)), List.getElem?_map, h1]
        rfl
    · rw [List.getElem?_append_right (by simpa using q), List.getElem?_replicate] at e
      split at e <;> cases e
  all_goals
    unfold startE at e
    by_cases q : i < ds.length
    · rw [List.getElem?_append_left (by simpa using q), List.getElem?_map] at e
      cases e2 : ds[i]? with
      | none => rw [e2] at e; cases e
      | some d' => rw [e2] at e; cases e
    · rw [List.getElem?_append_right (by simpa using q), List.getElem?_replicate] at e
      split at e <;> cases e
/-- the wish at a def's edge -/
abbrev Wd (E : XK) : WX := fun cls dd _ H => E cls dd H
theorem def_ok {P : Program} {w : World} {K : PySem.W.Frag} {mg : Str → Option Value} {base : Heap} {qual : Str} {st : Stmt} {N : List Str} (Fn : Fun K x qual st g fd) (S : FnScope N ps (defScope st)) (G : ι → WS)
    (hlen : ∀ i ds P Z, s i ds P Z → ds.length = ps.length)
    (hG : ∀ (cdv : Value) (A : Around) (outer : List Env) (sh : Shared) (H : Hp) (E : XK) (F : Fx) (i : ι), F.m = mf i → Room k (A.deeper (envOfC qual (defScope st) sh.heap.objs.size g cdv)) →
      PSs (cxOf (L2.CX P w) P w K mg base N qual (defScope st) g cdv A outer sh H E) (defBody st) (tS K F (Wd E) (G i)))
    (hs : ∀ i ds P Z, s i ds P Z → G i (startE N ds) { nx := fun _ => P .non, rt := P, ex := fun x _ => Z x }) : FnOk P w K mg base (L2.CX P w) (k + 1) g fd ps (liftG K mf s) := by
  refine Fn.okX S (fun vs H Q E h => ?_) fun cdv A outer sh H vs Q E hr h => ?_
  · obtain ⟨i, A, ds, P, Z, am, al, j, b, z, _⟩ := h
    rw [← b.length]
    exact hlen i ds P Z z
  · obtain ⟨i, A', ds, P', Z, am, al, j, b, z, q1, q2⟩ := h
    refine ⟨_, hG cdv A outer sh H E ⟨mf i, A', H, am, al⟩ i rfl hr, ?_⟩
    refine ⟨([], []), A', startE N ds, _, rel_start am al j b, hs i ds P' Z z, fun A2 ε2 σ2 H2 n r => q1 _ _ H2 n r.gr r.j .non, fun d v H2 p g2 j2 h2 => q1 d v H2 p g2 j2 h2, fun _ _ _ _ n => n.elim, fun _ _ _ _ n => n.elim, fun x A2 ε2 σ2 H2 cls dd n r ex => q2 x cls dd H2 n r.gr r.j (ex.mono r.aa)⟩
theorem clb_mk {P : Program} {w : World} {K : PySem.W.Frag} {mg : Str → Option Value} {base : Heap} {sp : Sp} (Fo : FnOk P w K mg base (L2.CX P w) k g fd ps sp) (h1 : mg x = some (.ref g)) (h2 : PySem.W.keepIn K (.ref g) = true) (h3 : Binds K fd ps []) : Clb P w K mg base k x sp :=
  ⟨g, fd, ps, Fo, h1, h2, h3⟩
end
/-! ### one's own objects, written -/
section
variable {X : Cx} {F : Fx} {W : WX} {e o : Expr} {st : Stmt} {es : List Expr} {r : WA} {f g : WE} {pos p apos : Pos}
/-- x.append(e) -/
def sApp (i : Nat) (r : WA) : WS := fun ε N => ∃ xs, ε[i]? = some (some (.own (.lst xs))) ∧ r ε (fun ds => ∃ d, ds = [d] ∧ xs.length < sizeLine ∧ N.nx (ε.set i (some (.own (.lst (xs ++ [d])))))) (fun x => N.ex x ε)
theorem psApp (i : Nat) (p : PE X e (tBM X.K "list" rAppend (tVar i) (tA X.K F W r))) (hs : swapsWith e none pos.line X.env = pure false := by rfl) : PS X (.Expr e pos) (tS X.K F W (sApp i r)) :=
  imS (ps_expr p hs) fun D σ H ⟨π, A, ε, N, R, ⟨xs, hx, z⟩, h1, h2, h3, h4, h5⟩ => by
    obtain ⟨q, e1, e2, e3, vs, e5, e6⟩ := R.own i _ hx
    refine ⟨.ref q, e1, .inl ⟨rfl, _, .inl (.inl e5)⟩, π, A, ε, _, _, R, xw_of R h5, z, fun ds ws H1 pd gr j b => ?_⟩
    obtain ⟨d, rfl, hl, n⟩ := pd
    cases b with
    | cons b t =>
      cases t
      have e5' : H1 q = some (.lst vs) := gr q _ e5 (F.nm e3)
      refine ⟨q, vs, _, rfl, rfl, e5', by rw [← e6.length]; exact hl, h1 A _ σ _ n ((R.grow gr j).put hx e1 ⟨_, upd_same, ?_⟩)⟩
      exact ((e6.mono gr R.am fun _ z => z).app (.one b)).keep (.put e2)
/-- x[k] = e, x a list -/
def sPutL (i : Nat) (f g : WE) : WS := fun ε N => ∃ xs, ε[i]? = some (some (.own (.lst xs))) ∧ f ε (fun d => g ε (fun y => ∃ n j, y = .int n ∧ ixN xs.length n = some j ∧ N.nx (ε.set i (some (.own (.lst (xs.set j d)))))) (fun x => N.ex x ε)) (fun x => N.ex x ε)
theorem psPutL (i : Nat) (p : PS X st (tAsg (tE X.K F W f) (gSub (tVar i) (tE X.K F W g) rSetL))) : PS X st (tS X.K F W (sPutL i f g)) :=
  imS p fun D σ H ⟨π, A, ε, N, R, ⟨xs, hx, z⟩, h1, h2, h3, h4, h5⟩ => by
    obtain ⟨q, e1, e2, e3, vs, e5, e6⟩ := R.own i _ hx
    refine ⟨π, A, ε, _, _, R, xw_of R h5, z, fun d v H1 pd g1 j1 b1 => ?_⟩
    have R1 := R.grow g1 j1
    refine ⟨.ref q, e1, π, A, ε, _, _, R1, (xw_of R h5).grow g1, pd, fun y u H2 py g2 j2 b2 => ?_⟩
    obtain ⟨n, j, rfl, hj, nx⟩ := py
    cases b2
    have gg := g1.trans g2
    have e5' : H2 q = some (.lst vs) := gg q _ e5 (F.nm e3)
    refine ⟨q, vs, n, j, rfl, rfl, e5', by rw [← e6.length]; exact hj, h1 A _ σ _ nx ((R1.grow g2 j2).put hx e1 ⟨_, upd_same, ?_⟩)⟩
    exact ((e6.mono gg R.am fun _ z => z).set j (b1.mono g2 R.am fun _ z => z)).keep (.put e2)
/-- d[k] = e, d a dict -/
def putD (kvs : List (Key × D)) (k : Key) (d : D) : List (Key × D) := if (kvs.any fun p => decide (p.1 = k)) then kvs.map fun p => if p.1 = k then (p.1, d) else p else kvs ++ [(k, d)]
theorem any_keys {k : Key} : ∀ {kvs : List (Key × D)} {kws : List (Key × V)}, kws.map (·.1) = kvs.map (·.1) → (kws.any fun p => decide (p.1 = k)) = kvs.any fun p => decide (p.1 = k)
  | [], [], _ => rfl
  | [], _ :: _, e => by cases e
  | _ :: _, [], e => by cases e
  | p :: kvs, w :: kws, e => by
    have e1 : w.1 = p.1 := by simpa using (List.cons.inj e).1
    rw [List.any_cons, List.any_cons, e1, any_keys (by simpa using (List.cons.inj e).2)]
theorem putD_of {K : PySem.W.Frag} {A : Addr → Prop} {H : Hp} {k : Key} {d : D} {v : V} {kvs : List (Key × D)} {kws : List (Key × V)} (hk : kws.map (·.1) = kvs.map (·.1)) (hs : Dats K A H (kvs.map (·.2)) (kws.map (·.2))) (h : Dat K A H d v) :
    (putK kws k v).map (·.1) = (putD kvs k d).map (·.1) ∧ Dats K A H ((putD kvs k d).map (·.2)) ((putK kws k v).map (·.2)) := by
  have rep : ∀ {kvs : List (Key × D)} {kws : List (Key × V)}, kws.map (·.1) = kvs.map (·.1) → Dats K A H (kvs.map (·.2)) (kws.map (·.2)) →
      (kws.map fun p => if p.1 = k then (p.1, v) else p).map (·.1) = (kvs.map fun p => if p.1 = k then (p.1, d) else p).map (·.1) ∧
      Dats K A H ((kvs.map fun p => if p.1 = k then (p.1, d) else p).map (·.2)) ((kws.map fun p => if p.1 = k then (p.1, v) else p).map (·.2)) := by
    intro kvs
    induction kvs with
    | nil => intro kws e h; cases kws with
      | nil => exact ⟨rfl, .nil⟩
      | cons _ _ => cases e
    | cons p kvs ih => intro kws e h; cases kws with
      | nil => cases e
      | cons w kws =>
        have e1 : w.1 = p.1 := by simpa using (List.cons.inj e).1
        cases h with
        | cons h t =>
          obtain ⟨i1, i2⟩ := ih (by simpa using (List.cons.inj e).2) t
          by_cases q : p.1 = k
          · simp only [List.map_cons, e1, q, if_true]
            exact ⟨by rw [← i1], .cons ‹Dat K A H d v› i2⟩
          · simp only [List.map_cons, e1, q, if_false]
            exact ⟨by rw [← i1], .cons h i2⟩
  unfold putK putD
  rw [any_keys hk]
  split
  · exact rep hk hs
  · constructor
    · simp [hk]
    · simp only [List.map_append, List.map_cons, List.map_nil]
      exact hs.app (.one h)
def sPutD (i : Nat) (f g : WE) : WS := fun ε N => ∃ kvs, ε[i]? = some (some (.own (.dct kvs))) ∧ f ε (fun d => g ε (fun y => ∃ k, keyD y = some k ∧ kvs.length < sizeLine ∧ N.nx (ε.set i (some (.own (.dct (putD kvs k d)))))) (fun x => N.ex x ε)) (fun x => N.ex x ε)
theorem psPutD (i : Nat) (p : PS X st (sDPut (tVar i) (tE X.K F W g) (tE X.K F W f))) : PS X st (tS X.K F W (sPutD i f g)) :=
  imS p fun D σ H ⟨π, A, ε, N, R, ⟨kvs, hx, z⟩, h1, h2, h3, h4, h5⟩ => by
    obtain ⟨q, e1, e2, e3, kws, e5, ek, e6⟩ := R.own i _ hx
    refine ⟨π, A, ε, _, _, R, xw_of R h5, z, fun d v H1 pd g1 j1 b1 => ?_⟩
    have R1 := R.grow g1 j1
    refine ⟨.ref q, e1, π, A, ε, _, _, R1, (xw_of R h5).grow g1, pd, fun y u H2 py g2 j2 b2 => ?_⟩
    obtain ⟨k, hk, hl, nx⟩ := py
    have gg := g1.trans g2
    have e5' : H2 q = some (.dK kws) := gg q _ e5 (F.nm e3)
    have hlen : kws.length = kvs.length := by simpa using congrArg List.length ek
    have hu : u = kV k := keyD_kV hk (b2.bor R.am)
    subst hu
    obtain ⟨k1, k2⟩ := putD_of (k := k) ek (e6.mono gg R.am fun _ z => z) (b1.mono g2 R.am fun _ z => z)
    exact ⟨q, _, rfl, DPut.k e5' (by rw [hlen]; exact hl), h1 A _ σ _ nx ((R1.grow g2 j2).put hx e1 ⟨_, upd_same, k1, k2.keep (.put e2)⟩)⟩
/-- a dict display, its keys written texts -/
def dctW (fs : List (Str × WE)) (acc : List (Key × D)) (ε : Ev) (P : List (Key × D) → Prop) (Z : Ex → Prop) : Prop := match fs with
  | [] => P acc
  | (x, f) :: r => f ε (fun d => dctW r (acc ++ [(.inr x, d)]) ε P Z) Z
def oDct (fs : List (Str × WE)) : WO := fun ε P Z => dctW fs [] ε (fun kvs => P (.dct kvs)) Z
def trsOf (K : PySem.W.Frag) (F : Fx) (W : WX) (fs : List (Str × WE)) : List (TE × TE) := fs.map fun p => (tC (.str p.1), tE K F W p.2)
theorem pairs_run {K : PySem.W.Frag} {π : List D × List V} {A : Addr → Prop} {σ : L2.St} {ε : Ev} {Z : Ex → Prop} {P : List (Key × D) → Prop} {Q : List (V × V) → Hp → Prop} : ∀ {fs : List (Str × WE)} {H : Hp} {acc : List (Key × D)} {accv : List (Key × V)}, Rel K F π A σ H ε → XW K F W A σ H Z →
    accv.map (·.1) = acc.map (·.1) → Dats K A H (acc.map (·.2)) (accv.map (·.2)) → dctW fs acc ε P Z →
    (∀ kvs (kws : List (Key × V)) (more : List (Key × V)) H', P kvs → Grow F.m H H' → F.m.J H' → kws = accv ++ more → more.map (·.1) = fs.map (fun p => Sum.inr p.1) → kws.map (·.1) = kvs.map (·.1) → Dats K A H' (kvs.map (·.2)) (kws.map (·.2)) → Q (more.map fun kv => (kV kv.1, kv.2)) H') →
    tPairs (trsOf K F W fs) σ H Q
  | [], H, acc, accv, R, w, hk, hd, z, q => q acc accv [] H z (.refl _ _) R.j (by simp) rfl hk hd
  | (x, f) :: fs, H, acc, accv, R, w, hk, hd, z, q => by
    show tPairs ((tC (.str x), tE K F W f) :: trsOf K F W fs) σ H Q
    unfold tPairs
    refine ⟨π, A, ε, _, Z, R, w, z, fun d v H1 pd g1 j1 b1 => ?_⟩
    refine pairs_run (fs := fs) (acc := acc ++ [(.inr x, d)]) (accv := accv ++ [(.inr x, v)]) (R.grow g1 j1) (w.grow g1) (by simp [hk]) (by
      simp only [List.map_append, List.map_cons, List.map_nil]
      exact (hd.mono g1 R.am fun _ z => z).app (.one b1)) pd fun kvs kws more H' p g j e1 e2 e3 e4 => ?_
    have := q kvs kws ((.inr x, v) :: more) H' p (g1.trans g) j (by rw [e1, List.append_assoc]; rfl) (by simp [e2]) e3 e4
    exact this
theorem mergeK_nodup : ∀ {more kvs : List (Key × V)}, ((kvs ++ more).map (·.1)).Nodup → mergeK kvs more = kvs ++ more
  | [], kvs, _ => by simp [mergeK]
  | p :: more, kvs, h => by
    show mergeK (putK kvs p.1 p.2) more = _
    have hn : (kvs.any fun kv => decide (kv.1 = p.1)) = false := by
      rw [List.any_eq_false]
      intro kv hkv hc
      have hc' : kv.1 = p.1 := by simpa using hc
      rw [List.map_append, List.nodup_append] at h
      exact h.2.2 kv.1 (List.mem_map.mpr ⟨kv, hkv, rfl⟩) p.1 (by simp) hc'
    have e : putK kvs p.1 p.2 = kvs ++ [p] := by
      unfold putK
      rw [hn]
      simp
    rw [e, mergeK_nodup (by simpa using h)]
    simp
theorem doDct {keys : List (Option Expr)} {values : List Expr} {fs : List (Str × WE)} (hd : (fs.map (·.1)).Nodup) (hl : fs.length ≤ 15) (p : PE X e (tDisp (trsOf X.K F W fs))) : PE X e (tO X.K F W (oDct fs)) :=
  imE p fun σ H Q ⟨π, A, ε, P, Z, R, w, z, q⟩ a ha => by
    have w' : XW X.K F W (fun b => A b ∨ b = a) σ (upd H a (.dK [])) Z := fun x cls dd H' zx g j e => w x cls dd H' zx (by
      intro b o hb nb
      exact g b o (by rw [upd_ne (ne_of_none hb ha)]; exact hb) nb) j (e.mono fun _ z => .inl z)
    refine pairs_run (π := π) (acc := []) (accv := []) (R.wide (p := a) (u := .dK []) ha) w' rfl .nil z fun kvs kws more H2 pk g j e1 e2 e3 e4 => ?_
    have nm : ¬ F.m.M a := fun z => (R.fresh ha).2 (R.am a z)
    refine ⟨g a _ upd_same nm, kws, ?_, ?_, ?_⟩
    · rw [e1]; rfl
    · have : kws.length = fs.length := by
        have := congrArg List.length e2
        rw [e1]
        simpa using this
      omega
    · have nd : (kws.map (·.1)).Nodup := by
        have : kws.map (·.1) = fs.map (fun p => (Sum.inr p.1 : Key)) := by rw [e1]; simpa using e2
        rw [this]
        have : fs.map (fun p => (Sum.inr p.1 : Key)) = (fs.map (·.1)).map Sum.inr := by simp
        rw [this]
        exact List.Pairwise.map _ (fun _ _ n e => n (Sum.inr.inj e)) hd
      rw [mergeK_nodup (by simpa using nd), List.nil_append]
      refine q _ a _ pk (fun b o hb nb => ?_) (F.m.st H2 _ (fun b z => upd_ne fun q => nm (q ▸ z)) j) ha ⟨kws, upd_same, e3, e4.keep (.put (.inr rfl))⟩
      have hba := ne_of_none hb ha
      rw [upd_ne hba]
      exact g b o (by rw [upd_ne hba]; exact hb) nb
end
end DW
namespace DW
open PySem PySem.Spec
open PyProof.Rows L2 Builtin Builtin.ObjectAttr
/-! ### own exception classes, over ValueError and over LookupError -/
structure EC (K : PySem.W.Frag) (C : Addr) (B newId initId : String) (bmB : List Value) : Prop where
  eb : ExcBaseFacts B newId initId bmB
  kx : PySem.W.KxsFacts B initId
  st : StoreFacts B bmB "object.__setattr__" "object"
  ini : PySem.W.excInitIn K C bmB newId = true
  ov : PySem.W.excOver K C bmB = true
  hd : (PySem.W.hasDictIn K C) = true
  sa : PySem.W.findIn K (Value.ref C) "__setattr__" = some (some (.builtin "object.__setattr__"))
  ga : PySem.W.findIn K (Value.ref C) "__getattribute__" = some (some (.builtin "BaseException.__getattribute__"))
  gg : PySem.W.findIn K (Value.ref C) "__getattr__" = some none
  exC : PySem.W.subIn K (Value.ref C) (.type "BaseException") = some true
  isB : PySem.W.subIn K (.ref C) (.type B) = some true
  tyCl : PySem.W.typeIn K (.ref C) = some (.type "type")
  kpC : PySem.W.keepIn K (.ref C) = true
  cl : PySem.W.findIn K (.ref C) "__class__" = some (some (.builtin "object.__class__"))
  sp : PySem.W.specialIn K (.builtin "object.__class__") "__get__" = some (some (.builtin "getset_descriptor.__get__"))
  tk : PySem.W.takesIn K (.builtin "object.__class__") = some true
  mo : PySem.W.mroIn K C (.type "object") = some true
  op : PySem.W.nsIn K cStatics "thirdparty.any" = some none
def ecB (K : PySem.W.Frag) (C : Addr) (B newId : String) (bmB : List Value) : Bool :=
  PySem.W.excInitIn K C bmB newId && (PySem.W.excOver K C bmB && (PySem.W.hasDictIn K C && (decide (PySem.W.findIn K (.ref C) "__setattr__" = some (some (.builtin "object.__setattr__"))) &&
  (decide (PySem.W.findIn K (.ref C) "__getattribute__" = some (some (.builtin "BaseException.__getattribute__"))) && (decide (PySem.W.findIn K (.ref C) "__getattr__" = some none) &&
  (decide (PySem.W.subIn K (.ref C) (.type "BaseException") = some true) && (decide (PySem.W.subIn K (.ref C) (.type B) = some true) && (decide (PySem.W.typeIn K (.ref C) = some (.type "type")) && (PySem.W.keepIn K (.ref C) &&
  (decide (PySem.W.findIn K (.ref C) "__class__" = some (some (.builtin "object.__class__"))) && (decide (PySem.W.specialIn K (.builtin "object.__class__") "__get__" = some (some (.builtin "getset_descriptor.__get__"))) &&
  (decide (PySem.W.takesIn K (.builtin "object.__class__") = some true) && (decide (PySem.W.mroIn K C (.type "object") = some true) && decide (PySem.W.nsIn K cStatics "thirdparty.any" = some none))))))))))))))
theorem ec_by {K : PySem.W.Frag} {C : Addr} {B newId initId : String} {bmB : List Value} (eb : ExcBaseFacts B newId initId bmB) (kx : PySem.W.KxsFacts B initId) (st : StoreFacts B bmB "object.__setattr__" "object") (h : ecB K C B newId bmB = true) : EC K C B newId initId bmB := by
  unfold ecB at h
  simp only [decide_eq_true_eq, Bool.and_eq_true] at h
  obtain ⟨h1, h2, h3, h4, h5, h6, h7, h8, h9, h10, h11, h12, h13, h14, h15⟩ := h
  exact ⟨eb, kx, st, h1, h2, h3, h4, h5, h6, h7, h8, h9, h10, h11, h12, h13, h14, h15⟩
theorem ec_ve {K : PySem.W.Frag} {C : Addr} (h : ecB K C "ValueError" "ValueError.__new__" [.type "ValueError", .type "Exception", .type "BaseException", .type "object"] = true) :
    EC K C "ValueError" "ValueError.__new__" "ValueError.__init__" [.type "ValueError", .type "Exception", .type "BaseException", .type "object"] := ec_by PySem.F.excBase_ValueError PySem.W.kxs_ValueError PySem.F.store_ValueError h
theorem ec_le {K : PySem.W.Frag} {C : Addr} (h : ecB K C "LookupError" "LookupError.__new__" [.type "LookupError", .type "Exception", .type "BaseException", .type "object"] = true) :
    EC K C "LookupError" "LookupError.__new__" "LookupError.__init__" [.type "LookupError", .type "Exception", .type "BaseException", .type "object"] := ec_by PySem.F.excBase_LookupError PySem.W.kxs_LookupError PySem.F.store_LookupError h
section
variable {K : PySem.W.Frag} {C : Addr} {B newId initId : String} {bmB : List Value} {prog : Program} {w : World} {Ar : Around} {R : Result → Shared → Prop} {hp : Heap} {gs : Array GenState} {dr : Drawn} {tt : Nat} {os : OsState}
theorem osaFirst {name : Str} {tk : Tok} {v : Value} {x : Addr} {fv : Array Value} (T : EC K C B newId initId bmB) (X : K.In hp) (hx : hp.get? x = some { cls := .ref C, data := .fields fv }) (ha : PySem.W.findIn K (.ref C) name = some none)
    (hq : ∀ hp' tk' dx, (∀ b o, b ≠ x → hp.get? b = some o → hp'.get? b = some o) → hp.objs.size ≤ dx → dx ≠ x → hp'.get? x = some { cls := .ref C, dict := some dx, data := .fields fv } →
      hp'.Ns1 dx (fun y => if y = name then some v else none) → R (.ok (.ret .none)) ⟨hp', gs, dr, tk', os⟩) :
    codeAny (model prog w) Ar (.call (.builtin "object.__setattr__") ⟨[.ref x, .str name tk, v], []⟩) R ⟨hp, gs, dr, tt, os⟩ := by
  obtain ⟨cd, hcd, hh⟩ := PySem.W.any_some T.hd
  have ne : x ≠ hp.objs.size := Nat.ne_of_lt (Heap.lt_size hx)
  have lc : PySem.W.Looks (model prog w) hp (classData C) cd := PySem.W.looks_clsIn X hcd
  refine PySem.W.osa_openX (s := ⟨hp, gs, dr, tt, os⟩) (od := none) (r := none) T.st X ⟨hx, rfl, rfl, trivial⟩ T.ov (by unfold PySem.W.takerIn; rw [ha] <;> rfl) fun bb => ?_
  dsimp only
  cases cd with
  | mk c1 c2 c3 c4 c5 c6 c7 c8 c9 c10 c11 =>
    dsimp only at hh
    subst hh
    unfold storeInOwnDict
    unfold ownDictForStores
    repeat (first | (with_reducible refine PySem.HandSPX.store_in_new ?_ ?_) | (with_reducible refine wpAny_loadPart_at hx ?_) | (with_reducible refine lc.at ?_) | wp_step)
    · exact ⟨_, #[], _, (Heap.get?_update_ne _ _ _ _ ne.symm).trans (Heap.get?_push_at rfl rfl), rfl, fun _ z => absurd z (by simp), fun _ => rfl⟩
    · intro hp' tk' n s
      have q := Heap.get?_push_of_some ({ cls := .type "dict", data := .dict #[] } : Obj) hx
      exact hq hp' tk' _ (fun b o z e => (s.2 b (Nat.ne_of_lt (Heap.lt_size e))).trans ((Heap.get?_update_ne _ _ _ _ z).trans (Heap.get?_push_of_some _ e))) (Nat.le_refl _) ne.symm ((s.2 x ne).trans (Heap.get?_update_self _ q rfl)) n
theorem osaMore {name : Str} {tk : Tok} {v : Value} {x dx : Addr} {fv : Array Value} {m0 : Str → Option Value} {nl : List Str} (T : EC K C B newId initId bmB) (X : K.In hp) (hx : hp.get? x = some { cls := .ref C, dict := some dx, data := .fields fv })
    (hns : hp.Ns1 dx m0) (hw : Within m0 nl) (hz : nl.length ≤ 1000) (ha : PySem.W.findIn K (.ref C) name = some none)
    (hq : ∀ hp' tk', (∀ b o, b ≠ dx → hp.get? b = some o → hp'.get? b = some o) → hp'.Ns1 dx (fun y => if y = name then some v else m0 y) → R (.ok (.ret .none)) ⟨hp', gs, dr, tk', os⟩) :
    codeAny (model prog w) Ar (.call (.builtin "object.__setattr__") ⟨[.ref x, .str name tk, v], []⟩) R ⟨hp, gs, dr, tt, os⟩ := by
  obtain ⟨cd, hcd, hh⟩ := PySem.W.any_some T.hd
  obtain ⟨oD, es0, ep0, hoD, hd0, hc0⟩ := hns.count hw
  have lc : PySem.W.Looks (model prog w) hp (classData C) cd := PySem.W.looks_clsIn X hcd
  refine PySem.W.osa_openX (s := ⟨hp, gs, dr, tt, os⟩) (od := some oD) (r := none) T.st X ⟨hx, rfl, rfl, hoD⟩ T.ov (by unfold PySem.W.takerIn; rw [ha] <;> rfl) fun bb => ?_
  dsimp only
  cases cd with
  | mk c1 c2 c3 c4 c5 c6 c7 c8 c9 c10 c11 =>
    dsimp only at hh
    subst hh
    unfold storeInOwnDict
    unfold ownDictForStores
    repeat (first | (with_reducible refine PySem.OEX.store_in_old hns hw hz ?_) | (with_reducible refine wpAny_loadPart_at hx ?_) | (with_reducible refine lc.at ?_) | wp_step)
    intro hp' tk' n s
    exact hq hp' tk' (fun b o z e => (s.2 b z).trans e) n
end
/-! ### self.f = v, over the abstract heap -/
section
variable {X : Cx} {pins : List (Addr × Obj)} {σ : L2.St} {H : Hp} {s : Shared} {a C dx : Addr} {f : Str} {y : V} {u : Value} {fs : List (Str × V)} {Q : Unit → Shared → Prop} {E : Value → Shared → Prop} {Ar : Around} {B newId initId : String} {bmB : List Value}
abbrev exRec (C t1 : Addr) (d : Option Addr) : Obj := { cls := .ref C, dict := d, data := .fields #[.ref t1, .none, .none, .none, .bool false, .none] }
theorem stFirst (T : EC X.K C B newId initId bmB) (I : Inv X pins σ H s) (e : H a = some (exo a C none)) (hno : PySem.W.findIn X.K (.ref C) f = some none) (ry : RelV y u)
    (h : ∀ dx s', H dx = none → dx ≠ a → Inv X pins σ (upd (upd H dx (exd dx [(f, y)])) a (exo a C (some dx))) s' → Q () s') : wpAny (model X.prog X.w) Ar (setAttr (.ref a) f u) Q E s := by
  obtain ⟨t1, ho⟩ := exo_at (hok := I.hok) (he := e)
  cases s with
  | mk hp gs dr tt os =>
    refine PySem.W.set_plain (ox := exRec C t1 none) (od := none) I.kIn ⟨ho, rfl, rfl, trivial⟩ T.sa (osaFirst T I.kIn ho hno fun hp' tk' dx k dn dne hx hn => ?_)
    have fr : H dx = none := I.hok.fresh dn
    have far : ∀ b o, hp.get? b = some o → b ≠ dx := fun b o q z => absurd (Heap.lt_size q) (by rw [z]; exact Nat.not_lt.mpr dn)
    have off : ∀ b, H b = none → b ≠ a := fun b n z => by rw [z, e] at n; cases n
    have two : ∀ b o, H b = some o → exo a C none ≠ o → b ≠ a ∧ b ≠ dx := fun b o q d => ⟨at_ne e q d, fun z => by rw [z, fr] at q; cases q⟩
    have same : ∀ b, b ≠ a → b ≠ dx → upd (upd H dx (exd dx [(f, y)])) a (exo a C (some dx)) b = H b := fun b h1 h2 => by rw [upd_ne h1, upd_ne h2]
    refine h dx _ fr dne (I.un (t' := tk') ⟨fun b o q n _ _ => k b o (off b n) q, fun b o q n _ _ => ⟨o.slots, k b o (off b n) q⟩, fun b o q n _ => (same b (off b n) (far b o q)).trans n, fun b o q _ => ?_,
      fun b xs q => (same b (two b _ q exo_tup).1 (two b _ q exo_tup).2).trans q, fun b o v q => (same b (two b _ q exo_frz).1 (two b _ q exo_frz).2).trans q,
      fun b ps q => ⟨#[], by rw [same b (two b _ q exo_tbl).1 (two b _ q exo_tbl).2, q, Array.append_empty]⟩⟩ fun b o q => ?_)
    · by_cases z : b = a
      · exact ⟨_, z ▸ hx⟩
      · exact ⟨o, k b o z q⟩
    · by_cases z1 : b = a
      · subst z1
        rw [upd_same] at q; cases q
        exact exo_ok hx
      · by_cases z2 : b = dx
        · subst z2
          rw [upd_ne z1, upd_same] at q; cases q
          exact exd_ok hn (relO_put (fs := []) ry fun _ => True.intro)
        · rw [same b z1 z2] at q
          refine (I.hok b o q).stay (fun c v hc r => k c v ?_ r) (fun c hc => (same c (two c _ hc exo_own).1 (two c _ hc exo_own).2).trans hc) fun c xs hc => (same c (two c _ hc exo_tup).1 (two c _ hc exo_tup).2).trans hc
          rcases hc with hc | hc
          · rw [hc]; exact z1
          · exact (two c _ hc exo_own).1
theorem stMore (T : EC X.K C B newId initId bmB) (I : Inv X pins σ H s) (e : H a = some (exo a C (some dx))) (ed : H dx = some (exd dx fs)) (hl : fs.length ≤ 900) (hno : PySem.W.findIn X.K (.ref C) f = some none) (ry : RelV y u)
    (h : ∀ s', Inv X pins σ (upd H dx (exd dx ((f, y) :: fs))) s' → Q () s') : wpAny (model X.prog X.w) Ar (setAttr (.ref a) f u) Q E s := by
  obtain ⟨t1, ho⟩ := exo_at (hok := I.hok) (he := e)
  obtain ⟨mA, hns, rel⟩ := exd_at (hok := I.hok) (he := ed)
  have hw := within_of rel
  cases s with
  | mk hp gs dr tt os =>
    obtain ⟨oD, es0, ep0, hoD, hd0, hc0⟩ := hns.count hw
    refine PySem.W.set_plain (ox := exRec C t1 (some dx)) (od := some oD) I.kIn ⟨ho, rfl, rfl, hoD⟩ T.sa (osaMore T I.kIn ho hns hw (by rw [List.length_map]; omega) hno fun hp' tk' k hn => ?_)
    have hd : ∃ o, hp'.get? dx = some o := let ⟨o, _, _, q, _⟩ := hn; ⟨o, q⟩
    exact h _ (I.write (x := dx) (e := dx) (o := exd dx ((f, y) :: fs)) (t' := tk') (by rw [ed]; exact True.intro) (.inl rfl) k hd (exd_ok hn (relO_put ry rel)))
end
end DW
namespace DW
open PySem PySem.Spec
open PyProof.Rows L2 NdefX
/-! ### super().__init__(..) -/
section
variable {X : Cx} {pins : List (Addr × Obj)} {σ : L2.St} {H : Hp} {s : Shared} {a C u : Addr} {d : Option Addr} {us : List Value} {Q : Value → Shared → Prop} {E : Value → Shared → Prop} {Ar : Around} {B newId initId : String} {bmB : List Value}
theorem callMw (T : EC X.K C B newId initId bmB) (I : Inv X pins σ H s) (e : H a = some (exo a C d)) (hu : s.heap.get? u = some (PySem.W.kxs_mw initId a)) (hl : us.length ≤ sizeLine) (h : ∀ s', Inv X pins σ H s' → Q .none s') :
    wpAny (model X.prog X.w) Ar (call (.ref u) us) Q E s := by
  obtain ⟨t1, he⟩ := exo_at I.hok e
  obtain ⟨nm, N', qn, bs, bm, hdct, sn, sub, ab, col, dd, k0, k1, k2, k3, k5, hC, hT⟩ := PySem.W.excInit_of I.kIn T.ini
  cases s with
  | mk hp gs dr tt os =>
    refine wpAny_call ?_
    refine codeAny_of_tree ?_
    show wpAny _ Ar.in1 (callAny (.ref u) ⟨us, []⟩) _ _ _
    unfold callAny
    refine wpAny_bind ?_
    refine wpAny_load hu ?_
    have c1 : (Value.type "method-wrapper" == Value.type "method" || Value.type "method-wrapper" == Value.type "builtin_function_or_method" || Value.type "method-wrapper" == Value.type "method-wrapper") = true := by decide
    simp only [PySem.W.kxs_mw, c1, if_true]
    refine PySem.W.KFB.if_so (by decide) (wpAny_bind (PySem.W.check_bound_init T.eb.toExcCallFacts hC he rfl ?_))
    refine wpAny_bind (wpAny_pure (wpAny_pure ⟨plainId_quiet T.eb.init.plain _, codeAny_builtin T.eb.initEntry ?_⟩))
    refine PySem.W.exc_init_tree (cls := .ref C) (t0 := t1) (dv := d) (c2 := .none) (c3 := .none) (b4 := .bool false) he hl fun hp' k e' _ => ?_
    have J := I.write (t' := tt) (x := a) (e := a) (o := exo a C d) (by rw [e]; exact True.intro) (.inl rfl) k ⟨_, e'⟩ (exo_ok e')
    have eu : upd H a (exo a C d) = H := funext fun b => by
      by_cases z : b = a
      · rw [z, upd_same, e]
      · rw [upd_ne z]
    rw [eu] at J
    exact h _ J
end
/-- the words of an own exception's __init__ -/
abbrev iNF (name qual : Str) (params : Arguments) (body : List Stmt) (scope : Scope) (cc cda : Addr) : NF := ⟨name, qual, params, body, scope, [(("__class__" : Str), cc)], cda⟩
/-- what the written part says of it: fI its def, cc the cell of its class, cda its code -/
structure InC (K : PySem.W.Frag) (mg : Str → Option Value) (P : Program) (C fI : Addr) (fd : FuncData) (F : NF) (cc : Addr) (initId : String) : Prop where
  cl : F.cl = [(("__class__" : Str), cc)]
  lk : ∃ (oc : Value) (od : Option Addr) (an : Option Addr) (dV kV doc pm ct : Value) (osl : Array (Option Value)), K.lookup fI = some ⟨oc, od, .func fd, osl⟩ ∧ fd = PySem.W.ksFn F.name F.qual F.params F.body F.scope dV kV doc pm an (.ref F.c) ct cc
  code : ∃ (ccl : Value) (cdd : Option Addr) (vs : Array Value) (ccs : Array (Option Value)) (file : Str) (tf : Tok), K.lookup F.c = some ⟨ccl, cdd, .fields vs, ccs⟩ ∧ vs[2]? = some (.str file tf) ∧ ((P.main.file : Str) == file) = true
  cell : ∃ (cl : Value) (cld : Option Addr) (csl : Array (Option Value)), K.lookup cc = some ⟨cl, cld, .cell (some (.ref C)), csl⟩
  sup : PySem.W.ks_superIn K C C "__init__" = some (some (.builtin initId))
  mro : PySem.W.mroIn K C (.ref C) = some true
  ms : mg "super" = none
  ks : F.scope.names.lookup ("super" : Str) = some .globalImplicit
  kc : F.scope.names.lookup ("__class__" : Str) = some .free
  kS : F.scope.names.lookup ("self" : Str) = some .local
  par : (F.params.posonlyargs ++ F.params.args).head?.map (·.arg) = some ("self" : Str)
  kd : F.scope.kind = .function
  top : (P.main.scope.names.lookup ("super" : Str)).isSome = false
section
variable {CX : CXT} {P : Program} {w : World} {K : PySem.W.Frag} {mg : Str → Option Value} {base : Heap} {N ps : List Str} {F : NF} {fd : FuncData} {fI cc C a : Addr} {Ar : Around} {outer : List Env} {s0 s : Shared} {H0 H : Hp} {E : XK} {σ : L2.St} {B newId initId : String} {bmB : List Value}
  {p0 p1 p2 pos : Pos} {e : Expr} {es : List Expr} {ta : TA} {D : Ends} {body rest : List Stmt}
theorem superStep (T : EC K C B newId initId bmB) (N_ : InC K mg P C fI fd F cc initId) (hN : N[0]? = some ("self" : Str)) (I : Inv (ncx CX P w K mg base N F fI Ar outer s0 H0 E) [] σ H s) (h0 : σ[0]? = some (some (.ref a))) (e0 : H a = some (exo a C none))
    (ha : PA (ncx CX P w K mg base N F fI Ar outer s0 H0 E) (e :: es) ta) (q : ta σ H fun vs H1 => vs.length ≤ 1000 ∧ H1 a = some (exo a C none) ∧ D.nx σ H1)
    (he : starEach (e :: es) (envF F fI s0.heap.objs.size) = (false, eval e (envF F fI s0.heap.objs.size)) :: starEach es (envF F fI s0.heap.objs.size) := by rfl) (hpl : (backTo pos (starEach es (envF F fI s0.heap.objs.size))).any (·.1) = false := by rfl)
    {pl : Sem Bool} (hc : eval (.Call (.Attribute (.Call (.Name "super" p0) [] [] p1) "__init__" p2) (e :: es) [] pos) (envF F fI s0.heap.objs.size) = (do
      let ov ← attributeBase (.Call (.Name "super" p0) [] [] p1) "__init__" (envF F fI s0.heap.objs.size) (eval (.Call (.Name "super" p0) [] [] p1) (envF F fI s0.heap.objs.size))
      standAt p2.atName
      let (f, first) ← holding [ov] (getMethod (ov) "__init__" pl)
      callWith pos f first (backTo pos (starEach (e :: es) (envF F fI s0.heap.objs.size))) []) := by rfl)
    (hi : interactive (envF F fI s0.heap.objs.size) = false := by rfl) (hs : swapsWith (.Call (.Attribute (.Call (.Name "super" p0) [] [] p1) "__init__" p2) (e :: es) [] pos) none pos.line (envF F fI s0.heap.objs.size) = pure false := by rfl) :
    _root_.PySem.wpAt (model P w) (Ar.deeper (envF F fI s0.heap.objs.size)) (.func F.body (envF F fI s0.heap.objs.size)) (exec (.Expr (.Call (.Attribute (.Call (.Name "super" p0) [] [] p1) "__init__" p2) (e :: es) [] pos) pos) (envF F fI s0.heap.objs.size))
      (SP (ncx CX P w K mg base N F fI Ar outer s0 H0 E) [] D) (ncx CX P w K mg base N F fI Ar outer s0 H0 E).xe s := by
  obtain ⟨oc, od, an, dV, kV, doc, pm, ct, osl, lk, rfl⟩ := N_.lk
  obtain ⟨ccl, cdd, vs, ccs, file, tf, lc, hv2, hfile⟩ := N_.code
  obtain ⟨cl, cld, csl, lcell⟩ := N_.cell
  obtain ⟨ar, har, hself⟩ := Option.map_eq_some_iff.mp N_.par
  obtain ⟨t1, ho⟩ := exo_at I.hok e0
  obtain ⟨cdC, hcd, _⟩ := PySem.W.any_some T.hd
  have KI : K.In s.heap := I.kIn
  have hkS : (envF F fI s0.heap.objs.size).kindOf "self" = some .local := N_.kS
  obtain ⟨m, hns, hl⟩ := id I.loc
  have vs0 : m "self" = some (.ref a) := by
    obtain ⟨u, ru, l⟩ := hl 0 "self" _ hN h0 (.inl N_.kS)
    obtain rfl : u = (Value.ref a : Value) := ru
    rcases l with l | ⟨k, _⟩
    · exact l.2
    · have k : F.scope.names.lookup ("self" : Str) = some .cell ∨ F.scope.names.lookup ("self" : Str) = some .free := k
      rw [N_.kS] at k
      rcases k with k | k <;> cases k
  obtain ⟨oC, hC1, hC2⟩ : ∃ oC, s.heap.get? C = some oC ∧ oC.data = .cls cdC := by
    unfold PySem.W.clsIn at hcd
    split at hcd
    · rename_i ho
      cases hcd
      exact ⟨_, KI _ _ ho, rfl⟩
    · cases hcd
  have IA : PySem.W.InstAt s.heap a (exRec C t1 none) C none := ⟨ho, rfl, rfl, trivial⟩
  refine ks_wpAt_Expr_any (ks_wpAt_MethodCall ?_ hc) hi hs
  have hcl := N_.cl
  obtain ⟨Fn, Fq, Fp, Fb, Fs, Fcl, Fc⟩ := F
  dsimp only at hcl lk lc hkS N_ har
  subst hcl
  refine ks_wpAt_super_base (env := envF (iNF Fn Fq Fp Fb Fs cc Fc) fI s0.heap.objs.size) N_.ks N_.kc (by decide) rfl (KI _ _ lk) rfl har rfl (KI _ _ lc) rfl hv2 hfile N_.top ?_
  have hb := I.mod.blt
  obtain ⟨mb, hb1, hb2⟩ := hb
  refine PySem.W.ks_loadName_global N_.kd N_.ks (Calls.loadGlobal_builtin (env := envF (iNF Fn Fq Fp Fb Fs cc Fc) fI s0.heap.objs.size) (I.mod.glob.keeps I.bk) N_.ms (hb1.keeps I.bk) ((hb2 "super" (by decide)).trans (show bootBuiltins "super" = some (.type "super") from by first | boot_by_name | rfl | kernel_rfl)) ⟨rfl, ?_⟩)
  refine wpAny_loadName_free N_.kd N_.kc rfl ⟨_, KI _ _ lcell, rfl⟩ ?_
  rw [hself]
  refine wpAny_loadName_local N_.kd N_.kS hns vs0 ?_
  refine ks_wpAny_isType_cls hC1 hC2 ⟨rfl, ?_⟩
  cases s with
  | mk hp gs dr tt os =>
    refine ks_wpAny_call_super hC1 hC2 ho rfl (fun c e => by cases e) (PySem.W.looks_mroIn KI N_.mro) (fun hp' hso k => ?_)
    have I1 := I.kept (t' := tt) k
    obtain ⟨ho1, ho2⟩ := (⟨k _ _ ho, trivial⟩ : hp'.get? a = _ ∧ True)
    have IA1 : PySem.W.InstAt hp' a (exRec C t1 none) C none := ⟨ho1, rfl, rfl, trivial⟩
    have sup := N_.sup
    unfold PySem.W.ks_superIn at sup
    rw [hcd] at sup
    have KI1 : K.In hp' := I1.kIn
    refine PySem.W.kxs_getMethod T.kx (l₀ := cdC.mro) hso (PySem.W.looks_opaque KI1 T.op) (fun A Q E s k q => wpAny_bind ((PySem.W.looks_clsIn KI1 hcd) A _ E s k (wpAny_pure q))) rfl KI1 sup (IA1.type.andThen (PySem.W.looks_subIn KI1 T.isB)) (PySem.W.ks_ne KI1 IA1 hcd) (by decide) ?_
    have I2 : Inv _ [] σ H ⟨hp'.push (PySem.W.kxs_mw initId a), gs, dr, tt + 1, os⟩ := I1.kept (h' := hp'.push (PySem.W.kxs_mw initId a)) (t' := tt + 1) fun b o z => Heap.get?_push_of_some _ z
    have hu : (hp'.push (PySem.W.kxs_mw initId a)).get? hp'.objs.size = some (PySem.W.kxs_mw initId a) := Heap.get?_push_at rfl rfl
    have I3 := I2.pins_of (pins' := [(hp'.objs.size, PySem.W.kxs_mw initId a)]) fun p hp => by
      obtain rfl : p = _ := List.mem_singleton.mp hp
      exact ⟨hu, I1.hok.fresh (Nat.le_refl _), Nat.ne_of_gt I1.lt, I1.nofs (Nat.le_refl _), fun v z => by cases z⟩
    rw [he]
    refine PySem.W.kxs_callWith (i := initId) (x := a) (by show (false || (backTo pos (starEach es (envF (iNF Fn Fq Fp Fb Fs cc Fc) fI s0.heap.objs.size))).any (·.1)) = false; rw [hpl]; rfl) (PySem.Calls.evalArgs_plain ?_)
    have hrun : wpAny (model P w) (Ar.deeper (envF (iNF Fn Fq Fp Fb Fs cc Fc) fI s0.heap.objs.size)) (spliced (backTo pos (starEach (e :: es) (envF (iNF Fn Fq Fp Fb Fs cc Fc) fI s0.heap.objs.size)))) _ _ _ := ha.run pos _ _ σ H _ I3 q
    rw [he] at hrun
    refine thn hrun fun us s1 ⟨vs1, H1, J1, r1, hz, e1, nx⟩ => ?_
    refine ⟨(J1.pin _ (List.mem_append_right _ (List.mem_singleton.mpr rfl))).1, ?_⟩
    refine callMw T J1 e1 (J1.pin _ (List.mem_append_right _ (List.mem_singleton.mpr rfl))).1 (by show us.length ≤ sizeLine; rw [← Paired.length r1, sizeLine_eq]; omega) fun s' J2 => ?_
    exact ⟨σ, H1, J2.pins_of fun p hp => absurd hp (by simp), nx⟩
/-- an own exception's __init__ keeps its promise -/
theorem init_ok {k : Nat} {sp : Sp} (T : EC K C B newId initId bmB) (N_ : InC K mg P C fI fd F cc initId) (hcd : PySem.W.codeIn K (.ref F.c) F.qual = true) (S : NScope N ps [("__class__" : Str)] F.scope) (hN : N[0]? = some ("self" : Str)) (len : ∀ vs H Q E, sp vs H Q E → vs.length = ps.length)
    (hF : F.body = .Expr (.Call (.Attribute (.Call (.Name "super" p0) [] [] p1) "__init__" p2) (e :: es) [] pos) pos :: rest)
    (hbody : ∀ (Ar : Around) (outer : List Env) (s : Shared) (H : Hp) (vs : List V) (Q : VK) (E : XK), Room k (Ar.deeper (envF F fI s.heap.objs.size)) → sp vs H Q E → ∃ (a : Addr) (ta : TA) (t : TS), vs[0]? = some (.ref a) ∧ H a = some (exo a C none) ∧
      PA (ncx CX P w K mg base N F fI Ar outer s H E) (e :: es) ta ∧ PSs (ncx CX P w K mg base N F fI Ar outer s H E) rest t ∧
      ta (startF N vs [none]) H fun ws H1 => ws.length ≤ 1000 ∧ H1 a = some (exo a C none) ∧ t { nx := fun _ H' => Q .non H', rt := Q } (startF N vs [none]) H1)
    (he : ∀ L, starEach (e :: es) (envF F fI L) = (false, eval e (envF F fI L)) :: starEach es (envF F fI L) := by intro L; rfl) (hpl : ∀ L, (backTo pos (starEach es (envF F fI L))).any (·.1) = false := by intro L; rfl)
    {pl : Sem Bool} (hc : ∀ L, eval (.Call (.Attribute (.Call (.Name "super" p0) [] [] p1) "__init__" p2) (e :: es) [] pos) (envF F fI L) = (do
      let ov ← attributeBase (.Call (.Name "super" p0) [] [] p1) "__init__" (envF F fI L) (eval (.Call (.Name "super" p0) [] [] p1) (envF F fI L))
      standAt p2.atName
      let (f, first) ← holding [ov] (getMethod (ov) "__init__" pl)
      callWith pos f first (backTo pos (starEach (e :: es) (envF F fI L))) []) := by intro L; rfl)
    (hi : ∀ L, interactive (envF F fI L) = false := by intro L; rfl) (hs : ∀ L, swapsWith (.Call (.Attribute (.Call (.Name "super" p0) [] [] p1) "__init__" p2) (e :: es) [] pos) none pos.line (envF F fI L) = pure false := by intro L; rfl) :
    FnOk P w K mg base CX (k + 1) fI fd ps sp := by
  obtain ⟨oc, od, an, dV, kV, doc, pm, ct, osl, lk, hfd⟩ := id N_.lk
  refine ⟨len, fun Ar outer s H args us vs Q E hr e0 hb r hsp => ?_⟩
  have hl := len _ _ _ _ hsp
  have KX : K.In s.heap := e0.mod.kin.keeps (fun b o z => (e0.bs b o z).1)
  have lim : s.heap.NoLimit := e0.mod.nolimit.keeps (fun b o z => (e0.bs b o z).1)
  obtain ⟨cl, cld, csl, lcell⟩ := N_.cell
  obtain ⟨a, ta, t, v0, ea, ha, ht, q⟩ := hbody Ar outer s H vs Q E (hr.deeper _) hsp
  have CA : CellsAt F.cl [("__class__" : Str)] [none] s.heap H := by
    rw [N_.cl]
    have one : ∀ y c, List.lookup y [(("__class__" : Str), cc)] = some c → y = ("__class__" : Str) ∧ c = cc := fun y c z => by
      have z := PySem.mem_of_lookup z
      simpa using z
    refine ⟨rfl, fun y c z => ?_, fun x y c z1 z2 => (one x c z1).1.trans (one y c z2).1.symm, fun i y z => ?_⟩
    · obtain ⟨_, rfl⟩ := one y c z
      have q := e0.bs _ _ (e0.mod.kin _ _ lcell)
      exact ⟨q.2, _, _, q.1, rfl⟩
    · match i with
      | 0 =>
        simp at z
        subst z
        exact ⟨cc, by simp [List.lookup], fun v hv => by simp at hv⟩
      | i + 1 => simp at z
  have hz : fd.scope = F.scope ∧ fd.body = .stmts F.body ∧ fd.code = .ref F.c ∧ fd.qualname = F.qual ∧ (∀ L, callEnv fd L fI = envF F fI L) := by
    have c := N_.cl
    subst hfd
    obtain ⟨f1, f2, f3, f4, f5, f6, f7⟩ := F
    dsimp only at c
    subst c
    exact ⟨rfl, rfl, rfl, rfl, fun _ => rfl⟩
  obtain ⟨z1, z2, z3, z4, z5⟩ := hz
  refine ks_codeAny_call_defAt (fd := fd) (body := F.body) (binds := ps.zip us) hr.depth (KX _ _ lk) rfl lim (by rw [z3, z4]; exact PySem.W.codeRec_of KX hcd) z2 hb (by rw [z1]; exact S.nocell) (fun x hx => by rw [z1]; exact S.par x.1 (List.of_mem_zip hx).1) (fun h₁ hns kp => ?_) (by rw [z1]; exact S.co) (by rw [z1]; exact S.gen) (by rw [z1]; exact S.kind)
  rw [z5]
  have I : Inv (ncx CX P w K mg base N F fI Ar outer s H E) [] (startF N vs [none]) H { s with heap := h₁, toks := s.toks + (ps.zip us).length } := inv_startN S hr.hd e0 hl r CA hns kp
  have s0 : (startF N vs [none])[0]? = some (some (.ref a)) := by
    unfold startF
    cases vs with
    | nil => simp at v0
    | cons v vs => simp at v0; subst v0; rfl
  rw [show execs F.body (envF F fI s.heap.objs.size) = execs (.Expr (.Call (.Attribute (.Call (.Name "super" p0) [] [] p1) "__init__" p2) (e :: es) [] pos) pos :: rest) (envF F fI s.heap.objs.size) from by rw [hF]]
  have fin : ∀ {σ' : L2.St} {H' : Hp} {v : V} {u : Value} {s' : Shared}, Inv (ncx CX P w K mg base N F fI Ar outer s H E) [] σ' H' s' → L2.RelV v u → Q v H' → CE outer P w H s Q u s' :=
    fun {σ' H' v u s'} J rv q => ⟨v, H', J.os, J.bare, J.base, J.hok, rv, q⟩
  have first := superStep (D := { nx := t { nx := fun _ H' => Q .non H', rt := Q }, rt := fun _ _ => False }) (pl := pl) T N_ hN I s0 ea ha q (he _) (hpl _) (hc _) (hi _) (hs _)
  refine ks_wpAt_execs_cons (_root_.PySem.wpAt_mono first (fun fl s' h => ?_) fun _ _ h => h)
  cases fl with
  | brk =>
    obtain ⟨_, _, _, z⟩ := h
    exact z.elim
  | cont =>
    obtain ⟨_, _, _, z⟩ := h
    exact z.elim
  | ret u =>
    obtain ⟨_, _, _, _, _, z⟩ := h
    exact z.elim
  | next =>
    obtain ⟨σ', H', J, z⟩ := h
    refine _root_.PySem.wpAt_of_wpAny (wpAny_mono (ht.run [] s' σ' H' _ J z) (fun fl s2 hs2 => ?_) fun e s' hs => hs)
    cases fl with
    | ret u =>
      obtain ⟨v, _, H2, J2, rv, q2⟩ := hs2
      exact fin J2 rv q2
    | next =>
      obtain ⟨_, H2, J2, q2⟩ := hs2
      exact fin (v := V.non) (u := Value.none) J2 rfl q2
    | brk =>
      obtain ⟨_, _, _, q2⟩ := hs2
      exact q2.elim
    | cont =>
      obtain ⟨_, _, _, q2⟩ := hs2
      exact q2.elim
end
end DW
namespace DW
open PySem PySem.Spec
open PyProof.Rows L2 NdefX
/-! ### texts of errors: some text, not too long -/
def Short (y : Str) : Prop := y.length ≤ 1000 ∧ ∀ c ∈ y.cps.toList, c < 0x110000
theorem hex {y : Str} (h : ∀ c ∈ y.cps.toList, c < 0x110000) : ∀ c ∈ y.cps.toList, c < 16 ^ 8 := fun c hc => Nat.lt_trans (h c hc) (by decide)
/-- a part of an f-string: some text of at most a hundred thousand signs, where ok says so -/
def tSm (ok : L2.St → Hp → Prop) : TE := fun σ H Q => ok σ H ∧ ∀ m : Str, m.length ≤ 100000 → Q (.str m) H
section
variable {X : Cx} {e : Expr} {es : List Expr} {pos p : Pos} {i : Nat}
theorem smCon {x : Str} {j : Nat} (h : x.length ≤ 100000 := by decide +kernel) : PE X (.Constant (.str x) j p) (tSm fun _ _ => True) := imE pe_str fun σ H Q ⟨_, z⟩ => z x h
theorem smRep (he : PE X e (tVar i)) : PE X (.FormattedValue e 114 none pos) (tSm fun σ _ => ∃ y, σ[i]? = some (some (.str y)) ∧ Short y) :=
  imE (pe_fmtR he) fun σ H Q ⟨⟨y, h1, h2, h3⟩, z⟩ => ⟨_, h1, .inl ⟨y, rfl, Nat.le_trans (StrLaws.reprText_len y (hex h3)) (by rw [sizeLine_eq]; omega), z _ (Nat.le_trans (StrLaws.reprText_len y (hex h3)) (by omega))⟩⟩
theorem smInt (he : PE X e (tVar i)) : PE X (.FormattedValue e (-1) none pos) (tSm fun σ _ => ∃ n : Int, σ[i]? = some (some (.int n)) ∧ n.natAbs.log2 < 1920 ∧ (toString n : Str).length ≤ 100000) :=
  imE (pe_fmt he) fun σ H Q ⟨⟨n, h1, h2, h3⟩, z⟩ => ⟨_, h1, .inr ⟨n, rfl, h2, z _ h3⟩⟩
theorem cost_le : ∀ {l : List Str}, (∀ y ∈ l, Short y) → fmtCost l ≤ 10004 * l.length
  | [], _ => Nat.zero_le _
  | y :: l, h => by
    have h1 := (h y List.mem_cons_self).1
    have h2 := cost_le (l := l) fun z hz => h z (List.mem_cons_of_mem _ hz)
    rw [fmtCost_cons, List.length_cons]
    omega
theorem smTup {k : Nat} (hr : Room k X.A) (he : PE X e (tVar i)) : PE X (.FormattedValue e (-1) none pos) (tSm fun σ H => ∃ (a : Addr) (l : List Str), σ[i]? = some (some (.ref a)) ∧ SqT X.K H a (l.map V.str) ∧ l.length ≤ 9 ∧ ∀ y ∈ l, Short y) :=
  imE (pe_fmtT hr he) fun σ H Q ⟨⟨a, l, h1, h2, h3, h4⟩, z⟩ => by
    have c := cost_le h4
    exact ⟨_, h1, a, l, rfl, h2, fun y hy => (hex (h4 y hy).2), by rw [sizeLine_eq]; omega, fun m hm => z m (by omega)⟩
/-! ### the text of a list, whatever is under way -/
theorem lrAny {M : Model} {A : Around} {E : Value → Shared → Prop} {s : Shared} {Q : Fin → Shared → Prop} {a : Addr} {o : Obj} {x : Value} {l : List Value} {n : Nat} {b : Nat} (hget : s.heap.get? a = some o) (hd : o.data = .seq (x :: l).toArray n)
    (h : wpAny M A (do again (.builtin "list.__repr__.loop" ⟨[.ref a, rawInt 0, ← newList [], rawInt b], []⟩)) Q E s) (h2 : Q (.done (.ret (.str "[...]" s.toks))) { s with toks := s.toks + 1 }) : wpAny M A (Builtin.listReprAt b ⟨[.ref a], []⟩) Q E s := by
  intro Γ p hΓ
  have h1 := h Γ p hΓ
  unfold Builtin.listReprAt
  simp [slotArgs, Builtin.List.listItems, seqItems?, PySem.Sem.wp_load_of (h := hget), hd, PySem.stack]
  show Sem.wp M Γ (if (Γ.below.any _) = true then _ else _) _ _ p s
  split
  · simp [PySem.rule, retStr, ret]
    exact h2
  · exact h1
theorem ltext (ts : List Str) : (listText ts).length ≤ piled ts + 3 := by
  have q := listText_len_le ts
  have e : ∀ l : List Str, (l.map (·.length)).sum + 2 * l.length = piled l := fun l => by
    induction l with
    | nil => rfl
    | cons y l ih => rw [piled_cons, List.map_cons, List.sum_cons, List.length_cons]; omega
  have := e ts
  omega
theorem reps_at {prog : Program} {w : World} : ∀ {l : List Str} {its : List Value}, Vals (l.map V.str) its → (∀ y ∈ l, (reprText y).length ≤ sizeLine) → ∀ (i : Nat) (v : Value), its[i]? = some v → ∃ t, (l.map reprText)[i]? = some t ∧ ReprIs prog w v t
  | [], _, r, _, i, v, e => by
    cases r
    simp at e
  | y :: l, _, r, h, i, v, e => by
    cases r with
    | cons r1 r2 =>
      obtain ⟨t, rfl⟩ := r1
      cases i with
      | zero =>
        simp at e
        subst e
        exact ⟨_, rfl, .str y t (h y List.mem_cons_self)⟩
      | succ i =>
        obtain ⟨t, h1, h2⟩ := reps_at r2 (fun z hz => h z (List.mem_cons_of_mem _ hz)) i v (by simpa using e)
        exact ⟨t, by simpa using h1, h2⟩
theorem callLr {prog : Program} {w : World} {A : Around} {E : Value → Shared → Prop} {s : Shared} {a : Addr} {o : Obj} {vs : List Value} {n : Nat} {ts : List Str} {Q : Value → Shared → Prop} (hTy : s.TypeIs (.ref a) "list") (ha : s.heap.get? a = some o) (hd : o.data = .seq vs.toArray n) (hl : ts.length = vs.length)
    (hT : ∀ (i : Nat) (y : Value), vs[i]? = some y → ∃ t, ts[i]? = some t ∧ ReprIs prog w y t) (hz : (listText ts).length ≤ sizeLine)
    (hQ : ∀ m h' u tk, m.length ≤ (listText ts).length + 5 → (∀ b o, s.heap.get? b = some o → h'.get? b = some o) → Q (.str m u) { s with heap := h', toks := tk }) : wpAny (model prog w) A (call (.builtin "list.__repr__") [.ref a]) Q E s := by
  cases vs with
  | nil =>
    refine call_list_repr_empty hTy ha (by simpa using hd) (hQ _ s.heap _ _ ?_ fun _ _ z => z)
    have : (("[]" : String) : Str).length ≤ 5 := by decide +kernel
    omega
  | cons x l =>
    refine wpAny_call (codeAny_call_builtin F.slot_list_repr.plain F.entry_list_repr (F.slot_list_repr.check _ _ _ _ _ _ _ _ hTy (F.args_list_repr_1 _) ?_))
    show wpAny _ _ (Builtin.listReprAt 0 ⟨[.ref a], []⟩) _ _ _
    refine lrAny ha hd ?_ ?_
    · refine wpAny_bind (m := newList []) (wpAny_newObj_type ?_)
      refine wpAny_pure (And.intro (F.quiet_list_repr_loop _) ?_)
      refine codeAny_list_repr_start (P := s.heap.objs.size) (ts := ts) (Nat.ne_of_lt (Heap.lt_size ha)) (by simpa using hl) (fun i y e => hT i y (by simpa using e)) (Heap.get?_push_of_some _ ha) hd (Heap.get?_push_size _ rfl) (fun h' u tk hk => ?_) (by omega)
      exact hQ _ h' u tk (by omega) fun b o e => hk b o (Nat.ne_of_lt (Heap.lt_size e)) (Heap.get?_push_of_some _ e)
    · have : (("[...]" : String) : Str).length ≤ 5 := by decide +kernel
      exact hQ _ s.heap _ _ (by omega) fun _ _ z => z
theorem smLst {k : Nat} (hr : Room k X.A) (he : PE X e (tVar i)) : PE X (.FormattedValue e (-1) none pos) (tSm fun σ H => ∃ (a : Addr) (l : List Str), σ[i]? = some (some (.ref a)) ∧ SqL X.K H a (l.map V.str) ∧ l.length ≤ 9 ∧ ∀ y ∈ l, Short y) := by
  refine ⟨fun pins s σ H Q I ⟨⟨a, l, h1, h2, h3, h4⟩, z⟩ => ?_⟩
  refine wpAny_FormattedValue_plain (thn (he.run pins s σ H (fun v H1 => v = .ref a ∧ H1 = H) I ⟨_, h1, rfl, rfl⟩) fun v s1 hv => ?_)
  obtain ⟨x, H1, I1, r1, rfl, rfl⟩ := hv
  cases r1
  obtain ⟨its, rv, ⟨o, n, ho, hc1, hc2, hc3⟩, _⟩ := I1.list h2
  have hu := hr.un
  have c := cost_le h4
  have hp := fmt_piled l fun y hy => (hex (h4 y hy).2)
  have ht := ltext (l.map reprText)
  have hlen : its.length = l.length := by rw [← Paired.length rv, List.length_map]
  refine wpAny_formatField_slot (fun _ _ => nofun) (by omega) ⟨_, ho, hc1⟩ F.slot_list_format F.slot_list_str F.slot_list_repr.toG ?_
  refine callLr (s := { s1 with toks := s1.toks + 1 }) ⟨_, ho, hc1⟩ ho hc3 (ts := l.map reprText) (by rw [List.length_map, hlen]) (reps_at rv fun y hy => Nat.le_trans (StrLaws.reprText_len y (hex (h4 y hy).2)) (by have := (h4 y hy).1; rw [sizeLine_eq]; omega)) (by rw [sizeLine_eq]; omega) fun m h' u tk hm k => ?_
  exact ⟨m, u, rfl, .str m, H1, I1.kept (t' := tk) k, ⟨u, rfl⟩, z m (by omega)⟩
end
end DW
namespace DW
open PySem PySem.Spec
open PyProof.Rows L2 NdefX
/-! ### an own exception's __init__, over data -/
theorem js_any {σ : L2.St} {H : Hp} : ∀ (oks : List (L2.St → Hp → Prop)) (acc : Str) (Q : Str → Hp → Prop), acc.length + 100000 * oks.length ≤ sizeLine → (∀ ok ∈ oks, ok σ H) → (∀ m, Q m H) → tJs (oks.map tSm) acc σ H Q
  | [], acc, Q, _, _, q => q acc
  | ok :: oks, acc, Q, hz, h, q => by
    refine ⟨h ok List.mem_cons_self, fun m hm => ⟨m, rfl, ?_, js_any oks (acc ++ m) Q ?_ (fun o ho => h o (List.mem_cons_of_mem _ ho)) q⟩⟩
    · rw [strLen_append]; rw [List.length_cons] at hz; omega
    · rw [strLen_append]; rw [List.length_cons] at hz; omega
/-- the exception at a while it is being made: what it has so far -/
def Mk1 (a C : Addr) (H0 : Hp) (gs : List (Str × V)) (H : Hp) : Prop := (∀ b o, H0 b = some o → b ≠ a → H b = some o) ∧ ((gs = [] ∧ H a = some (exo a C none)) ∨ ∃ dx, H a = some (exo a C (some dx)) ∧ H0 dx = none ∧ dx ≠ a ∧ H dx = some (exd dx gs))
/-- self.f = e -/
def tOs (a C : Addr) (f : Str) (te : TE) : TS := fun D σ H => te σ H fun y H1 => σ[0]? = some (some (.ref a)) ∧ ((H1 a = some (exo a C none) ∧ ∀ dx, H1 dx = none → dx ≠ a → D.nx σ (upd (upd H1 dx (exd dx [(f, y)])) a (exo a C (some dx)))) ∨
    ∃ (dx : Addr) (gs : List (Str × V)), H1 a = some (exo a C (some dx)) ∧ H1 dx = some (exd dx gs) ∧ gs.length ≤ 900 ∧ D.nx σ (upd H1 dx (exd dx ((f, y) :: gs))))
section
variable {X : Cx} {a C : Addr} {e o : Expr} {te : TE} {f : Str} {p' pos : Pos} {B newId initId : String} {bmB : List Value}
theorem psSelf (T : EC X.K C B newId initId bmB) (hno : PySem.W.findIn X.K (.ref C) f = some none) (ho : PE X o (tVar 0)) (he : PE X e te) (hs : swapsWith e (some (.Attribute o f p')) pos.line X.env = pure false := by rfl) : PS X (.Assign [.Attribute o f p'] e pos) (tOs a C f te) := by
  constructor
  intro pins s σ H D I h
  refine plainObj_wpAny_Assign_Attribute (thn (he.run pins s σ H _ I h) fun v s1 ⟨y, H1, I1, r1, h0, q1⟩ => thn (ho.run pins s1 σ H1 (fun x H2 => x = .ref a ∧ H2 = H1) I1 ⟨_, h0, rfl, rfl⟩) fun u s2 ⟨x, H2, I2, r2, e1, e2⟩ => ?_) hs
  subst e1 e2
  obtain rfl : u = (Value.ref a : Value) := r2
  rcases q1 with ⟨ea, q⟩ | ⟨dx, gs, ea, ed, hl, q⟩
  · exact stFirst T I2 ea hno r1 fun dx s' n ne J => ⟨σ, _, J, q dx n ne⟩
  · exact stMore T I2 ea ed hl hno r1 fun s' J => ⟨σ, _, J, q⟩
theorem osStep {H0 H : Hp} {gs : List (Str × V)} {D : Ends} {σ : L2.St} (S : Mk1 a C H0 gs H) (h0 : σ[0]? = some (some (.ref a))) (hl : gs.length ≤ 900) (te_mono : ∀ {Q Q' : VK}, (∀ v H, Q v H → Q' v H) → te σ H Q → te σ H Q') (q : te σ H fun y H1 => Mk1 a C H0 gs H1 ∧ ∀ H2, Mk1 a C H0 ((f, y) :: gs) H2 → D.nx σ H2) : tOs a C f te D σ H :=
  te_mono (fun y H1 ⟨S1, k⟩ => by
    refine ⟨h0, ?_⟩
    obtain ⟨k0, ⟨rfl, ea⟩ | ⟨dx, ea, n, ne, ed⟩⟩ := S1
    · refine .inl ⟨ea, fun dx n ne => k _ ⟨fun b o e hb => ?_, .inr ⟨dx, upd_same, ?_, ne, by rw [upd_ne ne, upd_same]⟩⟩⟩
      · have q := k0 b o e hb
        rw [upd_ne hb, upd_ne (ne_of_none q n)]
        exact q
      · cases e : H0 dx with
        | none => rfl
        | some o => rw [k0 dx o e ne] at n; cases n
    · refine .inr ⟨dx, gs, ea, ed, hl, k _ ⟨fun b o e hb => ?_, .inr ⟨dx, ?_, n, ne, upd_same⟩⟩⟩
      · rw [upd_ne (ne_of_none e n)]
        exact k0 b o e hb
      · rw [upd_ne (Ne.symm ne)]
        exact ea) q
theorem osVar {H0 H : Hp} {gs : List (Str × V)} {D : Ends} {σ : L2.St} {i : Nat} {y : V} (S : Mk1 a C H0 gs H) (h0 : σ[0]? = some (some (.ref a))) (hl : gs.length ≤ 900) (hi : σ[i]? = some (some y)) (q : ∀ H2, Mk1 a C H0 ((f, y) :: gs) H2 → D.nx σ H2) : tOs a C f (tVar i) D σ H :=
  osStep S h0 hl (fun k ⟨v, h1, h2⟩ => ⟨v, h1, k _ _ h2⟩) ⟨y, hi, S, q⟩
end
/-- what C(..) with its own __init__ does: from the arguments' data to the fields, the last one first -/
def spI (K : PySem.W.Frag) (C : Addr) (G : List D → List (Str × D) → Prop) : Sp := fun vs H Q _ => ∃ (A : Addr → Prop) (a : Addr) (ws : List V) (ds : List D) (fs : List (Str × D)), vs = .ref a :: ws ∧ H a = some (exo a C none) ∧ A a ∧ Dats K A H ds ws ∧ G ds fs ∧
  ∀ H' dx (gs : List (Str × V)), (∀ b o, H b = some o → b ≠ a → H' b = some o) → H' a = some (exo a C (some dx)) → H dx = none → dx ≠ a → H' dx = some (exd dx gs) → gs.map (·.1) = fs.map (·.1) → Dats K (fun b => A b ∨ b = dx) H' (fs.map (·.2)) (gs.map (·.2)) → Q .non H'
section
variable {P : Program} {w : World} {K : PySem.W.Frag} {mg : Str → Option Value} {base : Heap} {N ps : List Str} {F : NF} {fd : FuncData} {fI cc C : Addr} {B newId initId : String} {bmB : List Value} {p0 p1 p2 pos pj : Pos} {v1 v2 : Expr} {rs : List Expr} {rest : List Stmt}
theorem exc_ok {k : Nat} {G : List D → List (Str × D) → Prop} (T : EC K C B newId initId bmB) (N_ : InC K mg P C fI fd F cc initId) (hcd : PySem.W.codeIn K (.ref F.c) F.qual = true) (S : NScope N ps [("__class__" : Str)] F.scope) (hN : N[0]? = some ("self" : Str))
    (hF : F.body = .Expr (.Call (.Attribute (.Call (.Name "super" p0) [] [] p1) "__init__" p2) [.JoinedStr (v1 :: v2 :: rs) pj] [] pos) pos :: rest) (oks : List (L2.St → Hp → Prop)) (ho : oks.length ≤ 100) (t : Addr → TS) (hlen : ∀ ds fs, G ds fs → ds.length + 1 = ps.length)
    (hPJ : ∀ (Ar : Around) (outer : List Env) (s : Shared) (H : Hp) (E : XK), Room k (Ar.deeper (envF F fI s.heap.objs.size)) → PJ (ncx (L2.CX P w) P w K mg base N F fI Ar outer s H E) (v1 :: v2 :: rs) (oks.map tSm))
    (hPS : ∀ (Ar : Around) (outer : List Env) (s : Shared) (H : Hp) (E : XK) (a : Addr), Room k (Ar.deeper (envF F fI s.heap.objs.size)) → PSs (ncx (L2.CX P w) P w K mg base N F fI Ar outer s H E) rest (t a))
    (hrun : ∀ (A : Addr → Prop) (H : Hp) (a : Addr) (ws : List V) (ds : List D) (fs : List (Str × D)) (Q : VK), A a → H a = some (exo a C none) → Dats K A H ds ws → G ds fs → (startF N (.ref a :: ws) [none])[0]? = some (some (.ref a)) →
      (∀ H' (gs : List (Str × V)), Mk1 a C H gs H' → gs ≠ [] → gs.map (·.1) = fs.map (·.1) → (∀ dx, H dx = none → Dats K (fun b => A b ∨ b = dx) H' (fs.map (·.2)) (gs.map (·.2))) → Q .non H') →
      (∀ ok ∈ oks, ok (startF N (.ref a :: ws) [none]) H) ∧ t a { nx := fun _ H' => Q .non H', rt := Q } (startF N (.ref a :: ws) [none]) H)
    {pl : Sem Bool} (hc : ∀ L, eval (.Call (.Attribute (.Call (.Name "super" p0) [] [] p1) "__init__" p2) [.JoinedStr (v1 :: v2 :: rs) pj] [] pos) (envF F fI L) = (do
      let ov ← attributeBase (.Call (.Name "super" p0) [] [] p1) "__init__" (envF F fI L) (eval (.Call (.Name "super" p0) [] [] p1) (envF F fI L))
      standAt p2.atName
      let (f, first) ← holding [ov] (getMethod (ov) "__init__" pl)
      callWith pos f first (backTo pos (starEach [.JoinedStr (v1 :: v2 :: rs) pj] (envF F fI L))) []) := by intro L; rfl)
    (hi : ∀ L, interactive (envF F fI L) = false := by intro L; rfl) (hs : ∀ L, swapsWith (.Call (.Attribute (.Call (.Name "super" p0) [] [] p1) "__init__" p2) [.JoinedStr (v1 :: v2 :: rs) pj] [] pos) none pos.line (envF F fI L) = pure false := by intro L; rfl) :
    FnOk P w K mg base (L2.CX P w) (k + 1) fI fd ps (spI K C G) := by
  refine init_ok T N_ hcd S hN (fun vs H Q E ⟨A, a, ws, ds, fs, ev, _, _, b, g, _⟩ => ?_) hF (fun Ar outer s H vs Q E hr ⟨A, a, ws, ds, fs, ev, ea, Aa, b, g, q⟩ => ?_) (hpl := fun L => rfl) (hc := hc) (hi := hi) (hs := hs)
  · subst ev
    rw [List.length_cons, ← b.length]
    exact hlen ds fs g
  · subst ev
    have s0 : (startF N (.ref a :: ws) [none])[0]? = some (some (.ref a)) := rfl
    obtain ⟨h1, h2⟩ := hrun A H a ws ds fs Q Aa ea b g s0 fun H' gs S ng hk hd => by
      obtain ⟨k0, ⟨rfl, _⟩ | ⟨dx, e1, e2, e3, e4⟩⟩ := S
      · exact absurd rfl ng
      · exact q H' dx gs k0 e1 e2 e3 e4 hk (hd dx e2)
    refine ⟨a, _, _, rfl, ea, pa_cons (pe_joined (hPJ Ar outer s H E hr)) pa_nil, hPS Ar outer s H E a hr, ?_⟩
    refine js_any oks Str.empty _ ?_ h1 fun m => ⟨?_, ea, h2⟩
    · show 0 + _ ≤ _
      rw [sizeLine_eq]; omega
    · show 1 ≤ 1000
      omega
/-- data that lay there lie there still -/
theorem mk_keep {A : Addr → Prop} {H H' : Hp} {a dx : Addr} {gs : List (Str × V)} (S : Mk1 a C H gs H') (Aa : A a) (n : H dx = none) {ds : List D} {ws : List V} (b : Dats K A H ds ws) : Dats K (fun b => A b ∨ b = dx) H' ds ws :=
  b.keep fun c o e nc => ⟨S.1 c o e fun z => nc (z ▸ Aa), fun z => z.elim nc (ne_of_none e n)⟩
end
end DW
namespace DW
open PySem PySem.Spec
open PyProof.Rows L2 NdefX
/-! ### exceptions as values: made, read, asked of their class -/
def wNew (C : Addr) (G : List D → List (Str × D) → Prop) (r : WA) : WE := fun ε P Z => r ε (fun ds => ∃ fs, G ds fs ∧ ds.length ≤ 1000 ∧ P (.exc C fs)) Z
section
variable {X : Cx} {F : Fx} {W : WX} {e : Expr} {es : List Expr} {r : WA} {f : WE} {pos p : Pos} {x n : Str} {C fI : Addr} {fd : FuncData} {ps : List Str} {k : Nat} {B newId initId : String} {bmB : List Value} {G : List D → List (Str × D) → Prop}
theorem dNew (T : EC X.K C B newId initId bmB) (iC : PySem.W.findIn X.K (.ref C) "__init__" = some (some (.ref fI))) (tI : PySem.W.typeIn X.K (.ref fI) = some (.type "function")) (F1 : FnOk X.prog X.w X.K X.mg X.base (L2.CX X.prog X.w) k fI fd ps (spI X.K C G)) (hr : Room (k + 1) X.A) (hb : Binds X.K fd ps [])
    (hg : Gl X x) (hm : X.mg x = some (.ref C)) (ha : PA X (e :: es) (tA X.K F W r)) (dbg : (x == ("__debug__" : Str)) = false := by decide) (he : starEach (e :: es) X.env = (false, eval e X.env) :: starEach es X.env := by rfl) (hpl : (backTo pos (starEach es X.env)).any (·.1) = false := by rfl) :
    PE X (.Call (.Name x p) (e :: es) [] pos) (tE X.K F W (wNew C G r)) := by
  refine ⟨fun pins s σ H Q I ⟨π, A, ε, P, Z, R, wz, z, q⟩ => ?_⟩
  refine wpAny_Call_Name_kw (ld_glob I hg hm (hd := dbg) ?_)
  refine PySem.W.callWith_K (h₀ := X.base) I.ok.mod.kin T.kpC (thn (ha.run pos pins s σ H (fun vs H1 => ∃ ds fs, G ds fs ∧ ds.length ≤ 1000 ∧ P (.exc C fs) ∧ Grow F.m H H1 ∧ F.m.J H1 ∧ Dats X.K A H1 ds vs) I
    ⟨π, A, ε, _, Z, R, wz, z, fun ds vs H1 ⟨fs, g1, g2, g3⟩ gr j b => ⟨ds, fs, g1, g2, g3, gr, j, b⟩⟩) fun us s1 ⟨vs, H1, I1, r1, ds, fs, g1, g2, g3, gr, j, b⟩ => ⟨I1.kIn, ?_⟩) he hpl
  show wpAny (model X.prog X.w) X.A (call (.ref C) us) _ _ _
  obtain ⟨nm, N', qn, bs, bm, hdct, sn, sub, ab, col, dd, k0, k1, k2, k3, k5, hC, hT⟩ := PySem.W.excInit_of I1.kIn T.ini
  cases s1 with
  | mk hp gs dr tk os =>
    have szle : hp.objs.size ≤ hp.objs.size + 1 := by omega
    have frsh : H1 (hp.objs.size + 1) = none := I1.hok.fresh szle
    have older : ∀ b o, hp.get? b = some o → (Heap.push (Heap.push hp (PySem.W.kdv_tup us)) (PySem.HandSPX.excO C hp.objs.size)).get? b = some o := fun b o e => Heap.get?_push_of_some _ (Heap.get?_push_of_some _ e)
    have there : (Heap.push (Heap.push hp (PySem.W.kdv_tup us)) (PySem.HandSPX.excO C hp.objs.size)).get? (hp.objs.size + 1) = some (PySem.HandSPX.excO C hp.objs.size) := by heap_get
    have Inew : Inv X pins σ (upd H1 (hp.objs.size + 1) (exo (hp.objs.size + 1) C none)) ⟨Heap.push (Heap.push hp (PySem.W.kdv_tup us)) (PySem.HandSPX.excO C hp.objs.size), gs, dr, tk, os⟩ :=
      I1.laid (t' := tk) (a := hp.objs.size + 1) (o := exo (hp.objs.size + 1) C none) (h' := Heap.push (Heap.push hp (PySem.W.kdv_tup us)) (PySem.HandSPX.excO C hp.objs.size)) older szle (exo_ok there)
    have R1 := R.grow gr j
    have hl := b.length.trans r1.length
    have old : ∀ b o, H1 b = some o → b ≠ (hp.objs.size + 1) := fun b o e => ne_of_none e frsh
    have prom : spI X.K C G (.ref (hp.objs.size + 1) :: vs) (upd H1 (hp.objs.size + 1) (exo (hp.objs.size + 1) C none)) (fun v H3 => v = .non ∧ ∃ (dx : Addr) (gs : List (Str × V)), (∀ b o, H1 b = some o → H3 b = some o) ∧ H3 (hp.objs.size + 1) = some (exo (hp.objs.size + 1) C (some dx)) ∧ H1 dx = none ∧ H3 dx = some (exd dx gs) ∧ gs.map (·.1) = fs.map (·.1) ∧ Dats X.K A H3 (fs.map (·.2)) (gs.map (·.2))) E0 := by
      refine ⟨fun b => A b ∨ b = (hp.objs.size + 1), (hp.objs.size + 1), vs, ds, fs, rfl, upd_same, .inr rfl, b.keep (.new frsh), g1, fun H' dx gs c1 c2 c3 c4 c5 c6 c7 => ⟨rfl, dx, gs, fun b o e => c1 b o (by rw [upd_ne (old b o e)]; exact e) (old b o e), c2, ?_, c5, c6, ?_⟩⟩
      · rw [upd_ne c4] at c3; exact c3
      · exact c7.keep (.sub fun b z => .inl (.inl z))
    have bnd := hb _ (.ref (hp.objs.size + 1) :: us) Inew.kIn (by rw [List.append_nil]; exact (show (Value.ref (hp.objs.size + 1) :: us).length = ps.length from by have := F1.len _ _ _ _ prom; rw [List.length_cons] at this ⊢; rw [← this, r1.length]))
    rw [List.append_nil] at bnd
    refine wpAny_call (PySem.HandSPX.call_own T.eb hT hC (PySem.W.looks_findIn I1.kIn iC) (fun self => PySem.W.bind_fn I1.kIn self tI) (by rw [sizeLine_eq]; omega) (codeAny_mono (F1.run _ X.stack _ _ _ _ _ _ E0 (hr.make C us []) (Inew.env0.make C us []) bnd (show Vals (V.ref (hp.objs.size + 1) :: vs) (Value.ref (hp.objs.size + 1) :: us) from .cons rfl r1) prom) fun rr s' hq => ?_))
    cases rr with
    | error er => exact passL pins σ _ _ er s' Inew hq
    | ok fl =>
      cases fl with
      | ret u =>
        obtain ⟨v, H3, J3, rv, ev, dx, gs, d1, d2, d3, d4, d5, d6⟩ := Inew.after hq
        subst ev
        refine ⟨rv, .ref (hp.objs.size + 1), H3, J3, rfl, q _ _ H3 g3 (gr.trans fun b o e _ => d1 b o e) (F.m.st H1 H3 (fun b z => ?_) j) (.exc (fun z => R1.th _ z frsh) d2 (fun z => R1.th _ z d3) d4 d5 d6)⟩
        cases e : H1 b with
        | none => exact absurd e (F.m.al H1 b j z)
        | some o => exact d1 b o e
      | next => exact False.elim hq
      | brk => exact False.elim hq
      | cont => exact False.elim hq
/-- C(), C's __init__ the built-in's -/
def wNew0 (C : Addr) : WE := fun _ P _ => P (.exc C [])
theorem dNew0 (T : EC X.K C B newId initId bmB) (iC : PySem.W.findIn X.K (.ref C) "__init__" = some (some (.builtin initId))) (hg : Gl X x) (hm : X.mg x = some (.ref C)) (dbg : (x == ("__debug__" : Str)) = false := by decide) : PE X (.Call (.Name x p) [] [] pos) (tE X.K F W (wNew0 C)) := by
  refine ⟨fun pins s σ H Q I ⟨π, A, ε, P, Z, R, wz, z, q⟩ => ?_⟩
  refine wpAny_Call_Name_kw (ld_glob I hg hm (hd := dbg) ?_)
  refine PySem.W.callWith_K0 I.kIn T.kpC ?_
  show wpAny _ _ (call (.ref C) []) _ _ _
  obtain ⟨nm, N', qn, bs, bm, hdct, sn, sub, ab, col, dd, k0, k1, k2, k3, k5, hC, hT⟩ := PySem.W.excInit_of I.kIn T.ini
  cases s with
  | mk hp gs dr tk os =>
    refine PySem.W.call_B T.eb hT hC (PySem.W.looks_findIn I.kIn iC) (Nat.zero_le _) fun hp' older e1 _ => ?_
    have frsh : H (hp.objs.size + 1) = none := I.hok.fresh (Nat.le_succ _)
    have J := I.laid (t' := tk) (a := hp.objs.size + 1) (o := exo (hp.objs.size + 1) C none) older (Nat.le_succ _) (exo_ok e1)
    exact ⟨.ref (hp.objs.size + 1), _, J, rfl, q _ _ _ z (grow_new frsh) (j_new frsh R.j) (.exc0 (fun z => R.th _ z frsh) upd_same)⟩
/-- e.f, e an exception of one of the classes Cs -/
def wFld (Cs : Addr → Prop) (n : Str) (f : WE) : WE := fun ε P Z => f ε (fun d => ∃ C fs v, d = .exc C fs ∧ Cs C ∧ fs.lookup n = some v ∧ P v) Z
theorem lk_put {β : Type} (f g : Str) (y : β) (fs : List (Str × β)) : ((f, y) :: fs).lookup g = if g = f then some y else fs.lookup g := by
  by_cases h : g = f
  · subst h; simp [List.lookup]
  · have e : (g == f) = false := beq_eq_false_iff_ne.mpr h
    rw [if_neg h]; simp [List.lookup, e]
theorem look_at {K : PySem.W.Frag} {A : Addr → Prop} {H : Hp} : ∀ {gs : List (Str × V)} {fs : List (Str × D)} {v : D}, gs.map (·.1) = fs.map (·.1) → Dats K A H (fs.map (·.2)) (gs.map (·.2)) → fs.lookup n = some v → ∃ u, gs.lookup n = some u ∧ Dat K A H v u
  | [], [], _, _, _, e => by cases e
  | (a, u) :: gs, (b, d) :: fs, v, hk, hs, e => by
    simp only [List.map_cons, List.cons.injEq] at hk
    obtain ⟨rfl, hk⟩ := hk
    cases hs with
    | cons h t =>
      rw [lk_put] at e ⊢
      by_cases z : n = a
      · rw [if_pos z] at e ⊢
        cases e
        exact ⟨u, rfl, h⟩
      · rw [if_neg z] at e ⊢
        exact look_at hk t e
theorem dFld {Cs : Addr → Prop} (hC : ∀ C, Cs C → (∃ B newId initId bmB, EC X.K C B newId initId bmB) ∧ PySem.W.findIn X.K (.ref C) n = some none) (he : PE X e (tE X.K F W f)) (hb : attributeBase e n X.env (eval e X.env) = eval e X.env := by rfl) : PE X (.Attribute e n pos) (tE X.K F W (wFld Cs n f)) := by
  refine ⟨fun pins s σ H Q I ⟨π, A, ε, P, Z, R, wz, z, q⟩ => ?_⟩
  refine attr_of hb (thn (he.run pins s σ H (fun u H1 => ∃ C fs v, Cs C ∧ fs.lookup n = some v ∧ P v ∧ Grow F.m H H1 ∧ F.m.J H1 ∧ Dat X.K A H1 (.exc C fs) u) I ⟨π, A, ε, _, Z, R, wz, z, fun d v H1 ⟨C, fs, y, h1, h2, h3, h4⟩ gr j b => ⟨C, fs, y, h2, h3, h4, gr, j, h1 ▸ b⟩⟩) fun u s1 ⟨u0, H1, I1, r1, C, fs, v, h2, h3, h4, gr, j, b⟩ => ?_)
  obtain ⟨⟨B, newId, initId, bmB, T⟩, hno⟩ := hC C h2
  cases b with
  | exc0 na h => cases h3
  | @exc a _ dx _ gs na h nx hx hk hs =>
    obtain rfl : u = (Value.ref a : Value) := r1
    obtain ⟨y, hy, bv⟩ := look_at hk hs h3
    obtain ⟨t1, ho⟩ := exo_at I1.hok h
    obtain ⟨mA, hns, rel⟩ := exd_at I1.hok hx
    obtain ⟨od, hod, hl⟩ := lookIn_ns hns
    obtain ⟨u, hu, ru⟩ := RelO.some_of (v := y) (o := mA n) (by rw [← hy]; exact rel n)
    have J : PySem.W.InstAt s1.heap a (exRec C t1 (some dx)) C (some od) := ⟨ho, rfl, rfl, hod⟩
    exact PySem.HandSPX.exc_get I1.kIn J T.ga T.gg T.exC (PySem.W.findObj_own T.hd hno rfl (by rw [hl, hu])) (handed_of ru) ⟨y, H1, I1.tok _, ru, q v y H1 h4 gr j bv⟩
/-- isinstance(e, T) -/
def kIs (T : Addr → D → Bool → Prop) : List D → (D → Prop) → Prop := kk2 fun d e P => ∃ C fs b, d = .exc C fs ∧ T C e b ∧ P (.bl b)
/-- what the written part says of the answers -/
def Tab (K : PySem.W.Frag) (T : Addr → D → Bool → Prop) : Prop := ∀ C e b, T C e b → (∃ B newId initId bmB, EC K C B newId initId bmB) ∧ ((∃ D, e = .ref D ∧ PySem.W.kitOne K (.ref C) (.ref D) = some b) ∨ ∃ n : String, e = .ty n ∧ PySem.W.kitOne K (.ref C) (.type n) = some b)
/-- isinstance, of exceptions -/
def rIsX (K : PySem.W.Frag) : List V → Hp → VK → Prop := fun xs H Q => ∃ (a C : Addr) (dv : Option Addr) (c : V) (cv : Value) (b : Bool) (B newId initId : String) (bmB : List Value), xs = [.ref a, c] ∧ H a = some (exo a C dv) ∧ (∀ dx, dv = some dx → ∃ gs, H dx = some (exd dx gs)) ∧ EC K C B newId initId bmB ∧
  (∀ u, RelV c u → u = cv) ∧ PySem.W.kitOne K (.ref C) cv = some b ∧ Q (.bl b) H
theorem callIs : CallR X (.builtin "isinstance") (rIsX X.K) := by
  intro pins s σ H xs us Q I r ⟨a, C, dv, c, cv, b, B, newId, initId, bmB, ex, ea, ed, T, hc, hk, q⟩
  subst ex
  obtain ⟨t1, ho⟩ := exo_at I.hok ea
  obtain ⟨cd, hcd, _⟩ := PySem.W.any_some T.hd
  cases r with
  | cons rx rr =>
    cases rr with
    | cons rt rr =>
      cases rr
      cases rx
      have ec := hc _ rt
      subst ec
      have fin := fun tk => (⟨.bl b, H, I.kept (t' := tk) fun _ _ z => z, rfl, q⟩ : EP X pins σ Q (.bool b) { s with toks := tk })
      cases dv with
      | none => exact PySem.W.kia_one (PySem.W.kitx_exc (ox := exRec C t1 none) (od := none) (by rw [hcd]; rfl) T.ga T.gg T.exC T.cl T.sp T.tk T.mo) I.kIn ⟨ho, rfl, rfl, trivial⟩ hk (fun z => nomatch z) fin
      | some dx =>
        obtain ⟨gs, hg⟩ := ed dx rfl
        obtain ⟨mA, hns, _⟩ := exd_at I.hok hg
        obtain ⟨od, hod, _⟩ := lookIn_ns hns
        exact PySem.W.kia_one (PySem.W.kitx_exc (ox := exRec C t1 (some dx)) (od := some od) (by rw [hcd]; rfl) T.ga T.gg T.exC T.cl T.sp T.tk T.mo) I.kIn ⟨ho, rfl, rfl, hod⟩ hk (fun z => nomatch z) fin
theorem clIs {K : PySem.W.Frag} {T : Addr → D → Bool → Prop} (ht : Tab K T) : Cl K (rIsX K) (kIs T) := fun m A H ds vs P Q am al j b k q => by
  match ds, b, k with
  | [d, e], b, k =>
    obtain ⟨v, u, rfl, b1, b2⟩ := bors2 b
    obtain ⟨C, fs, bb, rfl, htb, hp⟩ := k
    obtain ⟨⟨B, newId, initId, bmB, TE⟩, hk⟩ := ht C e bb htb
    have b1 : Dat K A H (.exc C fs) v := b1
    have fin := q _ (V.bl bb) H hp (.refl _ _) j (.bl _)
    have two : ∃ cv, (∀ w, RelV u w → w = cv) ∧ PySem.W.kitOne K (.ref C) cv = some bb := by
      rcases hk with ⟨D, rfl, hk⟩ | ⟨T, rfl, hk⟩
      · have b2 : Dat K A H (.ref D) u := b2
        cases b2
        exact ⟨.ref D, fun w r => r, hk⟩
      · have b2 : Dat K A H (.ty T) u := b2
        cases b2
        exact ⟨.type T, fun w r => r, hk⟩
    obtain ⟨cv, hcv, hk⟩ := two
    cases b1 with
    | exc0 na h => exact ⟨_, C, none, u, cv, bb, B, newId, initId, bmB, rfl, h, (fun dx z => by cases z), TE, hcv, hk, fin⟩
    | exc na h nx hx _ hs => exact ⟨_, C, some _, u, cv, bb, B, newId, initId, bmB, rfl, h, (fun dx z => by cases z; exact ⟨_, hx⟩), TE, hcv, hk, fin⟩
end
end DW
namespace DW
open PySem PySem.Spec
open PyProof.Rows L2
/-! ### the law's source of numbers -/
def top (i : Nat) : Stmt := PySem.Challenge.pw_farscale_k91_errors.main.body.getD i (.Pass ⟨0, 0, 0, 0⟩)
abbrev sSource : Stmt := top 28
abbrev sPick : Stmt := top 29
def srcK (co : Addr) (l m t : Int) : List (Key × V) := [(.inr "cells", .ref co), (.inr "left", .int l), (.inr "mixed", .int m), (.inr "turn", .int t)]
theorem src_cells (co : Addr) (l m t : Int) : valV (srcK co l m t) (.inr "cells") = some (.ref co) := by
  unfold srcK valV
  rfl
theorem src_left (co : Addr) (l m t : Int) : valV (srcK co l m t) (.inr "left") = some (.int l) := by
  simp [srcK, valV, List.find?, show ¬ (("cells" : Str) = "left") by decide +kernel]
theorem src_mixed (co : Addr) (l m t : Int) : valV (srcK co l m t) (.inr "mixed") = some (.int m) := by
  simp [srcK, valV, List.find?, show ¬ (("cells" : Str) = "mixed") by decide +kernel, show ¬ (("left" : Str) = "mixed") by decide +kernel]
theorem src_turn (co : Addr) (l m t : Int) : valV (srcK co l m t) (.inr "turn") = some (.int t) := by
  simp [srcK, valV, List.find?, show ¬ (("cells" : Str) = "turn") by decide +kernel, show ¬ (("left" : Str) = "turn") by decide +kernel, show ¬ (("mixed" : Str) = "turn") by decide +kernel]
theorem put_left (co : Addr) (l m t l' : Int) : putK (srcK co l m t) (.inr "left") (.int l') = srcK co l' m t := by
  simp [srcK, putK, show ¬ (("cells" : Str) = "left") by decide +kernel, show ¬ (("mixed" : Str) = "left") by decide +kernel, show ¬ (("turn" : Str) = "left") by decide +kernel]
theorem put_turn (co : Addr) (l m t t' : Int) : putK (srcK co l m t) (.inr "turn") (.int t') = srcK co l m t' := by
  simp [srcK, putK, show ¬ (("cells" : Str) = "turn") by decide +kernel, show ¬ (("left" : Str) = "turn") by decide +kernel, show ¬ (("mixed" : Str) = "turn") by decide +kernel]
section
variable {H : Hp} {so co : Addr} {l m t : Int}
theorem gCells (hs : H so = some (.dK (srcK co l m t))) : DGet H so (.str "cells") (some (.ref co)) := by
  have q := DGet.k (k := (.inr "cells" : Key)) hs
  rw [src_cells] at q; exact q
theorem gLeft (hs : H so = some (.dK (srcK co l m t))) : DGet H so (.str "left") (some (.int l)) := by
  have q := DGet.k (k := (.inr "left" : Key)) hs
  rw [src_left] at q; exact q
theorem gMixed (hs : H so = some (.dK (srcK co l m t))) : DGet H so (.str "mixed") (some (.int m)) := by
  have q := DGet.k (k := (.inr "mixed" : Key)) hs
  rw [src_mixed] at q; exact q
theorem gTurn (hs : H so = some (.dK (srcK co l m t))) : DGet H so (.str "turn") (some (.int t)) := by
  have q := DGet.k (k := (.inr "turn" : Key)) hs
  rw [src_turn] at q; exact q
theorem pLeft {l' : Int} (hs : H so = some (.dK (srcK co l m t))) : DPut H so (.str "left") (.int l') (upd H so (.dK (srcK co l' m t))) := by
  have q := DPut.k (k := (.inr "left" : Key)) (v := .int l') hs (by show 4 < sizeLine; decide)
  rw [put_left] at q; exact q
theorem pTurn {t' : Int} (hs : H so = some (.dK (srcK co l m t))) : DPut H so (.str "turn") (.int t') (upd H so (.dK (srcK co l m t'))) := by
  have q := DPut.k (k := (.inr "turn" : Key)) (v := .int t') hs (by show 4 < sizeLine; decide)
  rw [put_turn] at q; exact q
end
/-- the source at so, its cells at co -/
def Src (so co : Addr) (t : Int) (H : Hp) : Prop := ∃ (l m : Int) (ns : List Int), H so = some (.dK (srcK co l m t)) ∧ H co = some (.lst (ns.map V.int)) ∧ 0 ≤ t
def spPick : Sp := fun vs H Q _ => ∃ (so co : Addr) (n t : Int), vs = [.ref so, .int n] ∧ Src so co t H ∧ n < 1073741824 ∧ (10000000 < n → t < 1000000000) ∧
  ∀ k H', 0 ≤ k → (k < n ∨ k = 0) → (∀ b o, H b = some o → b ≠ so → b ≠ co → H' b = some o) → (∃ t', t' ≤ t + 1 ∧ Src so co t' H') → Q (.int k) H'
section
variable {P : Program} {w : World} {K : PySem.W.Frag} {mg : Str → Option Value} {base : Heap} {f : Addr} {fd : FuncData}
theorem owns_cx {CX : CXT} {N : List Str} {qual : Str} {scope : Scope} {cd : Value} {A : Around} {outer : List Env} {s : Shared} {H : Hp} {E : XK} : PassesOwn (model P w) (cxOf CX P w K mg base N qual scope f cd A outer s H E).A (cxOf CX P w K mg base N qual scope f cd A outer s H E).env (cxOf CX P w K mg base N qual scope f cd A outer s H E).xe :=
  passes_of (X := cxOf CX P w K mg base N qual scope f cd A outer s H E) rfl
theorem scPick : FnScope ["source", "many", "cells", "left", "turn", "mixed"] ["source", "many"] (defScope sPick) := ⟨rfl, rfl, rfl, by decide +kernel, rfl, by decide +kernel, by decide +kernel⟩
theorem ok_pick (Fn : Fun K "_law_pick" "_law_pick" sPick f fd) (gLen : mg "len" = none) (gInt : mg "int" = none) : FnOk P w K mg base (L2.CX P w) 1 f fd ["source", "many"] spPick := by
  refine Fn.okX scPick (fun vs H Q E ⟨so, co, n, t, e, _⟩ => by rw [e]; rfl) ?_
  rintro cdv A outer s H vs Q E hr ⟨so, co, n, t, ev, S, hn, ht, q⟩
  refine' ⟨_, ?d, ?p⟩
  case d =>
    have hu := hu_of hr
    have hp := @owns_cx P w K mg base f (L2.CX P w) ["source", "many", "cells", "left", "turn", "mixed"] "_law_pick" (defScope sPick) cdv A outer s H E
    refine' pss_cons ?s1 (pss_cons ?s2 (pss_cons ?s3 (pss_cons ?s4 (pss_cons ?s5 (pss_cons ?s6 (pss_cons ?s7 (pss_cons ?s8 (pss_cons ?s9 (pss_cons ?s10 (pss_one ?s11))))))))))
    case s1 => exact ps_if (pt_cmpR op_lt (pv 1) pe_int (nomark _)) (pss_one (ps_ret pe_int)) pss_nil
    case s2 => exact ps_set scPick.nd (i := 2) (by rfl) (by exact Or.inl rfl) (pe_dget hu (pv 0) pe_str (fun _ _ => rfl))
    case s3 => exact ps_while (by exact hp) (PW.pt (pw_and (pt_cmpR op_lt (pe_dget hu (pv 0) pe_str (fun _ _ => rfl)) pe_int (nomark _)) (pw_and1 (pt_cmpR op_gt (pe_callB call_len (by rfl) gLen boot_len (pa_cons (pv 2) pa_nil)) pe_int (nomark _))))) (pss_one (ps_dput hu (pv 0) pe_str (pe_bm0 PySem.F.plainAttrs_list PySem.F.slot_list_pop PySem.F.type_list_pop mt_pop (pv 2)) rfl))
    case s4 => exact ps_set scPick.nd (i := 3) (by rfl) (by exact Or.inl rfl) (pe_dget hu (pv 0) pe_str (fun _ _ => rfl))
    case s5 => exact ps_if (pt_cmpR op_gt (pv 3) pe_int (nomark _)) (pss_cons (ps_dput hu (pv 0) pe_str (pe_op op_fdiv (pv 3) (pv 1)) rfl) (pss_one (ps_ret (pe_op op_mod (pe_callTy call_int1 (by rfl) gInt boot_int (pa_cons (pv 3) pa_nil)) (pv 1))))) pss_nil
    case s6 => exact ps_dput hu (pv 0) pe_str (pe_op op_add (pe_dget hu (pv 0) pe_str (fun _ _ => rfl)) pe_int) rfl
    case s7 => exact ps_set scPick.nd (i := 4) (by rfl) (by exact Or.inl rfl) (pe_dget hu (pv 0) pe_str (fun _ _ => rfl))
    case s8 => exact ps_set scPick.nd (i := 5) (by rfl) (by exact Or.inl rfl) (pe_op op_mod (pe_callTy call_int1 (by rfl) gInt boot_int (pa_cons (pe_op op_add (pe_dget hu (pv 0) pe_str (fun _ _ => rfl)) (pe_op op_mul (pv 4) pe_int)) pa_nil)) pe_int)
    case s9 => exact ps_set scPick.nd (i := 5) (by rfl) (by exact Or.inl rfl) (pe_op op_mod (pe_callTy call_int1 (by rfl) gInt boot_int (pa_cons (pe_op op_add (pe_op op_mul (pv 5) (pv 5)) (pe_op op_mul (pv 4) pe_int)) pa_nil)) pe_int)
    case s10 => exact ps_if (pt_cmpR op_gt (pv 1) (pe_op op_pow pe_int pe_int) (nomark _)) (pss_one (ps_set scPick.nd (i := 5) (by rfl) (by exact Or.inl rfl) (pe_op op_pow (pe_callTy call_int1 (by rfl) gInt boot_int (pa_cons (pe_op op_add (pe_op op_mul (pv 5) pe_int) (pv 4)) pa_nil)) pe_int))) pss_nil
    case s11 => exact ps_ret (pe_op op_mod (pe_callTy call_int1 (by rfl) gInt boot_int (pa_cons (pe_op op_fdiv (pv 5) pe_int) pa_nil)) (pv 1))
  case p =>
    obtain ⟨l, m, ns, hs, hc, h0⟩ := S
    subst ev
    have nsc : so ≠ co := fun z => by rw [z, hc] at hs; cases hs
    refine ⟨_, rfl, _, _, rfl, rfl, _, rfl, ite2 (fun h => ?_) fun h => ?_⟩
    · exact q 0 H (by omega) (.inr rfl) (fun b o h _ _ => h) ⟨t, by omega, l, m, ns, hs, hc, h0⟩
    have hn2 : 2 ≤ n := by
      have : ¬ n < 2 := fun z => h (decide_eq_true z)
      omega
    refine ⟨_, rfl, so, _, rfl, gCells hs, ?_⟩
    refine ⟨fun k σ' H' => σ' = [some (.ref so), some (.int n), some (.ref co), none, none, none] ∧ ∃ (l : Int) (ns : List Int), ns.length = k ∧ H' so = some (.dK (srcK co l m t)) ∧ H' co = some (.lst (ns.map V.int)) ∧ ∀ b o, H b = some o → b ≠ so → b ≠ co → H' b = some o, ⟨_, rfl, l, ns, rfl, hs, hc, fun b o h _ _ => h⟩, ?_⟩
    rintro k σ' H1 ⟨rfl, l, ns, rfl, hs, hc, k1⟩
    refine ⟨_, rfl, so, _, rfl, gLeft hs, _, _, rfl, rfl, _, rfl, ?_⟩
    refine ite2 (fun h2 => ⟨_, rfl, _, _, rfl, .inl ⟨_, .of hc, rfl⟩, _, _, rfl, rfl, _, rfl, ite2 (fun h3 => ?a) fun h3 => ?b⟩) fun h2 => ?c
    case a =>
      rcases List.eq_nil_or_concat ns with rfl | ⟨ns', z, rfl⟩
      · simp at h3
      · refine ⟨fun σ' H' => σ' = [some (.ref so), some (.int n), some (.ref co), none, none, none] ∧ ∃ (l : Int) (ns : List Int), ns.length = ns'.length ∧ H' so = some (.dK (srcK co l m t)) ∧ H' co = some (.lst (ns.map V.int)) ∧ ∀ b o, H b = some o → b ≠ so → b ≠ co → H' b = some o, fun σ' H' z => ⟨ns'.length, by simp, z⟩, ?_⟩
        have hl : (List.map V.int (ns'.concat z)).dropLast = List.map V.int ns' := by simp
        refine ⟨_, rfl, .inl ⟨rfl, _, .inl (.inl hc)⟩, co, _, .int z, rfl, rfl, hc, by simp, _, rfl, so, _, rfl, pLeft (l := l) (m := m) (t := t) (by rw [upd_ne nsc]; exact hs), rfl, z, ns', rfl, upd_same, ?_, fun b o e b1 b2 => ?_⟩
        · rw [upd_ne nsc.symm, upd_same, hl]
        · rw [upd_ne b1, upd_ne b2]; exact k1 b o e b1 b2
    all_goals
      refine ⟨_, rfl, so, _, rfl, gLeft hs, ?_⟩
      refine ⟨_, rfl, _, _, rfl, rfl, _, rfl, ite2 (fun h4 => ?_) fun h4 => ?_⟩
      · refine ⟨_, rfl, _, rfl, _, _, rfl, rfl, ⟨by omega, hn⟩, _, rfl, so, _, rfl, pLeft hs, ?_⟩
        refine ⟨_, rfl, .inl ⟨_, rfl, _, rfl, _, _, rfl, rfl, by omega, ?_⟩⟩
        refine q (l % n) _ (Int.emod_nonneg _ (by omega)) (.inl (Int.emod_lt_of_pos _ (by omega))) (fun b o e b1 b2 => ?_) ⟨t, by omega, _, m, ns, upd_same, ?_, h0⟩
        · rw [upd_ne b1]; exact k1 b o e b1 b2
        · rw [upd_ne nsc.symm]; exact hc
      · refine ⟨_, rfl, so, _, rfl, gTurn hs, _, _, rfl, rfl, _, rfl, so, _, rfl, pTurn hs, ?_⟩
        have hs2 : upd H1 so (.dK (srcK co l m (t + 1))) so = some (.dK (srcK co l m (t + 1))) := upd_same
        have hc2 : upd H1 so (.dK (srcK co l m (t + 1))) co = some (.lst (ns.map V.int)) := by rw [upd_ne nsc.symm]; exact hc
        have k2 : ∀ b o, H b = some o → b ≠ so → b ≠ co → upd H1 so (.dK (srcK co l m (t + 1))) b = some o := fun b o e b1 b2 => by rw [upd_ne b1]; exact k1 b o e b1 b2
        have fin : ∀ k, 0 ≤ k → k < n → Q (.int k) (upd H1 so (.dK (srcK co l m (t + 1)))) := fun k c1 c2 => q k _ c1 (.inl c2) k2 ⟨t + 1, by omega, l, m, ns, hs2, hc2, by omega⟩
        generalize upd H1 so (.dK (srcK co l m (t + 1))) = H2 at *
        refine ⟨_, rfl, so, _, rfl, gTurn hs2, ?_⟩
        refine ⟨_, rfl, so, _, rfl, gMixed hs2, _, rfl, _, _, rfl, rfl, .inr ⟨by decide, by decide⟩, _, _, rfl, rfl, .inl ⟨_, rfl, _, _, rfl, rfl, (by show (0 : Int) < _; decide), ?_⟩⟩
        have b1 : 0 ≤ (m + (t + 1) * 104729) % 998244353 := Int.emod_nonneg _ (by decide)
        have b2 : (m + (t + 1) * 104729) % 998244353 < 998244353 := Int.emod_lt_of_pos _ (by decide)
        generalize (m + (t + 1) * 104729) % 998244353 = x1 at *
        refine ⟨_, rfl, _, rfl, _, _, rfl, rfl, .inl ⟨by omega, by omega⟩, _, rfl, _, _, rfl, rfl, .inr ⟨by decide, by decide⟩, _, _, rfl, rfl, .inl ⟨_, rfl, _, _, rfl, rfl, (by show (0 : Int) < _; decide), ?_⟩⟩
        have b3 : 0 ≤ (x1 * x1 + (t + 1) * 17) % 2147483647 := Int.emod_nonneg _ (by decide)
        have b4 : (x1 * x1 + (t + 1) * 17) % 2147483647 < 2147483647 := Int.emod_lt_of_pos _ (by decide)
        generalize (x1 * x1 + (t + 1) * 17) % 2147483647 = x2 at *
        refine ⟨_, rfl, _, _, rfl, rfl, ⟨by decide, by decide, by decide⟩, _, _, rfl, rfl, _, rfl, ite2 (fun h5 => ?_) fun h5 => ?_⟩
        · have h6 : 10000000 < n := by
            have := of_decide_eq_true h5
            have e : (10 : Int) ^ (7 : Int).toNat = 10000000 := by decide
            rw [e] at this
            exact this
          have h7 := ht h6
          refine ⟨_, rfl, _, _, rfl, rfl, .inr ⟨by decide, by decide⟩, _, rfl, _, _, rfl, rfl, .inl ⟨_, rfl, _, _, rfl, rfl, ⟨by decide, by decide, by omega⟩, ?_⟩⟩
          exact ⟨_, rfl, _, _, rfl, rfl, ⟨by decide, by decide⟩, .inl ⟨_, rfl, _, rfl, _, _, rfl, rfl, by omega, fin _ (Int.emod_nonneg _ (by omega)) (Int.emod_lt_of_pos _ (by omega))⟩⟩
        · exact ⟨_, rfl, _, _, rfl, rfl, ⟨by decide, by decide⟩, .inl ⟨_, rfl, _, rfl, _, _, rfl, rfl, by omega, fin _ (Int.emod_nonneg _ (by omega)) (Int.emod_lt_of_pos _ (by omega))⟩⟩
end
end DW
namespace DW
open PySem PySem.Spec
open PyProof.Rows L2
theorem def_okE {ι : Type} {mf : ι → Md} {s : ι → Spd} {P : Program} {w : World} {K : PySem.W.Frag} {mg : Str → Option Value} {base : Heap} {x qual : Str} {st : Stmt} {N ps : List Str} {g : Addr} {fd : FuncData} {k : Nat} (Fn : Fun K x qual st g fd) (S : FnScope N ps (defScope st))
    (hlen : ∀ i ds P Z, s i ds P Z → ds.length = ps.length)
    (hG : ∀ (cdv : Value) (A : Around) (outer : List Env) (sh : Shared) (H : Hp) (E : XK) (F : Fx) (i : ι) (ds : List D) (Q : D → Prop) (Z : Ex → Prop), F.m = mf i → Room k (A.deeper (envOfC qual (defScope st) sh.heap.objs.size g cdv)) → s i ds Q Z →
      ∃ G : WS, PSs (cxOf (L2.CX P w) P w K mg base N qual (defScope st) g cdv A outer sh H E) (defBody st) (tS K F (Wd E) G) ∧ G (startE N ds) { nx := fun _ => Q .non, rt := Q, ex := fun x _ => Z x }) : FnOk P w K mg base (L2.CX P w) (k + 1) g fd ps (liftG K mf s) := by
  refine Fn.okX S (fun vs H Q E h => ?_) fun cdv A outer sh H vs Q E hr h => ?_
  · obtain ⟨i, A, ds, P, Z, am, al, j, b, z, _⟩ := h
    rw [← b.length]
    exact hlen i ds P Z z
  · obtain ⟨i, A', ds, P', Z, am, al, j, b, z, q1, q2⟩ := h
    obtain ⟨G, h1, h2⟩ := hG cdv A outer sh H E ⟨mf i, A', H, am, al⟩ i ds P' Z rfl hr z
    refine ⟨_, h1, ?_⟩
    exact ⟨([], []), A', startE N ds, _, rel_start am al j b, h2, fun A2 ε2 σ2 H2 n r => q1 _ _ H2 n r.gr r.j .non, fun d v H2 p g2 j2 h2 => q1 d v H2 p g2 j2 h2, fun _ _ _ _ n => n.elim, fun _ _ _ _ n => n.elim, fun x A2 ε2 σ2 H2 cls dd n r ex => q2 x cls dd H2 n r.gr r.j (ex.mono r.aa)⟩
/-! ### loops over data -/
theorem forW_ind {g : WG} {B : WS} {N : En} (I : Ev → Prop) (last : ∀ ε, I ε → N.nx ε) : ∀ {xs : List D} {ε : Ev}, I ε →
    (∀ x ∈ xs, ∀ ε, I ε → ∀ K : Ev → Prop, (∀ ε', I ε' → K ε') → g x ε fun ε' => B ε' { N with nx := K, ct := K, bk := N.nx }) → forW g B xs ε N
  | [], ε, i, _ => last ε i
  | x :: xs, ε, i, h => h x List.mem_cons_self ε i _ fun ε' i' => forW_ind I last i' fun y hy => h y (List.mem_cons_of_mem _ hy)
theorem lc_ind {g : WG} {tt : WT} {te : WE} {vs : List Nat} {ε : Ev} {P : List D → Prop} (J : List D → Prop) (last : ∀ acc, J acc → P acc) : ∀ {xs acc : List D}, J acc → acc.length + xs.length ≤ sizeLine →
    (∀ x ∈ xs, ∀ acc, J acc → ∀ (S : D → Prop) (T : Prop), (∀ d, J (acc ++ [d]) → S d) → (J acc → T) → g x (wipeE ε vs) fun ε' => tt ε' (fun b => if b = true then te ε' S Z0 else T) Z0) → lcW g tt te vs xs acc ε P
  | [], acc, j, _, _ => last acc j
  | x :: xs, acc, j, hl, h => by
    rw [List.length_cons] at hl
    refine h x List.mem_cons_self acc j _ _ (fun d jd => ⟨by omega, lc_ind J last jd (by rw [List.length_append, List.length_singleton]; omega) fun y hy => h y (List.mem_cons_of_mem _ hy)⟩) fun jd => lc_ind J last jd (by omega) fun y hy => h y (List.mem_cons_of_mem _ hy)
theorem lc_flt {g : WG} {tt : WT} {te : WE} {vs : List Nat} {ε : Ev} {P : List D → Prop} (p : D → Bool) (φ : D → D) : ∀ {xs acc : List D}, acc.length + xs.length ≤ sizeLine →
    (∀ x ∈ xs, ∀ (S : D → Prop) (T : Prop), (p x = true → S (φ x)) → (p x = false → T) → g x (wipeE ε vs) fun ε' => tt ε' (fun b => if b = true then te ε' S Z0 else T) Z0) → P (acc ++ (xs.filter p).map φ) → lcW g tt te vs xs acc ε P
  | [], acc, _, _, q => by
    have q' : P acc := by simpa using q
    exact q'
  | x :: xs, acc, hl, h, q => by
    rw [List.length_cons] at hl
    refine h x List.mem_cons_self _ _ (fun e => ⟨by omega, lc_flt p φ (by rw [List.length_append, List.length_singleton]; omega) (fun y hy => h y (List.mem_cons_of_mem _ hy)) ?_⟩) fun e => lc_flt p φ (by omega) (fun y hy => h y (List.mem_cons_of_mem _ hy)) ?_
    · simpa [List.filter_cons, e] using q
    · simpa [List.filter_cons, e] using q
theorem lc_map {g : WG} {te : WE} {vs : List Nat} {ε : Ev} {P : List D → Prop} (φ : D → D) {xs acc : List D} (hl : acc.length + xs.length ≤ sizeLine) (h : ∀ x ∈ xs, ∀ S : D → Prop, S (φ x) → g x (wipeE ε vs) fun ε' => te ε' S Z0) (q : P (acc ++ xs.map φ)) : lcW g wYes te vs xs acc ε P :=
  lc_flt (fun _ => true) φ hl (fun x hx S T s t => by
    have := h x hx S (s rfl)
    exact this) (by rw [List.filter_eq_self.mpr (fun _ _ => rfl)]; exact q)
/-- the pairs of a dict display -/
structure DF (X : Cx) (F : Fx) (W : WX) (pos : Pos) (ks : List (Option Expr)) (vs : List Expr) (fs : List (Str × WE)) (nms : List Str) : Prop where
  run : PPs X pos ks vs (trsOf X.K F W fs)
  nm : fs.map (·.1) = nms
  all : ks.all (·.isSome) = true
  len : ks.length = vs.length
  len2 : ks.length = nms.length
section
variable {X : Cx} {F : Fx} {W : WX} {pos p2 : Pos} {ks : List (Option Expr)} {vs : List Expr} {fs : List (Str × WE)} {nms : List Str} {v : Expr} {f : WE} {x : Str} {j : Nat}
theorem dfNil : DF X F W pos [] [] [] [] := ⟨pps_nil, rfl, rfl, rfl, rfl⟩
theorem dfCons (h : PE X v (tE X.K F W f)) (r : DF X F W pos ks vs fs nms) : DF X F W pos (some (.Constant (.str x) j p2) :: ks) (v :: vs) ((x, f) :: fs) (x :: nms) :=
  ⟨pps_cons pe_str h r.run, by rw [List.map_cons, r.nm], by rw [List.all_cons, r.all]; rfl, by rw [List.length_cons, List.length_cons, r.len], by rw [List.length_cons, List.length_cons, r.len2]⟩
theorem doDict {k : Option Expr} (r : DF X F W pos (k :: ks) vs fs nms) (hd : nms.Nodup := by decide +kernel) (hl : nms.length ≤ 15 := by decide) : PE X (.Dict (k :: ks) vs pos) (tO X.K F W (oDct fs)) :=
  doDct (keys := []) (values := []) (by rw [r.nm]; exact hd) (by rw [← List.length_map (f := (·.1)), r.nm]; exact hl) (pe_disp r.run r.all r.len (fun z => by cases z) (by rw [r.len2]; exact hl))
end
/-- abs of a datum -/
def absD : D → D
  | .int i => .int (if i < 0 then -i else i)
  | d => d
def srcD (cs : List Int) (m : Int) : List (Key × D) := [(.inr "cells", .lst (cs.map D.int)), (.inr "left", .int 1), (.inr "mixed", .int m), (.inr "turn", .int 0)]
def spSource : Spd := fun ds P _ => ∃ ns : List Int, ds = [.fro (ns.map D.int)] ∧ ns.length ≤ 1000 ∧ ∀ cs m, P (.dct (srcD cs m))
section
variable {P : Program} {w : World} {K : PySem.W.Frag} {mg : Str → Option Value} {base : Heap} {f : Addr} {fd : FuncData}
abbrev nSource : List Str := ["script", "mixed", "cell", "cells", "k"]
theorem scSource : FnScope nSource ["script"] (defScope sSource) := ⟨rfl, rfl, rfl, by decide +kernel, rfl, by decide +kernel, by decide +kernel⟩
theorem ok_source (Fn : Fun K "_law_source" "_law_source" sSource f fd) (gLen : mg "len" = none) (gInt : mg "int" = none) (gAbs : mg "abs" = none) (gRange : mg "range" = none) : FnOk P w K mg base (L2.CX P w) 2 f fd ["script"] (liftP K spSource) := by
  refine def_okE Fn scSource ?len ?body
  case len =>
    rintro i ds P Z ⟨ns, rfl, _⟩
    rfl
  case body =>
    rintro cdv A outer sh H E F i ds Q Z hm hr ⟨ns, rfl, hl, q⟩
    have hu := hu_of hr
    have hp := @owns_cx P w K mg base f (L2.CX P w) nSource "_law_source" (defScope sSource) cdv A outer sh H E
    refine' ⟨_, ssCons ?s1 (ssCons ?s2 (ssCons ?s3 (ssOne ?s4))), ?p⟩
    case s1 => exact psSet scSource.nd (i := 1) (by rfl) (by exact Or.inl rfl) dInt
    case s2 => exact psFor (by exact hp) (by rfl) (dIterL (dVar 0 (pv 0))) (tgName (pg_name scSource.nd (i := 2) (by rfl) (by exact Or.inl rfl))) (ssOne (psSet scSource.nd (i := 1) (by rfl) (by exact Or.inl rfl) (dMod (bor (dCl (ta := fun p => pe_callTy call_int1 (by rfl) gInt boot_int p) clInt (dbCons (bor (dAdd (bor (dAdd (bor (dMulI (bor (dVar 1 (pv 1))) (bor dInt))) (bor (dMulI (bor (dVar 2 (pv 2))) (bor dInt))))) (bor dInt))) dbNil))) (bor dInt))))
    case s3 => exact psOwn scSource.nd (i := 3) (by rfl) (by exact Or.inr rfl) (doLc (by rfl) scSource.nd (dIterL (dVar 0 (pv 0))) (own := [("cell", 2)]) (by exact blkOk_by (show blkC nSource (defScope sSource) _ _ = true from by decide +kernel)) (fun _ _ _ _ _ => tgName (pg_name scSource.nd (i := 2) (by rfl) (by exact Or.inl rfl))) (fun _ _ _ _ _ => tsNil) (fun _ _ _ _ _ => dCl (ta := fun p => pe_callB call_abs (by rfl) gAbs boot_abs p) clAbs (dbCons (bor (dVar 2 (pv 2))) dbNil)))
    case s4 =>
      exact psRet (frE (doDict (dfCons (frE (doLc (by rfl) scSource.nd (dIterR1 (by rfl) gRange (daCons (dCl (ta := fun p => pe_callB call_len (by rfl) gLen boot_len p) clLen (dbCons (dOwn 3 (pv 3)) dbNil)) daNil)) (own := [("k", 4)]) (by exact blkOk_by (show blkC nSource (defScope sSource) _ _ = true from by decide +kernel)) (fun _ _ _ _ _ => tgName (pg_name scSource.nd (i := 4) (by rfl) (by exact Or.inl rfl))) (fun _ _ _ _ _ => tsNil) (fun _ _ _ _ _ => dIx (dOwn 3 (pv 3)) (bor (dSub (bor (dSub (bor (dCl (ta := fun p => pe_callB call_len (by rfl) gLen boot_len p) clLen (dbCons (dOwn 3 (pv 3)) dbNil))) (bor dInt))) (bor (dVar 4 (pv 4)))))))) (dfCons dInt (dfCons (dVar 1 (pv 1)) (dfCons dInt dfNil))))))
    case p =>
      refine ⟨_, rfl, _, .inr rfl, forW_ind (fun ε => ∃ m c, ε = [some (.dat (.fro (ns.map D.int))), some (.dat (.int m)), c, none, none]) ?_ ⟨11, none, rfl⟩ ?_⟩
      · rintro ε ⟨m, c, rfl⟩
        refine ⟨_, rfl, _, .inr rfl, lc_map absD (by simp; rw [sizeLine_eq]; omega) (fun x hx S hS => ?_) ?_⟩
        · obtain ⟨z, _, rfl⟩ := List.mem_map.mp hx
          exact ⟨_, rfl, hS⟩
        · have e : (ns.map D.int).map absD = (ns.map fun i => if i < 0 then -i else i).map D.int := by rw [List.map_map, List.map_map]; rfl
          rw [List.nil_append, e]
          have hl2 : (ns.map fun i : Int => if i < 0 then -i else i).length = ns.length := by simp
          generalize (ns.map fun i : Int => if i < 0 then -i else i) = cs at *
          have hlc : (cs.map D.int).length = cs.length := by simp
          refine ⟨_, rfl, _, rfl, by omega, by omega, lc_ind (fun acc => ∃ cs : List Int, acc = cs.map D.int) ?_ ⟨[], rfl⟩ (by simp [rngD]; rw [sizeLine_eq]; omega) ?_⟩
          · rintro acc ⟨cs', rfl⟩
            exact ⟨_, rfl, q cs' m⟩
          · rintro x hx acc ⟨cs', rfl⟩ S T hS _
            obtain ⟨i, hi, rfl⟩ := List.mem_map.mp hx
            have hi' : i < cs.length := by
              have := List.mem_range.mp hi
              omega
            have hj : cs.length - 1 - i < cs.length := by omega
            refine ⟨_, rfl, _, rfl, trivial, _, rfl, trivial, .int cs[cs.length - 1 - i], ?_, hS _ ⟨cs' ++ [cs[cs.length - 1 - i]], by simp⟩⟩
            have e2 : ((cs.map D.int).length : Int) - 1 - (0 + (i : Int)) = ((cs.length - 1 - i : Nat) : Int) := by omega
            show atI (cs.map D.int) (((cs.map D.int).length : Int) - 1 - (0 + (i : Int))) = _
            rw [e2]
            exact atI_nat (by simp [hj])
      · intro x hx ε hε Kk hK
        obtain ⟨m, c, rfl⟩ := hε
        obtain ⟨z, _, rfl⟩ := List.mem_map.mp hx
        refine ⟨_, rfl, .inr ⟨by decide, by decide⟩, _, rfl, .inr ⟨by decide, by decide⟩, (by show (0 : Int) < _; decide), hK _ ⟨_, _, rfl⟩⟩
end
end DW
namespace DW
open PySem PySem.Spec
open PyProof.Rows L2 NdefX
/-! ### the errors' own __init__ -/
/-- the words of a class's first def, a method -/
def stOf (i : Nat) : Stmt := inClass (top i) 0
def nfOf (st : Stmt) (qual : Str) (cc cda : Addr) : NF := ⟨"__init__", qual, defArgs st, defBody st, defScope st, [(("__class__" : Str), cc)], cda⟩
structure IF (K : PySem.W.Frag) (mg : Str → Option Value) (P : Program) (C fI : Addr) (fd : FuncData) (st : Stmt) (qual : Str) (cc cda : Addr) (initId : String) : Prop where
  n : InC K mg P C fI fd (nfOf st qual cc cda) cc initId
  cd : PySem.W.codeIn K (.ref cda) qual = true
  iC : PySem.W.findIn K (.ref C) "__init__" = some (some (.ref fI))
  tI : PySem.W.typeIn K (.ref fI) = some (.type "function")
theorem all_c {α : Type} {p : α → Prop} {a : α} {l : List α} (h : p a) (t : ∀ x ∈ l, p x) : ∀ x ∈ a :: l, p x := List.forall_mem_cons.mpr ⟨h, t⟩
theorem all_n {α : Type} {p : α → Prop} : ∀ x ∈ ([] : List α), p x := fun _ h => nomatch h
abbrev okT : L2.St → Hp → Prop := fun _ _ => True
abbrev okR (i : Nat) : L2.St → Hp → Prop := fun σ _ => ∃ y, σ[i]? = some (some (.str y)) ∧ Short y
abbrev okI (i : Nat) : L2.St → Hp → Prop := fun σ _ => ∃ n : Int, σ[i]? = some (some (.int n)) ∧ n.natAbs.log2 < 1920 ∧ (toString n : Str).length ≤ 100000
abbrev okU (K : PySem.W.Frag) (i : Nat) : L2.St → Hp → Prop := fun σ H => ∃ (a : Addr) (l : List Str), σ[i]? = some (some (.ref a)) ∧ SqT K H a (l.map V.str) ∧ l.length ≤ 9 ∧ ∀ y ∈ l, Short y
abbrev okL (K : PySem.W.Frag) (i : Nat) : L2.St → Hp → Prop := fun σ H => ∃ (a : Addr) (l : List Str), σ[i]? = some (some (.ref a)) ∧ SqL K H a (l.map V.str) ∧ l.length ≤ 9 ∧ ∀ y ∈ l, Short y
theorem mk0 {a C : Addr} {H : Hp} (ea : H a = some (exo a C none)) : Mk1 a C H [] H := ⟨fun _ _ e _ => e, .inl ⟨rfl, ea⟩⟩
theorem strs_at {K : PySem.W.Frag} {A : Addr → Prop} {H : Hp} : ∀ {ys : List Str} {ws : List V}, Dats K A H (ys.map D.str) ws → ws = ys.map V.str
  | [], _, b => by cases b; rfl
  | y :: ys, _, b => by
    cases b with
    | cons b t =>
      cases b
      rw [strs_at t]
      rfl
theorem dats2 {K : PySem.W.Frag} {A : Addr → Prop} {H : Hp} {d e : D} {ws : List V} (b : Dats K A H [d, e] ws) : ∃ v u, ws = [v, u] ∧ Dat K A H d v ∧ Dat K A H e u := by
  cases b with
  | cons b t =>
    cases t with
    | cons b2 t => cases t; exact ⟨_, _, rfl, b, b2⟩
theorem tup_at {K : PySem.W.Frag} {A : Addr → Prop} {H : Hp} {c : List Str} {v : V} (b : Dat K A H (.tup (c.map D.str)) v) : ∃ p, v = .ref p ∧ SqT K H p (c.map V.str) := by
  cases b with
  | tup h hs =>
    obtain rfl := strs_at hs
    exact ⟨_, rfl, h.sq⟩
theorem int_small {n : Int} (h : n.natAbs < 2 ^ 64) : n.natAbs.log2 < 1920 := by
  by_cases z : n.natAbs = 0
  · rw [z]; decide
  · exact Nat.lt_of_lt_of_le ((Nat.log2_lt z).mpr h) (by decide)
theorem int_short {n : Int} (h : n.natAbs < 2 ^ 64) : (toString n : Str).length ≤ 100000 := by
  have e := int_text_length_le (k := 1920) (by decide) (int_small h)
  rw [PySem.ofString_length]
  omega
/-- what is made of texts -/
def GS (ns : List Str) : List D → List (Str × D) → Prop := fun ds fs => ∃ ys : List Str, ys.length = ns.length ∧ (∀ y ∈ ys, Short y) ∧ ds = ys.map D.str ∧ fs = (ns.zip (ys.map D.str)).reverse
section
variable {P : Program} {w : World} {K : PySem.W.Frag} {mg : Str → Option Value} {base : Heap} {fd : FuncData} {fI cc cda C : Addr} {B newId initId : String} {bmB : List Value}
theorem scBadName : NScope ["self", "name", "__class__"] ["self", "name"] [("__class__" : Str)] (defScope (stOf 4)) := nscope_by (by decide +kernel)
def gBadName : List D → List (Str × D) → Prop := GS ["name"]
theorem q_BadName (T : EC K C B newId initId bmB) (I : IF K mg P C fI fd (stOf 4) "BadName.__init__" cc cda initId) (a0 : PySem.W.findIn K (.ref C) "name" = some none) : FnOk P w K mg base (L2.CX P w) 2 fI fd ["self", "name"] (spI K C gBadName) := by
  refine exc_ok (N := ["self", "name", "__class__"]) T I.n I.cd scBadName rfl rfl [okR 1, okT] (by show 2 ≤ 100; omega) (fun a => tOs a C "name" (tVar 1)) ?len (fun Ar outer s H E hr => .cons (smRep (pv 1)) (.cons (smCon) .nil)) (fun Ar outer s H E a hr => pss_one (psSelf T a0 (pv 0) (pv 1))) ?run
  case len =>
    rintro ds fs ⟨ys, hl, _, rfl, _⟩
    rw [List.length_map, hl]
    rfl
  case run =>
    rintro A H a ws ds fs Q Aa ea b ⟨ys, hl, hs, rfl, rfl⟩ s0 q
    match ys, hl with
    | [y0], _ =>
      obtain rfl := strs_at b
      exact ⟨all_c ⟨_, rfl, hs _ (by simp)⟩ (all_c trivial all_n), osVar (mk0 ea) s0 (by show 0 ≤ 900; omega) rfl (fun H1 S1 => q H1 _ S1 (by simp) rfl fun dx n0 => mk_keep S1 Aa n0 (show Dats K A H _ _ from .cons (.str y0) .nil))⟩
theorem scTwiceTold : NScope ["self", "name", "__class__"] ["self", "name"] [("__class__" : Str)] (defScope (stOf 5)) := nscope_by (by decide +kernel)
def gTwiceTold : List D → List (Str × D) → Prop := GS ["name"]
theorem q_TwiceTold (T : EC K C B newId initId bmB) (I : IF K mg P C fI fd (stOf 5) "TwiceTold.__init__" cc cda initId) (a0 : PySem.W.findIn K (.ref C) "name" = some none) : FnOk P w K mg base (L2.CX P w) 2 fI fd ["self", "name"] (spI K C gTwiceTold) := by
  refine exc_ok (N := ["self", "name", "__class__"]) T I.n I.cd scTwiceTold rfl rfl [okR 1, okT] (by show 2 ≤ 100; omega) (fun a => tOs a C "name" (tVar 1)) ?len (fun Ar outer s H E hr => .cons (smRep (pv 1)) (.cons (smCon) .nil)) (fun Ar outer s H E a hr => pss_one (psSelf T a0 (pv 0) (pv 1))) ?run
  case len =>
    rintro ds fs ⟨ys, hl, _, rfl, _⟩
    rw [List.length_map, hl]
    rfl
  case run =>
    rintro A H a ws ds fs Q Aa ea b ⟨ys, hl, hs, rfl, rfl⟩ s0 q
    match ys, hl with
    | [y0], _ =>
      obtain rfl := strs_at b
      exact ⟨all_c ⟨_, rfl, hs _ (by simp)⟩ (all_c trivial all_n), osVar (mk0 ea) s0 (by show 0 ≤ 900; omega) rfl (fun H1 S1 => q H1 _ S1 (by simp) rfl fun dx n0 => mk_keep S1 Aa n0 (show Dats K A H _ _ from .cons (.str y0) .nil))⟩
theorem scNotSame : NScope ["self", "x", "__class__"] ["self", "x"] [("__class__" : Str)] (defScope (stOf 7)) := nscope_by (by decide +kernel)
def gNotSame : List D → List (Str × D) → Prop := GS ["x"]
theorem q_NotSame (T : EC K C B newId initId bmB) (I : IF K mg P C fI fd (stOf 7) "NotSame.__init__" cc cda initId) (a0 : PySem.W.findIn K (.ref C) "x" = some none) : FnOk P w K mg base (L2.CX P w) 2 fI fd ["self", "x"] (spI K C gNotSame) := by
  refine exc_ok (N := ["self", "x", "__class__"]) T I.n I.cd scNotSame rfl rfl [okR 1, okT] (by show 2 ≤ 100; omega) (fun a => tOs a C "x" (tVar 1)) ?len (fun Ar outer s H E hr => .cons (smRep (pv 1)) (.cons (smCon) .nil)) (fun Ar outer s H E a hr => pss_one (psSelf T a0 (pv 0) (pv 1))) ?run
  case len =>
    rintro ds fs ⟨ys, hl, _, rfl, _⟩
    rw [List.length_map, hl]
    rfl
  case run =>
    rintro A H a ws ds fs Q Aa ea b ⟨ys, hl, hs, rfl, rfl⟩ s0 q
    match ys, hl with
    | [y0], _ =>
      obtain rfl := strs_at b
      exact ⟨all_c ⟨_, rfl, hs _ (by simp)⟩ (all_c trivial all_n), osVar (mk0 ea) s0 (by show 0 ≤ 900; omega) rfl (fun H1 S1 => q H1 _ S1 (by simp) rfl fun dx n0 => mk_keep S1 Aa n0 (show Dats K A H _ _ from .cons (.str y0) .nil))⟩
theorem scNotThrough : NScope ["self", "x", "y", "z", "__class__"] ["self", "x", "y", "z"] [("__class__" : Str)] (defScope (stOf 8)) := nscope_by (by decide +kernel)
def gNotThrough : List D → List (Str × D) → Prop := GS ["x", "y", "z"]
theorem q_NotThrough (T : EC K C B newId initId bmB) (I : IF K mg P C fI fd (stOf 8) "NotThrough.__init__" cc cda initId) (a0 : PySem.W.findIn K (.ref C) "x" = some none) (a1 : PySem.W.findIn K (.ref C) "y" = some none) (a2 : PySem.W.findIn K (.ref C) "z" = some none) : FnOk P w K mg base (L2.CX P w) 2 fI fd ["self", "x", "y", "z"] (spI K C gNotThrough) := by
  refine exc_ok (N := ["self", "x", "y", "z", "__class__"]) T I.n I.cd scNotThrough rfl rfl [okR 1, okT, okR 3, okT, okR 2] (by show 5 ≤ 100; omega) (fun a => tSeq (tOs a C "x" (tVar 1)) (tSeq (tOs a C "y" (tVar 2)) (tOs a C "z" (tVar 3)))) ?len (fun Ar outer s H E hr => .cons (smRep (pv 1)) (.cons (smCon) (.cons (smRep (pv 3)) (.cons (smCon) (.cons (smRep (pv 2)) .nil))))) (fun Ar outer s H E a hr => pss_cons (psSelf T a0 (pv 0) (pv 1)) (pss_cons (psSelf T a1 (pv 0) (pv 2)) (pss_one (psSelf T a2 (pv 0) (pv 3))))) ?run
  case len =>
    rintro ds fs ⟨ys, hl, _, rfl, _⟩
    rw [List.length_map, hl]
    rfl
  case run =>
    rintro A H a ws ds fs Q Aa ea b ⟨ys, hl, hs, rfl, rfl⟩ s0 q
    match ys, hl with
    | [y0, y1, y2], _ =>
      obtain rfl := strs_at b
      exact ⟨all_c ⟨_, rfl, hs _ (by simp)⟩ (all_c trivial (all_c ⟨_, rfl, hs _ (by simp)⟩ (all_c trivial (all_c ⟨_, rfl, hs _ (by simp)⟩ all_n)))), osVar (mk0 ea) s0 (by show 0 ≤ 900; omega) rfl (fun H1 S1 => osVar S1 s0 (by show 1 ≤ 900; omega) rfl (fun H2 S2 => osVar S2 s0 (by show 2 ≤ 900; omega) rfl (fun H3 S3 => q H3 _ S3 (by simp) rfl fun dx n0 => mk_keep S3 Aa n0 (show Dats K A H _ _ from .cons (.str y2) (.cons (.str y1) (.cons (.str y0) .nil))))))⟩
theorem scBadPath : NScope ["self", "number", "__class__"] ["self", "number"] [("__class__" : Str)] (defScope (stOf 9)) := nscope_by (by decide +kernel)
def gBadPath : List D → List (Str × D) → Prop := fun ds fs => ∃ n : Int, ds = [.int n] ∧ n.natAbs < 2 ^ 64 ∧ fs = [(("number" : Str), D.int n)]
theorem q_BadPath (T : EC K C B newId initId bmB) (I : IF K mg P C fI fd (stOf 9) "BadPath.__init__" cc cda initId) (a0 : PySem.W.findIn K (.ref C) "number" = some none) : FnOk P w K mg base (L2.CX P w) 2 fI fd ["self", "number"] (spI K C gBadPath) := by
  refine exc_ok (N := ["self", "number", "__class__"]) T I.n I.cd scBadPath rfl rfl [okT, okI 1, okT] (by show 3 ≤ 100; omega) (fun a => tOs a C "number" (tVar 1)) ?len (fun Ar outer s H E hr => .cons (smCon) (.cons (smInt (pv 1)) (.cons (smCon) .nil))) (fun Ar outer s H E a hr => pss_one (psSelf T a0 (pv 0) (pv 1))) ?run
  case len =>
    rintro ds fs ⟨n, rfl, _⟩
    rfl
  case run =>
    rintro A H a ws ds fs Q Aa ea b ⟨n, rfl, hn, rfl⟩ s0 q
    cases b with
    | cons b t =>
      cases b; cases t
      exact ⟨all_c trivial (all_c ⟨n, rfl, int_small hn, int_short hn⟩ (all_c trivial all_n)), osVar (mk0 ea) s0 (by show 0 ≤ 900; omega) rfl (fun H1 S1 => q H1 _ S1 (by simp) rfl fun dx n0 => mk_keep S1 Aa n0 (show Dats K A H _ _ from .one (.int n)))⟩
theorem scStretched : NScope ["self", "x", "y", "__class__"] ["self", "x", "y"] [("__class__" : Str)] (defScope (stOf 13)) := nscope_by (by decide +kernel)
def gStretched : List D → List (Str × D) → Prop := GS ["x", "y"]
theorem q_Stretched (T : EC K C B newId initId bmB) (I : IF K mg P C fI fd (stOf 13) "Stretched.__init__" cc cda initId) (a0 : PySem.W.findIn K (.ref C) "x" = some none) (a1 : PySem.W.findIn K (.ref C) "y" = some none) : FnOk P w K mg base (L2.CX P w) 2 fI fd ["self", "x", "y"] (spI K C gStretched) := by
  refine exc_ok (N := ["self", "x", "y", "__class__"]) T I.n I.cd scStretched rfl rfl [okR 1, okT, okR 2, okT] (by show 4 ≤ 100; omega) (fun a => tSeq (tOs a C "x" (tVar 1)) (tOs a C "y" (tVar 2))) ?len (fun Ar outer s H E hr => .cons (smRep (pv 1)) (.cons (smCon) (.cons (smRep (pv 2)) (.cons (smCon) .nil)))) (fun Ar outer s H E a hr => pss_cons (psSelf T a0 (pv 0) (pv 1)) (pss_one (psSelf T a1 (pv 0) (pv 2)))) ?run
  case len =>
    rintro ds fs ⟨ys, hl, _, rfl, _⟩
    rw [List.length_map, hl]
    rfl
  case run =>
    rintro A H a ws ds fs Q Aa ea b ⟨ys, hl, hs, rfl, rfl⟩ s0 q
    match ys, hl with
    | [y0, y1], _ =>
      obtain rfl := strs_at b
      exact ⟨all_c ⟨_, rfl, hs _ (by simp)⟩ (all_c trivial (all_c ⟨_, rfl, hs _ (by simp)⟩ (all_c trivial all_n))), osVar (mk0 ea) s0 (by show 0 ≤ 900; omega) rfl (fun H1 S1 => osVar S1 s0 (by show 1 ≤ 900; omega) rfl (fun H2 S2 => q H2 _ S2 (by simp) rfl fun dx n0 => mk_keep S2 Aa n0 (show Dats K A H _ _ from .cons (.str y1) (.cons (.str y0) .nil))))⟩
theorem scNotAhead : NScope ["self", "x", "y", "z", "__class__"] ["self", "x", "y", "z"] [("__class__" : Str)] (defScope (stOf 14)) := nscope_by (by decide +kernel)
def gNotAhead : List D → List (Str × D) → Prop := GS ["x", "y", "z"]
theorem q_NotAhead (T : EC K C B newId initId bmB) (I : IF K mg P C fI fd (stOf 14) "NotAhead.__init__" cc cda initId) (a0 : PySem.W.findIn K (.ref C) "x" = some none) (a1 : PySem.W.findIn K (.ref C) "y" = some none) (a2 : PySem.W.findIn K (.ref C) "z" = some none) : FnOk P w K mg base (L2.CX P w) 2 fI fd ["self", "x", "y", "z"] (spI K C gNotAhead) := by
  refine exc_ok (N := ["self", "x", "y", "z", "__class__"]) T I.n I.cd scNotAhead rfl rfl [okR 1, okT, okR 3, okT, okR 2, okT] (by show 6 ≤ 100; omega) (fun a => tSeq (tOs a C "x" (tVar 1)) (tSeq (tOs a C "y" (tVar 2)) (tOs a C "z" (tVar 3)))) ?len (fun Ar outer s H E hr => .cons (smRep (pv 1)) (.cons (smCon) (.cons (smRep (pv 3)) (.cons (smCon) (.cons (smRep (pv 2)) (.cons (smCon) .nil)))))) (fun Ar outer s H E a hr => pss_cons (psSelf T a0 (pv 0) (pv 1)) (pss_cons (psSelf T a1 (pv 0) (pv 2)) (pss_one (psSelf T a2 (pv 0) (pv 3))))) ?run
  case len =>
    rintro ds fs ⟨ys, hl, _, rfl, _⟩
    rw [List.length_map, hl]
    rfl
  case run =>
    rintro A H a ws ds fs Q Aa ea b ⟨ys, hl, hs, rfl, rfl⟩ s0 q
    match ys, hl with
    | [y0, y1, y2], _ =>
      obtain rfl := strs_at b
      exact ⟨all_c ⟨_, rfl, hs _ (by simp)⟩ (all_c trivial (all_c ⟨_, rfl, hs _ (by simp)⟩ (all_c trivial (all_c ⟨_, rfl, hs _ (by simp)⟩ (all_c trivial all_n))))), osVar (mk0 ea) s0 (by show 0 ≤ 900; omega) rfl (fun H1 S1 => osVar S1 s0 (by show 1 ≤ 900; omega) rfl (fun H2 S2 => osVar S2 s0 (by show 2 ≤ 900; omega) rfl (fun H3 S3 => q H3 _ S3 (by simp) rfl fun dx n0 => mk_keep S3 Aa n0 (show Dats K A H _ _ from .cons (.str y2) (.cons (.str y1) (.cons (.str y0) .nil))))))⟩
theorem scNotBehind : NScope ["self", "x", "y", "z", "__class__"] ["self", "x", "y", "z"] [("__class__" : Str)] (defScope (stOf 15)) := nscope_by (by decide +kernel)
def gNotBehind : List D → List (Str × D) → Prop := GS ["x", "y", "z"]
theorem q_NotBehind (T : EC K C B newId initId bmB) (I : IF K mg P C fI fd (stOf 15) "NotBehind.__init__" cc cda initId) (a0 : PySem.W.findIn K (.ref C) "x" = some none) (a1 : PySem.W.findIn K (.ref C) "y" = some none) (a2 : PySem.W.findIn K (.ref C) "z" = some none) : FnOk P w K mg base (L2.CX P w) 2 fI fd ["self", "x", "y", "z"] (spI K C gNotBehind) := by
  refine exc_ok (N := ["self", "x", "y", "z", "__class__"]) T I.n I.cd scNotBehind rfl rfl [okR 1, okT, okR 3, okT, okR 2, okT] (by show 6 ≤ 100; omega) (fun a => tSeq (tOs a C "x" (tVar 1)) (tSeq (tOs a C "y" (tVar 2)) (tOs a C "z" (tVar 3)))) ?len (fun Ar outer s H E hr => .cons (smRep (pv 1)) (.cons (smCon) (.cons (smRep (pv 3)) (.cons (smCon) (.cons (smRep (pv 2)) (.cons (smCon) .nil)))))) (fun Ar outer s H E a hr => pss_cons (psSelf T a0 (pv 0) (pv 1)) (pss_cons (psSelf T a1 (pv 0) (pv 2)) (pss_one (psSelf T a2 (pv 0) (pv 3))))) ?run
  case len =>
    rintro ds fs ⟨ys, hl, _, rfl, _⟩
    rw [List.length_map, hl]
    rfl
  case run =>
    rintro A H a ws ds fs Q Aa ea b ⟨ys, hl, hs, rfl, rfl⟩ s0 q
    match ys, hl with
    | [y0, y1, y2], _ =>
      obtain rfl := strs_at b
      exact ⟨all_c ⟨_, rfl, hs _ (by simp)⟩ (all_c trivial (all_c ⟨_, rfl, hs _ (by simp)⟩ (all_c trivial (all_c ⟨_, rfl, hs _ (by simp)⟩ (all_c trivial all_n))))), osVar (mk0 ea) s0 (by show 0 ≤ 900; omega) rfl (fun H1 S1 => osVar S1 s0 (by show 1 ≤ 900; omega) rfl (fun H2 S2 => osVar S2 s0 (by show 2 ≤ 900; omega) rfl (fun H3 S3 => q H3 _ S3 (by simp) rfl fun dx n0 => mk_keep S3 Aa n0 (show Dats K A H _ _ from .cons (.str y2) (.cons (.str y1) (.cons (.str y0) .nil))))))⟩
theorem scBarePair : NScope ["self", "column", "row", "__class__"] ["self", "column", "row"] [("__class__" : Str)] (defScope (stOf 19)) := nscope_by (by decide +kernel)
def gBarePair : List D → List (Str × D) → Prop := fun ds fs => ∃ c r : List Str, ds = [.tup (c.map D.str), .tup (r.map D.str)] ∧ (c.length ≤ 9 ∧ ∀ y ∈ c, Short y) ∧ (r.length ≤ 9 ∧ ∀ y ∈ r, Short y) ∧ fs = [(("row" : Str), D.tup (r.map D.str)), (("column" : Str), D.tup (c.map D.str))]
theorem q_BarePair (T : EC K C B newId initId bmB) (I : IF K mg P C fI fd (stOf 19) "BarePair.__init__" cc cda initId) (a0 : PySem.W.findIn K (.ref C) "column" = some none) (a1 : PySem.W.findIn K (.ref C) "row" = some none) : FnOk P w K mg base (L2.CX P w) 2 fI fd ["self", "column", "row"] (spI K C gBarePair) := by
  refine exc_ok (N := ["self", "column", "row", "__class__"]) T I.n I.cd scBarePair rfl rfl [okT, okU K 1, okT, okU K 2] (by show 4 ≤ 100; omega) (fun a => tSeq (tOs a C "column" (tVar 1)) (tOs a C "row" (tVar 2))) ?len (fun Ar outer s H E hr => .cons (smCon) (.cons (smTup hr (pv 1)) (.cons (smCon) (.cons (smTup hr (pv 2)) .nil)))) (fun Ar outer s H E a hr => pss_cons (psSelf T a0 (pv 0) (pv 1)) (pss_one (psSelf T a1 (pv 0) (pv 2)))) ?run
  case len =>
    rintro ds fs ⟨c, r, rfl, _⟩
    rfl
  case run =>
    rintro A H a ws ds fs Q Aa ea b ⟨c, r, rfl, hc, hr, rfl⟩ s0 q
    obtain ⟨v1, v2, rfl, b1, b2⟩ := dats2 b
    obtain ⟨k1, rfl, t1⟩ := tup_at b1
    obtain ⟨k2, rfl, t2⟩ := tup_at b2
    exact ⟨all_c trivial (all_c ⟨k1, _, rfl, t1, hc⟩ (all_c trivial (all_c ⟨k2, _, rfl, t2, hr⟩ all_n))), osVar (mk0 ea) s0 (by show 0 ≤ 900; omega) rfl (fun H1 S1 => osVar S1 s0 (by show 1 ≤ 900; omega) rfl (fun H2 S2 => q H2 _ S2 (by simp) rfl fun dx n0 => mk_keep S2 Aa n0 (show Dats K A H _ _ from .cons b2 (.one b1))))⟩
theorem scUnknownGrade : NScope ["self", "name", "__class__"] ["self", "name"] [("__class__" : Str)] (defScope (stOf 24)) := nscope_by (by decide +kernel)
def gUnknownGrade : List D → List (Str × D) → Prop := GS ["name"]
theorem q_UnknownGrade (T : EC K C B newId initId bmB) (I : IF K mg P C fI fd (stOf 24) "UnknownGrade.__init__" cc cda initId) (a0 : PySem.W.findIn K (.ref C) "name" = some none) : FnOk P w K mg base (L2.CX P w) 2 fI fd ["self", "name"] (spI K C gUnknownGrade) := by
  refine exc_ok (N := ["self", "name", "__class__"]) T I.n I.cd scUnknownGrade rfl rfl [okT, okR 1] (by show 2 ≤ 100; omega) (fun a => tOs a C "name" (tVar 1)) ?len (fun Ar outer s H E hr => .cons (smCon) (.cons (smRep (pv 1)) .nil)) (fun Ar outer s H E a hr => pss_one (psSelf T a0 (pv 0) (pv 1))) ?run
  case len =>
    rintro ds fs ⟨ys, hl, _, rfl, _⟩
    rw [List.length_map, hl]
    rfl
  case run =>
    rintro A H a ws ds fs Q Aa ea b ⟨ys, hl, hs, rfl, rfl⟩ s0 q
    match ys, hl with
    | [y0], _ =>
      obtain rfl := strs_at b
      exact ⟨all_c trivial (all_c ⟨_, rfl, hs _ (by simp)⟩ all_n), osVar (mk0 ea) s0 (by show 0 ≤ 900; omega) rfl (fun H1 S1 => q H1 _ S1 (by simp) rfl fun dx n0 => mk_keep S1 Aa n0 (show Dats K A H _ _ from .cons (.str y0) .nil))⟩
theorem scUnknownPoint : NScope ["self", "name", "__class__"] ["self", "name"] [("__class__" : Str)] (defScope (stOf 25)) := nscope_by (by decide +kernel)
def gUnknownPoint : List D → List (Str × D) → Prop := GS ["name"]
theorem q_UnknownPoint (T : EC K C B newId initId bmB) (I : IF K mg P C fI fd (stOf 25) "UnknownPoint.__init__" cc cda initId) (a0 : PySem.W.findIn K (.ref C) "name" = some none) : FnOk P w K mg base (L2.CX P w) 2 fI fd ["self", "name"] (spI K C gUnknownPoint) := by
  refine exc_ok (N := ["self", "name", "__class__"]) T I.n I.cd scUnknownPoint rfl rfl [okT, okR 1] (by show 2 ≤ 100; omega) (fun a => tOs a C "name" (tVar 1)) ?len (fun Ar outer s H E hr => .cons (smCon) (.cons (smRep (pv 1)) .nil)) (fun Ar outer s H E a hr => pss_one (psSelf T a0 (pv 0) (pv 1))) ?run
  case len =>
    rintro ds fs ⟨ys, hl, _, rfl, _⟩
    rw [List.length_map, hl]
    rfl
  case run =>
    rintro A H a ws ds fs Q Aa ea b ⟨ys, hl, hs, rfl, rfl⟩ s0 q
    match ys, hl with
    | [y0], _ =>
      obtain rfl := strs_at b
      exact ⟨all_c trivial (all_c ⟨_, rfl, hs _ (by simp)⟩ all_n), osVar (mk0 ea) s0 (by show 0 ≤ 900; omega) rfl (fun H1 S1 => q H1 _ S1 (by simp) rfl fun dx n0 => mk_keep S1 Aa n0 (show Dats K A H _ _ from .cons (.str y0) .nil))⟩
theorem scNotTold : NScope ["self", "name", "__class__"] ["self", "name"] [("__class__" : Str)] (defScope (stOf 26)) := nscope_by (by decide +kernel)
def gNotTold : List D → List (Str × D) → Prop := GS ["name"]
theorem q_NotTold (T : EC K C B newId initId bmB) (I : IF K mg P C fI fd (stOf 26) "NotTold.__init__" cc cda initId) (a0 : PySem.W.findIn K (.ref C) "name" = some none) : FnOk P w K mg base (L2.CX P w) 2 fI fd ["self", "name"] (spI K C gNotTold) := by
  refine exc_ok (N := ["self", "name", "__class__"]) T I.n I.cd scNotTold rfl rfl [okT, okR 1] (by show 2 ≤ 100; omega) (fun a => tOs a C "name" (tVar 1)) ?len (fun Ar outer s H E hr => .cons (smCon) (.cons (smRep (pv 1)) .nil)) (fun Ar outer s H E a hr => pss_one (psSelf T a0 (pv 0) (pv 1))) ?run
  case len =>
    rintro ds fs ⟨ys, hl, _, rfl, _⟩
    rw [List.length_map, hl]
    rfl
  case run =>
    rintro A H a ws ds fs Q Aa ea b ⟨ys, hl, hs, rfl, rfl⟩ s0 q
    match ys, hl with
    | [y0], _ =>
      obtain rfl := strs_at b
      exact ⟨all_c trivial (all_c ⟨_, rfl, hs _ (by simp)⟩ all_n), osVar (mk0 ea) s0 (by show 0 ≤ 900; omega) rfl (fun H1 S1 => q H1 _ S1 (by simp) rfl fun dx n0 => mk_keep S1 Aa n0 (show Dats K A H _ _ from .cons (.str y0) .nil))⟩
end
end DW
namespace DW
open PySem PySem.Spec
open PyProof.Rows L2 NdefX
/-! ### Clash: its path is a list of its own -/
def spClash (K : PySem.W.Frag) (C : Addr) : Sp := fun vs H Q _ => ∃ (a p : Addr) (y : Str) (l : List Str), vs = [.ref a, .str y, .ref p] ∧ H a = some (exo a C none) ∧ Short y ∧ H p = some (.lst (l.map V.str)) ∧ l.length ≤ 9 ∧ (∀ z ∈ l, Short z) ∧
  ∀ H' dx p', (∀ b o, H b = some o → b ≠ a → H' b = some o) → H' a = some (exo a C (some dx)) → H dx = none → dx ≠ a → H' dx = some (exd dx [("path", .ref p'), ("name", .str y)]) → H p' = none → H' p' = some (.lst (l.map V.str)) → Q .non H'
section
variable {P : Program} {w : World} {K : PySem.W.Frag} {mg : Str → Option Value} {base : Heap} {fd : FuncData} {fI cc cda C : Addr} {B newId initId : String} {bmB : List Value}
theorem scClash : NScope ["self", "name", "path", "__class__"] ["self", "name", "path"] [("__class__" : Str)] (defScope (stOf 22)) := nscope_by (by decide +kernel)
theorem q_Clash (T : EC K C B newId initId bmB) (I : IF K mg P C fI fd (stOf 22) "Clash.__init__" cc cda initId) (a0 : PySem.W.findIn K (.ref C) "name" = some none) (a1 : PySem.W.findIn K (.ref C) "path" = some none) (gL : mg "list" = none) :
    FnOk P w K mg base (L2.CX P w) 2 fI fd ["self", "name", "path"] (spClash K C) := by
  refine init_ok (N := ["self", "name", "path", "__class__"]) T I.n I.cd scClash rfl (fun vs H Q E ⟨a, p, y, l, ev, _⟩ => by rw [ev]; rfl) rfl (fun Ar outer s H vs Q E hr ⟨a, p, y, l, ev, ea, hy, hp, hl, hs, q⟩ => ?_)
  subst ev
  refine ⟨a, _, tSeq (tOs a C "name" (tVar 1)) (tOs a C "path" (tCB _ (tCons (tVar 2) tNil))), rfl, ea, pa_cons (pe_joined (.cons smCon (.cons (smRep (pv 1)) (.cons smCon (.cons (smLst hr (pv 2)) .nil))))) pa_nil, pss_cons (psSelf T a0 (pv 0) (pv 1)) (pss_one (psSelf T a1 (pv 0) (pe_callTy call_list_of (by rfl) gL boot_list (pa_cons (pv 2) pa_nil)))), ?_⟩
  refine js_any [okT, okR 1, okT, okL K 2] Str.empty _ (by show 0 + 100000 * 4 ≤ _; rw [sizeLine_eq]; omega) (all_c trivial (all_c ⟨y, rfl, hy⟩ (all_c trivial (all_c ⟨p, l, rfl, .of hp, hl, hs⟩ all_n)))) fun m => ⟨by show 1 ≤ 1000; omega, ea, ?_⟩
  refine osVar (mk0 ea) rfl (by show 0 ≤ 900; omega) rfl fun H1 S1 => ?_
  obtain ⟨k1, ⟨z, _⟩ | ⟨dx, e1, e2, e3, e4⟩⟩ := S1
  · cases z
  have pa : p ≠ a := fun z => by rw [z, ea] at hp; cases hp
  have hp1 := k1 p _ hp pa
  refine ⟨_, rfl, p, _, rfl, .inl (.of hp1), fun r hr1 => ⟨rfl, .inr ⟨dx, [(("name" : Str), V.str y)], ?_, ?_, by show 1 ≤ 900; omega, ?_⟩⟩⟩
  · rw [upd_ne (ne_of_none e1 hr1)]; exact e1
  · rw [upd_ne (ne_of_none e4 hr1)]; exact e4
  · have hr0 : H r = none := by
      cases e : H r with
      | none => rfl
      | some o =>
        by_cases z : r = a
        · rw [z, e1] at hr1; cases hr1
        · rw [k1 r o e z] at hr1; cases hr1
    have rd : r ≠ dx := fun z => by rw [z, e4] at hr1; cases hr1
    refine q _ dx r (fun b o e ba => ?_) ?_ e2 e3 upd_same hr0 ?_
    · rw [upd_ne (ne_of_none e e2), upd_ne (ne_of_none e hr0)]
      exact k1 b o e ba
    · rw [upd_ne (Ne.symm e3), upd_ne (ne_of_none e1 hr1)]
      exact e1
    · rw [upd_ne rd, upd_same]
end
def wClash (C : Addr) (f g : WE) : WE := fun ε P Z => f ε (fun d => g ε (fun e => ∃ (y : Str) (l : List Str), d = .str y ∧ e = .lst (l.map D.str) ∧ Short y ∧ l.length ≤ 9 ∧ (∀ z ∈ l, Short z) ∧ P (.exc C [(("path" : Str), .lst (l.map D.str)), (("name" : Str), .str y)])) Z) Z
section
variable {X : Cx} {F : Fx} {W : WX} {e1 e2 : Expr} {f g : WE} {pos p : Pos} {x : Str} {C fI : Addr} {fd : FuncData} {k : Nat} {B newId initId : String} {bmB : List Value}
theorem dClash (T : EC X.K C B newId initId bmB) (iC : PySem.W.findIn X.K (.ref C) "__init__" = some (some (.ref fI))) (tI : PySem.W.typeIn X.K (.ref fI) = some (.type "function")) (F1 : FnOk X.prog X.w X.K X.mg X.base (L2.CX X.prog X.w) k fI fd ["self", "name", "path"] (spClash X.K C)) (hr : Room (k + 1) X.A) (hb : Binds X.K fd ["self", "name", "path"] [])
    (hg : Gl X x) (hm : X.mg x = some (.ref C)) (h1 : PE X e1 (tE X.K F W f)) (h2 : PE X e2 (tB X.K F W g)) (dbg : (x == ("__debug__" : Str)) = false := by decide) (he1 : starEach [e1, e2] X.env = (false, eval e1 X.env) :: starEach [e2] X.env := by rfl) (he2 : starEach [e2] X.env = (false, eval e2 X.env) :: starEach [] X.env := by rfl) (hpl : (backTo pos (starEach [e2] X.env)).any (·.1) = false := by rfl) :
    PE X (.Call (.Name x p) [e1, e2] [] pos) (tE X.K F W (wClash C f g)) := by
  refine ⟨fun pins s σ H Q I ⟨π, A, ε, P, Z, R, wz, z, q⟩ => ?_⟩
  have ha : PA X [e1, e2] (tCons (tE X.K F W f) (tCons (tB X.K F W g) tNil)) := pa_cons h1 (pa_cons h2 pa_nil he2) he1
  refine wpAny_Call_Name_kw (ld_glob I hg hm (hd := dbg) ?_)
  refine PySem.W.callWith_K (h₀ := X.base) I.ok.mod.kin T.kpC (thn (ha.run pos pins s σ H (fun vs H1 => ∃ (y : Str) (l : List Str) (r : Addr), vs = [.str y, .ref r] ∧ Short y ∧ l.length ≤ 9 ∧ (∀ z ∈ l, Short z) ∧ H1 r = some (.lst (l.map V.str)) ∧ P (.exc C [(("path" : Str), .lst (l.map D.str)), (("name" : Str), .str y)]) ∧ Grow F.m H H1 ∧ F.m.J H1) I
    ⟨π, A, ε, _, Z, R, wz, z, fun d v H1 z2 gr j b => ⟨π, A, ε, _, Z, R.grow gr j, wz.grow gr, z2, fun e u H2 ⟨y, l, e3, e4, g1, g2, g3, g4⟩ gr2 j2 b2 => by
      subst e3 e4
      obtain ⟨r, vs, rfl, _, hr, hs⟩ := b2
      obtain rfl := strs_at hs
      cases b
      exact ⟨y, l, r, rfl, g1, g2, g3, hr, g4, gr.trans gr2, j2⟩⟩⟩) fun us s1 ⟨vs, H1, I1, r1, y, l, r, ev, g1, g2, g3, g4, g5, gr, j⟩ => ⟨I1.kIn, ?_⟩) he1 hpl
  subst ev
  show wpAny (model X.prog X.w) X.A (call (.ref C) us) _ _ _
  obtain ⟨nm, N', qn, bs, bm, hdct, sn, sub, ab, col, dd, k0, k1, k2, k3, k5, hC, hT⟩ := PySem.W.excInit_of I1.kIn T.ini
  cases s1 with
  | mk hp gs dr tk os =>
    have szle : hp.objs.size ≤ hp.objs.size + 1 := by omega
    have frsh : H1 (hp.objs.size + 1) = none := I1.hok.fresh szle
    have older : ∀ b o, hp.get? b = some o → (Heap.push (Heap.push hp (PySem.W.kdv_tup us)) (PySem.HandSPX.excO C hp.objs.size)).get? b = some o := fun b o e => Heap.get?_push_of_some _ (Heap.get?_push_of_some _ e)
    have there : (Heap.push (Heap.push hp (PySem.W.kdv_tup us)) (PySem.HandSPX.excO C hp.objs.size)).get? (hp.objs.size + 1) = some (PySem.HandSPX.excO C hp.objs.size) := by heap_get
    have Inew : Inv X pins σ (upd H1 (hp.objs.size + 1) (exo (hp.objs.size + 1) C none)) ⟨Heap.push (Heap.push hp (PySem.W.kdv_tup us)) (PySem.HandSPX.excO C hp.objs.size), gs, dr, tk, os⟩ :=
      I1.laid (t' := tk) (a := hp.objs.size + 1) (o := exo (hp.objs.size + 1) C none) (h' := Heap.push (Heap.push hp (PySem.W.kdv_tup us)) (PySem.HandSPX.excO C hp.objs.size)) older szle (exo_ok there)
    have R1 := R.grow gr j
    have old : ∀ b o, H1 b = some o → b ≠ hp.objs.size + 1 := fun b o e => ne_of_none e frsh
    have prom : spClash X.K C [.ref (hp.objs.size + 1), .str y, .ref r] (upd H1 (hp.objs.size + 1) (exo (hp.objs.size + 1) C none)) (fun v H3 => v = .non ∧ ∃ (dx p' : Addr), (∀ b o, H1 b = some o → H3 b = some o) ∧ H3 (hp.objs.size + 1) = some (exo (hp.objs.size + 1) C (some dx)) ∧ H1 dx = none ∧ H3 dx = some (exd dx [("path", .ref p'), ("name", .str y)]) ∧ H1 p' = none ∧ H3 p' = some (.lst (l.map V.str))) E0 := by
      refine ⟨_, r, y, l, rfl, upd_same, g1, by rw [upd_ne (old r _ g4)]; exact g4, g2, g3, fun H' dx p' c1 c2 c3 c4 c5 c6 c7 => ⟨rfl, dx, p', fun b o e => c1 b o (by rw [upd_ne (old b o e)]; exact e) (old b o e), c2, ?_, c5, ?_, c7⟩⟩
      · rw [upd_ne c4] at c3; exact c3
      · have : p' ≠ hp.objs.size + 1 := fun z => by rw [z, upd_same] at c6; cases c6
        rw [upd_ne this] at c6; exact c6
    have hus : us.length = 2 := by have := r1.length; simpa using this.symm
    have bnd := hb _ (.ref (hp.objs.size + 1) :: us) Inew.kIn (by rw [List.append_nil, List.length_cons, hus]; rfl)
    rw [List.append_nil] at bnd
    refine wpAny_call (PySem.HandSPX.call_own T.eb hT hC (PySem.W.looks_findIn I1.kIn iC) (fun self => PySem.W.bind_fn I1.kIn self tI) (by rw [sizeLine_eq]; omega) (codeAny_mono (F1.run _ X.stack _ _ _ _ _ _ E0 (hr.make C us []) (Inew.env0.make C us []) bnd (show Vals [.ref (hp.objs.size + 1), .str y, .ref r] (Value.ref (hp.objs.size + 1) :: us) from .cons rfl r1) prom) fun rr s' hq => ?_))
    cases rr with
    | error er => exact passL pins σ _ _ er s' Inew hq
    | ok fl =>
      cases fl with
      | ret u =>
        obtain ⟨v, H3, J3, rv, ev, dx, p', d1, d2, d3, d4, d5, d6⟩ := Inew.after hq
        subst ev
        have sd : ∀ l : List Str, Dats X.K A H3 (l.map D.str) (l.map V.str) := fun l => by
          induction l with
          | nil => exact .nil
          | cons y l ih => exact .cons (.str y) ih
        refine ⟨rv, .ref (hp.objs.size + 1), H3, J3, rfl, q _ _ H3 g5 (gr.trans fun b o e _ => d1 b o e) (F.m.st H1 H3 (fun b z => ?_) j) (.exc (fun z => R1.th _ z frsh) d2 (fun z => R1.th _ z d3) d4 rfl (.cons (.lst (fun z => R1.th _ z d5) d6 (sd l)) (.one (.str y))))⟩
        cases e : H1 b with
        | none => exact absurd e (F.m.al H1 b j z)
        | some o => exact d1 b o e
      | next => exact False.elim hq
      | brk => exact False.elim hq
      | cont => exact False.elim hq
end
end DW
namespace DW
open PySem PySem.Spec
open PyProof.Rows L2
/-! ### words of the law -/
theorem str_small (s : String) : ∀ c ∈ (Str.ofString s).cps.toList, c < 0x110000 := by
  rw [Str.ofString_eq_toList]
  intro c hc
  have hc : c ∈ s.toList.map Char.toNat := by simpa using hc
  obtain ⟨x, _, rfl⟩ := List.mem_map.mp hc
  have e : x.toNat = x.val.toNat := rfl
  have v : x.val.toNat < 0xD800 ∨ 0xDFFF < x.val.toNat ∧ x.val.toNat < 0x110000 := x.valid
  omega
theorem short_int {n : Int} (h : n.natAbs < 10 ^ 9) : (toString n : Str).length ≤ 10 ∧ ∀ c ∈ (toString n : Str).cps.toList, c < 0x110000 := by
  have e := int_text_length_le10 (k := 9) (by decide) h
  have e2 : (Str.ofString (toString n)).length = (toString n).length := PySem.ofString_length _
  exact ⟨by show (Str.ofString (toString n)).length ≤ 10; omega, str_small _⟩
theorem short_cat {c : Nat} {z : Str} (hc : c < 0x110000) (h : z.length ≤ 10 ∧ ∀ d ∈ z.cps.toList, d < 0x110000) : Short ((⟨#[c]⟩ : Str) ++ z) := by
  have e : ((⟨#[c]⟩ : Str) ++ z).cps = #[c] ++ z.cps := rfl
  refine ⟨?_, fun d hd => ?_⟩
  · rw [strLen_append]
    have : (⟨#[c]⟩ : Str).length = 1 := rfl
    have := h.1
    omega
  · rw [e] at hd
    have hd : d = c ∨ d ∈ z.cps.toList := by simpa using hd
    rcases hd with rfl | hd
    · exact hc
    · exact h.2 d hd
def spWord : Sp := fun vs H Q _ => ∃ (so co : Addr) (t : Int), vs = [.ref so] ∧ Src so co t H ∧
  ∀ y H', Short y → (∀ b o, H b = some o → b ≠ so → b ≠ co → H' b = some o) → (∃ t', t' ≤ t + 2 ∧ Src so co t' H') → Q (.str y) H'
abbrev sWord : Stmt := top 30
theorem at_range {α : Type} {xs : List α} {i : Int} (h0 : 0 ≤ i) (h1 : i < xs.length) : ∃ v, atI xs i = some v ∧ v ∈ xs := by
  obtain ⟨j, rfl⟩ : ∃ j : Nat, i = j := Int.eq_ofNat_of_zero_le h0
  have hj : j < xs.length := by omega
  exact ⟨xs[j], atI_nat (by simp [hj]), List.getElem_mem hj⟩
section
variable {P : Program} {w : World} {K : PySem.W.Frag} {mg : Str → Option Value} {base : Heap} {f : Addr} {fd : FuncData}
theorem scWord : FnScope ["source"] ["source"] (defScope sWord) := ⟨rfl, rfl, rfl, by decide +kernel, rfl, by decide +kernel, by decide +kernel⟩
theorem ok_word (Fn : Fun K "_law_word" "_law_word" sWord f fd) (gStr : mg "str" = none) (cP : Clb P w K mg base 1 "_law_pick" spPick) : FnOk P w K mg base (L2.CX P w) 2 f fd ["source"] spWord := by
  obtain ⟨g, fp, ps, Fp, hm, hk, hb⟩ := cP.ex
  refine Fn.okX scWord (fun vs H Q E ⟨so, co, t, e, _⟩ => by rw [e]; rfl) ?_
  rintro cdv A outer s H vs Q E hr ⟨so, co, t, ev, S, q⟩
  subst ev
  refine' ⟨_, ?d, ?p⟩
  case d =>
    refine' pss_one ?s1
    case s1 => exact ps_ret (pe_op opAdd (pe_ix ix_str pe_str (pe_call (E := E0) (by exact Fp) (by exact hr) (by rfl) (by exact hm) (by exact hk) (by exact hb) .nil (by exact passL) (pa_cons (pv 0) (pa_cons pe_int pa_nil))) (by exact fun _ _ => rfl)) (pe_callTy call_str_int (by rfl) (by exact gStr) boot_str (pa_cons (pe_call (E := E0) (by exact Fp) (by exact hr) (by rfl) (by exact hm) (by exact hk) (by exact hb) .nil (by exact passL) (pa_cons (pv 0) (pa_cons (pe_op op_pow pe_int pe_int) pa_nil))) pa_nil)))
  case p =>
    refine ⟨_, rfl, so, co, 26, t, rfl, S, by decide, fun z => absurd z (by decide), fun k H1 h0 h1 k1 S1 => ?_⟩
    have hk : k < 26 := h1.elim id fun z => by omega
    obtain ⟨t1, ht1, S1⟩ := S1
    obtain ⟨c, hc, hm⟩ := at_range (xs := ("abcdefghijklmnopqrstuvwxyz" : Str).cps.toList) h0 (show k < 26 from hk)
    have hcs := str_small "abcdefghijklmnopqrstuvwxyz" c hm
    refine ⟨_, k, c, rfl, rfl, by decide +kernel, hc, ?_⟩
    refine ⟨_, rfl, _, _, rfl, rfl, ⟨by decide, by decide, by decide⟩, so, co, _, t1, rfl, S1, by decide, fun z => absurd z (by decide), fun j H2 h2 h3 k2 S2 => ?_⟩
    have hj : j < 1000000 := h3.elim (fun z => z) fun z => by omega
    have hj2 : j.natAbs < 10 ^ 9 := by
      have : (10 : Nat) ^ 9 = 1000000000 := by decide
      omega
    refine ⟨j, rfl, int_small (by have : (2 : Nat) ^ 64 = 18446744073709551616 := by decide
                                  have : (10 : Nat) ^ 9 = 1000000000 := by decide
                                  omega), .inr (.inl ⟨_, _, rfl, rfl, ?_, ?_⟩)⟩
    · have := (short_int hj2).1
      have e1 : (⟨#[c]⟩ : Str).length = 1 := rfl
      rw [sizeLine_eq]; omega
    · obtain ⟨t2, ht2, S2⟩ := S2
      exact q _ H2 (short_cat hcs (short_int hj2)) (fun b o e b1 b2 => k2 b o (k1 b o e b1 b2) b1 b2) ⟨t2, by omega, S2⟩
end
end DW
namespace DW
open PySem PySem.Spec
open PyProof.Rows L2
/-! ### what the top says of the errors -/
def Sh (n : Nat) (d : D) : Prop := d.pd.canLay0 = true ∧ d.pd.depth ≤ n
theorem Sh.str {y : Str} (h : Short y) : Sh 0 (.str y) := by
  unfold Sh; rw [D.pd]
  refine ⟨?_, by simp [PyData.depth]⟩
  rw [PyData.canLay0]
  unfold PyData.strOk
  rw [← Array.all_toList]
  rw [List.all_eq_true]
  exact fun c hc => decide_eq_true (h.2 c hc)
theorem Sh.bl (y : Bool) : Sh 0 (.bl y) := by unfold Sh; rw [D.pd]; simp [PyData.canLay0, PyData.depth]
theorem Sh.int (y : Int) : Sh 0 (.int y) := by unfold Sh; rw [D.pd]; simp [PyData.canLay0, PyData.depth]
theorem Sh.non : Sh 0 .non := by unfold Sh; rw [D.pd]; simp [PyData.canLay0, PyData.depth]
theorem Sh.all {n : Nat} : ∀ {xs : List D}, (∀ x ∈ xs, Sh n x) → PyData.canLayAll0 (pds xs) = true ∧ PyData.depthAll (pds xs) ≤ n
  | [], _ => by simp [pds, PyData.canLayAll0, PyData.depthAll]
  | x :: xs, h => by
    have h1 := h x List.mem_cons_self
    have h2 := Sh.all fun y hy => h y (List.mem_cons_of_mem _ hy)
    simp [pds, PyData.canLayAll0, PyData.depthAll, h1.1, h2.1]
    have a1 := h1.2
    have a2 := h2.2
    omega
theorem Sh.lst {n : Nat} {xs : List D} (h : ∀ x ∈ xs, Sh n x) : Sh (n + 1) (.lst xs) := by
  have := Sh.all h
  unfold Sh; rw [D.pd]; simp [PyData.canLay0, PyData.depth, this.1]; omega
theorem Sh.tup {n : Nat} {xs : List D} (h : ∀ x ∈ xs, Sh n x) : Sh (n + 1) (.tup xs) := by
  have := Sh.all h
  unfold Sh; rw [D.pd]; simp [PyData.canLay0, PyData.depth, this.1]; omega
theorem Sh.ok {n : Nat} {d : D} (h : Sh n d) (hn : n ≤ 64 := by decide) : SeqAt.shaped d.pd = true := by
  unfold SeqAt.shaped
  rw [h.1, Bool.true_and]
  exact decide_eq_true (Nat.le_trans h.2 hn)
theorem Sh.eqv {n : Nat} {d : D} (h : Sh n d) : PyData.eqv d.pd d.pd = true := SeqAt.eqv_refl _ h.1
theorem Sh.okL {n : Nat} {xs : List D} (h : ∀ x ∈ xs, Sh n x) (hn : n + 1 ≤ 64 := by decide) : SeqAt.shaped (PyData.list (pds xs)) = true := by
  have := (Sh.lst h).ok hn
  rw [D.pd] at this
  exact this
def nm (i : Nat) : Str := (["BadScale", "BadTable", "MixedScales", "MixedSpaces", "BadImages", "TooMany", "NotClosed", "NotKept", "NotLoose", "NotFitting", "NothingDone", "BadName", "TwiceTold", "NotSame", "Stretched", "NotThrough", "NotAhead", "NotBehind", "BadPath", "BarePair", "Clash", "UnknownGrade", "UnknownPoint", "NotTold", "FarscaleError", "NameMissing" ] : List Str).getD i ""
def atts : List (Nat × Str) := [(11, "name"), (12, "name"), (13, "x"), (14, "x"), (14, "y"), (15, "x"), (15, "y"), (15, "z"), (16, "x"), (16, "y"), (16, "z"), (17, "x"), (17, "y"), (17, "z"), (18, "number"), (19, "column"), (19, "row"), (21, "name"), (22, "name"), (23, "name"), (20, "name"), (20, "path")]
def bts : List String := ["ValueError", "LookupError", "KeyError", "IndexError"]
/-- is an error of the i-th class one of the j-th -/
def isC (i j : Nat) : Bool := i == j || (j == 24 && i < 21) || (j == 25 && 21 ≤ i)
def isB (i : Nat) (b : String) : Bool := (b == "ValueError" && i < 21) || (b == "LookupError" && 21 ≤ i)
def factsB (K : PySem.W.Frag) (c : Nat → Addr) : Bool :=
  (List.range 26).all (fun i => decide (PySem.W.nsIn K mainGlobals (nm i) = some (some (.ref (c i))))) &&
  ((List.range 21).all (fun i => ecB K (c i) "ValueError" "ValueError.__new__" [.type "ValueError", .type "Exception", .type "BaseException", .type "object"]) &&
  ((List.range 3).all (fun i => ecB K (c (21 + i)) "LookupError" "LookupError.__new__" [.type "LookupError", .type "Exception", .type "BaseException", .type "object"]) &&
  ((List.range 11).all (fun i => decide (PySem.W.findIn K (.ref (c i)) "__init__" = some (some (.builtin "ValueError.__init__")))) &&
  ((List.range 24).all (fun i => (List.range 26).all fun j => decide (PySem.W.kitOne K (.ref (c i)) (.ref (c j)) = some (isC i j))) &&
  ((List.range 24).all (fun i => bts.all fun b => decide (PySem.W.kitOne K (.ref (c i)) (.type b) = some (isB i b))) &&
  atts.all (fun p => decide (PySem.W.findIn K (.ref (c p.1)) p.2 = some none)))))))
/-- C(..), by its own __init__ -/
structure NewOk (P : Program) (w : World) (K : PySem.W.Frag) (mg : Str → Option Value) (base : Heap) (C : Addr) (sp : Sp) (ps : List Str) : Prop where
  ex : ∃ (fI : Addr) (fd : FuncData) (B newId initId : String) (bmB : List Value), EC K C B newId initId bmB ∧ PySem.W.findIn K (.ref C) "__init__" = some (some (.ref fI)) ∧ PySem.W.typeIn K (.ref fI) = some (.type "function") ∧ FnOk P w K mg base (L2.CX P w) 2 fI fd ps sp ∧ Binds K fd ps []
section
variable {X : Cx} {F : Fx} {W : WX} {e e1 e2 : Expr} {es : List Expr} {r : WA} {f g : WE} {pos p : Pos} {x : Str} {C : Addr} {ps : List Str} {G : List D → List (Str × D) → Prop}
theorem dNewX (n : NewOk X.prog X.w X.K X.mg X.base C (spI X.K C G) ps) (hr : Room 3 X.A) (hg : Gl X x) (hm : X.mg x = some (.ref C)) (ha : PA X (e :: es) (tA X.K F W r)) (hdb : (x == ("__debug__" : Str)) = false := by decide) (he : starEach (e :: es) X.env = (false, eval e X.env) :: starEach es X.env := by rfl) (hpl : (backTo pos (starEach es X.env)).any (·.1) = false := by rfl) :
    PE X (.Call (.Name x p) (e :: es) [] pos) (tE X.K F W (wNew C G r)) := by
  obtain ⟨fI, fd, B, newId, initId, bmB, T, iC, tI, F1, hb⟩ := n.ex
  exact dNew T iC tI F1 hr hb hg hm ha hdb he hpl
theorem dClashX (n : NewOk X.prog X.w X.K X.mg X.base C (spClash X.K C) ["self", "name", "path"]) (hr : Room 3 X.A) (hg : Gl X x) (hm : X.mg x = some (.ref C)) (h1 : PE X e1 (tE X.K F W f)) (h2 : PE X e2 (tB X.K F W g)) (hdb : (x == ("__debug__" : Str)) = false := by decide)
    (he1 : starEach [e1, e2] X.env = (false, eval e1 X.env) :: starEach [e2] X.env := by rfl) (he2 : starEach [e2] X.env = (false, eval e2 X.env) :: starEach [] X.env := by rfl) (hpl : (backTo pos (starEach [e2] X.env)).any (·.1) = false := by rfl) : PE X (.Call (.Name x p) [e1, e2] [] pos) (tE X.K F W (wClash C f g)) := by
  obtain ⟨fI, fd, B, newId, initId, bmB, T, iC, tI, F1, hb⟩ := n.ex
  exact dClash T iC tI F1 hr hb hg hm h1 h2 hdb he1 he2 hpl
theorem dGlo (hg : Gl X x) (hm : X.mg x = some (.ref C)) (hd : (x == ("__debug__" : Str)) = false := by decide) : PE X (.Name x pos) (tE X.K F W (wC (.ref C))) := dC (pe_glob hg hm (v := .ref C) rfl hd) fun _ _ _ => .ref C
theorem dTy {n : String} (hg : Gl X x) (hm : X.mg x = none) (hv : bootBuiltins x = some (.type n)) (hn : x ≠ "__name__" := by decide) (hd : (x == ("__debug__" : Str)) = false := by decide) : PE X (.Name x pos) (tE X.K F W (wC (.ty n))) :=
  dC (v := .ty n) ⟨fun _ _ _ H _ I h => ld_blt I hg hm hv ⟨.ty n, H, I, rfl, h⟩ hn hd⟩ fun _ _ _ => .ty n
end
theorem bt_isinstance : bootBuiltins "isinstance" = some (.builtin "isinstance") := by decide +kernel
theorem bt_LookupError : bootBuiltins "LookupError" = some (.type "LookupError") := by decide +kernel
/-- the answers of isinstance -/
def TC (c : Nat → Addr) : Addr → D → Bool → Prop := fun C e b => ∃ i, i < 24 ∧ C = c i ∧ ((∃ j, j < 26 ∧ e = .ref (c j) ∧ b = isC i j) ∨ ∃ n, n ∈ bts ∧ e = .ty n ∧ b = isB i n)
structure Txt (P : Program) (w : World) (K : PySem.W.Frag) (mg : Str → Option Value) (base : Heap) (c : Nat → Addr) : Prop where
  g : ∀ i, i < 26 → mg (nm i) = some (.ref (c i))
  ve : ∀ i, i < 21 → EC K (c i) "ValueError" "ValueError.__new__" "ValueError.__init__" [.type "ValueError", .type "Exception", .type "BaseException", .type "object"]
  le : ∀ i, 21 ≤ i → i < 24 → EC K (c i) "LookupError" "LookupError.__new__" "LookupError.__init__" [.type "LookupError", .type "Exception", .type "BaseException", .type "object"]
  i0 : ∀ i, i < 11 → PySem.W.findIn K (.ref (c i)) "__init__" = some (some (.builtin "ValueError.__init__"))
  kit : ∀ i, i < 24 → ∀ j, j < 26 → PySem.W.kitOne K (.ref (c i)) (.ref (c j)) = some (isC i j)
  kitB : ∀ i, i < 24 → ∀ b, b ∈ bts → PySem.W.kitOne K (.ref (c i)) (.type b) = some (isB i b)
  at_ : ∀ p, p ∈ atts → PySem.W.findIn K (.ref (c p.1)) p.2 = some none
  n11 : NewOk P w K mg base (c 11) (spI K (c 11) gBadName) ["self", "name"]
  n12 : NewOk P w K mg base (c 12) (spI K (c 12) gTwiceTold) ["self", "name"]
  n13 : NewOk P w K mg base (c 13) (spI K (c 13) gNotSame) ["self", "x"]
  n14 : NewOk P w K mg base (c 14) (spI K (c 14) gStretched) ["self", "x", "y"]
  n15 : NewOk P w K mg base (c 15) (spI K (c 15) gNotThrough) ["self", "x", "y", "z"]
  n16 : NewOk P w K mg base (c 16) (spI K (c 16) gNotAhead) ["self", "x", "y", "z"]
  n17 : NewOk P w K mg base (c 17) (spI K (c 17) gNotBehind) ["self", "x", "y", "z"]
  n18 : NewOk P w K mg base (c 18) (spI K (c 18) gBadPath) ["self", "number"]
  n19 : NewOk P w K mg base (c 19) (spI K (c 19) gBarePair) ["self", "column", "row"]
  n21 : NewOk P w K mg base (c 21) (spI K (c 21) gUnknownGrade) ["self", "name"]
  n22 : NewOk P w K mg base (c 22) (spI K (c 22) gUnknownPoint) ["self", "name"]
  n23 : NewOk P w K mg base (c 23) (spI K (c 23) gNotTold) ["self", "name"]
  n20 : NewOk P w K mg base (c 20) (spClash K (c 20)) ["self", "name", "path"]
  nolen : mg "len" = none
  norange : mg "range" = none
  noisinstance : mg "isinstance" = none
  noValueError : mg "ValueError" = none
  noLookupError : mg "LookupError" = none
  noKeyError : mg "KeyError" = none
  noIndexError : mg "IndexError" = none
section
variable {P : Program} {w : World} {K : PySem.W.Frag} {mg : Str → Option Value} {base : Heap} {c : Nat → Addr} {f : Addr} {fd : FuncData}
theorem Txt.ec (h : Txt P w K mg base c) (i : Nat) (hi : i < 24) : ∃ B newId initId bmB, EC K (c i) B newId initId bmB := by
  by_cases z : i < 21
  · exact ⟨_, _, _, _, h.ve i z⟩
  · exact ⟨_, _, _, _, h.le i (by omega) hi⟩
theorem Txt.tab (h : Txt P w K mg base c) : Tab K (TC c) := by
  rintro C e b ⟨i, hi, rfl, ⟨j, hj, rfl, rfl⟩ | ⟨n, hn, rfl, rfl⟩⟩
  · exact ⟨h.ec i hi, .inl ⟨_, rfl, h.kit i hi j hj⟩⟩
  · exact ⟨h.ec i hi, .inr ⟨_, rfl, h.kitB i hi n hn⟩⟩
theorem gs1 {n y : Str} (hy : Short y) : GS [n] [.str y] [(n, .str y)] := ⟨[y], rfl, fun z hz => by rw [List.mem_singleton.mp hz]; exact hy, rfl, rfl⟩
theorem gs2 {n m y z : Str} (hy : Short y) (hz : Short z) : GS [n, m] [.str y, .str z] [(m, .str z), (n, .str y)] := ⟨[y, z], rfl, all_c hy (all_c hz all_n), rfl, rfl⟩
theorem gs3 {n m k y z x : Str} (hy : Short y) (hz : Short z) (hx : Short x) : GS [n, m, k] [.str y, .str z, .str x] [(k, .str x), (m, .str z), (n, .str y)] := ⟨[y, z, x], rfl, all_c hy (all_c hz (all_c hx all_n)), rfl, rfl⟩
def Txt.cs (_ : Txt P w K mg base c) (n : Str) : Addr → Prop := fun C => ∃ i, i < 24 ∧ (i, n) ∈ atts ∧ C = c i
theorem Txt.fld (h : Txt P w K mg base c) (n : Str) : ∀ C, h.cs n C → (∃ B newId initId bmB, EC K C B newId initId bmB) ∧ PySem.W.findIn K (.ref C) n = some none := by
  rintro C ⟨i, hi, hm, rfl⟩
  exact ⟨h.ec i hi, h.at_ (i, n) hm⟩
theorem takes_cx {N : List Str} {qual : Str} {scope : Scope} {cd : Value} {A : Around} {outer : List Env} {s : Shared} {H : Hp} {E : XK} : Takes (cxOf (L2.CX P w) P w K mg base N qual scope f cd A outer s H E) (Wd E) := takes_of rfl rfl rfl rfl

def spPlain (c : Nat → Addr) : Spd := fun ds P _ => ds = [] ∧ P (.lst ((List.range 11).map fun i => .exc (c i) []))
theorem sc__law_plain : FnScope ["rows"] [] (defScope (top 31)) := ⟨rfl, rfl, rfl, by decide +kernel, rfl, by decide +kernel, by decide +kernel⟩
theorem ok__law_plain (h : Txt P w K mg base c) (Fn : Fun K "_law_plain" "_law_plain" (top 31) f fd) : FnOk P w K mg base (L2.CX P w) 4 f fd [] (liftP K (spPlain c)) := by
  have sc := sc__law_plain
  refine def_okE Fn sc ?len ?body
  case len =>
    rintro i ds P Z ⟨rfl, _⟩
    rfl
  case body =>
    rintro cdv A outer sh H E F i ds Q Z hm hr ⟨rfl, q⟩
    have hu := hu_of hr
    have hu4 := hr.units
    have hu5 : (A.deeper (envOfC "_law_plain" (defScope (top 31)) sh.heap.objs.size f cdv)).units + 65 < cLine := by have := hr.un; omega
    have hp := @owns_cx P w K mg base f (L2.CX P w) ["rows"] "_law_plain" (defScope (top 31)) cdv A outer sh H E
    have tk := @takes_cx P w K mg base f ["rows"] "_law_plain" (defScope (top 31)) cdv A outer sh H E
    refine' ⟨_, ssCons ?s1 (ssOne ?s2), ?fin⟩
    case s1 => exact psOwn sc.nd (i := 0) (by rfl) (by exact Or.inl rfl) (doLst (daCons (dNew0 (by exact h.ve 0 (by decide)) (by exact h.i0 0 (by decide)) (by rfl) (by exact h.g 0 (by decide))) (daCons (dNew0 (by exact h.ve 1 (by decide)) (by exact h.i0 1 (by decide)) (by rfl) (by exact h.g 1 (by decide))) (daCons (dNew0 (by exact h.ve 2 (by decide)) (by exact h.i0 2 (by decide)) (by rfl) (by exact h.g 2 (by decide))) (daCons (dNew0 (by exact h.ve 3 (by decide)) (by exact h.i0 3 (by decide)) (by rfl) (by exact h.g 3 (by decide))) (daCons (dNew0 (by exact h.ve 4 (by decide)) (by exact h.i0 4 (by decide)) (by rfl) (by exact h.g 4 (by decide))) (daCons (dNew0 (by exact h.ve 5 (by decide)) (by exact h.i0 5 (by decide)) (by rfl) (by exact h.g 5 (by decide))) (daCons (dNew0 (by exact h.ve 6 (by decide)) (by exact h.i0 6 (by decide)) (by rfl) (by exact h.g 6 (by decide))) (daCons (dNew0 (by exact h.ve 7 (by decide)) (by exact h.i0 7 (by decide)) (by rfl) (by exact h.g 7 (by decide))) (daNil))))))))))
    case s2 => exact psRet (dAdd (dOwn 0 (pv 0)) (bor (frE (doLst (daCons (dNew0 (by exact h.ve 8 (by decide)) (by exact h.i0 8 (by decide)) (by rfl) (by exact h.g 8 (by decide))) (daCons (dNew0 (by exact h.ve 9 (by decide)) (by exact h.i0 9 (by decide)) (by rfl) (by exact h.g 9 (by decide))) (daCons (dNew0 (by exact h.ve 10 (by decide)) (by exact h.i0 10 (by decide)) (by rfl) (by exact h.g 10 (by decide))) (daNil))))))))
    case fin => exact ⟨by show 8 ≤ _; rw [sizeLine_eq]; omega, _, rfl, by show 3 ≤ _; rw [sizeLine_eq]; omega, by show 8 + 3 ≤ _; rw [sizeLine_eq]; omega, q⟩
def spMissing (c : Nat → Addr) : Spd := fun ds P _ => ∃ y, ds = [.str y] ∧ Short y ∧ ∀ f0 f1 f2, P (.lst [.exc (c 21) f0, .exc (c 22) f1, .exc (c 23) f2])
theorem sc__law_missing : FnScope ["word", "rows", "e"] ["word"] (defScope (top 33)) := ⟨rfl, rfl, rfl, by decide +kernel, rfl, by decide +kernel, by decide +kernel⟩
theorem ok__law_missing (h : Txt P w K mg base c) (Fn : Fun K "_law_missing" "_law_missing" (top 33) f fd) : FnOk P w K mg base (L2.CX P w) 4 f fd ["word"] (liftP K (spMissing c)) := by
  have sc := sc__law_missing
  refine def_okE Fn sc ?len ?body
  case len =>
    rintro i ds P Z ⟨y, rfl, _⟩
    rfl
  case body =>
    rintro cdv A outer sh H E F i ds Q Z hm hr ⟨y, rfl, hy, q⟩
    have hu := hu_of hr
    have hu4 := hr.units
    have hu5 : (A.deeper (envOfC "_law_missing" (defScope (top 33)) sh.heap.objs.size f cdv)).units + 65 < cLine := by have := hr.un; omega
    have hp := @owns_cx P w K mg base f (L2.CX P w) ["word", "rows", "e"] "_law_missing" (defScope (top 33)) cdv A outer sh H E
    have tk := @takes_cx P w K mg base f ["word", "rows", "e"] "_law_missing" (defScope (top 33)) cdv A outer sh H E
    refine' ⟨_, ssCons ?s1 (ssFrz 1 (ssOne ?s2)), ?fin⟩
    case s1 => exact psOwn sc.nd (i := 1) (by rfl) (by exact Or.inl rfl) (doLst (daCons (dNewX (by exact h.n21) (by exact hr) (by rfl) (by exact h.g 21 (by decide)) (daCons (dVar 0 (pv 0)) (daNil))) (daCons (dNewX (by exact h.n22) (by exact hr) (by rfl) (by exact h.g 22 (by decide)) (daCons (dVar 0 (pv 0)) (daNil))) (daCons (dNewX (by exact h.n23) (by exact hr) (by rfl) (by exact h.g 23 (by decide)) (daCons (dVar 0 (pv 0)) (daNil))) (daNil)))))
    case s2 => exact psRet (dIf (tNotIn (by exact hu5) (bor (dBl)) (bor (frE (doLc (by rfl) sc.nd (dIterL (dVar 1 (pv 1))) (own := [("e", 2)]) (by exact blkOk_by (show blkC ["word", "rows", "e"] (defScope (top 33)) _ _ = true from by decide +kernel)) (fun _ _ _ _ _ => tgName (pg_name sc.nd (i := 2) (by rfl) (by exact Or.inl rfl))) (fun _ _ _ _ _ => tsNil) (fun _ _ _ _ _ => dEq (by exact hu4) (bor (dFld (Cs := h.cs "name") (by exact h.fld "name") (dVar 2 (pv 2)))) (bor (dVar 0 (pv 0)))))))) (dVar 1 (pv 1)) (frE (doLst (daNil))))
    case fin =>
      have step : ∀ i, i < 24 → (i, ("name" : Str)) ∈ atts → h.cs "name" (c i) := fun i hi hm => ⟨i, hi, hm, rfl⟩
      refine ⟨_, rfl, _, gs1 hy, by show 1 ≤ 1000; omega, _, rfl, _, gs1 hy, by show 1 ≤ 1000; omega, _, rfl, _, gs1 hy, by show 1 ≤ 1000; omega, by show 3 ≤ _; rw [sizeLine_eq]; omega, ?_⟩
      refine ⟨_, rfl, _, rfl, _, .inl rfl, ?_⟩
      refine ⟨_, rfl, _, _, _, rfl, step 21 (by decide) (by decide +kernel), rfl, _, rfl, (Sh.str hy).ok, (Sh.str hy).ok, by show 0 < _; rw [sizeLine_eq]; omega, ?_⟩
      refine ⟨_, rfl, _, _, _, rfl, step 22 (by decide) (by decide +kernel), rfl, _, rfl, (Sh.str hy).ok, (Sh.str hy).ok, by show 1 < _; rw [sizeLine_eq]; omega, ?_⟩
      refine ⟨_, rfl, _, _, _, rfl, step 23 (by decide) (by decide +kernel), rfl, _, rfl, (Sh.str hy).ok, (Sh.str hy).ok, by show 2 < _; rw [sizeLine_eq]; omega, ?_⟩
      refine ⟨(Sh.bl false).ok, Sh.okL (n := 0) (all_c (Sh.bl _) (all_c (Sh.bl _) (all_c (Sh.bl _) all_n))), _, rfl, ?_⟩
      refine ite2 (fun _ => ⟨_, rfl, q _ _ _⟩) fun z => absurd ?_ z
      simp [pds, D.pd, PyData.eqv]
def spClasses (c : Nat → Addr) : Spd := fun ds P _ => ∃ i fs, i < 24 ∧ ds = [.exc (c i) fs] ∧ P (.lst [.int i])
theorem sc__law_classes : FnScope ["e", "rows", "k"] ["e"] (defScope (top 34)) := ⟨rfl, rfl, rfl, by decide +kernel, rfl, by decide +kernel, by decide +kernel⟩
theorem ok__law_classes (h : Txt P w K mg base c) (Fn : Fun K "_law_classes" "_law_classes" (top 34) f fd) : FnOk P w K mg base (L2.CX P w) 4 f fd ["e"] (liftP K (spClasses c)) := by
  have sc := sc__law_classes
  refine def_okE Fn sc ?len ?body
  case len =>
    rintro i ds P Z ⟨j, fs, _, rfl, _⟩
    rfl
  case body =>
    rintro cdv A outer sh H E F i ds Q Z hm hr ⟨j, fs, hj, rfl, q⟩
    have hu := hu_of hr
    have hu4 := hr.units
    have hu5 : (A.deeper (envOfC "_law_classes" (defScope (top 34)) sh.heap.objs.size f cdv)).units + 65 < cLine := by have := hr.un; omega
    have hp := @owns_cx P w K mg base f (L2.CX P w) ["e", "rows", "k"] "_law_classes" (defScope (top 34)) cdv A outer sh H E
    have tk := @takes_cx P w K mg base f ["e", "rows", "k"] "_law_classes" (defScope (top 34)) cdv A outer sh H E
    refine' ⟨_, ssCons ?s1 (ssFrz 1 (ssOne ?s2)), ?fin⟩
    case s1 => exact psOwn sc.nd (i := 1) (by rfl) (by exact Or.inr rfl) (doLst (daCons (dCl (ta := fun p => pe_callB callIs (by rfl) (by exact h.noisinstance) bt_isinstance p) (clIs (by exact h.tab)) (dbCons (bor (dVar 0 (pv 0))) (dbCons (bor (dGlo (by rfl) (by exact h.g 0 (by decide)))) (dbNil)))) (daCons (dCl (ta := fun p => pe_callB callIs (by rfl) (by exact h.noisinstance) bt_isinstance p) (clIs (by exact h.tab)) (dbCons (bor (dVar 0 (pv 0))) (dbCons (bor (dGlo (by rfl) (by exact h.g 1 (by decide)))) (dbNil)))) (daCons (dCl (ta := fun p => pe_callB callIs (by rfl) (by exact h.noisinstance) bt_isinstance p) (clIs (by exact h.tab)) (dbCons (bor (dVar 0 (pv 0))) (dbCons (bor (dGlo (by rfl) (by exact h.g 2 (by decide)))) (dbNil)))) (daCons (dCl (ta := fun p => pe_callB callIs (by rfl) (by exact h.noisinstance) bt_isinstance p) (clIs (by exact h.tab)) (dbCons (bor (dVar 0 (pv 0))) (dbCons (bor (dGlo (by rfl) (by exact h.g 3 (by decide)))) (dbNil)))) (daCons (dCl (ta := fun p => pe_callB callIs (by rfl) (by exact h.noisinstance) bt_isinstance p) (clIs (by exact h.tab)) (dbCons (bor (dVar 0 (pv 0))) (dbCons (bor (dGlo (by rfl) (by exact h.g 4 (by decide)))) (dbNil)))) (daCons (dCl (ta := fun p => pe_callB callIs (by rfl) (by exact h.noisinstance) bt_isinstance p) (clIs (by exact h.tab)) (dbCons (bor (dVar 0 (pv 0))) (dbCons (bor (dGlo (by rfl) (by exact h.g 5 (by decide)))) (dbNil)))) (daCons (dCl (ta := fun p => pe_callB callIs (by rfl) (by exact h.noisinstance) bt_isinstance p) (clIs (by exact h.tab)) (dbCons (bor (dVar 0 (pv 0))) (dbCons (bor (dGlo (by rfl) (by exact h.g 6 (by decide)))) (dbNil)))) (daCons (dCl (ta := fun p => pe_callB callIs (by rfl) (by exact h.noisinstance) bt_isinstance p) (clIs (by exact h.tab)) (dbCons (bor (dVar 0 (pv 0))) (dbCons (bor (dGlo (by rfl) (by exact h.g 7 (by decide)))) (dbNil)))) (daCons (dCl (ta := fun p => pe_callB callIs (by rfl) (by exact h.noisinstance) bt_isinstance p) (clIs (by exact h.tab)) (dbCons (bor (dVar 0 (pv 0))) (dbCons (bor (dGlo (by rfl) (by exact h.g 8 (by decide)))) (dbNil)))) (daCons (dCl (ta := fun p => pe_callB callIs (by rfl) (by exact h.noisinstance) bt_isinstance p) (clIs (by exact h.tab)) (dbCons (bor (dVar 0 (pv 0))) (dbCons (bor (dGlo (by rfl) (by exact h.g 9 (by decide)))) (dbNil)))) (daCons (dCl (ta := fun p => pe_callB callIs (by rfl) (by exact h.noisinstance) bt_isinstance p) (clIs (by exact h.tab)) (dbCons (bor (dVar 0 (pv 0))) (dbCons (bor (dGlo (by rfl) (by exact h.g 10 (by decide)))) (dbNil)))) (daCons (dCl (ta := fun p => pe_callB callIs (by rfl) (by exact h.noisinstance) bt_isinstance p) (clIs (by exact h.tab)) (dbCons (bor (dVar 0 (pv 0))) (dbCons (bor (dGlo (by rfl) (by exact h.g 11 (by decide)))) (dbNil)))) (daCons (dCl (ta := fun p => pe_callB callIs (by rfl) (by exact h.noisinstance) bt_isinstance p) (clIs (by exact h.tab)) (dbCons (bor (dVar 0 (pv 0))) (dbCons (bor (dGlo (by rfl) (by exact h.g 12 (by decide)))) (dbNil)))) (daCons (dCl (ta := fun p => pe_callB callIs (by rfl) (by exact h.noisinstance) bt_isinstance p) (clIs (by exact h.tab)) (dbCons (bor (dVar 0 (pv 0))) (dbCons (bor (dGlo (by rfl) (by exact h.g 13 (by decide)))) (dbNil)))) (daCons (dCl (ta := fun p => pe_callB callIs (by rfl) (by exact h.noisinstance) bt_isinstance p) (clIs (by exact h.tab)) (dbCons (bor (dVar 0 (pv 0))) (dbCons (bor (dGlo (by rfl) (by exact h.g 14 (by decide)))) (dbNil)))) (daCons (dCl (ta := fun p => pe_callB callIs (by rfl) (by exact h.noisinstance) bt_isinstance p) (clIs (by exact h.tab)) (dbCons (bor (dVar 0 (pv 0))) (dbCons (bor (dGlo (by rfl) (by exact h.g 15 (by decide)))) (dbNil)))) (daCons (dCl (ta := fun p => pe_callB callIs (by rfl) (by exact h.noisinstance) bt_isinstance p) (clIs (by exact h.tab)) (dbCons (bor (dVar 0 (pv 0))) (dbCons (bor (dGlo (by rfl) (by exact h.g 16 (by decide)))) (dbNil)))) (daCons (dCl (ta := fun p => pe_callB callIs (by rfl) (by exact h.noisinstance) bt_isinstance p) (clIs (by exact h.tab)) (dbCons (bor (dVar 0 (pv 0))) (dbCons (bor (dGlo (by rfl) (by exact h.g 17 (by decide)))) (dbNil)))) (daCons (dCl (ta := fun p => pe_callB callIs (by rfl) (by exact h.noisinstance) bt_isinstance p) (clIs (by exact h.tab)) (dbCons (bor (dVar 0 (pv 0))) (dbCons (bor (dGlo (by rfl) (by exact h.g 18 (by decide)))) (dbNil)))) (daCons (dCl (ta := fun p => pe_callB callIs (by rfl) (by exact h.noisinstance) bt_isinstance p) (clIs (by exact h.tab)) (dbCons (bor (dVar 0 (pv 0))) (dbCons (bor (dGlo (by rfl) (by exact h.g 19 (by decide)))) (dbNil)))) (daCons (dCl (ta := fun p => pe_callB callIs (by rfl) (by exact h.noisinstance) bt_isinstance p) (clIs (by exact h.tab)) (dbCons (bor (dVar 0 (pv 0))) (dbCons (bor (dGlo (by rfl) (by exact h.g 20 (by decide)))) (dbNil)))) (daCons (dCl (ta := fun p => pe_callB callIs (by rfl) (by exact h.noisinstance) bt_isinstance p) (clIs (by exact h.tab)) (dbCons (bor (dVar 0 (pv 0))) (dbCons (bor (dGlo (by rfl) (by exact h.g 21 (by decide)))) (dbNil)))) (daCons (dCl (ta := fun p => pe_callB callIs (by rfl) (by exact h.noisinstance) bt_isinstance p) (clIs (by exact h.tab)) (dbCons (bor (dVar 0 (pv 0))) (dbCons (bor (dGlo (by rfl) (by exact h.g 22 (by decide)))) (dbNil)))) (daCons (dCl (ta := fun p => pe_callB callIs (by rfl) (by exact h.noisinstance) bt_isinstance p) (clIs (by exact h.tab)) (dbCons (bor (dVar 0 (pv 0))) (dbCons (bor (dGlo (by rfl) (by exact h.g 23 (by decide)))) (dbNil)))) (daNil))))))))))))))))))))))))))
    case s2 => exact psRet (frE (doLc (by rfl) sc.nd (dIterR1 (by rfl) (by exact h.norange) (daCons (dCl (ta := fun p => pe_callB call_len (by rfl) (by exact h.nolen) boot_len p) clLen (dbCons (bor (dVar 1 (pv 1))) (dbNil))) (daNil))) (own := [("k", 2)]) (by exact blkOk_by (show blkC ["e", "rows", "k"] (defScope (top 34)) _ _ = true from by decide +kernel)) (fun _ _ _ _ _ => tgName (pg_name sc.nd (i := 2) (by rfl) (by exact Or.inl rfl))) (fun _ _ _ _ _ => tsOne (tVal (dIx (bor (dVar 1 (pv 1))) (bor (dVar 2 (pv 2)))))) (fun _ _ _ _ _ => dVar 2 (pv 2))))
    case fin =>
      have st : ∀ j', j' < 24 → TC c (c j) (.ref (c j')) (isC j j') := fun j' hj' => ⟨j, hj, rfl, .inl ⟨j', by omega, rfl, rfl⟩⟩
      refine ⟨_, rfl, _, _, _, rfl, st 0 (by decide), _, rfl, _, _, _, rfl, st 1 (by decide), _, rfl, _, _, _, rfl, st 2 (by decide), _, rfl, _, _, _, rfl, st 3 (by decide), _, rfl, _, _, _, rfl, st 4 (by decide), _, rfl, _, _, _, rfl, st 5 (by decide), _, rfl, _, _, _, rfl, st 6 (by decide), _, rfl, _, _, _, rfl, st 7 (by decide), _, rfl, _, _, _, rfl, st 8 (by decide), _, rfl, _, _, _, rfl, st 9 (by decide), _, rfl, _, _, _, rfl, st 10 (by decide), _, rfl, _, _, _, rfl, st 11 (by decide), _, rfl, _, _, _, rfl, st 12 (by decide), _, rfl, _, _, _, rfl, st 13 (by decide), _, rfl, _, _, _, rfl, st 14 (by decide), _, rfl, _, _, _, rfl, st 15 (by decide), _, rfl, _, _, _, rfl, st 16 (by decide), _, rfl, _, _, _, rfl, st 17 (by decide), _, rfl, _, _, _, rfl, st 18 (by decide), _, rfl, _, _, _, rfl, st 19 (by decide), _, rfl, _, _, _, rfl, st 20 (by decide), _, rfl, _, _, _, rfl, st 21 (by decide), _, rfl, _, _, _, rfl, st 22 (by decide), _, rfl, _, _, _, rfl, st 23 (by decide), by show 24 ≤ _; rw [sizeLine_eq]; omega, ?_⟩
      refine ⟨_, rfl, _, rfl, _, rfl, by show -(2 ^ 62) ≤ (24 : Int); decide, by show (24 : Int) < 2 ^ 62; decide, ?_⟩
      refine lc_flt (fun d => match d with | .int i => decide (i = (j : Int)) | _ => false) (fun d => d) (by show 0 + (rngD 0 24).length ≤ _; rw [sizeLine_eq]; simp [rngD]) (fun x hx S T hS hT => ?_) ?_
      · obtain ⟨i', hi', rfl⟩ := List.mem_map.mp hx
        have hi : i' < 24 := List.mem_range.mp hi'
        have hc : isC j i' = (j == i') := by
          unfold isC
          have a1 : (i' == 24) = false := by simp; omega
          have a2 : (i' == 25) = false := by simp; omega
          rw [a1, a2]; simp
        refine ⟨_, rfl, _, rfl, .bl (isC j i'), ?_, _, rfl, ite2 (fun z => ⟨_, rfl, hS ?_⟩) fun z => hT ?_⟩
        · show atI ((List.range 24).map fun i => D.bl (isC j i)) (0 + (i' : Int)) = _
          rw [Int.zero_add]
          exact atI_nat (by simp [hi])
        · rw [hc] at z
          have : j = i' := by simpa using z
          subst this
          show decide (0 + (j : Int) = (j : Int)) = true
          simp
        · rw [hc] at z
          have : j ≠ i' := by simpa using z
          show decide (0 + (i' : Int) = (j : Int)) = false
          simp; omega
      · have e : ∀ j, j < 24 → (List.range 24).filter (fun i => decide (i = j)) = [j] := by decide
        have e2 : List.filter (fun d => match d with | .int i => decide (i = (j : Int)) | _ => false) (rngD 0 24) = [D.int j] := by
          have e3 : (fun i : Nat => (match (D.int (0 + (i : Int)) : D) with | .int i => decide (i = (j : Int)) | _ => false)) = fun i : Nat => decide (i = j) := funext fun i => by
            show decide (0 + (i : Int) = (j : Int)) = decide (i = j)
            by_cases z : i = j
            · subst z; simp
            · rw [decide_eq_false z]; simp; omega
          have := e j hj
          unfold rngD
          rw [List.filter_map]
          show ((List.range 24).filter fun i : Nat => (match (D.int (0 + (i : Int)) : D) with | .int i => decide (i = (j : Int)) | _ => false)).map _ = _
          rw [e3, this]
          simp
        show Q (.lst ([] ++ (List.filter _ (rngD 0 24)).map _))
        rw [e2]
        exact q
end
end DW
namespace DW
open PySem PySem.Spec
open PyProof.Rows L2
section
variable {P : Program} {w : World} {K : PySem.W.Frag} {mg : Str → Option Value} {base : Heap} {c : Nat → Addr} {f : Addr} {fd : FuncData}
def spNamed (c : Nat → Addr) : Spd := fun ds P _ => ∃ (y0 y1 y2 : Str) (n : Int), ds = [.lst [.str y0, .str y1, .str y2], .int n] ∧ Short y0 ∧ Short y1 ∧ Short y2 ∧ n.natAbs < 2 ^ 64 ∧ ∀ f0 f1 f2 f3 f4 f5 f6 f7 f8 f9, P (.lst [.exc (c 11) f0, .exc (c 12) f1, .exc (c 13) f2, .exc (c 14) f3, .exc (c 15) f4, .exc (c 16) f5, .exc (c 17) f6, .exc (c 18) f7, .exc (c 19) f8, .exc (c 20) f9])
theorem sc__law_named : FnScope ["words", "number", "names", "points", "threes", "path", "pair", "given", "clash", "e"] ["words", "number"] (defScope (top 32)) := ⟨rfl, rfl, rfl, by decide +kernel, rfl, by decide +kernel, by decide +kernel⟩
theorem ok__law_named (h : Txt P w K mg base c) (Fn : Fun K "_law_named" "_law_named" (top 32) f fd) : FnOk P w K mg base (L2.CX P w) 4 f fd ["words", "number"] (liftP K (spNamed c)) := by
  have sc := sc__law_named
  refine def_okE Fn sc ?len ?body
  case len =>
    rintro i ds P Z ⟨y0, y1, y2, n, rfl, _⟩
    rfl
  case body =>
    rintro cdv A outer sh H E F i ds Q Z hm hr ⟨y0, y1, y2, n, rfl, h0, h1, h2, hn, q⟩
    have hu := hu_of hr
    have hu4 := hr.units
    have hu5 : (A.deeper (envOfC "_law_named" (defScope (top 32)) sh.heap.objs.size f cdv)).units + 65 < cLine := by have := hr.un; omega
    have hp := @owns_cx P w K mg base f (L2.CX P w) ["words", "number", "names", "points", "threes", "path", "pair", "given", "clash", "e"] "_law_named" (defScope (top 32)) cdv A outer sh H E
    have tk := @takes_cx P w K mg base f ["words", "number", "names", "points", "threes", "path", "pair", "given", "clash", "e"] "_law_named" (defScope (top 32)) cdv A outer sh H E
    refine' ⟨_, ssCons ?s1 (ssCons ?s2 (ssCons ?s3 (ssCons ?s4 (ssCons ?s5 (ssCons ?s6 (ssCons ?s7 (ssCons ?s8 (ssCons ?s9 (ssFrz 2 (ssFrz 3 (ssFrz 4 (ssCons ?s10 (ssCons ?s11 (ssCons ?s12 (ssCons ?s13 (ssOne ?s14)))))))))))))))), ?fin⟩
    case s1 => exact psOwn sc.nd (i := 2) (by rfl) (by exact Or.inl rfl) (doLst (daCons (dNewX (by exact h.n11) (by exact hr) (by rfl) (by exact h.g 11 (by decide)) (daCons (dIx (bor (dVar 0 (pv 0))) (bor (dInt))) (daNil))) (daCons (dNewX (by exact h.n12) (by exact hr) (by rfl) (by exact h.g 12 (by decide)) (daCons (dIx (bor (dVar 0 (pv 0))) (bor (dInt))) (daNil))) (daNil))))
    case s2 => exact psOwn sc.nd (i := 3) (by rfl) (by exact Or.inl rfl) (doLst (daCons (dNewX (by exact h.n13) (by exact hr) (by rfl) (by exact h.g 13 (by decide)) (daCons (dIx (bor (dVar 0 (pv 0))) (bor (dInt))) (daNil))) (daCons (dNewX (by exact h.n14) (by exact hr) (by rfl) (by exact h.g 14 (by decide)) (daCons (dIx (bor (dVar 0 (pv 0))) (bor (dInt))) (daCons (dIx (bor (dVar 0 (pv 0))) (bor (dInt))) (daNil)))) (daNil))))
    case s3 => exact psOwn sc.nd (i := 4) (by rfl) (by exact Or.inl rfl) (doLst (daCons (dNewX (by exact h.n15) (by exact hr) (by rfl) (by exact h.g 15 (by decide)) (daCons (dIx (bor (dVar 0 (pv 0))) (bor (dInt))) (daCons (dIx (bor (dVar 0 (pv 0))) (bor (dInt))) (daCons (dIx (bor (dVar 0 (pv 0))) (bor (dInt))) (daNil))))) (daCons (dNewX (by exact h.n16) (by exact hr) (by rfl) (by exact h.g 16 (by decide)) (daCons (dIx (bor (dVar 0 (pv 0))) (bor (dInt))) (daCons (dIx (bor (dVar 0 (pv 0))) (bor (dInt))) (daCons (dIx (bor (dVar 0 (pv 0))) (bor (dInt))) (daNil))))) (daNil))))
    case s4 => exact psApp 4 (pe_bm PySem.F.plainAttrs_list PySem.F.slot_list_append PySem.F.type_list_append mt_append (pv 4) (daCons (dNewX (by exact h.n17) (by exact hr) (by rfl) (by exact h.g 17 (by decide)) (daCons (dIx (bor (dVar 0 (pv 0))) (bor (dInt))) (daCons (dIx (bor (dVar 0 (pv 0))) (bor (dInt))) (daCons (dIx (bor (dVar 0 (pv 0))) (bor (dInt))) (daNil))))) (daNil)))
    case s5 => exact psSet sc.nd (i := 5) (by rfl) (by exact Or.inl rfl) (dNewX (by exact h.n18) (by exact hr) (by rfl) (by exact h.g 18 (by decide)) (daCons (dVar 1 (pv 1)) (daNil)))
    case s6 => exact psSet sc.nd (i := 6) (by rfl) (by exact Or.inl rfl) (dNewX (by exact h.n19) (by exact hr) (by rfl) (by exact h.g 19 (by decide)) (daCons (dTup (daCons (dIx (bor (dVar 0 (pv 0))) (bor (dInt))) (daNil))) (daCons (dTup (daCons (dIx (bor (dVar 0 (pv 0))) (bor (dInt))) (daNil))) (daNil))))
    case s7 => exact psOwn sc.nd (i := 7) (by rfl) (by exact Or.inl rfl) (doLst (daCons (dIx (bor (dVar 0 (pv 0))) (bor (dInt))) (daCons (dIx (bor (dVar 0 (pv 0))) (bor (dInt))) (daNil))))
    case s8 => exact psSet sc.nd (i := 8) (by rfl) (by exact Or.inl rfl) (dClashX (by exact h.n20) (by exact hr) (by rfl) (by exact h.g 20 (by decide)) (dIx (bor (dVar 0 (pv 0))) (bor (dInt))) (dOwn 7 (pv 7)))
    case s9 => exact psApp 7 (pe_bm PySem.F.plainAttrs_list PySem.F.slot_list_append PySem.F.type_list_append mt_append (pv 7) (daCons (dStr) (daNil)))
    case s10 => exact psIf (PW.pt (wwOr (tIn (by exact hu5) (bor (dBl)) (bor (frE (doLc (by rfl) sc.nd (dIterL (dVar 2 (pv 2))) (own := [("e", 9)]) (by exact blkOk_by (show blkC ["words", "number", "names", "points", "threes", "path", "pair", "given", "clash", "e"] (defScope (top 32)) _ _ = true from by decide +kernel)) (fun _ _ _ _ _ => tgName (pg_name sc.nd (i := 9) (by rfl) (by exact Or.inl rfl))) (fun _ _ _ _ _ => tsNil) (fun _ _ _ _ _ => dEq (by exact hu4) (bor (dFld (Cs := h.cs "name") (by exact h.fld "name") (dVar 9 (pv 9)))) (bor (dIx (bor (dVar 0 (pv 0))) (bor (dInt))))))))) (wwOr1 (tIn (by exact hu5) (bor (dBl)) (bor (frE (doLc (by rfl) sc.nd (dIterL (dVar 3 (pv 3))) (own := [("e", 9)]) (by exact blkOk_by (show blkC ["words", "number", "names", "points", "threes", "path", "pair", "given", "clash", "e"] (defScope (top 32)) _ _ = true from by decide +kernel)) (fun _ _ _ _ _ => tgName (pg_name sc.nd (i := 9) (by rfl) (by exact Or.inl rfl))) (fun _ _ _ _ _ => tsNil) (fun _ _ _ _ _ => dEq (by exact hu4) (bor (dFld (Cs := h.cs "x") (by exact h.fld "x") (dVar 9 (pv 9)))) (bor (dIx (bor (dVar 0 (pv 0))) (bor (dInt)))))))))))) (ssOne (psRet (frE (doLst (daNil))))) ssNil
    case s11 => exact psIf (PW.pt (wwOr (tNe (by exact hu4) (bor (dFld (Cs := h.cs "y") (by exact h.fld "y") (dIx (bor (dVar 3 (pv 3))) (bor (dInt))))) (bor (dIx (bor (dVar 0 (pv 0))) (bor (dInt))))) (wwOr1 (tIn (by exact hu5) (bor (dBl)) (bor (frE (doLc (by rfl) sc.nd (dIterL (dVar 4 (pv 4))) (own := [("e", 9)]) (by exact blkOk_by (show blkC ["words", "number", "names", "points", "threes", "path", "pair", "given", "clash", "e"] (defScope (top 32)) _ _ = true from by decide +kernel)) (fun _ _ _ _ _ => tgName (pg_name sc.nd (i := 9) (by rfl) (by exact Or.inl rfl))) (fun _ _ _ _ _ => tsNil) (fun _ _ _ _ _ => dEq (by exact hu4) (bor (frE (doLst (daCons (dFld (Cs := h.cs "x") (by exact h.fld "x") (dVar 9 (pv 9))) (daCons (dFld (Cs := h.cs "y") (by exact h.fld "y") (dVar 9 (pv 9))) (daCons (dFld (Cs := h.cs "z") (by exact h.fld "z") (dVar 9 (pv 9))) (daNil))))))) (bor (dVar 0 (pv 0))))))))))) (ssOne (psRet (frE (doLst (daNil))))) ssNil
    case s12 => exact psIf (PW.pt (wwOr (tNe (by exact hu4) (bor (dFld (Cs := h.cs "number") (by exact h.fld "number") (dVar 5 (pv 5)))) (bor (dVar 1 (pv 1)))) (wwOr1 (tNe (by exact hu4) (bor (dTup (daCons (dFld (Cs := h.cs "column") (by exact h.fld "column") (dVar 6 (pv 6))) (daCons (dFld (Cs := h.cs "row") (by exact h.fld "row") (dVar 6 (pv 6))) (daNil))))) (bor (dTup (daCons (dTup (daCons (dIx (bor (dVar 0 (pv 0))) (bor (dInt))) (daNil))) (daCons (dTup (daCons (dIx (bor (dVar 0 (pv 0))) (bor (dInt))) (daNil))) (daNil))))))))) (ssOne (psRet (frE (doLst (daNil))))) ssNil
    case s13 => exact psIf (PW.pt (wwOr (tNe (by exact hu4) (bor (dFld (Cs := h.cs "name") (by exact h.fld "name") (dVar 8 (pv 8)))) (bor (dIx (bor (dVar 0 (pv 0))) (bor (dInt))))) (wwOr1 (tNe (by exact hu4) (bor (dFld (Cs := h.cs "path") (by exact h.fld "path") (dVar 8 (pv 8)))) (bor (frE (doLst (daCons (dIx (bor (dVar 0 (pv 0))) (bor (dInt))) (daCons (dIx (bor (dVar 0 (pv 0))) (bor (dInt))) (daNil)))))))))) (ssOne (psRet (frE (doLst (daNil))))) ssNil
    case s14 => exact psRet (dAdd (bor (dAdd (bor (dAdd (bor (dVar 2 (pv 2))) (bor (dVar 3 (pv 3))))) (bor (dVar 4 (pv 4))))) (bor (frE (doLst (daCons (dVar 5 (pv 5)) (daCons (dVar 6 (pv 6)) (daCons (dVar 8 (pv 8)) (daNil))))))))
    case fin =>
      refine ⟨_, rfl, _, rfl, _, gs1 h0, by show 1 ≤ 1000; omega, _, rfl, _, rfl, _, gs1 h0, by show 1 ≤ 1000; omega, by show 2 ≤ _; rw [sizeLine_eq]; omega, ?_⟩
      refine ⟨_, rfl, _, rfl, _, gs1 h0, by show 1 ≤ 1000; omega, _, rfl, _, rfl, _, rfl, _, rfl, _, gs2 h0 h1, by show 2 ≤ 1000; omega, by show 2 ≤ _; rw [sizeLine_eq]; omega, ?_⟩
      refine ⟨_, rfl, _, rfl, _, rfl, _, rfl, _, rfl, _, rfl, _, gs3 h0 h1 h2, by show 3 ≤ 1000; omega, _, rfl, _, rfl, _, rfl, _, rfl, _, rfl, _, rfl, _, gs3 h0 h1 h2, by show 3 ≤ 1000; omega, by show 2 ≤ _; rw [sizeLine_eq]; omega, ?_⟩
      refine ⟨_, rfl, _, rfl, _, rfl, _, rfl, _, rfl, _, rfl, _, rfl, _, gs3 h0 h1 h2, by show 3 ≤ 1000; omega, _, rfl, by show 2 < _; rw [sizeLine_eq]; omega, ?_⟩
      refine ⟨_, rfl, _, ⟨n, rfl, hn, rfl⟩, by show 1 ≤ 1000; omega, ?_⟩
      refine ⟨_, rfl, _, rfl, by show 1 ≤ _; rw [sizeLine_eq]; omega, _, rfl, _, rfl, by show 1 ≤ _; rw [sizeLine_eq]; omega, _, ⟨[y0], [y1], rfl, ⟨by show 1 ≤ 9; omega, all_c h0 all_n⟩, ⟨by show 1 ≤ 9; omega, all_c h1 all_n⟩, rfl⟩, by show 2 ≤ 1000; omega, ?_⟩
      refine ⟨_, rfl, _, rfl, _, rfl, _, rfl, by show 2 ≤ _; rw [sizeLine_eq]; omega, ?_⟩
      refine ⟨_, rfl, _, rfl, _, rfl, y0, [y1, y2], rfl, rfl, h0, by show 2 ≤ 9; omega, all_c h1 (all_c h2 all_n), ?_⟩
      refine ⟨_, rfl, _, rfl, by show 2 < _; rw [sizeLine_eq]; omega, ?_⟩
      refine ⟨_, rfl, _, rfl, _, rfl, ?_⟩
      show sSeq _ _ [some (.dat (.lst [.str y0, .str y1, .str y2])), some (.dat (.int n)), some (.dat (.lst [.exc (c 11) [("name", .str y0)], .exc (c 12) [("name", .str y0)]])),
        some (.dat (.lst [.exc (c 13) [("x", .str y0)], .exc (c 14) [("y", .str y1), ("x", .str y0)]])), some (.dat (.lst [.exc (c 15) [("z", .str y2), ("y", .str y1), ("x", .str y0)], .exc (c 16) [("z", .str y2), ("y", .str y1), ("x", .str y0)], .exc (c 17) [("z", .str y2), ("y", .str y1), ("x", .str y0)]])),
        some (.dat (.exc (c 18) [("number", .int n)])), some (.dat (.exc (c 19) [("row", .tup [.str y1]), ("column", .tup [.str y0])])), some (.own (.lst [.str y1, .str y2, .str "zz"])), some (.dat (.exc (c 20) [("path", .lst [.str y1, .str y2]), ("name", .str y0)])), none] _
      refine ⟨_, rfl, _, .inl rfl, ?_⟩
      refine ⟨_, rfl, _, _, _, rfl, ⟨11, by decide, by decide +kernel, rfl⟩, rfl, _, rfl, _, rfl, (Sh.str h0).ok, (Sh.str h0).ok, by show 0 < _; rw [sizeLine_eq]; omega, ?_⟩
      refine ⟨_, rfl, _, _, _, rfl, ⟨12, by decide, by decide +kernel, rfl⟩, rfl, _, rfl, _, rfl, (Sh.str h0).ok, (Sh.str h0).ok, by show 1 < _; rw [sizeLine_eq]; omega, ?_⟩
      refine ⟨(Sh.bl false).ok, Sh.okL (n := 0) (all_c (Sh.bl _) (all_c (Sh.bl _) all_n)), _, rfl, ?_⟩
      refine ite2 (fun z => absurd z ?_) fun _ => ?_
      · simp [Ow.toD, pds, D.pd, PyData.eqv, PyData.eqvAll]
      refine ⟨_, rfl, _, .inl rfl, ?_⟩
      refine ⟨_, rfl, _, _, _, rfl, ⟨13, by decide, by decide +kernel, rfl⟩, rfl, _, rfl, _, rfl, (Sh.str h0).ok, (Sh.str h0).ok, by show 0 < _; rw [sizeLine_eq]; omega, ?_⟩
      refine ⟨_, rfl, _, _, _, rfl, ⟨14, by decide, by decide +kernel, rfl⟩, rfl, _, rfl, _, rfl, (Sh.str h0).ok, (Sh.str h0).ok, by show 1 < _; rw [sizeLine_eq]; omega, ?_⟩
      refine ⟨(Sh.bl false).ok, Sh.okL (n := 0) (all_c (Sh.bl _) (all_c (Sh.bl _) all_n)), _, rfl, ?_⟩
      refine ite2 (fun z => absurd z ?_) fun _ => ?_
      · simp [Ow.toD, pds, D.pd, PyData.eqv, PyData.eqvAll]
      refine ⟨_, rfl, _, rfl, _, _, _, rfl, ⟨14, by decide, by decide +kernel, rfl⟩, rfl, _, rfl, _, rfl, (Sh.str h1).ok, (Sh.str h1).ok, _, rfl, ?_⟩
      refine ite2 (fun z => absurd z ?_) fun _ => ?_
      · simp [Ow.toD, pds, D.pd, PyData.eqv, PyData.eqvAll]
      refine ⟨_, rfl, _, .inl rfl, ?_⟩
      refine ⟨_, rfl, _, _, _, rfl, ⟨15, by decide, by decide +kernel, rfl⟩, rfl, _, rfl, _, _, _, rfl, ⟨15, by decide, by decide +kernel, rfl⟩, rfl, _, rfl, _, _, _, rfl, ⟨15, by decide, by decide +kernel, rfl⟩, rfl, by show 3 ≤ _; rw [sizeLine_eq]; omega, _, rfl, (Sh.lst (n := 0) (all_c (Sh.str h0) (all_c (Sh.str h1) (all_c (Sh.str h2) all_n)))).ok, (Sh.lst (n := 0) (all_c (Sh.str h0) (all_c (Sh.str h1) (all_c (Sh.str h2) all_n)))).ok, by show 0 < _; rw [sizeLine_eq]; omega, ?_⟩
      refine ⟨_, rfl, _, _, _, rfl, ⟨16, by decide, by decide +kernel, rfl⟩, rfl, _, rfl, _, _, _, rfl, ⟨16, by decide, by decide +kernel, rfl⟩, rfl, _, rfl, _, _, _, rfl, ⟨16, by decide, by decide +kernel, rfl⟩, rfl, by show 3 ≤ _; rw [sizeLine_eq]; omega, _, rfl, (Sh.lst (n := 0) (all_c (Sh.str h0) (all_c (Sh.str h1) (all_c (Sh.str h2) all_n)))).ok, (Sh.lst (n := 0) (all_c (Sh.str h0) (all_c (Sh.str h1) (all_c (Sh.str h2) all_n)))).ok, by show 1 < _; rw [sizeLine_eq]; omega, ?_⟩
      refine ⟨_, rfl, _, _, _, rfl, ⟨17, by decide, by decide +kernel, rfl⟩, rfl, _, rfl, _, _, _, rfl, ⟨17, by decide, by decide +kernel, rfl⟩, rfl, _, rfl, _, _, _, rfl, ⟨17, by decide, by decide +kernel, rfl⟩, rfl, by show 3 ≤ _; rw [sizeLine_eq]; omega, _, rfl, (Sh.lst (n := 0) (all_c (Sh.str h0) (all_c (Sh.str h1) (all_c (Sh.str h2) all_n)))).ok, (Sh.lst (n := 0) (all_c (Sh.str h0) (all_c (Sh.str h1) (all_c (Sh.str h2) all_n)))).ok, by show 2 < _; rw [sizeLine_eq]; omega, ?_⟩
      refine ⟨(Sh.bl false).ok, Sh.okL (n := 0) (all_c (Sh.bl _) (all_c (Sh.bl _) (all_c (Sh.bl _) all_n))), _, rfl, ?_⟩
      refine ite2 (fun z => absurd z ?_) fun _ => ?_
      · simp [Ow.toD, pds, D.pd, PyData.eqv, PyData.eqvAll]
      refine ⟨_, rfl, _, _, _, rfl, ⟨18, by decide, by decide +kernel, rfl⟩, rfl, _, rfl, (Sh.int n).ok, (Sh.int n).ok, _, rfl, ?_⟩
      refine ite2 (fun z => absurd z ?_) fun _ => ?_
      · simp [Ow.toD, pds, D.pd, PyData.eqv, PyData.eqvAll]
      refine ⟨_, rfl, _, _, _, rfl, ⟨19, by decide, by decide +kernel, rfl⟩, rfl, _, rfl, _, _, _, rfl, ⟨19, by decide, by decide +kernel, rfl⟩, rfl, by show 2 ≤ _; rw [sizeLine_eq]; omega, _, rfl, _, rfl, by show 1 ≤ _; rw [sizeLine_eq]; omega, _, rfl, _, rfl, by show 1 ≤ _; rw [sizeLine_eq]; omega, by show 2 ≤ _; rw [sizeLine_eq]; omega, (Sh.tup (n := 1) (all_c (Sh.tup (n := 0) (all_c (Sh.str h0) all_n)) (all_c (Sh.tup (n := 0) (all_c (Sh.str h1) all_n)) all_n))).ok, (Sh.tup (n := 1) (all_c (Sh.tup (n := 0) (all_c (Sh.str h0) all_n)) (all_c (Sh.tup (n := 0) (all_c (Sh.str h1) all_n)) all_n))).ok, _, rfl, ?_⟩
      refine ite2 (fun z => absurd z ?_) fun _ => ?_
      · simp [Ow.toD, pds, D.pd, PyData.eqv, PyData.eqvAll]
      refine ⟨_, rfl, _, _, _, rfl, ⟨20, by decide, by decide +kernel, rfl⟩, rfl, _, rfl, _, rfl, (Sh.str h0).ok, (Sh.str h0).ok, _, rfl, ?_⟩
      refine ite2 (fun z => absurd z ?_) fun _ => ?_
      · simp [Ow.toD, pds, D.pd, PyData.eqv, PyData.eqvAll]
      refine ⟨_, rfl, _, _, _, rfl, ⟨20, by decide, by decide +kernel, rfl⟩, rfl, _, rfl, _, rfl, _, rfl, _, rfl, by show 2 ≤ _; rw [sizeLine_eq]; omega, (Sh.lst (n := 0) (all_c (Sh.str h1) (all_c (Sh.str h2) all_n))).ok, (Sh.lst (n := 0) (all_c (Sh.str h1) (all_c (Sh.str h2) all_n))).ok, _, rfl, ?_⟩
      refine ite2 (fun z => absurd z ?_) fun _ => ?_
      · simp [Ow.toD, pds, D.pd, PyData.eqv, PyData.eqvAll]
      refine ⟨_, rfl, _, rfl, by show 4 ≤ _; rw [sizeLine_eq]; omega, _, rfl, by show 7 ≤ _; rw [sizeLine_eq]; omega, _, rfl, _, rfl, _, rfl, by show 3 ≤ _; rw [sizeLine_eq]; omega, by show 10 ≤ _; rw [sizeLine_eq]; omega, ?_⟩
      exact q _ _ _ _ _ _ _ _ _ _
end
end DW
namespace DW
open PySem PySem.Spec
open PyProof.Rows L2
theorem bt_ValueError : bootBuiltins "ValueError" = some (.type "ValueError") := by decide +kernel
theorem bt_KeyError : bootBuiltins "KeyError" = some (.type "KeyError") := by decide +kernel
theorem bt_IndexError : bootBuiltins "IndexError" = some (.type "IndexError") := by decide +kernel
theorem pss_ex {ι : Type} {X : Cx} {sts : List Stmt} {t : ι → TS} (h : ∀ i, PSs X sts (t i)) : PSs X sts (fun D σ H => ∃ i, t i D σ H) := ⟨fun pins s σ H D I ⟨i, z⟩ => (h i).run pins s σ H D I z⟩
section
variable {P : Program} {w : World} {K : PySem.W.Frag} {mg : Str → Option Value} {base : Heap} {c : Nat → Addr} {f : Addr} {fd : FuncData}
theorem sc_law : FnScope ["script", "source", "words", "rows", "lost", "e", "k"] ["script"] (defScope (top 35)) := ⟨rfl, rfl, rfl, by decide +kernel, rfl, by decide +kernel, by decide +kernel⟩
/-- what stands behind the first three rows -/
def lawRest : List Stmt := (defBody (top 35)).drop 3
theorem isB_ve {i : Nat} (h : i < 21) : isB i "ValueError" = true ∧ isB i "LookupError" = false := by
  have : ¬ 21 ≤ i := by omega
  constructor <;> simp [isB, h, this]
theorem isB_le {i : Nat} (h : 21 ≤ i) : isB i "ValueError" = false ∧ isB i "LookupError" = true ∧ isB i "KeyError" = false ∧ isB i "IndexError" = false := by
  have : ¬ i < 21 := by omega
  refine ⟨?_, ?_, ?_, ?_⟩ <;> simp [isB, h, this]
theorem isC_ve {i : Nat} (h : i < 21) : isC i 24 = true ∧ isC i 25 = false := by
  have a : ¬ i = 24 := by omega
  have b : ¬ i = 25 := by omega
  have d : ¬ 21 ≤ i := by omega
  constructor <;> simp [isC, h, a, b, d]
theorem isC_le {i : Nat} (h : 21 ≤ i) (h2 : i < 24) : isC i 24 = false ∧ isC i 25 = true := by
  have a : ¬ i = 24 := by omega
  have b : ¬ i = 25 := by omega
  have d : ¬ i < 21 := by omega
  constructor <;> simp [isC, h, a, b, d]

theorem law_rest (h : Txt P w K mg base c) (c_law_missing : Clb P w K mg base 4 "_law_missing" (liftP K (spMissing c))) (c_law_classes : Clb P w K mg base 4 "_law_classes" (liftP K (spClasses c))) (cdv : Value) (A : Around) (outer : List Env) (sh : Shared) (H : Hp) (E : XK) (hr : Room 4 (A.deeper (envOfC "law" (defScope (top 35)) sh.heap.objs.size f cdv))) :
    ∃ G : WS, (∀ F : Fx, PSs (cxOf (L2.CX P w) P w K mg base ["script", "source", "words", "rows", "lost", "e", "k"] "law" (defScope (top 35)) f cdv A outer sh H E) lawRest (tS K F (Wd E) G)) ∧
      ∀ (o0 o1 : Option Sl) (y0 y1 y2 : Str) (f0 f1 f2 f3 f4 f5 f6 f7 f8 f9 : List (Str × D)) (N : En), Short y0 → N.rt (.bl true) → G [o0, o1, some (.dat (.lst [.str y0, .str y1, .str y2])), some (.dat (.lst [.exc (c 0) [], .exc (c 1) [], .exc (c 2) [], .exc (c 3) [], .exc (c 4) [], .exc (c 5) [], .exc (c 6) [], .exc (c 7) [], .exc (c 8) [], .exc (c 9) [], .exc (c 10) [], .exc (c 11) f0, .exc (c 12) f1, .exc (c 13) f2, .exc (c 14) f3, .exc (c 15) f4, .exc (c 16) f5, .exc (c 17) f6, .exc (c 18) f7, .exc (c 19) f8, .exc (c 20) f9])), none, none, none] N := by
  have sc := sc_law
  have hu := hu_of hr
  have hu4 := hr.units
  have hu5 : (A.deeper (envOfC "law" (defScope (top 35)) sh.heap.objs.size f cdv)).units + 65 < cLine := by have := hr.un; omega
  have hp := @owns_cx P w K mg base f (L2.CX P w) ["script", "source", "words", "rows", "lost", "e", "k"] "law" (defScope (top 35)) cdv A outer sh H E
  have tk := @takes_cx P w K mg base f ["script", "source", "words", "rows", "lost", "e", "k"] "law" (defScope (top 35)) cdv A outer sh H E
  refine' ⟨_, fun F => (?body : PSs _ _ _), ?fin⟩
  case body =>
    show PSs _ [_, _, _, _, _, _] _
    refine' ssCons ?s1 (ssCons ?s2 (ssCons ?s3 (ssCons ?s4 (ssCons ?s5 (ssOne ?s6)))))
    case s1 => exact psSet sc.nd (i := 4) (by rfl) (by exact Or.inl rfl) (dCall (mf := fun _ : Unit => md0) () (.inr rfl) (by exact c_law_missing) (by exact hr) (by exact tk) (by rfl) (daCons (dIx (bor (dVar 2 (pv 2))) (bor (dInt))) (daNil)))
    case s2 => exact psIf (PW.pt (wwOr (tNe (by exact hu4) (bor (dCl (ta := fun p => pe_callB call_len (by rfl) (by exact h.nolen) boot_len p) clLen (dbCons (bor (dVar 3 (pv 3))) (dbNil)))) (bor (dInt))) (wwOr1 (tNe (by exact hu4) (bor (dCl (ta := fun p => pe_callB call_len (by rfl) (by exact h.nolen) boot_len p) clLen (dbCons (bor (dVar 4 (pv 4))) (dbNil)))) (bor (dInt)))))) (ssOne (psRet (dBl))) ssNil
    case s3 => exact psIf (tNe (by exact hu4) (bor (frE (doLc (by rfl) sc.nd (dIterL (dAdd (bor (dVar 3 (pv 3))) (bor (dVar 4 (pv 4))))) (own := [("e", 5)]) (by exact blkOk_by (show blkC ["script", "source", "words", "rows", "lost", "e", "k"] (defScope (top 35)) _ _ = true from by decide +kernel)) (fun _ _ _ _ _ => tgName (pg_name sc.nd (i := 5) (by rfl) (by exact Or.inl rfl))) (fun _ _ _ _ _ => tsNil) (fun _ _ _ _ _ => dCall (mf := fun _ : Unit => md0) () (.inr rfl) (by exact c_law_classes) (by exact hr) takes0 (by rfl) (daCons (dVar 5 (pv 5)) (daNil)))))) (bor (frE (doLc (by rfl) sc.nd (dIterR1 (by rfl) (by exact h.norange) (daCons (dInt) (daNil))) (own := [("k", 6)]) (by exact blkOk_by (show blkC ["script", "source", "words", "rows", "lost", "e", "k"] (defScope (top 35)) _ _ = true from by decide +kernel)) (fun _ _ _ _ _ => tgName (pg_name sc.nd (i := 6) (by rfl) (by exact Or.inl rfl))) (fun _ _ _ _ _ => tsNil) (fun _ _ _ _ _ => frE (doLst (daCons (dVar 6 (pv 6)) (daNil)))))))) (ssOne (psRet (dBl))) ssNil
    case s4 => exact psFor (by exact hp) (by rfl) (dIterL (dVar 3 (pv 3))) (tgName (pg_name sc.nd (i := 5) (by rfl) (by exact Or.inl rfl))) (ssCons (psIf (PW.pt (wwOr (tNotD (tVal (dCl (ta := fun p => pe_callB callIs (by rfl) (by exact h.noisinstance) bt_isinstance p) (clIs (by exact h.tab)) (dbCons (bor (dVar 5 (pv 5))) (dbCons (bor (dTy (by rfl) (by exact h.noValueError) bt_ValueError)) (dbNil)))))) (wwOr (tNotD (tVal (dCl (ta := fun p => pe_callB callIs (by rfl) (by exact h.noisinstance) bt_isinstance p) (clIs (by exact h.tab)) (dbCons (bor (dVar 5 (pv 5))) (dbCons (bor (dGlo (by rfl) (by exact h.g 24 (by decide)))) (dbNil)))))) (wwOr1 (tVal (dCl (ta := fun p => pe_callB callIs (by rfl) (by exact h.noisinstance) bt_isinstance p) (clIs (by exact h.tab)) (dbCons (bor (dVar 5 (pv 5))) (dbCons (bor (dGlo (by rfl) (by exact h.g 25 (by decide)))) (dbNil))))))))) (ssOne (psRet (dBl))) ssNil) (ssOne (psIf (tVal (dCl (ta := fun p => pe_callB callIs (by rfl) (by exact h.noisinstance) bt_isinstance p) (clIs (by exact h.tab)) (dbCons (bor (dVar 5 (pv 5))) (dbCons (bor (dTy (by rfl) (by exact h.noLookupError) bt_LookupError)) (dbNil))))) (ssOne (psRet (dBl))) ssNil)))
    case s5 => exact psFor (by exact hp) (by rfl) (dIterL (dVar 4 (pv 4))) (tgName (pg_name sc.nd (i := 5) (by rfl) (by exact Or.inl rfl))) (ssCons (psIf (PW.pt (wwOr (tNotD (tVal (dCl (ta := fun p => pe_callB callIs (by rfl) (by exact h.noisinstance) bt_isinstance p) (clIs (by exact h.tab)) (dbCons (bor (dVar 5 (pv 5))) (dbCons (bor (dTy (by rfl) (by exact h.noLookupError) bt_LookupError)) (dbNil)))))) (wwOr (tNotD (tVal (dCl (ta := fun p => pe_callB callIs (by rfl) (by exact h.noisinstance) bt_isinstance p) (clIs (by exact h.tab)) (dbCons (bor (dVar 5 (pv 5))) (dbCons (bor (dGlo (by rfl) (by exact h.g 25 (by decide)))) (dbNil)))))) (wwOr1 (tVal (dCl (ta := fun p => pe_callB callIs (by rfl) (by exact h.noisinstance) bt_isinstance p) (clIs (by exact h.tab)) (dbCons (bor (dVar 5 (pv 5))) (dbCons (bor (dGlo (by rfl) (by exact h.g 24 (by decide)))) (dbNil))))))))) (ssOne (psRet (dBl))) ssNil) (ssOne (psIf (PW.pt (wwOr (tVal (dCl (ta := fun p => pe_callB callIs (by rfl) (by exact h.noisinstance) bt_isinstance p) (clIs (by exact h.tab)) (dbCons (bor (dVar 5 (pv 5))) (dbCons (bor (dTy (by rfl) (by exact h.noKeyError) bt_KeyError)) (dbNil))))) (wwOr1 (tVal (dCl (ta := fun p => pe_callB callIs (by rfl) (by exact h.noisinstance) bt_isinstance p) (clIs (by exact h.tab)) (dbCons (bor (dVar 5 (pv 5))) (dbCons (bor (dTy (by rfl) (by exact h.noIndexError) bt_IndexError)) (dbNil)))))))) (ssOne (psRet (dBl))) ssNil)))
    case s6 => exact psRet (dBl)
  case fin =>
    intro o0 o1 y0 y1 y2 f0 f1 f2 f3 f4 f5 f6 f7 f8 f9 N h0 q
    refine ⟨_, rfl, _, rfl, y0, rfl, h0, fun g0 g1 g2 => ?_⟩
    dsimp only [gNm]
    show sSeq _ _ [o0, o1, some (.dat (.lst [.str y0, .str y1, .str y2])), some (.dat (.lst [.exc (c 0) [], .exc (c 1) [], .exc (c 2) [], .exc (c 3) [], .exc (c 4) [], .exc (c 5) [], .exc (c 6) [], .exc (c 7) [], .exc (c 8) [], .exc (c 9) [], .exc (c 10) [], .exc (c 11) f0, .exc (c 12) f1, .exc (c 13) f2, .exc (c 14) f3, .exc (c 15) f4, .exc (c 16) f5, .exc (c 17) f6, .exc (c 18) f7, .exc (c 19) f8, .exc (c 20) f9])), some (.dat (.lst [.exc (c 21) g0, .exc (c 22) g1, .exc (c 23) g2])), none, none] _
    refine ⟨_, rfl, (Sh.int _).ok, (Sh.int _).ok, _, rfl, ?_⟩
    refine ite2 (fun z => absurd z ?_) fun _ => ?_
    · show ¬ (!PyData.eqv (D.int 21).pd (D.int 21).pd) = true; simp [D.pd, PyData.eqv]
    refine ⟨_, rfl, (Sh.int _).ok, (Sh.int _).ok, _, rfl, ?_⟩
    refine ite2 (fun z => absurd z ?_) fun _ => ?_
    · show ¬ (!PyData.eqv (D.int 3).pd (D.int 3).pd) = true; simp [D.pd, PyData.eqv]
    refine ⟨_, rfl, _, rfl, by show 24 ≤ _; rw [sizeLine_eq]; omega, _, .inl rfl, ?_⟩
    refine ⟨_, rfl, 0, _, by decide, rfl, by show 0 < _; rw [sizeLine_eq]; omega, ?_⟩
    refine ⟨_, rfl, 1, _, by decide, rfl, by show 1 < _; rw [sizeLine_eq]; omega, ?_⟩
    refine ⟨_, rfl, 2, _, by decide, rfl, by show 2 < _; rw [sizeLine_eq]; omega, ?_⟩
    refine ⟨_, rfl, 3, _, by decide, rfl, by show 3 < _; rw [sizeLine_eq]; omega, ?_⟩
    refine ⟨_, rfl, 4, _, by decide, rfl, by show 4 < _; rw [sizeLine_eq]; omega, ?_⟩
    refine ⟨_, rfl, 5, _, by decide, rfl, by show 5 < _; rw [sizeLine_eq]; omega, ?_⟩
    refine ⟨_, rfl, 6, _, by decide, rfl, by show 6 < _; rw [sizeLine_eq]; omega, ?_⟩
    refine ⟨_, rfl, 7, _, by decide, rfl, by show 7 < _; rw [sizeLine_eq]; omega, ?_⟩
    refine ⟨_, rfl, 8, _, by decide, rfl, by show 8 < _; rw [sizeLine_eq]; omega, ?_⟩
    refine ⟨_, rfl, 9, _, by decide, rfl, by show 9 < _; rw [sizeLine_eq]; omega, ?_⟩
    refine ⟨_, rfl, 10, _, by decide, rfl, by show 10 < _; rw [sizeLine_eq]; omega, ?_⟩
    refine ⟨_, rfl, 11, _, by decide, rfl, by show 11 < _; rw [sizeLine_eq]; omega, ?_⟩
    refine ⟨_, rfl, 12, _, by decide, rfl, by show 12 < _; rw [sizeLine_eq]; omega, ?_⟩
    refine ⟨_, rfl, 13, _, by decide, rfl, by show 13 < _; rw [sizeLine_eq]; omega, ?_⟩
    refine ⟨_, rfl, 14, _, by decide, rfl, by show 14 < _; rw [sizeLine_eq]; omega, ?_⟩
    refine ⟨_, rfl, 15, _, by decide, rfl, by show 15 < _; rw [sizeLine_eq]; omega, ?_⟩
    refine ⟨_, rfl, 16, _, by decide, rfl, by show 16 < _; rw [sizeLine_eq]; omega, ?_⟩
    refine ⟨_, rfl, 17, _, by decide, rfl, by show 17 < _; rw [sizeLine_eq]; omega, ?_⟩
    refine ⟨_, rfl, 18, _, by decide, rfl, by show 18 < _; rw [sizeLine_eq]; omega, ?_⟩
    refine ⟨_, rfl, 19, _, by decide, rfl, by show 19 < _; rw [sizeLine_eq]; omega, ?_⟩
    refine ⟨_, rfl, 20, _, by decide, rfl, by show 20 < _; rw [sizeLine_eq]; omega, ?_⟩
    refine ⟨_, rfl, 21, _, by decide, rfl, by show 21 < _; rw [sizeLine_eq]; omega, ?_⟩
    refine ⟨_, rfl, 22, _, by decide, rfl, by show 22 < _; rw [sizeLine_eq]; omega, ?_⟩
    refine ⟨_, rfl, 23, _, by decide, rfl, by show 23 < _; rw [sizeLine_eq]; omega, ?_⟩
    refine ⟨_, rfl, by show -(2 ^ 62) ≤ (24 : Int); decide, by show (24 : Int) < 2 ^ 62; decide, ?_⟩
    refine ⟨_, rfl, by show 1 ≤ _; rw [sizeLine_eq]; omega, by show 0 < _; rw [sizeLine_eq]; omega, ?_⟩
    refine ⟨_, rfl, by show 1 ≤ _; rw [sizeLine_eq]; omega, by show 1 < _; rw [sizeLine_eq]; omega, ?_⟩
    refine ⟨_, rfl, by show 1 ≤ _; rw [sizeLine_eq]; omega, by show 2 < _; rw [sizeLine_eq]; omega, ?_⟩
    refine ⟨_, rfl, by show 1 ≤ _; rw [sizeLine_eq]; omega, by show 3 < _; rw [sizeLine_eq]; omega, ?_⟩
    refine ⟨_, rfl, by show 1 ≤ _; rw [sizeLine_eq]; omega, by show 4 < _; rw [sizeLine_eq]; omega, ?_⟩
    refine ⟨_, rfl, by show 1 ≤ _; rw [sizeLine_eq]; omega, by show 5 < _; rw [sizeLine_eq]; omega, ?_⟩
    refine ⟨_, rfl, by show 1 ≤ _; rw [sizeLine_eq]; omega, by show 6 < _; rw [sizeLine_eq]; omega, ?_⟩
    refine ⟨_, rfl, by show 1 ≤ _; rw [sizeLine_eq]; omega, by show 7 < _; rw [sizeLine_eq]; omega, ?_⟩
    refine ⟨_, rfl, by show 1 ≤ _; rw [sizeLine_eq]; omega, by show 8 < _; rw [sizeLine_eq]; omega, ?_⟩
    refine ⟨_, rfl, by show 1 ≤ _; rw [sizeLine_eq]; omega, by show 9 < _; rw [sizeLine_eq]; omega, ?_⟩
    refine ⟨_, rfl, by show 1 ≤ _; rw [sizeLine_eq]; omega, by show 10 < _; rw [sizeLine_eq]; omega, ?_⟩
    refine ⟨_, rfl, by show 1 ≤ _; rw [sizeLine_eq]; omega, by show 11 < _; rw [sizeLine_eq]; omega, ?_⟩
    refine ⟨_, rfl, by show 1 ≤ _; rw [sizeLine_eq]; omega, by show 12 < _; rw [sizeLine_eq]; omega, ?_⟩
    refine ⟨_, rfl, by show 1 ≤ _; rw [sizeLine_eq]; omega, by show 13 < _; rw [sizeLine_eq]; omega, ?_⟩
    refine ⟨_, rfl, by show 1 ≤ _; rw [sizeLine_eq]; omega, by show 14 < _; rw [sizeLine_eq]; omega, ?_⟩
    refine ⟨_, rfl, by show 1 ≤ _; rw [sizeLine_eq]; omega, by show 15 < _; rw [sizeLine_eq]; omega, ?_⟩
    refine ⟨_, rfl, by show 1 ≤ _; rw [sizeLine_eq]; omega, by show 16 < _; rw [sizeLine_eq]; omega, ?_⟩
    refine ⟨_, rfl, by show 1 ≤ _; rw [sizeLine_eq]; omega, by show 17 < _; rw [sizeLine_eq]; omega, ?_⟩
    refine ⟨_, rfl, by show 1 ≤ _; rw [sizeLine_eq]; omega, by show 18 < _; rw [sizeLine_eq]; omega, ?_⟩
    refine ⟨_, rfl, by show 1 ≤ _; rw [sizeLine_eq]; omega, by show 19 < _; rw [sizeLine_eq]; omega, ?_⟩
    refine ⟨_, rfl, by show 1 ≤ _; rw [sizeLine_eq]; omega, by show 20 < _; rw [sizeLine_eq]; omega, ?_⟩
    refine ⟨_, rfl, by show 1 ≤ _; rw [sizeLine_eq]; omega, by show 21 < _; rw [sizeLine_eq]; omega, ?_⟩
    refine ⟨_, rfl, by show 1 ≤ _; rw [sizeLine_eq]; omega, by show 22 < _; rw [sizeLine_eq]; omega, ?_⟩
    refine ⟨_, rfl, by show 1 ≤ _; rw [sizeLine_eq]; omega, by show 23 < _; rw [sizeLine_eq]; omega, ?_⟩
    refine ⟨(Sh.lst (n := 1) (all_c (Sh.lst (n := 0) (all_c (Sh.int _) all_n)) (all_c (Sh.lst (n := 0) (all_c (Sh.int _) all_n)) (all_c (Sh.lst (n := 0) (all_c (Sh.int _) all_n)) (all_c (Sh.lst (n := 0) (all_c (Sh.int _) all_n)) (all_c (Sh.lst (n := 0) (all_c (Sh.int _) all_n)) (all_c (Sh.lst (n := 0) (all_c (Sh.int _) all_n)) (all_c (Sh.lst (n := 0) (all_c (Sh.int _) all_n)) (all_c (Sh.lst (n := 0) (all_c (Sh.int _) all_n)) (all_c (Sh.lst (n := 0) (all_c (Sh.int _) all_n)) (all_c (Sh.lst (n := 0) (all_c (Sh.int _) all_n)) (all_c (Sh.lst (n := 0) (all_c (Sh.int _) all_n)) (all_c (Sh.lst (n := 0) (all_c (Sh.int _) all_n)) (all_c (Sh.lst (n := 0) (all_c (Sh.int _) all_n)) (all_c (Sh.lst (n := 0) (all_c (Sh.int _) all_n)) (all_c (Sh.lst (n := 0) (all_c (Sh.int _) all_n)) (all_c (Sh.lst (n := 0) (all_c (Sh.int _) all_n)) (all_c (Sh.lst (n := 0) (all_c (Sh.int _) all_n)) (all_c (Sh.lst (n := 0) (all_c (Sh.int _) all_n)) (all_c (Sh.lst (n := 0) (all_c (Sh.int _) all_n)) (all_c (Sh.lst (n := 0) (all_c (Sh.int _) all_n)) (all_c (Sh.lst (n := 0) (all_c (Sh.int _) all_n)) (all_c (Sh.lst (n := 0) (all_c (Sh.int _) all_n)) (all_c (Sh.lst (n := 0) (all_c (Sh.int _) all_n)) (all_c (Sh.lst (n := 0) (all_c (Sh.int _) all_n)) all_n))))))))))))))))))))))))).ok, (Sh.lst (n := 1) (all_c (Sh.lst (n := 0) (all_c (Sh.int _) all_n)) (all_c (Sh.lst (n := 0) (all_c (Sh.int _) all_n)) (all_c (Sh.lst (n := 0) (all_c (Sh.int _) all_n)) (all_c (Sh.lst (n := 0) (all_c (Sh.int _) all_n)) (all_c (Sh.lst (n := 0) (all_c (Sh.int _) all_n)) (all_c (Sh.lst (n := 0) (all_c (Sh.int _) all_n)) (all_c (Sh.lst (n := 0) (all_c (Sh.int _) all_n)) (all_c (Sh.lst (n := 0) (all_c (Sh.int _) all_n)) (all_c (Sh.lst (n := 0) (all_c (Sh.int _) all_n)) (all_c (Sh.lst (n := 0) (all_c (Sh.int _) all_n)) (all_c (Sh.lst (n := 0) (all_c (Sh.int _) all_n)) (all_c (Sh.lst (n := 0) (all_c (Sh.int _) all_n)) (all_c (Sh.lst (n := 0) (all_c (Sh.int _) all_n)) (all_c (Sh.lst (n := 0) (all_c (Sh.int _) all_n)) (all_c (Sh.lst (n := 0) (all_c (Sh.int _) all_n)) (all_c (Sh.lst (n := 0) (all_c (Sh.int _) all_n)) (all_c (Sh.lst (n := 0) (all_c (Sh.int _) all_n)) (all_c (Sh.lst (n := 0) (all_c (Sh.int _) all_n)) (all_c (Sh.lst (n := 0) (all_c (Sh.int _) all_n)) (all_c (Sh.lst (n := 0) (all_c (Sh.int _) all_n)) (all_c (Sh.lst (n := 0) (all_c (Sh.int _) all_n)) (all_c (Sh.lst (n := 0) (all_c (Sh.int _) all_n)) (all_c (Sh.lst (n := 0) (all_c (Sh.int _) all_n)) (all_c (Sh.lst (n := 0) (all_c (Sh.int _) all_n)) all_n))))))))))))))))))))))))).ok, _, rfl, ?_⟩
    refine ite2 (fun z => absurd z ?_) fun _ => ?_
    · simp [Ow.toD, pds, D.pd, PyData.eqv, PyData.eqvAll]
    refine ⟨_, rfl, _, .inl rfl, forW_ind (fun ε => ∃ o, ε = [o0, o1, some (.dat (.lst [.str y0, .str y1, .str y2])), some (.dat (.lst [.exc (c 0) [], .exc (c 1) [], .exc (c 2) [], .exc (c 3) [], .exc (c 4) [], .exc (c 5) [], .exc (c 6) [], .exc (c 7) [], .exc (c 8) [], .exc (c 9) [], .exc (c 10) [], .exc (c 11) f0, .exc (c 12) f1, .exc (c 13) f2, .exc (c 14) f3, .exc (c 15) f4, .exc (c 16) f5, .exc (c 17) f6, .exc (c 18) f7, .exc (c 19) f8, .exc (c 20) f9])), some (.dat (.lst [.exc (c 21) g0, .exc (c 22) g1, .exc (c 23) g2])), o, none]) ?last1 ⟨_, rfl⟩ ?step1⟩
    case step1 =>
      intro x hx ε hε Kk hK
      obtain ⟨o, rfl⟩ := hε
      have hm : ∀ x ∈ ([.exc (c 0) [], .exc (c 1) [], .exc (c 2) [], .exc (c 3) [], .exc (c 4) [], .exc (c 5) [], .exc (c 6) [], .exc (c 7) [], .exc (c 8) [], .exc (c 9) [], .exc (c 10) [], .exc (c 11) f0, .exc (c 12) f1, .exc (c 13) f2, .exc (c 14) f3, .exc (c 15) f4, .exc (c 16) f5, .exc (c 17) f6, .exc (c 18) f7, .exc (c 19) f8, .exc (c 20) f9] : List D), ∃ (i : Nat) (fs : List (Str × D)), i < 21 ∧ i < 24 ∧ x = .exc (c i) fs := all_c ⟨0, _, by decide, by decide, rfl⟩ (all_c ⟨1, _, by decide, by decide, rfl⟩ (all_c ⟨2, _, by decide, by decide, rfl⟩ (all_c ⟨3, _, by decide, by decide, rfl⟩ (all_c ⟨4, _, by decide, by decide, rfl⟩ (all_c ⟨5, _, by decide, by decide, rfl⟩ (all_c ⟨6, _, by decide, by decide, rfl⟩ (all_c ⟨7, _, by decide, by decide, rfl⟩ (all_c ⟨8, _, by decide, by decide, rfl⟩ (all_c ⟨9, _, by decide, by decide, rfl⟩ (all_c ⟨10, _, by decide, by decide, rfl⟩ (all_c ⟨11, _, by decide, by decide, rfl⟩ (all_c ⟨12, _, by decide, by decide, rfl⟩ (all_c ⟨13, _, by decide, by decide, rfl⟩ (all_c ⟨14, _, by decide, by decide, rfl⟩ (all_c ⟨15, _, by decide, by decide, rfl⟩ (all_c ⟨16, _, by decide, by decide, rfl⟩ (all_c ⟨17, _, by decide, by decide, rfl⟩ (all_c ⟨18, _, by decide, by decide, rfl⟩ (all_c ⟨19, _, by decide, by decide, rfl⟩ (all_c ⟨20, _, by decide, by decide, rfl⟩ all_n))))))))))))))))))))
      obtain ⟨i, fs, hi, hi2, rfl⟩ := hm x hx
      obtain ⟨b1, b2⟩ := isB_ve hi
      obtain ⟨b3, b4⟩ := isC_ve hi
      refine ⟨_, rfl, _, _, _, rfl, ⟨i, hi2, rfl, .inr ⟨"ValueError", by decide, rfl, rfl⟩⟩, _, rfl, ?_⟩
      refine ite2 (fun z => absurd z (by simp [b1])) fun _ => ?_
      refine ⟨_, rfl, _, _, _, rfl, ⟨i, hi2, rfl, .inl ⟨24, by decide, rfl, rfl⟩⟩, _, rfl, ?_⟩
      refine ite2 (fun z => absurd z (by simp [b3])) fun _ => ?_
      refine ⟨_, rfl, _, _, _, rfl, ⟨i, hi2, rfl, .inl ⟨25, by decide, rfl, rfl⟩⟩, _, rfl, ?_⟩
      refine ite2 (fun z => absurd z (by simp [b4])) fun _ => ?_
      refine ⟨_, rfl, _, _, _, rfl, ⟨i, hi2, rfl, .inr ⟨"LookupError", by decide, rfl, rfl⟩⟩, _, rfl, ?_⟩
      refine ite2 (fun z => absurd z (by simp [b2])) fun _ => ?_
      exact hK _ ⟨_, rfl⟩
    case last1 =>
      rintro ε ⟨o2, rfl⟩
      refine ⟨_, rfl, _, .inl rfl, forW_ind (fun ε => ∃ o, ε = [o0, o1, some (.dat (.lst [.str y0, .str y1, .str y2])), some (.dat (.lst [.exc (c 0) [], .exc (c 1) [], .exc (c 2) [], .exc (c 3) [], .exc (c 4) [], .exc (c 5) [], .exc (c 6) [], .exc (c 7) [], .exc (c 8) [], .exc (c 9) [], .exc (c 10) [], .exc (c 11) f0, .exc (c 12) f1, .exc (c 13) f2, .exc (c 14) f3, .exc (c 15) f4, .exc (c 16) f5, .exc (c 17) f6, .exc (c 18) f7, .exc (c 19) f8, .exc (c 20) f9])), some (.dat (.lst [.exc (c 21) g0, .exc (c 22) g1, .exc (c 23) g2])), o, none]) ?last2 ⟨_, rfl⟩ ?step2⟩
      case step2 =>
        intro x hx ε hε Kk hK
        obtain ⟨o, rfl⟩ := hε
        have hm : ∀ x ∈ ([.exc (c 21) g0, .exc (c 22) g1, .exc (c 23) g2] : List D), ∃ (i : Nat) (fs : List (Str × D)), 21 ≤ i ∧ i < 24 ∧ x = .exc (c i) fs := all_c ⟨21, _, by decide, by decide, rfl⟩ (all_c ⟨22, _, by decide, by decide, rfl⟩ (all_c ⟨23, _, by decide, by decide, rfl⟩ all_n))
        obtain ⟨i, fs, hi, hi2, rfl⟩ := hm x hx
        obtain ⟨b1, b2, b5, b6⟩ := isB_le hi
        obtain ⟨b3, b4⟩ := isC_le hi hi2
        refine ⟨_, rfl, _, _, _, rfl, ⟨i, hi2, rfl, .inr ⟨"LookupError", by decide, rfl, rfl⟩⟩, _, rfl, ?_⟩
        refine ite2 (fun z => absurd z (by simp [b2])) fun _ => ?_
        refine ⟨_, rfl, _, _, _, rfl, ⟨i, hi2, rfl, .inl ⟨25, by decide, rfl, rfl⟩⟩, _, rfl, ?_⟩
        refine ite2 (fun z => absurd z (by simp [b4])) fun _ => ?_
        refine ⟨_, rfl, _, _, _, rfl, ⟨i, hi2, rfl, .inl ⟨24, by decide, rfl, rfl⟩⟩, _, rfl, ?_⟩
        refine ite2 (fun z => absurd z (by simp [b3])) fun _ => ?_
        refine ⟨_, rfl, _, _, _, rfl, ⟨i, hi2, rfl, .inr ⟨"KeyError", by decide, rfl, rfl⟩⟩, _, rfl, ?_⟩
        refine ite2 (fun z => absurd z (by simp [b5])) fun _ => ?_
        refine ⟨_, rfl, _, _, _, rfl, ⟨i, hi2, rfl, .inr ⟨"IndexError", by decide, rfl, rfl⟩⟩, _, rfl, ?_⟩
        refine ite2 (fun z => absurd z (by simp [b6])) fun _ => ?_
        exact hK _ ⟨_, rfl⟩
      case last2 =>
        rintro ε ⟨o3, rfl⟩
        exact q
end
end DW
namespace DW
open PySem PySem.Spec
open PyProof.Rows L2
def spLaw (K : PySem.W.Frag) : Sp := fun vs H Q _ => ∃ (a : Addr) (ns : List Int), vs = [.ref a] ∧ SqL K H a (ns.map V.int) ∧ ns.length ≤ 1000 ∧ ∀ H', Q (.bl true) H'
theorem ints_at {K : PySem.W.Frag} {A : Addr → Prop} {H : Hp} : ∀ {ns : List Int} {ws : List V}, Dats K A H (ns.map D.int) ws → ws = ns.map V.int
  | [], _, b => by cases b; rfl
  | y :: ys, _, b => by
    cases b with
    | cons b t =>
      cases b
      rw [ints_at t]
      rfl
theorem dats_ints {K : PySem.W.Frag} {A : Addr → Prop} {H : Hp} : ∀ ns : List Int, Dats K A H (ns.map D.int) (ns.map V.int)
  | [] => .nil
  | n :: ns => .cons (.int n) (dats_ints ns)
theorem dats_strs {K : PySem.W.Frag} {A : Addr → Prop} {H : Hp} : ∀ ys : List Str, Dats K A H (ys.map D.str) (ys.map V.str)
  | [] => .nil
  | y :: ys => .cons (.str y) (dats_strs ys)
theorem pairs_eq {α β : Type} : ∀ {xs ys : List (α × β)}, xs.map (·.1) = ys.map (·.1) → xs.map (·.2) = ys.map (·.2) → xs = ys
  | [], [], _, _ => rfl
  | [], _ :: _, e, _ => by cases e
  | _ :: _, [], e, _ => by cases e
  | (a, b) :: xs, (a', b') :: ys, e1, e2 => by
    simp only [List.map_cons, List.cons.injEq] at e1 e2
    rw [e1.1, e2.1, pairs_eq e1.2 e2.2]
/-- the source as it was handed out -/
theorem src_of {K : PySem.W.Frag} {A : Addr → Prop} {H : Hp} {cs : List Int} {m : Int} {v : V} (b : Dat K A H (.dct (srcD cs m)) v) : ∃ so co, v = .ref so ∧ Src so co 0 H := by
  cases b with
  | @dct a _ kws na h hk hs =>
    have hs : Dats K A H [.lst (cs.map D.int), .int 1, .int m, .int 0] (kws.map (·.2)) := hs
    generalize hv : kws.map (·.2) = vs at hs
    cases hs with
    | cons b1 t =>
      cases t with
      | cons b2 t =>
        cases t with
        | cons b3 t =>
          cases t with
          | cons b4 t =>
            cases t
            cases b1 with
            | lst nl hl hsl =>
              cases b2; cases b3; cases b4
              obtain rfl := ints_at hsl
              rename_i co
              have e : kws = srcK co 1 m 0 := pairs_eq (hk.trans rfl) hv
              exact ⟨a, co, rfl, 1, m, cs, by rw [h, e], hl, by decide⟩
section
variable {P : Program} {w : World} {K : PySem.W.Frag} {mg : Str → Option Value} {base : Heap} {c : Nat → Addr} {f : Addr} {fd : FuncData}
theorem ok_law (h : Txt P w K mg base c) (Fn : Fun K "law" "law" (top 35) f fd) (cS : Clb P w K mg base 2 "_law_source" (liftP K spSource)) (cP : Clb P w K mg base 1 "_law_pick" spPick) (cW : Clb P w K mg base 2 "_law_word" spWord) (cA : Clb P w K mg base 4 "_law_plain" (liftP K (spPlain c))) (cN : Clb P w K mg base 4 "_law_named" (liftP K (spNamed c)))
    (cM : Clb P w K mg base 4 "_law_missing" (liftP K (spMissing c))) (cC : Clb P w K mg base 4 "_law_classes" (liftP K (spClasses c))) : FnOk P w K mg base (L2.CX P w) 5 f fd ["script"] (spLaw K) := by
  obtain ⟨gS, dS, pS, FS, mS, kS, bS⟩ := cS.ex
  obtain ⟨gP, dP, pP, FP, mP, kP, bP⟩ := cP.ex
  obtain ⟨gW, dW, pW, FW, mW, kW, bW⟩ := cW.ex
  obtain ⟨gA, dA, pA, FA, mA, kA, bA⟩ := cA.ex
  obtain ⟨gN, dN, pN, FN, mN, kN, bN⟩ := cN.ex
  have sc := sc_law
  refine Fn.okX sc (fun vs H Q E ⟨a, ns, e, _⟩ => by rw [e]; rfl) ?_
  rintro cdv A outer s H vs Q E hr ⟨a, ns, ev, hS, hl, q⟩
  subst ev
  obtain ⟨G, hG, rest⟩ := law_rest h cM cC cdv A outer s H E hr
  have r1 := hr.mono (show 1 ≤ 4 by omega)
  have r2 := hr.mono (show 2 ≤ 4 by omega)
  refine' ⟨_, pss_cons ?s1 (pss_cons ?s2 (pss_cons ?s3 (pss_ex fun F => hG F))), ?fin⟩
  case s1 => exact ps_set sc.nd (i := 1) (by rfl) (by exact Or.inr rfl) (pe_call (E := E0) (by exact FS) (by exact r2) (by rfl) (by exact mS) (by exact kS) (by exact bS) .nil (by exact passL) (pa_cons (pv 0) pa_nil))
  case s2 => exact ps_setLc (by rfl) sc.nd (i := 2) (by rfl) (by rfl) (by rfl) (pi_range1 (by rfl) (by exact h.norange) (pa_cons pe_int pa_nil)) (own := [("k", 6)]) (by exact blkOk_by (show blkC ["script", "source", "words", "rows", "lost", "e", "k"] (defScope (top 35)) _ _ = true from by decide +kernel)) (fun _ _ _ _ _ => pg_name sc.nd (i := 6) (by rfl) (by exact Or.inl rfl)) (fun _ _ _ _ _ => pts_nil) (fun _ _ _ _ _ => pe_call (E := E0) (by exact FW) (by exact r2) (by rfl) (by exact mW) (by exact kW) (by exact bW) .nil (by exact passL) (pa_cons (pv 1) pa_nil))
  case s3 => exact ps_set sc.nd (i := 3) (by rfl) (by exact Or.inl rfl) (pe_op opAdd (pe_call0 (E := E0) (by exact FA) (by exact hr) (by rfl) (by exact mA) (by exact kA) (by exact bA) .nil (by exact passL)) (pe_call (E := E0) (by exact FN) (by exact hr) (by rfl) (by exact mN) (by exact kN) (by exact bN) .nil (by exact passL) (pa_cons (pv 2) (pa_cons (pe_call (E := E0) (by exact FP) (by exact r1) (by rfl) (by exact mP) (by exact kP) (by exact bP) .nil (by exact passL) (pa_cons (pv 1) (pa_cons (pe_op op_pow pe_int pe_int) pa_nil))) pa_nil))))
  case fin =>
    have f0 : Dats K (fun _ => False) H [.fro (ns.map D.int)] [.ref a] := .one (.fro (hS.elim (fun z => .inl ⟨id, z⟩) fun z => .inr (.inr z)) (dats_ints ns))
    refine ⟨_, rfl, (), fun _ => False, [.fro (ns.map D.int)], fun d => ∃ cs m, d = .dct (srcD cs m), Z0, fun _ z => z, fun _ z => z.elim, trivial, f0, ⟨ns, rfl, hl, fun cs m => ⟨cs, m, rfl⟩⟩, fun d v H1 pd g1 _ b1 => ?_, fun x _ _ _ z => z.elim⟩
    obtain ⟨cs, m, rfl⟩ := pd
    obtain ⟨so, co, rfl, S0⟩ := src_of b1
    -- the words
    refine ⟨3, rfl, by decide, by decide, fun L hL => ?_⟩
    have nso : L ≠ so := fun z => by obtain ⟨l, m, ns, hs, _⟩ := S0; rw [z, hs] at hL; cases hL
    have nco : L ≠ co := fun z => by obtain ⟨l, m, ns, _, hc, _⟩ := S0; rw [z, hc] at hL; cases hL
    have keepS : ∀ {t : Int} {H' : Hp} {o : HO}, Src so co t H' → Src so co t (upd H' L o) := fun {t H' o} ⟨l, m, ns, e1, e2, e3⟩ => ⟨l, m, ns, by rw [upd_ne (Ne.symm nso)]; exact e1, by rw [upd_ne (Ne.symm nco)]; exact e2, e3⟩
    refine ⟨fun i m H' => m = 3 - i ∧ i ≤ 3 ∧ ∃ ys : List Str, ys.length = i ∧ (∀ y ∈ ys, Short y) ∧ H' L = some (.lst (ys.map V.str)) ∧ ∃ t, t ≤ 2 * (i : Int) ∧ Src so co t H', ⟨3, rfl, by omega, [], rfl, (fun _ z => by cases z), upd_same, 0, by omega, keepS S0⟩, ?_⟩
    rintro i m H2 ⟨rfl, hi, ys, hy, hys, hL2, t, ht, St⟩
    by_cases hlt : i < 3
    · refine .inr ⟨hlt, fun H' => i + 1 ≤ 3 ∧ ∃ ys : List Str, ys.length = i + 1 ∧ (∀ y ∈ ys, Short y) ∧ H' L = some (.lst (ys.map V.str)) ∧ ∃ t, t ≤ 2 * ((i + 1 : Nat) : Int) ∧ Src so co t H', fun H' z => ⟨3 - (i + 1), by omega, rfl, z⟩, ?_⟩
      rintro x H3 ⟨rfl, rfl⟩
      refine ⟨rfl, _, rfl, so, co, t, rfl, St, fun y H4 hy4 k4 S4 => ?_⟩
      obtain ⟨t', ht', S4⟩ := S4
      have hL4 := k4 L _ hL2 nso nco
      refine ⟨_, hL4, by rw [List.length_map, sizeLine_eq]; omega, by omega, ys ++ [y], by simp [hy], fun z hz => ?_, by rw [upd_same]; simp, t', by omega, keepS S4⟩
      rcases List.mem_append.mp hz with z1 | z1
      · exact hys z z1
      · rw [List.mem_singleton.mp z1]; exact hy4
    · refine .inl ⟨by show 3 ≤ i; omega, ?_⟩
      have h3 : ys.length = 3 := by omega
      match ys, h3 with
      | [y0, y1, y2], _ =>
        have h0 : Short y0 := hys _ (by simp)
        have h1 : Short y1 := hys _ (by simp)
        have h2 : Short y2 := hys _ (by simp)
        obtain ⟨l, m, ns2, e1, e2, e3⟩ := id St
        have AL : ∀ b, (b = so ∨ b = co) → H2 b ≠ none := fun b z => by
          rcases z with rfl | rfl
          · rw [e1]; intro z; cases z
          · rw [e2]; intro z; cases z
        -- the plain ones
        refine ⟨(), fun b => b = so ∨ b = co, [], fun d => d = .lst [.exc (c 0) [], .exc (c 1) [], .exc (c 2) [], .exc (c 3) [], .exc (c 4) [], .exc (c 5) [], .exc (c 6) [], .exc (c 7) [], .exc (c 8) [], .exc (c 9) [], .exc (c 10) []], Z0, fun _ z => z.elim, AL, trivial, .nil, ⟨rfl, rfl⟩, fun d v1 H3 pd g3 _ b3 => ?_, fun x _ _ _ z => z.elim⟩
        subst pd
        have kp3 : ∀ b o, H2 b = some o → H3 b = some o := fun b o e => g3 b o e id
        have S3 : Src so co t H3 := ⟨l, m, ns2, kp3 _ _ e1, kp3 _ _ e2, e3⟩
        -- the number
        refine ⟨_, rfl, _, rfl, _, _, rfl, rfl, ⟨by decide, by decide, by decide⟩, so, co, _, t, rfl, S3, by decide, fun _ => by omega, fun k H4 k0 k1 k4 S4 => ?_⟩
        have hk : k.natAbs < 2 ^ 64 := by
          have e10 : (10 : Int) ^ (9 : Int).toNat = 1000000000 := by decide
          rw [e10] at k1
          have : (2 : Nat) ^ 64 = 18446744073709551616 := by decide
          omega
        have K4 : Keeps (fun b => b = so ∨ b = co) H3 H4 (fun b => b = so ∨ b = co) := fun b o e n => ⟨k4 b o e (fun z => n (.inl z)) fun z => n (.inr z), n⟩
        have b4 := b3.keep K4
        have hL3 := kp3 L _ hL2
        have w4 : Dat K (fun b => b = so ∨ b = co) H4 (.lst [.str y0, .str y1, .str y2]) (.ref L) := .lst (fun z => z.elim nso nco) (k4 L _ hL3 nso nco) (dats_strs [y0, y1, y2])
        obtain ⟨t4, _, l4, m4, ns4, e41, e42, _⟩ := S4
        have AL4 : ∀ b, (b = so ∨ b = co) → H4 b ≠ none := fun b z => by
          rcases z with rfl | rfl
          · rw [e41]; intro z; cases z
          · rw [e42]; intro z; cases z
        refine ⟨(), fun b => b = so ∨ b = co, [.lst [.str y0, .str y1, .str y2], .int k], fun d => ∃ f0 f1 f2 f3 f4 f5 f6 f7 f8 f9, d = .lst [.exc (c 11) f0, .exc (c 12) f1, .exc (c 13) f2, .exc (c 14) f3, .exc (c 15) f4, .exc (c 16) f5, .exc (c 17) f6, .exc (c 18) f7, .exc (c 19) f8, .exc (c 20) f9], Z0, fun _ z => z.elim, AL4, trivial, .cons w4 (.one (.int k)), ⟨y0, y1, y2, k, rfl, h0, h1, h2, hk, fun f0 f1 f2 f3 f4 f5 f6 f7 f8 f9 => ⟨f0, f1, f2, f3, f4, f5, f6, f7, f8, f9, rfl⟩⟩, fun d v2 H5 pd g5 _ b5 => ?_, fun x _ _ _ z => z.elim⟩
        obtain ⟨f0, f1, f2, f3, f4, f5, f6, f7, f8, f9, rfl⟩ := pd
        have K5 : Keeps (fun b => b = so ∨ b = co) H4 H5 (fun b => b = so ∨ b = co) := fun b o e n => ⟨g5 b o e id, n⟩
        have b6 := b4.keep K5
        have w5 := w4.keep K5
        cases b6 with
        | @lst a1 _ vs1 na1 ha1 hs1 =>
          cases b5 with
          | @lst a2 _ vs2 na2 ha2 hs2 =>
            have l1 : vs1.length = 11 := hs1.length.symm
            have l2 : vs2.length = 10 := hs2.length.symm
            refine .inr (.inr ⟨a1, a2, vs1, vs2, rfl, rfl, ha1, ha2, by rw [sizeLine_eq]; omega, fun r hr5 => ?_⟩)
            have K6 : Keeps (fun b => b = so ∨ b = co) H5 (upd H5 r (.lst (vs1 ++ vs2))) (fun _ => False) := fun b o e n => ⟨by rw [upd_ne (ne_of_none e hr5)]; exact e, id⟩
            have w6 := w5.keep K6
            have r6 : Dat K (fun _ => False) (upd H5 r (.lst (vs1 ++ vs2))) (.lst [.exc (c 0) [], .exc (c 1) [], .exc (c 2) [], .exc (c 3) [], .exc (c 4) [], .exc (c 5) [], .exc (c 6) [], .exc (c 7) [], .exc (c 8) [], .exc (c 9) [], .exc (c 10) [], .exc (c 11) f0, .exc (c 12) f1, .exc (c 13) f2, .exc (c 14) f3, .exc (c 15) f4, .exc (c 16) f5, .exc (c 17) f6, .exc (c 18) f7, .exc (c 19) f8, .exc (c 20) f9]) (.ref r) := .lst id upd_same ((hs1.keep K6).app (hs2.keep K6))
            let F : Fx := ⟨md0, fun _ => False, upd H5 r (.lst (vs1 ++ vs2)), fun _ z => z, fun _ z => z.elim⟩
            refine ⟨F, ([], []), fun _ => False, [none, none, some (.dat (.lst [.str y0, .str y1, .str y2])), some (.dat (.lst [.exc (c 0) [], .exc (c 1) [], .exc (c 2) [], .exc (c 3) [], .exc (c 4) [], .exc (c 5) [], .exc (c 6) [], .exc (c 7) [], .exc (c 8) [], .exc (c 9) [], .exc (c 10) [], .exc (c 11) f0, .exc (c 12) f1, .exc (c 13) f2, .exc (c 14) f3, .exc (c 15) f4, .exc (c 16) f5, .exc (c 17) f6, .exc (c 18) f7, .exc (c 19) f8, .exc (c 20) f9])), none, none, none], { nx := fun _ => False, rt := fun d => d = .bl true }, ?_, rest none none y0 y1 y2 f0 f1 f2 f3 f4 f5 f6 f7 f8 f9 _ h0 rfl, fun _ _ _ _ z => z.elim, fun d v H' z _ _ b => ?_, fun _ _ _ _ z => z.elim, fun _ _ _ _ z => z.elim, fun _ _ _ _ _ _ _ z => z.elim⟩
            · refine ⟨.nil, .refl _ _, trivial, fun _ z => z, fun _ z => z.elim, rfl, ?_, ?_, ?_⟩
              · intro i d e
                match i, e with
                | 0, e => cases e
                | 1, e => cases e
                | 2, e => cases e; exact ⟨_, rfl, w6⟩
                | 3, e => cases e; exact ⟨_, rfl, r6⟩
                | 4, e => cases e
                | 5, e => cases e
                | 6, e => cases e
                | i + 7, e => simp at e
              · intro i o e
                match i, e with
                | 0, e => cases e
                | 1, e => cases e
                | 2, e => cases e
                | 3, e => cases e
                | 4, e => cases e
                | 5, e => cases e
                | 6, e => cases e
                | i + 7, e => simp at e
              · intro i j o o' v e
                match i, e with
                | 0, e => cases e
                | 1, e => cases e
                | 2, e => cases e
                | 3, e => cases e
                | 4, e => cases e
                | 5, e => cases e
                | 6, e => cases e
                | i + 7, e => simp at e
            · subst z
              cases b
              exact q H'
end
end DW
namespace DW
open PySem PySem.Spec
open PyProof.Rows L2 NdefX
theorem facts_at {K : PySem.W.Frag} {c : Nat → Addr} (h : factsB K c = true) : (∀ i, i < 26 → PySem.W.nsIn K mainGlobals (nm i) = some (some (.ref (c i)))) ∧
    (∀ i, i < 21 → ecB K (c i) "ValueError" "ValueError.__new__" [.type "ValueError", .type "Exception", .type "BaseException", .type "object"] = true) ∧ (∀ i, i < 3 → ecB K (c (21 + i)) "LookupError" "LookupError.__new__" [.type "LookupError", .type "Exception", .type "BaseException", .type "object"] = true) ∧
    (∀ i, i < 11 → PySem.W.findIn K (.ref (c i)) "__init__" = some (some (.builtin "ValueError.__init__"))) ∧ (∀ i, i < 24 → ∀ j, j < 26 → PySem.W.kitOne K (.ref (c i)) (.ref (c j)) = some (isC i j)) ∧
    (∀ i, i < 24 → ∀ b, b ∈ bts → PySem.W.kitOne K (.ref (c i)) (.type b) = some (isB i b)) ∧ (∀ p, p ∈ atts → PySem.W.findIn K (.ref (c p.1)) p.2 = some none) := by
  unfold factsB at h
  simp only [Bool.and_eq_true, List.all_eq_true, decide_eq_true_eq, List.mem_range] at h
  obtain ⟨h1, h2, h3, h4, h5, h6, h7⟩ := h
  exact And.intro h1 ⟨h2, h3, h4, h5, h6, h7⟩
section
variable {P : Program} {w : World} {K : PySem.W.Frag} {mg : Str → Option Value} {base : Heap} {C fI cc cda : Addr} {st : Stmt} {qual : Str} {initId : String} {oc kV dc pm ct ccl cl : Value} {od an cdd cld : Option Addr} {sl ccs csl : Array (Option Value)} {vs : Array Value} {file : Str} {tf : Tok}
theorem if_mk (i1 : PySem.W.findIn K (.ref C) "__init__" = some (some (.ref fI))) (t1 : PySem.W.typeIn K (.ref fI) = some (.type "function"))
    (l1 : K.lookup fI = some ⟨oc, od, .func (PySem.W.ksFn "__init__" qual (defArgs st) (defBody st) (defScope st) .none kV dc pm an (.ref cda) ct cc), sl⟩) (q1 : PySem.W.codeIn K (.ref cda) qual = true) (c1 : K.lookup cda = some ⟨ccl, cdd, .fields vs, ccs⟩) (v1 : vs[2]? = some (.str file tf)) (f1 : ((P.main.file : Str) == file) = true)
    (e1 : K.lookup cc = some ⟨cl, cld, .cell (some (.ref C)), csl⟩) (s1 : PySem.W.ks_superIn K C C "__init__" = some (some (.builtin initId))) (m1 : PySem.W.mroIn K C (.ref C) = some true) (ms : mg "super" = none) (ks : (defScope st).names.lookup ("super" : Str) = some .globalImplicit) (kc : (defScope st).names.lookup ("__class__" : Str) = some .free)
    (kS : (defScope st).names.lookup ("self" : Str) = some .local) (kd : (defScope st).kind = .function) (par : ((defArgs st).posonlyargs ++ (defArgs st).args).head?.map (·.arg) = some ("self" : Str)) (top : (P.main.scope.names.lookup ("super" : Str)).isSome = false) :
    IF K mg P C fI (PySem.W.ksFn "__init__" qual (defArgs st) (defBody st) (defScope st) .none kV dc pm an (.ref cda) ct cc) st qual cc cda initId :=
  ⟨⟨rfl, ⟨oc, od, an, .none, kV, dc, pm, ct, sl, l1, rfl⟩, ⟨ccl, cdd, vs, ccs, file, tf, c1, v1, f1⟩, ⟨cl, cld, csl, e1⟩, s1, m1, ms, ks, kc, kS, par, kd, top⟩, q1, i1, t1⟩
theorem bnd_of {fd : FuncData} {ps : List Str} (h : ∀ us : List Value, us.length = ps.length → bindArgs fd ⟨us, []⟩ = pure (ps.zip us)) : Binds K fd ps [] := fun s us _ hl => by
  rw [List.append_nil] at hl ⊢
  exact .of_eq (h us hl)
end
abbrev PP : Program := PySem.Challenge.rw_farscale_k91_errors.prog
theorem all_mk {w : World} {K : PySem.W.Frag} {h : Heap} {mg : Str → Option Value} {fa : Addr} (X : K.In h) (G : h.Ns mainGlobals mg) (hfa : mg "law" = some (.ref fa))
    {C0 C1 C2 C3 C4 C5 C6 C7 C8 C9 C10 C11 C12 C13 C14 C15 C16 C17 C18 C19 C20 C21 C22 C23 C24 C25 : Addr} {a__law_source : Addr} {a__law_pick : Addr} {a__law_word : Addr} {a__law_plain : Addr} {a__law_named : Addr} {a__law_missing : Addr} {a__law_classes : Addr} {a_law : Addr} {od__law_source an__law_source : Option Addr} {sl__law_source : Array (Option Value)} {oc__law_source kV__law_source dc__law_source pm__law_source cd__law_source ct__law_source : Value} {od__law_pick an__law_pick : Option Addr} {sl__law_pick : Array (Option Value)} {oc__law_pick kV__law_pick dc__law_pick pm__law_pick cd__law_pick ct__law_pick : Value} {od__law_word an__law_word : Option Addr} {sl__law_word : Array (Option Value)} {oc__law_word kV__law_word dc__law_word pm__law_word cd__law_word ct__law_word : Value} {od__law_plain an__law_plain : Option Addr} {sl__law_plain : Array (Option Value)} {oc__law_plain kV__law_plain dc__law_plain pm__law_plain cd__law_plain ct__law_plain : Value} {od__law_named an__law_named : Option Addr} {sl__law_named : Array (Option Value)} {oc__law_named kV__law_named dc__law_named pm__law_named cd__law_named ct__law_named : Value} {od__law_missing an__law_missing : Option Addr} {sl__law_missing : Array (Option Value)} {oc__law_missing kV__law_missing dc__law_missing pm__law_missing cd__law_missing ct__law_missing : Value} {od__law_classes an__law_classes : Option Addr} {sl__law_classes : Array (Option Value)} {oc__law_classes kV__law_classes dc__law_classes pm__law_classes cd__law_classes ct__law_classes : Value} {od_law an_law : Option Addr} {sl_law : Array (Option Value)} {oc_law kV_law dc_law pm_law cd_law ct_law : Value} {I_BadName cc_BadName cda_BadName : Addr} {oc_BadName kV_BadName dc_BadName pm_BadName ct_BadName ccl_BadName cl_BadName : Value} {od_BadName an_BadName cdd_BadName cld_BadName : Option Addr} {sl_BadName ccs_BadName csl_BadName : Array (Option Value)} {vs_BadName : Array Value} {file_BadName : Str} {tf_BadName : Tok} {I_TwiceTold cc_TwiceTold cda_TwiceTold : Addr} {oc_TwiceTold kV_TwiceTold dc_TwiceTold pm_TwiceTold ct_TwiceTold ccl_TwiceTold cl_TwiceTold : Value} {od_TwiceTold an_TwiceTold cdd_TwiceTold cld_TwiceTold : Option Addr} {sl_TwiceTold ccs_TwiceTold csl_TwiceTold : Array (Option Value)} {vs_TwiceTold : Array Value} {file_TwiceTold : Str} {tf_TwiceTold : Tok} {I_NotSame cc_NotSame cda_NotSame : Addr} {oc_NotSame kV_NotSame dc_NotSame pm_NotSame ct_NotSame ccl_NotSame cl_NotSame : Value} {od_NotSame an_NotSame cdd_NotSame cld_NotSame : Option Addr} {sl_NotSame ccs_NotSame csl_NotSame : Array (Option Value)} {vs_NotSame : Array Value} {file_NotSame : Str} {tf_NotSame : Tok} {I_Stretched cc_Stretched cda_Stretched : Addr} {oc_Stretched kV_Stretched dc_Stretched pm_Stretched ct_Stretched ccl_Stretched cl_Stretched : Value} {od_Stretched an_Stretched cdd_Stretched cld_Stretched : Option Addr} {sl_Stretched ccs_Stretched csl_Stretched : Array (Option Value)} {vs_Stretched : Array Value} {file_Stretched : Str} {tf_Stretched : Tok} {I_NotThrough cc_NotThrough cda_NotThrough : Addr} {oc_NotThrough kV_NotThrough dc_NotThrough pm_NotThrough ct_NotThrough ccl_NotThrough cl_NotThrough : Value} {od_NotThrough an_NotThrough cdd_NotThrough cld_NotThrough : Option Addr} {sl_NotThrough ccs_NotThrough csl_NotThrough : Array (Option Value)} {vs_NotThrough : Array Value} {file_NotThrough : Str} {tf_NotThrough : Tok} {I_NotAhead cc_NotAhead cda_NotAhead : Addr} {oc_NotAhead kV_NotAhead dc_NotAhead pm_NotAhead ct_NotAhead ccl_NotAhead cl_NotAhead : Value} {od_NotAhead an_NotAhead cdd_NotAhead cld_NotAhead : Option Addr} {sl_NotAhead ccs_NotAhead csl_NotAhead : Array (Option Value)} {vs_NotAhead : Array Value} {file_NotAhead : Str} {tf_NotAhead : Tok} {I_NotBehind cc_NotBehind cda_NotBehind : Addr} {oc_NotBehind kV_NotBehind dc_NotBehind pm_NotBehind ct_NotBehind ccl_NotBehind cl_NotBehind : Value} {od_NotBehind an_NotBehind cdd_NotBehind cld_NotBehind : Option Addr} {sl_NotBehind ccs_NotBehind csl_NotBehind : Array (Option Value)} {vs_NotBehind : Array Value} {file_NotBehind : Str} {tf_NotBehind : Tok} {I_BadPath cc_BadPath cda_BadPath : Addr} {oc_BadPath kV_BadPath dc_BadPath pm_BadPath ct_BadPath ccl_BadPath cl_BadPath : Value} {od_BadPath an_BadPath cdd_BadPath cld_BadPath : Option Addr} {sl_BadPath ccs_BadPath csl_BadPath : Array (Option Value)} {vs_BadPath : Array Value} {file_BadPath : Str} {tf_BadPath : Tok} {I_BarePair cc_BarePair cda_BarePair : Addr} {oc_BarePair kV_BarePair dc_BarePair pm_BarePair ct_BarePair ccl_BarePair cl_BarePair : Value} {od_BarePair an_BarePair cdd_BarePair cld_BarePair : Option Addr} {sl_BarePair ccs_BarePair csl_BarePair : Array (Option Value)} {vs_BarePair : Array Value} {file_BarePair : Str} {tf_BarePair : Tok} {I_UnknownGrade cc_UnknownGrade cda_UnknownGrade : Addr} {oc_UnknownGrade kV_UnknownGrade dc_UnknownGrade pm_UnknownGrade ct_UnknownGrade ccl_UnknownGrade cl_UnknownGrade : Value} {od_UnknownGrade an_UnknownGrade cdd_UnknownGrade cld_UnknownGrade : Option Addr} {sl_UnknownGrade ccs_UnknownGrade csl_UnknownGrade : Array (Option Value)} {vs_UnknownGrade : Array Value} {file_UnknownGrade : Str} {tf_UnknownGrade : Tok} {I_UnknownPoint cc_UnknownPoint cda_UnknownPoint : Addr} {oc_UnknownPoint kV_UnknownPoint dc_UnknownPoint pm_UnknownPoint ct_UnknownPoint ccl_UnknownPoint cl_UnknownPoint : Value} {od_UnknownPoint an_UnknownPoint cdd_UnknownPoint cld_UnknownPoint : Option Addr} {sl_UnknownPoint ccs_UnknownPoint csl_UnknownPoint : Array (Option Value)} {vs_UnknownPoint : Array Value} {file_UnknownPoint : Str} {tf_UnknownPoint : Tok} {I_NotTold cc_NotTold cda_NotTold : Addr} {oc_NotTold kV_NotTold dc_NotTold pm_NotTold ct_NotTold ccl_NotTold cl_NotTold : Value} {od_NotTold an_NotTold cdd_NotTold cld_NotTold : Option Addr} {sl_NotTold ccs_NotTold csl_NotTold : Array (Option Value)} {vs_NotTold : Array Value} {file_NotTold : Str} {tf_NotTold : Tok} {I_Clash cc_Clash cda_Clash : Addr} {oc_Clash kV_Clash dc_Clash pm_Clash ct_Clash ccl_Clash cl_Clash : Value} {od_Clash an_Clash cdd_Clash cld_Clash : Option Addr} {sl_Clash ccs_Clash csl_Clash : Array (Option Value)} {vs_Clash : Array Value} {file_Clash : Str} {tf_Clash : Tok}
    (no_super : PySem.W.nsIn K mainGlobals "super" = some none)
    (no_list : PySem.W.nsIn K mainGlobals "list" = some none)
    (no_str : PySem.W.nsIn K mainGlobals "str" = some none)
    (no_abs : PySem.W.nsIn K mainGlobals "abs" = some none)
    (no_int : PySem.W.nsIn K mainGlobals "int" = some none)
    (no_len : PySem.W.nsIn K mainGlobals "len" = some none)
    (no_range : PySem.W.nsIn K mainGlobals "range" = some none)
    (no_isinstance : PySem.W.nsIn K mainGlobals "isinstance" = some none)
    (no_ValueError : PySem.W.nsIn K mainGlobals "ValueError" = some none)
    (no_LookupError : PySem.W.nsIn K mainGlobals "LookupError" = some none)
    (no_KeyError : PySem.W.nsIn K mainGlobals "KeyError" = some none)
    (no_IndexError : PySem.W.nsIn K mainGlobals "IndexError" = some none)
    (g__law_source : PySem.W.nsIn K mainGlobals "_law_source" = some (some (.ref a__law_source)))
    (l__law_source : K.lookup a__law_source = some ⟨oc__law_source, od__law_source, .func (PySem.W.fnOf "_law_source" "_law_source" (defArgs (top 28)) (defBody (top 28)) (defScope (top 28)) .none kV__law_source dc__law_source pm__law_source an__law_source cd__law_source ct__law_source), sl__law_source⟩)
    (c__law_source : PySem.W.codeIn K cd__law_source "_law_source" = true)
    (k__law_source : PySem.W.keepIn K (.ref a__law_source) = true)
    (g__law_pick : PySem.W.nsIn K mainGlobals "_law_pick" = some (some (.ref a__law_pick)))
    (l__law_pick : K.lookup a__law_pick = some ⟨oc__law_pick, od__law_pick, .func (PySem.W.fnOf "_law_pick" "_law_pick" (defArgs (top 29)) (defBody (top 29)) (defScope (top 29)) .none kV__law_pick dc__law_pick pm__law_pick an__law_pick cd__law_pick ct__law_pick), sl__law_pick⟩)
    (c__law_pick : PySem.W.codeIn K cd__law_pick "_law_pick" = true)
    (k__law_pick : PySem.W.keepIn K (.ref a__law_pick) = true)
    (g__law_word : PySem.W.nsIn K mainGlobals "_law_word" = some (some (.ref a__law_word)))
    (l__law_word : K.lookup a__law_word = some ⟨oc__law_word, od__law_word, .func (PySem.W.fnOf "_law_word" "_law_word" (defArgs (top 30)) (defBody (top 30)) (defScope (top 30)) .none kV__law_word dc__law_word pm__law_word an__law_word cd__law_word ct__law_word), sl__law_word⟩)
    (c__law_word : PySem.W.codeIn K cd__law_word "_law_word" = true)
    (k__law_word : PySem.W.keepIn K (.ref a__law_word) = true)
    (g__law_plain : PySem.W.nsIn K mainGlobals "_law_plain" = some (some (.ref a__law_plain)))
    (l__law_plain : K.lookup a__law_plain = some ⟨oc__law_plain, od__law_plain, .func (PySem.W.fnOf "_law_plain" "_law_plain" (defArgs (top 31)) (defBody (top 31)) (defScope (top 31)) .none kV__law_plain dc__law_plain pm__law_plain an__law_plain cd__law_plain ct__law_plain), sl__law_plain⟩)
    (c__law_plain : PySem.W.codeIn K cd__law_plain "_law_plain" = true)
    (k__law_plain : PySem.W.keepIn K (.ref a__law_plain) = true)
    (g__law_named : PySem.W.nsIn K mainGlobals "_law_named" = some (some (.ref a__law_named)))
    (l__law_named : K.lookup a__law_named = some ⟨oc__law_named, od__law_named, .func (PySem.W.fnOf "_law_named" "_law_named" (defArgs (top 32)) (defBody (top 32)) (defScope (top 32)) .none kV__law_named dc__law_named pm__law_named an__law_named cd__law_named ct__law_named), sl__law_named⟩)
    (c__law_named : PySem.W.codeIn K cd__law_named "_law_named" = true)
    (k__law_named : PySem.W.keepIn K (.ref a__law_named) = true)
    (g__law_missing : PySem.W.nsIn K mainGlobals "_law_missing" = some (some (.ref a__law_missing)))
    (l__law_missing : K.lookup a__law_missing = some ⟨oc__law_missing, od__law_missing, .func (PySem.W.fnOf "_law_missing" "_law_missing" (defArgs (top 33)) (defBody (top 33)) (defScope (top 33)) .none kV__law_missing dc__law_missing pm__law_missing an__law_missing cd__law_missing ct__law_missing), sl__law_missing⟩)
    (c__law_missing : PySem.W.codeIn K cd__law_missing "_law_missing" = true)
    (k__law_missing : PySem.W.keepIn K (.ref a__law_missing) = true)
    (g__law_classes : PySem.W.nsIn K mainGlobals "_law_classes" = some (some (.ref a__law_classes)))
    (l__law_classes : K.lookup a__law_classes = some ⟨oc__law_classes, od__law_classes, .func (PySem.W.fnOf "_law_classes" "_law_classes" (defArgs (top 34)) (defBody (top 34)) (defScope (top 34)) .none kV__law_classes dc__law_classes pm__law_classes an__law_classes cd__law_classes ct__law_classes), sl__law_classes⟩)
    (c__law_classes : PySem.W.codeIn K cd__law_classes "_law_classes" = true)
    (k__law_classes : PySem.W.keepIn K (.ref a__law_classes) = true)
    (g_law : PySem.W.nsIn K mainGlobals "law" = some (some (.ref a_law)))
    (l_law : K.lookup a_law = some ⟨oc_law, od_law, .func (PySem.W.fnOf "law" "law" (defArgs (top 35)) (defBody (top 35)) (defScope (top 35)) .none kV_law dc_law pm_law an_law cd_law ct_law), sl_law⟩)
    (c_law : PySem.W.codeIn K cd_law "law" = true)
    (k_law : PySem.W.keepIn K (.ref a_law) = true)
    (n0 : PySem.W.nsIn K mainGlobals "BadScale" = some (some (.ref C0)))
    (n1 : PySem.W.nsIn K mainGlobals "BadTable" = some (some (.ref C1)))
    (n2 : PySem.W.nsIn K mainGlobals "MixedScales" = some (some (.ref C2)))
    (n3 : PySem.W.nsIn K mainGlobals "MixedSpaces" = some (some (.ref C3)))
    (n4 : PySem.W.nsIn K mainGlobals "BadImages" = some (some (.ref C4)))
    (n5 : PySem.W.nsIn K mainGlobals "TooMany" = some (some (.ref C5)))
    (n6 : PySem.W.nsIn K mainGlobals "NotClosed" = some (some (.ref C6)))
    (n7 : PySem.W.nsIn K mainGlobals "NotKept" = some (some (.ref C7)))
    (n8 : PySem.W.nsIn K mainGlobals "NotLoose" = some (some (.ref C8)))
    (n9 : PySem.W.nsIn K mainGlobals "NotFitting" = some (some (.ref C9)))
    (n10 : PySem.W.nsIn K mainGlobals "NothingDone" = some (some (.ref C10)))
    (n11 : PySem.W.nsIn K mainGlobals "BadName" = some (some (.ref C11)))
    (n12 : PySem.W.nsIn K mainGlobals "TwiceTold" = some (some (.ref C12)))
    (n13 : PySem.W.nsIn K mainGlobals "NotSame" = some (some (.ref C13)))
    (n14 : PySem.W.nsIn K mainGlobals "Stretched" = some (some (.ref C14)))
    (n15 : PySem.W.nsIn K mainGlobals "NotThrough" = some (some (.ref C15)))
    (n16 : PySem.W.nsIn K mainGlobals "NotAhead" = some (some (.ref C16)))
    (n17 : PySem.W.nsIn K mainGlobals "NotBehind" = some (some (.ref C17)))
    (n18 : PySem.W.nsIn K mainGlobals "BadPath" = some (some (.ref C18)))
    (n19 : PySem.W.nsIn K mainGlobals "BarePair" = some (some (.ref C19)))
    (n20 : PySem.W.nsIn K mainGlobals "Clash" = some (some (.ref C20)))
    (n21 : PySem.W.nsIn K mainGlobals "UnknownGrade" = some (some (.ref C21)))
    (n22 : PySem.W.nsIn K mainGlobals "UnknownPoint" = some (some (.ref C22)))
    (n23 : PySem.W.nsIn K mainGlobals "NotTold" = some (some (.ref C23)))
    (n24 : PySem.W.nsIn K mainGlobals "FarscaleError" = some (some (.ref C24)))
    (n25 : PySem.W.nsIn K mainGlobals "NameMissing" = some (some (.ref C25)))
    (i1_BadName : PySem.W.findIn K (.ref C11) "__init__" = some (some (.ref I_BadName)))
    (t1_BadName : PySem.W.typeIn K (.ref I_BadName) = some (.type "function"))
    (l1_BadName : K.lookup I_BadName = some ⟨oc_BadName, od_BadName, .func (PySem.W.ksFn "__init__" "BadName.__init__" (defArgs (stOf 4)) (defBody (stOf 4)) (defScope (stOf 4)) .none kV_BadName dc_BadName pm_BadName an_BadName (.ref cda_BadName) ct_BadName cc_BadName), sl_BadName⟩)
    (q1_BadName : PySem.W.codeIn K (.ref cda_BadName) "BadName.__init__" = true)
    (c1_BadName : K.lookup cda_BadName = some ⟨ccl_BadName, cdd_BadName, .fields vs_BadName, ccs_BadName⟩)
    (v1_BadName : vs_BadName[2]? = some (.str file_BadName tf_BadName))
    (f1_BadName : ((PP.main.file : Str) == file_BadName) = true)
    (e1_BadName : K.lookup cc_BadName = some ⟨cl_BadName, cld_BadName, .cell (some (.ref C11)), csl_BadName⟩)
    (s1_BadName : PySem.W.ks_superIn K C11 C11 "__init__" = some (some (.builtin "ValueError.__init__")))
    (m1_BadName : PySem.W.mroIn K C11 (.ref C11) = some true)
    (i1_TwiceTold : PySem.W.findIn K (.ref C12) "__init__" = some (some (.ref I_TwiceTold)))
    (t1_TwiceTold : PySem.W.typeIn K (.ref I_TwiceTold) = some (.type "function"))
    (l1_TwiceTold : K.lookup I_TwiceTold = some ⟨oc_TwiceTold, od_TwiceTold, .func (PySem.W.ksFn "__init__" "TwiceTold.__init__" (defArgs (stOf 5)) (defBody (stOf 5)) (defScope (stOf 5)) .none kV_TwiceTold dc_TwiceTold pm_TwiceTold an_TwiceTold (.ref cda_TwiceTold) ct_TwiceTold cc_TwiceTold), sl_TwiceTold⟩)
    (q1_TwiceTold : PySem.W.codeIn K (.ref cda_TwiceTold) "TwiceTold.__init__" = true)
    (c1_TwiceTold : K.lookup cda_TwiceTold = some ⟨ccl_TwiceTold, cdd_TwiceTold, .fields vs_TwiceTold, ccs_TwiceTold⟩)
    (v1_TwiceTold : vs_TwiceTold[2]? = some (.str file_TwiceTold tf_TwiceTold))
    (f1_TwiceTold : ((PP.main.file : Str) == file_TwiceTold) = true)
    (e1_TwiceTold : K.lookup cc_TwiceTold = some ⟨cl_TwiceTold, cld_TwiceTold, .cell (some (.ref C12)), csl_TwiceTold⟩)
    (s1_TwiceTold : PySem.W.ks_superIn K C12 C12 "__init__" = some (some (.builtin "ValueError.__init__")))
    (m1_TwiceTold : PySem.W.mroIn K C12 (.ref C12) = some true)
    (i1_NotSame : PySem.W.findIn K (.ref C13) "__init__" = some (some (.ref I_NotSame)))
    (t1_NotSame : PySem.W.typeIn K (.ref I_NotSame) = some (.type "function"))
    (l1_NotSame : K.lookup I_NotSame = some ⟨oc_NotSame, od_NotSame, .func (PySem.W.ksFn "__init__" "NotSame.__init__" (defArgs (stOf 7)) (defBody (stOf 7)) (defScope (stOf 7)) .none kV_NotSame dc_NotSame pm_NotSame an_NotSame (.ref cda_NotSame) ct_NotSame cc_NotSame), sl_NotSame⟩)
    (q1_NotSame : PySem.W.codeIn K (.ref cda_NotSame) "NotSame.__init__" = true)
    (c1_NotSame : K.lookup cda_NotSame = some ⟨ccl_NotSame, cdd_NotSame, .fields vs_NotSame, ccs_NotSame⟩)
    (v1_NotSame : vs_NotSame[2]? = some (.str file_NotSame tf_NotSame))
    (f1_NotSame : ((PP.main.file : Str) == file_NotSame) = true)
    (e1_NotSame : K.lookup cc_NotSame = some ⟨cl_NotSame, cld_NotSame, .cell (some (.ref C13)), csl_NotSame⟩)
    (s1_NotSame : PySem.W.ks_superIn K C13 C13 "__init__" = some (some (.builtin "ValueError.__init__")))
    (m1_NotSame : PySem.W.mroIn K C13 (.ref C13) = some true)
    (i1_Stretched : PySem.W.findIn K (.ref C14) "__init__" = some (some (.ref I_Stretched)))
    (t1_Stretched : PySem.W.typeIn K (.ref I_Stretched) = some (.type "function"))
    (l1_Stretched : K.lookup I_Stretched = some ⟨oc_Stretched, od_Stretched, .func (PySem.W.ksFn "__init__" "Stretched.__init__" (defArgs (stOf 13)) (defBody (stOf 13)) (defScope (stOf 13)) .none kV_Stretched dc_Stretched pm_Stretched an_Stretched (.ref cda_Stretched) ct_Stretched cc_Stretched), sl_Stretched⟩)
    (q1_Stretched : PySem.W.codeIn K (.ref cda_Stretched) "Stretched.__init__" = true)
    (c1_Stretched : K.lookup cda_Stretched = some ⟨ccl_Stretched, cdd_Stretched, .fields vs_Stretched, ccs_Stretched⟩)
    (v1_Stretched : vs_Stretched[2]? = some (.str file_Stretched tf_Stretched))
    (f1_Stretched : ((PP.main.file : Str) == file_Stretched) = true)
    (e1_Stretched : K.lookup cc_Stretched = some ⟨cl_Stretched, cld_Stretched, .cell (some (.ref C14)), csl_Stretched⟩)
    (s1_Stretched : PySem.W.ks_superIn K C14 C14 "__init__" = some (some (.builtin "ValueError.__init__")))
    (m1_Stretched : PySem.W.mroIn K C14 (.ref C14) = some true)
    (i1_NotThrough : PySem.W.findIn K (.ref C15) "__init__" = some (some (.ref I_NotThrough)))
    (t1_NotThrough : PySem.W.typeIn K (.ref I_NotThrough) = some (.type "function"))
    (l1_NotThrough : K.lookup I_NotThrough = some ⟨oc_NotThrough, od_NotThrough, .func (PySem.W.ksFn "__init__" "NotThrough.__init__" (defArgs (stOf 8)) (defBody (stOf 8)) (defScope (stOf 8)) .none kV_NotThrough dc_NotThrough pm_NotThrough an_NotThrough (.ref cda_NotThrough) ct_NotThrough cc_NotThrough), sl_NotThrough⟩)
    (q1_NotThrough : PySem.W.codeIn K (.ref cda_NotThrough) "NotThrough.__init__" = true)
    (c1_NotThrough : K.lookup cda_NotThrough = some ⟨ccl_NotThrough, cdd_NotThrough, .fields vs_NotThrough, ccs_NotThrough⟩)
    (v1_NotThrough : vs_NotThrough[2]? = some (.str file_NotThrough tf_NotThrough))
    (f1_NotThrough : ((PP.main.file : Str) == file_NotThrough) = true)
    (e1_NotThrough : K.lookup cc_NotThrough = some ⟨cl_NotThrough, cld_NotThrough, .cell (some (.ref C15)), csl_NotThrough⟩)
    (s1_NotThrough : PySem.W.ks_superIn K C15 C15 "__init__" = some (some (.builtin "ValueError.__init__")))
    (m1_NotThrough : PySem.W.mroIn K C15 (.ref C15) = some true)
    (i1_NotAhead : PySem.W.findIn K (.ref C16) "__init__" = some (some (.ref I_NotAhead)))
    (t1_NotAhead : PySem.W.typeIn K (.ref I_NotAhead) = some (.type "function"))
    (l1_NotAhead : K.lookup I_NotAhead = some ⟨oc_NotAhead, od_NotAhead, .func (PySem.W.ksFn "__init__" "NotAhead.__init__" (defArgs (stOf 14)) (defBody (stOf 14)) (defScope (stOf 14)) .none kV_NotAhead dc_NotAhead pm_NotAhead an_NotAhead (.ref cda_NotAhead) ct_NotAhead cc_NotAhead), sl_NotAhead⟩)
    (q1_NotAhead : PySem.W.codeIn K (.ref cda_NotAhead) "NotAhead.__init__" = true)
    (c1_NotAhead : K.lookup cda_NotAhead = some ⟨ccl_NotAhead, cdd_NotAhead, .fields vs_NotAhead, ccs_NotAhead⟩)
    (v1_NotAhead : vs_NotAhead[2]? = some (.str file_NotAhead tf_NotAhead))
    (f1_NotAhead : ((PP.main.file : Str) == file_NotAhead) = true)
    (e1_NotAhead : K.lookup cc_NotAhead = some ⟨cl_NotAhead, cld_NotAhead, .cell (some (.ref C16)), csl_NotAhead⟩)
    (s1_NotAhead : PySem.W.ks_superIn K C16 C16 "__init__" = some (some (.builtin "ValueError.__init__")))
    (m1_NotAhead : PySem.W.mroIn K C16 (.ref C16) = some true)
    (i1_NotBehind : PySem.W.findIn K (.ref C17) "__init__" = some (some (.ref I_NotBehind)))
    (t1_NotBehind : PySem.W.typeIn K (.ref I_NotBehind) = some (.type "function"))
    (l1_NotBehind : K.lookup I_NotBehind = some ⟨oc_NotBehind, od_NotBehind, .func (PySem.W.ksFn "__init__" "NotBehind.__init__" (defArgs (stOf 15)) (defBody (stOf 15)) (defScope (stOf 15)) .none kV_NotBehind dc_NotBehind pm_NotBehind an_NotBehind (.ref cda_NotBehind) ct_NotBehind cc_NotBehind), sl_NotBehind⟩)
    (q1_NotBehind : PySem.W.codeIn K (.ref cda_NotBehind) "NotBehind.__init__" = true)
    (c1_NotBehind : K.lookup cda_NotBehind = some ⟨ccl_NotBehind, cdd_NotBehind, .fields vs_NotBehind, ccs_NotBehind⟩)
    (v1_NotBehind : vs_NotBehind[2]? = some (.str file_NotBehind tf_NotBehind))
    (f1_NotBehind : ((PP.main.file : Str) == file_NotBehind) = true)
    (e1_NotBehind : K.lookup cc_NotBehind = some ⟨cl_NotBehind, cld_NotBehind, .cell (some (.ref C17)), csl_NotBehind⟩)
    (s1_NotBehind : PySem.W.ks_superIn K C17 C17 "__init__" = some (some (.builtin "ValueError.__init__")))
    (m1_NotBehind : PySem.W.mroIn K C17 (.ref C17) = some true)
    (i1_BadPath : PySem.W.findIn K (.ref C18) "__init__" = some (some (.ref I_BadPath)))
    (t1_BadPath : PySem.W.typeIn K (.ref I_BadPath) = some (.type "function"))
    (l1_BadPath : K.lookup I_BadPath = some ⟨oc_BadPath, od_BadPath, .func (PySem.W.ksFn "__init__" "BadPath.__init__" (defArgs (stOf 9)) (defBody (stOf 9)) (defScope (stOf 9)) .none kV_BadPath dc_BadPath pm_BadPath an_BadPath (.ref cda_BadPath) ct_BadPath cc_BadPath), sl_BadPath⟩)
    (q1_BadPath : PySem.W.codeIn K (.ref cda_BadPath) "BadPath.__init__" = true)
    (c1_BadPath : K.lookup cda_BadPath = some ⟨ccl_BadPath, cdd_BadPath, .fields vs_BadPath, ccs_BadPath⟩)
    (v1_BadPath : vs_BadPath[2]? = some (.str file_BadPath tf_BadPath))
    (f1_BadPath : ((PP.main.file : Str) == file_BadPath) = true)
    (e1_BadPath : K.lookup cc_BadPath = some ⟨cl_BadPath, cld_BadPath, .cell (some (.ref C18)), csl_BadPath⟩)
    (s1_BadPath : PySem.W.ks_superIn K C18 C18 "__init__" = some (some (.builtin "ValueError.__init__")))
    (m1_BadPath : PySem.W.mroIn K C18 (.ref C18) = some true)
    (i1_BarePair : PySem.W.findIn K (.ref C19) "__init__" = some (some (.ref I_BarePair)))
    (t1_BarePair : PySem.W.typeIn K (.ref I_BarePair) = some (.type "function"))
    (l1_BarePair : K.lookup I_BarePair = some ⟨oc_BarePair, od_BarePair, .func (PySem.W.ksFn "__init__" "BarePair.__init__" (defArgs (stOf 19)) (defBody (stOf 19)) (defScope (stOf 19)) .none kV_BarePair dc_BarePair pm_BarePair an_BarePair (.ref cda_BarePair) ct_BarePair cc_BarePair), sl_BarePair⟩)
    (q1_BarePair : PySem.W.codeIn K (.ref cda_BarePair) "BarePair.__init__" = true)
    (c1_BarePair : K.lookup cda_BarePair = some ⟨ccl_BarePair, cdd_BarePair, .fields vs_BarePair, ccs_BarePair⟩)
    (v1_BarePair : vs_BarePair[2]? = some (.str file_BarePair tf_BarePair))
    (f1_BarePair : ((PP.main.file : Str) == file_BarePair) = true)
    (e1_BarePair : K.lookup cc_BarePair = some ⟨cl_BarePair, cld_BarePair, .cell (some (.ref C19)), csl_BarePair⟩)
    (s1_BarePair : PySem.W.ks_superIn K C19 C19 "__init__" = some (some (.builtin "ValueError.__init__")))
    (m1_BarePair : PySem.W.mroIn K C19 (.ref C19) = some true)
    (i1_UnknownGrade : PySem.W.findIn K (.ref C21) "__init__" = some (some (.ref I_UnknownGrade)))
    (t1_UnknownGrade : PySem.W.typeIn K (.ref I_UnknownGrade) = some (.type "function"))
    (l1_UnknownGrade : K.lookup I_UnknownGrade = some ⟨oc_UnknownGrade, od_UnknownGrade, .func (PySem.W.ksFn "__init__" "UnknownGrade.__init__" (defArgs (stOf 24)) (defBody (stOf 24)) (defScope (stOf 24)) .none kV_UnknownGrade dc_UnknownGrade pm_UnknownGrade an_UnknownGrade (.ref cda_UnknownGrade) ct_UnknownGrade cc_UnknownGrade), sl_UnknownGrade⟩)
    (q1_UnknownGrade : PySem.W.codeIn K (.ref cda_UnknownGrade) "UnknownGrade.__init__" = true)
    (c1_UnknownGrade : K.lookup cda_UnknownGrade = some ⟨ccl_UnknownGrade, cdd_UnknownGrade, .fields vs_UnknownGrade, ccs_UnknownGrade⟩)
    (v1_UnknownGrade : vs_UnknownGrade[2]? = some (.str file_UnknownGrade tf_UnknownGrade))
    (f1_UnknownGrade : ((PP.main.file : Str) == file_UnknownGrade) = true)
    (e1_UnknownGrade : K.lookup cc_UnknownGrade = some ⟨cl_UnknownGrade, cld_UnknownGrade, .cell (some (.ref C21)), csl_UnknownGrade⟩)
    (s1_UnknownGrade : PySem.W.ks_superIn K C21 C21 "__init__" = some (some (.builtin "LookupError.__init__")))
    (m1_UnknownGrade : PySem.W.mroIn K C21 (.ref C21) = some true)
    (i1_UnknownPoint : PySem.W.findIn K (.ref C22) "__init__" = some (some (.ref I_UnknownPoint)))
    (t1_UnknownPoint : PySem.W.typeIn K (.ref I_UnknownPoint) = some (.type "function"))
    (l1_UnknownPoint : K.lookup I_UnknownPoint = some ⟨oc_UnknownPoint, od_UnknownPoint, .func (PySem.W.ksFn "__init__" "UnknownPoint.__init__" (defArgs (stOf 25)) (defBody (stOf 25)) (defScope (stOf 25)) .none kV_UnknownPoint dc_UnknownPoint pm_UnknownPoint an_UnknownPoint (.ref cda_UnknownPoint) ct_UnknownPoint cc_UnknownPoint), sl_UnknownPoint⟩)
    (q1_UnknownPoint : PySem.W.codeIn K (.ref cda_UnknownPoint) "UnknownPoint.__init__" = true)
    (c1_UnknownPoint : K.lookup cda_UnknownPoint = some ⟨ccl_UnknownPoint, cdd_UnknownPoint, .fields vs_UnknownPoint, ccs_UnknownPoint⟩)
    (v1_UnknownPoint : vs_UnknownPoint[2]? = some (.str file_UnknownPoint tf_UnknownPoint))
    (f1_UnknownPoint : ((PP.main.file : Str) == file_UnknownPoint) = true)
    (e1_UnknownPoint : K.lookup cc_UnknownPoint = some ⟨cl_UnknownPoint, cld_UnknownPoint, .cell (some (.ref C22)), csl_UnknownPoint⟩)
    (s1_UnknownPoint : PySem.W.ks_superIn K C22 C22 "__init__" = some (some (.builtin "LookupError.__init__")))
    (m1_UnknownPoint : PySem.W.mroIn K C22 (.ref C22) = some true)
    (i1_NotTold : PySem.W.findIn K (.ref C23) "__init__" = some (some (.ref I_NotTold)))
    (t1_NotTold : PySem.W.typeIn K (.ref I_NotTold) = some (.type "function"))
    (l1_NotTold : K.lookup I_NotTold = some ⟨oc_NotTold, od_NotTold, .func (PySem.W.ksFn "__init__" "NotTold.__init__" (defArgs (stOf 26)) (defBody (stOf 26)) (defScope (stOf 26)) .none kV_NotTold dc_NotTold pm_NotTold an_NotTold (.ref cda_NotTold) ct_NotTold cc_NotTold), sl_NotTold⟩)
    (q1_NotTold : PySem.W.codeIn K (.ref cda_NotTold) "NotTold.__init__" = true)
    (c1_NotTold : K.lookup cda_NotTold = some ⟨ccl_NotTold, cdd_NotTold, .fields vs_NotTold, ccs_NotTold⟩)
    (v1_NotTold : vs_NotTold[2]? = some (.str file_NotTold tf_NotTold))
    (f1_NotTold : ((PP.main.file : Str) == file_NotTold) = true)
    (e1_NotTold : K.lookup cc_NotTold = some ⟨cl_NotTold, cld_NotTold, .cell (some (.ref C23)), csl_NotTold⟩)
    (s1_NotTold : PySem.W.ks_superIn K C23 C23 "__init__" = some (some (.builtin "LookupError.__init__")))
    (m1_NotTold : PySem.W.mroIn K C23 (.ref C23) = some true)
    (i1_Clash : PySem.W.findIn K (.ref C20) "__init__" = some (some (.ref I_Clash)))
    (t1_Clash : PySem.W.typeIn K (.ref I_Clash) = some (.type "function"))
    (l1_Clash : K.lookup I_Clash = some ⟨oc_Clash, od_Clash, .func (PySem.W.ksFn "__init__" "Clash.__init__" (defArgs (stOf 22)) (defBody (stOf 22)) (defScope (stOf 22)) .none kV_Clash dc_Clash pm_Clash an_Clash (.ref cda_Clash) ct_Clash cc_Clash), sl_Clash⟩)
    (q1_Clash : PySem.W.codeIn K (.ref cda_Clash) "Clash.__init__" = true)
    (c1_Clash : K.lookup cda_Clash = some ⟨ccl_Clash, cdd_Clash, .fields vs_Clash, ccs_Clash⟩)
    (v1_Clash : vs_Clash[2]? = some (.str file_Clash tf_Clash))
    (f1_Clash : ((PP.main.file : Str) == file_Clash) = true)
    (e1_Clash : K.lookup cc_Clash = some ⟨cl_Clash, cld_Clash, .cell (some (.ref C20)), csl_Clash⟩)
    (s1_Clash : PySem.W.ks_superIn K C20 C20 "__init__" = some (some (.builtin "ValueError.__init__")))
    (m1_Clash : PySem.W.mroIn K C20 (.ref C20) = some true)
    (fb : factsB K (fun i => ([C0, C1, C2, C3, C4, C5, C6, C7, C8, C9, C10, C11, C12, C13, C14, C15, C16, C17, C18, C19, C20, C21, C22, C23, C24, C25] : List Addr).getD i 0) = true)
    : ∃ fd : FuncData, (∀ (s : Shared) (v : Value), BindsTo s fd ⟨[v], []⟩ [("script", v)]) ∧ ∀ base : Heap, K.In base → base.Ns mainGlobals mg → FnOk PP w K mg base (L2.CX PP w) 5 fa fd ["script"] (spLaw K) := by
  have e := hfa.symm.trans (PySem.W.mg_of X G g_law)
  cases e
  obtain ⟨h1, h2, h3, h4, h5, h6, h7⟩ := facts_at fb
  have f_super : mg "super" = none := PySem.W.mg_none_of X G no_super
  have f_list : mg "list" = none := PySem.W.mg_none_of X G no_list
  have f_str : mg "str" = none := PySem.W.mg_none_of X G no_str
  have f_abs : mg "abs" = none := PySem.W.mg_none_of X G no_abs
  have f_int : mg "int" = none := PySem.W.mg_none_of X G no_int
  have f_len : mg "len" = none := PySem.W.mg_none_of X G no_len
  have f_range : mg "range" = none := PySem.W.mg_none_of X G no_range
  have f_isinstance : mg "isinstance" = none := PySem.W.mg_none_of X G no_isinstance
  have f_ValueError : mg "ValueError" = none := PySem.W.mg_none_of X G no_ValueError
  have f_LookupError : mg "LookupError" = none := PySem.W.mg_none_of X G no_LookupError
  have f_KeyError : mg "KeyError" = none := PySem.W.mg_none_of X G no_KeyError
  have f_IndexError : mg "IndexError" = none := PySem.W.mg_none_of X G no_IndexError
  have F__law_source := fun_mk (st := top 28) l__law_source c__law_source k__law_source
  have F__law_pick := fun_mk (st := top 29) l__law_pick c__law_pick k__law_pick
  have F__law_word := fun_mk (st := top 30) l__law_word c__law_word k__law_word
  have F__law_plain := fun_mk (st := top 31) l__law_plain c__law_plain k__law_plain
  have F__law_named := fun_mk (st := top 32) l__law_named c__law_named k__law_named
  have F__law_missing := fun_mk (st := top 33) l__law_missing c__law_missing k__law_missing
  have F__law_classes := fun_mk (st := top 34) l__law_classes c__law_classes k__law_classes
  have F_law := fun_mk (st := top 35) l_law c_law k_law
  have b__law_source := F__law_source.binds (ps := ["script"]) fun _ _ _ _ _ _ us hl => match us, hl with | [_], _ => rfl
  have b__law_pick := F__law_pick.binds (ps := ["source", "many"]) fun _ _ _ _ _ _ us hl => match us, hl with | [_, _], _ => rfl
  have b__law_word := F__law_word.binds (ps := ["source"]) fun _ _ _ _ _ _ us hl => match us, hl with | [_], _ => rfl
  have b__law_plain := F__law_plain.binds (ps := []) fun _ _ _ _ _ _ us hl => match us, hl with | [], _ => rfl
  have b__law_named := F__law_named.binds (ps := ["words", "number"]) fun _ _ _ _ _ _ us hl => match us, hl with | [_, _], _ => rfl
  have b__law_missing := F__law_missing.binds (ps := ["word"]) fun _ _ _ _ _ _ us hl => match us, hl with | [_], _ => rfl
  have b__law_classes := F__law_classes.binds (ps := ["e"]) fun _ _ _ _ _ _ us hl => match us, hl with | [_], _ => rfl
  have J_BadName := if_mk (P := PP) (st := stOf 4) i1_BadName t1_BadName l1_BadName q1_BadName c1_BadName v1_BadName f1_BadName e1_BadName s1_BadName m1_BadName f_super (by decide +kernel) (by decide +kernel) (by decide +kernel) (by decide +kernel) (by decide +kernel) (by decide +kernel)
  have B_BadName := bnd_of (K := K) (fd := PySem.W.ksFn "__init__" "BadName.__init__" (defArgs (stOf 4)) (defBody (stOf 4)) (defScope (stOf 4)) .none kV_BadName dc_BadName pm_BadName an_BadName (.ref cda_BadName) ct_BadName cc_BadName) (ps := ["self", "name"]) fun us hl => match us, hl with | [_, _], _ => rfl
  have J_TwiceTold := if_mk (P := PP) (st := stOf 5) i1_TwiceTold t1_TwiceTold l1_TwiceTold q1_TwiceTold c1_TwiceTold v1_TwiceTold f1_TwiceTold e1_TwiceTold s1_TwiceTold m1_TwiceTold f_super (by decide +kernel) (by decide +kernel) (by decide +kernel) (by decide +kernel) (by decide +kernel) (by decide +kernel)
  have B_TwiceTold := bnd_of (K := K) (fd := PySem.W.ksFn "__init__" "TwiceTold.__init__" (defArgs (stOf 5)) (defBody (stOf 5)) (defScope (stOf 5)) .none kV_TwiceTold dc_TwiceTold pm_TwiceTold an_TwiceTold (.ref cda_TwiceTold) ct_TwiceTold cc_TwiceTold) (ps := ["self", "name"]) fun us hl => match us, hl with | [_, _], _ => rfl
  have J_NotSame := if_mk (P := PP) (st := stOf 7) i1_NotSame t1_NotSame l1_NotSame q1_NotSame c1_NotSame v1_NotSame f1_NotSame e1_NotSame s1_NotSame m1_NotSame f_super (by decide +kernel) (by decide +kernel) (by decide +kernel) (by decide +kernel) (by decide +kernel) (by decide +kernel)
  have B_NotSame := bnd_of (K := K) (fd := PySem.W.ksFn "__init__" "NotSame.__init__" (defArgs (stOf 7)) (defBody (stOf 7)) (defScope (stOf 7)) .none kV_NotSame dc_NotSame pm_NotSame an_NotSame (.ref cda_NotSame) ct_NotSame cc_NotSame) (ps := ["self", "x"]) fun us hl => match us, hl with | [_, _], _ => rfl
  have J_Stretched := if_mk (P := PP) (st := stOf 13) i1_Stretched t1_Stretched l1_Stretched q1_Stretched c1_Stretched v1_Stretched f1_Stretched e1_Stretched s1_Stretched m1_Stretched f_super (by decide +kernel) (by decide +kernel) (by decide +kernel) (by decide +kernel) (by decide +kernel) (by decide +kernel)
  have B_Stretched := bnd_of (K := K) (fd := PySem.W.ksFn "__init__" "Stretched.__init__" (defArgs (stOf 13)) (defBody (stOf 13)) (defScope (stOf 13)) .none kV_Stretched dc_Stretched pm_Stretched an_Stretched (.ref cda_Stretched) ct_Stretched cc_Stretched) (ps := ["self", "x", "y"]) fun us hl => match us, hl with | [_, _, _], _ => rfl
  have J_NotThrough := if_mk (P := PP) (st := stOf 8) i1_NotThrough t1_NotThrough l1_NotThrough q1_NotThrough c1_NotThrough v1_NotThrough f1_NotThrough e1_NotThrough s1_NotThrough m1_NotThrough f_super (by decide +kernel) (by decide +kernel) (by decide +kernel) (by decide +kernel) (by decide +kernel) (by decide +kernel)
  have B_NotThrough := bnd_of (K := K) (fd := PySem.W.ksFn "__init__" "NotThrough.__init__" (defArgs (stOf 8)) (defBody (stOf 8)) (defScope (stOf 8)) .none kV_NotThrough dc_NotThrough pm_NotThrough an_NotThrough (.ref cda_NotThrough) ct_NotThrough cc_NotThrough) (ps := ["self", "x", "y", "z"]) fun us hl => match us, hl with | [_, _, _, _], _ => rfl
  have J_NotAhead := if_mk (P := PP) (st := stOf 14) i1_NotAhead t1_NotAhead l1_NotAhead q1_NotAhead c1_NotAhead v1_NotAhead f1_NotAhead e1_NotAhead s1_NotAhead m1_NotAhead f_super (by decide +kernel) (by decide +kernel) (by decide +kernel) (by decide +kernel) (by decide +kernel) (by decide +kernel)
  have B_NotAhead := bnd_of (K := K) (fd := PySem.W.ksFn "__init__" "NotAhead.__init__" (defArgs (stOf 14)) (defBody (stOf 14)) (defScope (stOf 14)) .none kV_NotAhead dc_NotAhead pm_NotAhead an_NotAhead (.ref cda_NotAhead) ct_NotAhead cc_NotAhead) (ps := ["self", "x", "y", "z"]) fun us hl => match us, hl with | [_, _, _, _], _ => rfl
  have J_NotBehind := if_mk (P := PP) (st := stOf 15) i1_NotBehind t1_NotBehind l1_NotBehind q1_NotBehind c1_NotBehind v1_NotBehind f1_NotBehind e1_NotBehind s1_NotBehind m1_NotBehind f_super (by decide +kernel) (by decide +kernel) (by decide +kernel) (by decide +kernel) (by decide +kernel) (by decide +kernel)
  have B_NotBehind := bnd_of (K := K) (fd := PySem.W.ksFn "__init__" "NotBehind.__init__" (defArgs (stOf 15)) (defBody (stOf 15)) (defScope (stOf 15)) .none kV_NotBehind dc_NotBehind pm_NotBehind an_NotBehind (.ref cda_NotBehind) ct_NotBehind cc_NotBehind) (ps := ["self", "x", "y", "z"]) fun us hl => match us, hl with | [_, _, _, _], _ => rfl
  have J_BadPath := if_mk (P := PP) (st := stOf 9) i1_BadPath t1_BadPath l1_BadPath q1_BadPath c1_BadPath v1_BadPath f1_BadPath e1_BadPath s1_BadPath m1_BadPath f_super (by decide +kernel) (by decide +kernel) (by decide +kernel) (by decide +kernel) (by decide +kernel) (by decide +kernel)
  have B_BadPath := bnd_of (K := K) (fd := PySem.W.ksFn "__init__" "BadPath.__init__" (defArgs (stOf 9)) (defBody (stOf 9)) (defScope (stOf 9)) .none kV_BadPath dc_BadPath pm_BadPath an_BadPath (.ref cda_BadPath) ct_BadPath cc_BadPath) (ps := ["self", "number"]) fun us hl => match us, hl with | [_, _], _ => rfl
  have J_BarePair := if_mk (P := PP) (st := stOf 19) i1_BarePair t1_BarePair l1_BarePair q1_BarePair c1_BarePair v1_BarePair f1_BarePair e1_BarePair s1_BarePair m1_BarePair f_super (by decide +kernel) (by decide +kernel) (by decide +kernel) (by decide +kernel) (by decide +kernel) (by decide +kernel)
  have B_BarePair := bnd_of (K := K) (fd := PySem.W.ksFn "__init__" "BarePair.__init__" (defArgs (stOf 19)) (defBody (stOf 19)) (defScope (stOf 19)) .none kV_BarePair dc_BarePair pm_BarePair an_BarePair (.ref cda_BarePair) ct_BarePair cc_BarePair) (ps := ["self", "column", "row"]) fun us hl => match us, hl with | [_, _, _], _ => rfl
  have J_UnknownGrade := if_mk (P := PP) (st := stOf 24) i1_UnknownGrade t1_UnknownGrade l1_UnknownGrade q1_UnknownGrade c1_UnknownGrade v1_UnknownGrade f1_UnknownGrade e1_UnknownGrade s1_UnknownGrade m1_UnknownGrade f_super (by decide +kernel) (by decide +kernel) (by decide +kernel) (by decide +kernel) (by decide +kernel) (by decide +kernel)
  have B_UnknownGrade := bnd_of (K := K) (fd := PySem.W.ksFn "__init__" "UnknownGrade.__init__" (defArgs (stOf 24)) (defBody (stOf 24)) (defScope (stOf 24)) .none kV_UnknownGrade dc_UnknownGrade pm_UnknownGrade an_UnknownGrade (.ref cda_UnknownGrade) ct_UnknownGrade cc_UnknownGrade) (ps := ["self", "name"]) fun us hl => match us, hl with | [_, _], _ => rfl
  have J_UnknownPoint := if_mk (P := PP) (st := stOf 25) i1_UnknownPoint t1_UnknownPoint l1_UnknownPoint q1_UnknownPoint c1_UnknownPoint v1_UnknownPoint f1_UnknownPoint e1_UnknownPoint s1_UnknownPoint m1_UnknownPoint f_super (by decide +kernel) (by decide +kernel) (by decide +kernel) (by decide +kernel) (by decide +kernel) (by decide +kernel)
  have B_UnknownPoint := bnd_of (K := K) (fd := PySem.W.ksFn "__init__" "UnknownPoint.__init__" (defArgs (stOf 25)) (defBody (stOf 25)) (defScope (stOf 25)) .none kV_UnknownPoint dc_UnknownPoint pm_UnknownPoint an_UnknownPoint (.ref cda_UnknownPoint) ct_UnknownPoint cc_UnknownPoint) (ps := ["self", "name"]) fun us hl => match us, hl with | [_, _], _ => rfl
  have J_NotTold := if_mk (P := PP) (st := stOf 26) i1_NotTold t1_NotTold l1_NotTold q1_NotTold c1_NotTold v1_NotTold f1_NotTold e1_NotTold s1_NotTold m1_NotTold f_super (by decide +kernel) (by decide +kernel) (by decide +kernel) (by decide +kernel) (by decide +kernel) (by decide +kernel)
  have B_NotTold := bnd_of (K := K) (fd := PySem.W.ksFn "__init__" "NotTold.__init__" (defArgs (stOf 26)) (defBody (stOf 26)) (defScope (stOf 26)) .none kV_NotTold dc_NotTold pm_NotTold an_NotTold (.ref cda_NotTold) ct_NotTold cc_NotTold) (ps := ["self", "name"]) fun us hl => match us, hl with | [_, _], _ => rfl
  have J_Clash := if_mk (P := PP) (st := stOf 22) i1_Clash t1_Clash l1_Clash q1_Clash c1_Clash v1_Clash f1_Clash e1_Clash s1_Clash m1_Clash f_super (by decide +kernel) (by decide +kernel) (by decide +kernel) (by decide +kernel) (by decide +kernel) (by decide +kernel)
  have B_Clash := bnd_of (K := K) (fd := PySem.W.ksFn "__init__" "Clash.__init__" (defArgs (stOf 22)) (defBody (stOf 22)) (defScope (stOf 22)) .none kV_Clash dc_Clash pm_Clash an_Clash (.ref cda_Clash) ct_Clash cc_Clash) (ps := ["self", "name", "path"]) fun us hl => match us, hl with | [_, _, _], _ => rfl
  refine ⟨PySem.W.fnOf "law" "law" (defArgs (top 35)) (defBody (top 35)) (defScope (top 35)) .none kV_law dc_law pm_law an_law cd_law ct_law, fun s v => .of_eq rfl, fun base _ _ => ?_⟩
  have ve : ∀ i, i < 21 → EC K (([C0, C1, C2, C3, C4, C5, C6, C7, C8, C9, C10, C11, C12, C13, C14, C15, C16, C17, C18, C19, C20, C21, C22, C23, C24, C25] : List Addr).getD i 0) "ValueError" "ValueError.__new__" "ValueError.__init__" [.type "ValueError", .type "Exception", .type "BaseException", .type "object"] := fun i hi => ec_ve (h2 i hi)
  have le : ∀ i, 21 ≤ i → i < 24 → EC K (([C0, C1, C2, C3, C4, C5, C6, C7, C8, C9, C10, C11, C12, C13, C14, C15, C16, C17, C18, C19, C20, C21, C22, C23, C24, C25] : List Addr).getD i 0) "LookupError" "LookupError.__new__" "LookupError.__init__" [.type "LookupError", .type "Exception", .type "BaseException", .type "object"] := fun i h1 h2 => by
    have := ec_le (h3 (i - 21) (by omega))
    rw [show 21 + (i - 21) = i by omega] at this
    exact this
  have at_ : ∀ i n, (i, n) ∈ atts → PySem.W.findIn K (.ref (([C0, C1, C2, C3, C4, C5, C6, C7, C8, C9, C10, C11, C12, C13, C14, C15, C16, C17, C18, C19, C20, C21, C22, C23, C24, C25] : List Addr).getD i 0)) n = some none := fun i n hm => h7 (i, n) hm
  have N_BadName : NewOk PP w K mg base C11 (spI K C11 gBadName) ["self", "name"] := ⟨I_BadName, _, _, _, _, _, ve 11 (by decide), i1_BadName, t1_BadName, q_BadName (C := C11) (ve 11 (by decide)) J_BadName (at_ 11 "name" (by decide +kernel)), B_BadName⟩
  have N_TwiceTold : NewOk PP w K mg base C12 (spI K C12 gTwiceTold) ["self", "name"] := ⟨I_TwiceTold, _, _, _, _, _, ve 12 (by decide), i1_TwiceTold, t1_TwiceTold, q_TwiceTold (C := C12) (ve 12 (by decide)) J_TwiceTold (at_ 12 "name" (by decide +kernel)), B_TwiceTold⟩
  have N_NotSame : NewOk PP w K mg base C13 (spI K C13 gNotSame) ["self", "x"] := ⟨I_NotSame, _, _, _, _, _, ve 13 (by decide), i1_NotSame, t1_NotSame, q_NotSame (C := C13) (ve 13 (by decide)) J_NotSame (at_ 13 "x" (by decide +kernel)), B_NotSame⟩
  have N_Stretched : NewOk PP w K mg base C14 (spI K C14 gStretched) ["self", "x", "y"] := ⟨I_Stretched, _, _, _, _, _, ve 14 (by decide), i1_Stretched, t1_Stretched, q_Stretched (C := C14) (ve 14 (by decide)) J_Stretched (at_ 14 "x" (by decide +kernel)) (at_ 14 "y" (by decide +kernel)), B_Stretched⟩
  have N_NotThrough : NewOk PP w K mg base C15 (spI K C15 gNotThrough) ["self", "x", "y", "z"] := ⟨I_NotThrough, _, _, _, _, _, ve 15 (by decide), i1_NotThrough, t1_NotThrough, q_NotThrough (C := C15) (ve 15 (by decide)) J_NotThrough (at_ 15 "x" (by decide +kernel)) (at_ 15 "y" (by decide +kernel)) (at_ 15 "z" (by decide +kernel)), B_NotThrough⟩
  have N_NotAhead : NewOk PP w K mg base C16 (spI K C16 gNotAhead) ["self", "x", "y", "z"] := ⟨I_NotAhead, _, _, _, _, _, ve 16 (by decide), i1_NotAhead, t1_NotAhead, q_NotAhead (C := C16) (ve 16 (by decide)) J_NotAhead (at_ 16 "x" (by decide +kernel)) (at_ 16 "y" (by decide +kernel)) (at_ 16 "z" (by decide +kernel)), B_NotAhead⟩
  have N_NotBehind : NewOk PP w K mg base C17 (spI K C17 gNotBehind) ["self", "x", "y", "z"] := ⟨I_NotBehind, _, _, _, _, _, ve 17 (by decide), i1_NotBehind, t1_NotBehind, q_NotBehind (C := C17) (ve 17 (by decide)) J_NotBehind (at_ 17 "x" (by decide +kernel)) (at_ 17 "y" (by decide +kernel)) (at_ 17 "z" (by decide +kernel)), B_NotBehind⟩
  have N_BadPath : NewOk PP w K mg base C18 (spI K C18 gBadPath) ["self", "number"] := ⟨I_BadPath, _, _, _, _, _, ve 18 (by decide), i1_BadPath, t1_BadPath, q_BadPath (C := C18) (ve 18 (by decide)) J_BadPath (at_ 18 "number" (by decide +kernel)), B_BadPath⟩
  have N_BarePair : NewOk PP w K mg base C19 (spI K C19 gBarePair) ["self", "column", "row"] := ⟨I_BarePair, _, _, _, _, _, ve 19 (by decide), i1_BarePair, t1_BarePair, q_BarePair (C := C19) (ve 19 (by decide)) J_BarePair (at_ 19 "column" (by decide +kernel)) (at_ 19 "row" (by decide +kernel)), B_BarePair⟩
  have N_UnknownGrade : NewOk PP w K mg base C21 (spI K C21 gUnknownGrade) ["self", "name"] := ⟨I_UnknownGrade, _, _, _, _, _, le 21 (by decide) (by decide), i1_UnknownGrade, t1_UnknownGrade, q_UnknownGrade (C := C21) (le 21 (by decide) (by decide)) J_UnknownGrade (at_ 21 "name" (by decide +kernel)), B_UnknownGrade⟩
  have N_UnknownPoint : NewOk PP w K mg base C22 (spI K C22 gUnknownPoint) ["self", "name"] := ⟨I_UnknownPoint, _, _, _, _, _, le 22 (by decide) (by decide), i1_UnknownPoint, t1_UnknownPoint, q_UnknownPoint (C := C22) (le 22 (by decide) (by decide)) J_UnknownPoint (at_ 22 "name" (by decide +kernel)), B_UnknownPoint⟩
  have N_NotTold : NewOk PP w K mg base C23 (spI K C23 gNotTold) ["self", "name"] := ⟨I_NotTold, _, _, _, _, _, le 23 (by decide) (by decide), i1_NotTold, t1_NotTold, q_NotTold (C := C23) (le 23 (by decide) (by decide)) J_NotTold (at_ 23 "name" (by decide +kernel)), B_NotTold⟩
  have N_Clash : NewOk PP w K mg base C20 (spClash K C20) ["self", "name", "path"] := ⟨I_Clash, _, _, _, _, _, ve 20 (by decide), i1_Clash, t1_Clash, q_Clash (C := C20) (ve 20 (by decide)) J_Clash (at_ 20 "name" (by decide +kernel)) (at_ 20 "path" (by decide +kernel)) f_list, B_Clash⟩
  have T : Txt PP w K mg base (fun i => ([C0, C1, C2, C3, C4, C5, C6, C7, C8, C9, C10, C11, C12, C13, C14, C15, C16, C17, C18, C19, C20, C21, C22, C23, C24, C25] : List Addr).getD i 0) := {
    g := fun i hi => PySem.W.mg_of X G (h1 i hi)
    ve := ve
    le := le
    i0 := h4
    kit := h5
    kitB := h6
    at_ := h7
    n11 := N_BadName
    n12 := N_TwiceTold
    n13 := N_NotSame
    n14 := N_Stretched
    n15 := N_NotThrough
    n16 := N_NotAhead
    n17 := N_NotBehind
    n18 := N_BadPath
    n19 := N_BarePair
    n21 := N_UnknownGrade
    n22 := N_UnknownPoint
    n23 := N_NotTold
    n20 := N_Clash
    nolen := f_len
    norange := f_range
    noisinstance := f_isinstance
    noValueError := f_ValueError
    noLookupError := f_LookupError
    noKeyError := f_KeyError
    noIndexError := f_IndexError
  }
  have gm : ∀ {x : Str} {a : Addr}, PySem.W.nsIn K mainGlobals x = some (some (.ref a)) → mg x = some (.ref a) := fun e => PySem.W.mg_of X G e
  have cS : Clb PP w K mg base 2 "_law_source" (liftP K spSource) := clb_mk (ok_source F__law_source f_len f_int f_abs f_range) (gm g__law_source) k__law_source b__law_source
  have cP : Clb PP w K mg base 1 "_law_pick" spPick := clb_mk (ok_pick F__law_pick f_len f_int) (gm g__law_pick) k__law_pick b__law_pick
  have cW : Clb PP w K mg base 2 "_law_word" spWord := clb_mk (ok_word F__law_word f_str cP) (gm g__law_word) k__law_word b__law_word
  have c_plain := clb_mk (x := "_law_plain") (ok__law_plain (w := w) (base := base) T F__law_plain) (gm g__law_plain) k__law_plain b__law_plain
  have c_named := clb_mk (x := "_law_named") (ok__law_named (w := w) (base := base) T F__law_named) (gm g__law_named) k__law_named b__law_named
  have c_missing := clb_mk (x := "_law_missing") (ok__law_missing (w := w) (base := base) T F__law_missing) (gm g__law_missing) k__law_missing b__law_missing
  have c_classes := clb_mk (x := "_law_classes") (ok__law_classes (w := w) (base := base) T F__law_classes) (gm g__law_classes) k__law_classes b__law_classes
  exact ok_law T F_law cS cP cW c_plain c_named c_missing c_classes
theorem walk {q : Program} {loose : List Str} {XP : (Str → Option Value) → Heap → Prop} {YP : World → Heap → Prop} {d : DefRec} {K : Params → PySem.W.Frag} (hdf : d.params.defaults = []) (hY : ∀ (w : World) (h : Heap), YP w h → (K w.params).In h)
    (F : ∀ (w : World) (mg : Str → Option Value) (fa : Addr) (h : Heap), (K w.params).In h → h.Ns mainGlobals mg → mg d.name = some (Value.ref fa) →
      ∃ fd : FuncData, (∀ (s : Shared) (u : Value), BindsTo s fd ⟨[u], []⟩ [("script", u)]) ∧ ∀ base : Heap, (K w.params).In base → base.Ns mainGlobals mg → FnOk PP w (K w.params) mg base (L2.CX PP w) 5 fa fd ["script"] (spLaw (K w.params))) :
    PySem.W.WalkO q loose XP YP PySem.Challenge.rw_farscale_k91_errors.row.toRowW d [] (fun f vs => PySem.call f vs) :=
  L2.walk_of (l := PySem.Challenge.rw_farscale_k91_errors) (n := 63) (k := 5) (x := "script") (CX := fun w => L2.CX PP w) (sp := fun w => spLaw (K w.params)) rfl (by decide) hdf ⟨rfl, by decide, by decide⟩ hY F (fun _ _ a ns hl _ hS => ⟨a, ns, rfl, hS, by omega, fun _ => rfl⟩) fun _ _ _ _ _ h => by
    have := h
    obtain ⟨_, _, _, _, _, _, _, _, _, _, _, _, no⟩ := this
    exact no.elim
end DW
open PySem PySem.W
open PyProof.Rows
set_option maxRecDepth 99999 in
set_option maxHeartbeats 0 in
theorem PySem.Challenge.cw_farscale_k91_errors_holds : PySem.Challenge.rw_farscale_k91_errors.Holds := by
  w_on; o_law
  k_head
  (case hw => w_witness2)
  k_fill
  refine DW.walk rfl (fun w h Y => PySem.W.kIn_of Y) ?F
  case F =>
    intro w mg fa h KX G hmg
    refine' DW.all_mk KX G hmg ?no_super ?no_list ?no_str ?no_abs ?no_int ?no_len ?no_range ?no_isinstance ?no_ValueError ?no_LookupError ?no_KeyError ?no_IndexError ?g__law_source ?l__law_source ?c__law_source ?k__law_source ?g__law_pick ?l__law_pick ?c__law_pick ?k__law_pick ?g__law_word ?l__law_word ?c__law_word ?k__law_word ?g__law_plain ?l__law_plain ?c__law_plain ?k__law_plain ?g__law_named ?l__law_named ?c__law_named ?k__law_named ?g__law_missing ?l__law_missing ?c__law_missing ?k__law_missing ?g__law_classes ?l__law_classes ?c__law_classes ?k__law_classes ?g_law ?l_law ?c_law ?k_law ?n0 ?n1 ?n2 ?n3 ?n4 ?n5 ?n6 ?n7 ?n8 ?n9 ?n10 ?n11 ?n12 ?n13 ?n14 ?n15 ?n16 ?n17 ?n18 ?n19 ?n20 ?n21 ?n22 ?n23 ?n24 ?n25 ?i1_BadName ?t1_BadName ?l1_BadName ?q1_BadName ?c1_BadName ?v1_BadName ?f1_BadName ?e1_BadName ?s1_BadName ?m1_BadName ?i1_TwiceTold ?t1_TwiceTold ?l1_TwiceTold ?q1_TwiceTold ?c1_TwiceTold ?v1_TwiceTold ?f1_TwiceTold ?e1_TwiceTold ?s1_TwiceTold ?m1_TwiceTold ?i1_NotSame ?t1_NotSame ?l1_NotSame ?q1_NotSame ?c1_NotSame ?v1_NotSame ?f1_NotSame ?e1_NotSame ?s1_NotSame ?m1_NotSame ?i1_Stretched ?t1_Stretched ?l1_Stretched ?q1_Stretched ?c1_Stretched ?v1_Stretched ?f1_Stretched ?e1_Stretched ?s1_Stretched ?m1_Stretched ?i1_NotThrough ?t1_NotThrough ?l1_NotThrough ?q1_NotThrough ?c1_NotThrough ?v1_NotThrough ?f1_NotThrough ?e1_NotThrough ?s1_NotThrough ?m1_NotThrough ?i1_NotAhead ?t1_NotAhead ?l1_NotAhead ?q1_NotAhead ?c1_NotAhead ?v1_NotAhead ?f1_NotAhead ?e1_NotAhead ?s1_NotAhead ?m1_NotAhead ?i1_NotBehind ?t1_NotBehind ?l1_NotBehind ?q1_NotBehind ?c1_NotBehind ?v1_NotBehind ?f1_NotBehind ?e1_NotBehind ?s1_NotBehind ?m1_NotBehind ?i1_BadPath ?t1_BadPath ?l1_BadPath ?q1_BadPath ?c1_BadPath ?v1_BadPath ?f1_BadPath ?e1_BadPath ?s1_BadPath ?m1_BadPath ?i1_BarePair ?t1_BarePair ?l1_BarePair ?q1_BarePair ?c1_BarePair ?v1_BarePair ?f1_BarePair ?e1_BarePair ?s1_BarePair ?m1_BarePair ?i1_UnknownGrade ?t1_UnknownGrade ?l1_UnknownGrade ?q1_UnknownGrade ?c1_UnknownGrade ?v1_UnknownGrade ?f1_UnknownGrade ?e1_UnknownGrade ?s1_UnknownGrade ?m1_UnknownGrade ?i1_UnknownPoint ?t1_UnknownPoint ?l1_UnknownPoint ?q1_UnknownPoint ?c1_UnknownPoint ?v1_UnknownPoint ?f1_UnknownPoint ?e1_UnknownPoint ?s1_UnknownPoint ?m1_UnknownPoint ?i1_NotTold ?t1_NotTold ?l1_NotTold ?q1_NotTold ?c1_NotTold ?v1_NotTold ?f1_NotTold ?e1_NotTold ?s1_NotTold ?m1_NotTold ?i1_Clash ?t1_Clash ?l1_Clash ?q1_Clash ?c1_Clash ?v1_Clash ?f1_Clash ?e1_Clash ?s1_Clash ?m1_Clash ?fb
    (case no_super => k_is)
    (case no_list => k_is)
    (case no_str => k_is)
    (case no_abs => k_is)
    (case no_int => k_is)
    (case no_len => k_is)
    (case no_range => k_is)
    (case no_isinstance => k_is)
    (case no_ValueError => k_is)
    (case no_LookupError => k_is)
    (case no_KeyError => k_is)
    (case no_IndexError => k_is)
    (case g__law_source => k_is)
    (case l__law_source => k_is)
    (case c__law_source => k_is)
    (case k__law_source => k_is)
    (case g__law_pick => k_is)
    (case l__law_pick => k_is)
    (case c__law_pick => k_is)
    (case k__law_pick => k_is)
    (case g__law_word => k_is)
    (case l__law_word => k_is)
    (case c__law_word => k_is)
    (case k__law_word => k_is)
    (case g__law_plain => k_is)
    (case l__law_plain => k_is)
    (case c__law_plain => k_is)
    (case k__law_plain => k_is)
    (case g__law_named => k_is)
    (case l__law_named => k_is)
    (case c__law_named => k_is)
    (case k__law_named => k_is)
    (case g__law_missing => k_is)
    (case l__law_missing => k_is)
    (case c__law_missing => k_is)
    (case k__law_missing => k_is)
    (case g__law_classes => k_is)
    (case l__law_classes => k_is)
    (case c__law_classes => k_is)
    (case k__law_classes => k_is)
    (case g_law => k_is)
    (case l_law => k_is)
    (case c_law => k_is)
    (case k_law => k_is)
    (case n0 => k_is)
    (case n1 => k_is)
    (case n2 => k_is)
    (case n3 => k_is)
    (case n4 => k_is)
    (case n5 => k_is)
    (case n6 => k_is)
    (case n7 => k_is)
    (case n8 => k_is)
    (case n9 => k_is)
    (case n10 => k_is)
    (case n11 => k_is)
    (case n12 => k_is)
    (case n13 => k_is)
    (case n14 => k_is)
    (case n15 => k_is)
    (case n16 => k_is)
    (case n17 => k_is)
    (case n18 => k_is)
    (case n19 => k_is)
    (case n20 => k_is)
    (case n21 => k_is)
    (case n22 => k_is)
    (case n23 => k_is)
    (case n24 => k_is)
    (case n25 => k_is)
    (case i1_BadName => k_is)
    (case t1_BadName => k_is)
    (case l1_BadName => k_is)
    (case q1_BadName => k_is)
    (case c1_BadName => k_is)
    (case v1_BadName => rfl)
    (case f1_BadName => rfl)
    (case e1_BadName => k_is)
    (case s1_BadName => first | ks_is | kernel_rfl)
    (case m1_BadName => k_is)
    (case i1_TwiceTold => k_is)
    (case t1_TwiceTold => k_is)
    (case l1_TwiceTold => k_is)
    (case q1_TwiceTold => k_is)
    (case c1_TwiceTold => k_is)
    (case v1_TwiceTold => rfl)
    (case f1_TwiceTold => rfl)
    (case e1_TwiceTold => k_is)
    (case s1_TwiceTold => first | ks_is | kernel_rfl)
    (case m1_TwiceTold => k_is)
    (case i1_NotSame => k_is)
    (case t1_NotSame => k_is)
    (case l1_NotSame => k_is)
    (case q1_NotSame => k_is)
    (case c1_NotSame => k_is)
    (case v1_NotSame => rfl)
    (case f1_NotSame => rfl)
    (case e1_NotSame => k_is)
    (case s1_NotSame => first | ks_is | kernel_rfl)
    (case m1_NotSame => k_is)
    (case i1_Stretched => k_is)
    (case t1_Stretched => k_is)
    (case l1_Stretched => k_is)
    (case q1_Stretched => k_is)
    (case c1_Stretched => k_is)
    (case v1_Stretched => rfl)
    (case f1_Stretched => rfl)
    (case e1_Stretched => k_is)
    (case s1_Stretched => first | ks_is | kernel_rfl)
    (case m1_Stretched => k_is)
    (case i1_NotThrough => k_is)
    (case t1_NotThrough => k_is)
    (case l1_NotThrough => k_is)
    (case q1_NotThrough => k_is)
    (case c1_NotThrough => k_is)
    (case v1_NotThrough => rfl)
    (case f1_NotThrough => rfl)
    (case e1_NotThrough => k_is)
    (case s1_NotThrough => first | ks_is | kernel_rfl)
    (case m1_NotThrough => k_is)
    (case i1_NotAhead => k_is)
    (case t1_NotAhead => k_is)
    (case l1_NotAhead => k_is)
    (case q1_NotAhead => k_is)
    (case c1_NotAhead => k_is)
    (case v1_NotAhead => rfl)
    (case f1_NotAhead => rfl)
    (case e1_NotAhead => k_is)
    (case s1_NotAhead => first | ks_is | kernel_rfl)
    (case m1_NotAhead => k_is)
    (case i1_NotBehind => k_is)
    (case t1_NotBehind => k_is)
    (case l1_NotBehind => k_is)
    (case q1_NotBehind => k_is)
    (case c1_NotBehind => k_is)
    (case v1_NotBehind => rfl)
    (case f1_NotBehind => rfl)
    (case e1_NotBehind => k_is)
    (case s1_NotBehind => first | ks_is | kernel_rfl)
    (case m1_NotBehind => k_is)
    (case i1_BadPath => k_is)
    (case t1_BadPath => k_is)
    (case l1_BadPath => k_is)
    (case q1_BadPath => k_is)
    (case c1_BadPath => k_is)
    (case v1_BadPath => rfl)
    (case f1_BadPath => rfl)
    (case e1_BadPath => k_is)
    (case s1_BadPath => first | ks_is | kernel_rfl)
    (case m1_BadPath => k_is)
    (case i1_BarePair => k_is)
    (case t1_BarePair => k_is)
    (case l1_BarePair => k_is)
    (case q1_BarePair => k_is)
    (case c1_BarePair => k_is)
    (case v1_BarePair => rfl)
    (case f1_BarePair => rfl)
    (case e1_BarePair => k_is)
    (case s1_BarePair => first | ks_is | kernel_rfl)
    (case m1_BarePair => k_is)
    (case i1_UnknownGrade => k_is)
    (case t1_UnknownGrade => k_is)
    (case l1_UnknownGrade => k_is)
    (case q1_UnknownGrade => k_is)
    (case c1_UnknownGrade => k_is)
    (case v1_UnknownGrade => rfl)
    (case f1_UnknownGrade => rfl)
    (case e1_UnknownGrade => k_is)
    (case s1_UnknownGrade => first | ks_is | kernel_rfl)
    (case m1_UnknownGrade => k_is)
    (case i1_UnknownPoint => k_is)
    (case t1_UnknownPoint => k_is)
    (case l1_UnknownPoint => k_is)
    (case q1_UnknownPoint => k_is)
    (case c1_UnknownPoint => k_is)
    (case v1_UnknownPoint => rfl)
    (case f1_UnknownPoint => rfl)
    (case e1_UnknownPoint => k_is)
    (case s1_UnknownPoint => first | ks_is | kernel_rfl)
    (case m1_UnknownPoint => k_is)
    (case i1_NotTold => k_is)
    (case t1_NotTold => k_is)
    (case l1_NotTold => k_is)
    (case q1_NotTold => k_is)
    (case c1_NotTold => k_is)
    (case v1_NotTold => rfl)
    (case f1_NotTold => rfl)
    (case e1_NotTold => k_is)
    (case s1_NotTold => first | ks_is | kernel_rfl)
    (case m1_NotTold => k_is)
    (case i1_Clash => k_is)
    (case t1_Clash => k_is)
    (case l1_Clash => k_is)
    (case q1_Clash => k_is)
    (case c1_Clash => k_is)
    (case v1_Clash => rfl)
    (case f1_Clash => rfl)
    (case e1_Clash => k_is)
    (case s1_Clash => first | ks_is | kernel_rfl)
    (case m1_Clash => k_is)
    (case fb => kernel_rfl)
