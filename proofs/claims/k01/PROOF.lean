import PyProof.Rows.All
import Wide.All
import OpenK.AllK
import Wide.FinOn
import HandS.ForMost
import HandS.Walk
import HandS.Zip
import HandS.Lambda
import KE.KNestM
import KE.KDictCopyH
import HandS.Wide
import HandS.TupAny
import HandS.TupMul
import HandS.Flow
import HandS.Style
import HandS.Comp
import HandS.Strs
import HandS.Dict
import HandS.Deep
import PyProof.TupleKey
import PyProof.DictRoadsH
import KE.GoesZip
import KE.GoesEnum
import KE.GoesMore
import HandS.Ends
import HandS.Words
import PyProof.WalksMore
import PyProof.WalkInts
import HandS.SortKw
import KE.SortKeyHeap
import PyProof.TupleOfSeq
import HandS.IsInst
import KE.KDictZip
import HandS.Conv
import HandS.ExcInit
import HandS.ExcField
import HandS.TryMany
import HandS.ExcOwn
import HandS.WordsExc
import HandS.Text
import HandS.Iter
import HandS.SetFor
import PyProof.ReprLen
import PyProof.Rows.StrBin
import HandS.DictComp
import HandS.More
import KE.SortData
import HandS.Gcd
import HandS.Set
import PyProof.Rows.SetFrom
import HandS.TupLen
import KE.KEqNest
import PyProof.EqKinds
import PyProof.StrBlock2
import HandS.HotCalls
import PySem.Challenge.RW_neverheaps_k01_works_looked_at
set_option Elab.async false
set_option linter.all false
set_option maxRecDepth 100000
set_option maxHeartbeats 4000000
/-! MnA: values as plain data with numbered boxes, their tie to the abstract heap. -/
namespace Mn
open PySem PySem.Spec PyProof.Rows L2
/-- plain data; box n is the n-th mutable thing -/
inductive Dt where
  | non | bl (b : Bool) | int (i : Int) | str (x : Str) | tup (xs : List Dt) | box (n : Nat)
  deriving Inhabited
/-- what a box holds: a list, a list that nobody changes, a dict by ints and texts, an instance of the class at C -/
inductive MBox where
  | lst (xs : List Dt) | ro (xs : List Dt) | dk (kvs : List (Key × Dt)) | dkr (kvs : List (Key × Dt)) | dt (kvs : List (List Int × Dt)) | obj (C : Addr) (fs : List (Str × Dt)) | tab (x : Str) | fnc (x : Str) | nd
def MBox.mu : MBox → Bool
  | .ro _ => false
  | .fnc _ => false
  | _ => true
abbrev Bxs := List MBox
/-- a result -/
inductive Rs (α : Type) where
  | ok (a : α) (s : Bxs) | ex (c : Nat) (ds : List Dt) (s : Bxs) | no
def Rs.bind {α β : Type} (r : Rs α) (k : α → Bxs → Rs β) : Rs β := match r with
  | .ok a s => k a s
  | .ex c ds s => .ex c ds s
  | .no => .no
@[simp] theorem Rs.bind_ok {α β : Type} (a : α) (s : Bxs) (k : α → Bxs → Rs β) : (Rs.ok a s).bind k = k a s := rfl
@[simp] theorem Rs.bind_ex {α β : Type} (c : Nat) (ds : List Dt) (s : Bxs) (k : α → Bxs → Rs β) : (Rs.ex c ds s).bind k = .ex c ds s := rfl
@[simp] theorem Rs.bind_no {α β : Type} (k : α → Bxs → Rs β) : (Rs.no).bind k = .no := rfl
def Rs.Sat {α : Type} (r : Rs α) (P : α → Bxs → Prop) (E : Nat → List Dt → Bxs → Prop) : Prop := match r with
  | .ok a s => P a s
  | .ex c ds s => E c ds s
  | .no => False
theorem Rs.sat_bind {α β : Type} {r : Rs α} {k : α → Bxs → Rs β} {P : β → Bxs → Prop} {E : Nat → List Dt → Bxs → Prop} :
    (r.bind k).Sat P E ↔ r.Sat (fun a s => (k a s).Sat P E) E := by
  cases r <;> rfl
theorem Rs.Sat.mono {α : Type} {r : Rs α} {P P' : α → Bxs → Prop} {E E' : Nat → List Dt → Bxs → Prop} (h : r.Sat P E) (hp : ∀ a s, P a s → P' a s) (he : ∀ c ds s, E c ds s → E' c ds s) : r.Sat P' E' := by
  cases r with
  | ok a s => exact hp _ _ h
  | ex c ds s => exact he _ _ _ h
  | no => exact h
/-! ### the tie -/
/-- a plain tuple's object -/
def PT0 (o : Obj) : Prop := o.cls = .type "tuple" ∧ o.dict = none
/-- a tuple that is known to have no dict -/
def Tp (K : PySem.W.Frag) (H : Hp) (a : Addr) (vs : List V) : Prop :=
  (∃ o, H a = some (.frz o (.tup vs)) ∧ PT0 o) ∨ ∃ (o : Obj) (its : Array Value) (n : Nat), K.lookup a = some o ∧ PT0 o ∧ o.data = .seq its n ∧ its.size ≤ sizeLine ∧ Vals vs its.toList
theorem Tp.sqt {K : PySem.W.Frag} {H : Hp} {a : Addr} {vs : List V} (h : Tp K H a vs) : SqT K H a vs := by
  rcases h with ⟨o, h, _⟩ | ⟨o, its, n, h, p, d, z, r⟩
  · exact .inl (.inr ⟨o, h⟩)
  · exact .inr ⟨o, its, n, h, p.1, d, z, r⟩
mutual
inductive DV (K : PySem.W.Frag) (H : Hp) (ρ : List Addr) : Dt → V → Prop
  | non : DV K H ρ .non .non
  | bl (b : Bool) : DV K H ρ (.bl b) (.bl b)
  | int (i : Int) : DV K H ρ (.int i) (.int i)
  | str (x : Str) : DV K H ρ (.str x) (.str x)
  | tup {a : Addr} {ds : List Dt} {vs : List V} : Tp K H a vs → DVs K H ρ ds vs → DV K H ρ (.tup ds) (.ref a)
  | box {n : Nat} {a : Addr} : ρ[n]? = some a → DV K H ρ (.box n) (.ref a)
inductive DVs (K : PySem.W.Frag) (H : Hp) (ρ : List Addr) : List Dt → List V → Prop
  | nil : DVs K H ρ [] []
  | cons {d : Dt} {v : V} {ds : List Dt} {vs : List V} : DV K H ρ d v → DVs K H ρ ds vs → DVs K H ρ (d :: ds) (v :: vs)
end
/-- what never changes stays: tuples, locked things -/
structure Ext (H H' : Hp) : Prop where
  tup : ∀ a xs, H a = some (.tup xs) → H' a = some (.tup xs)
  frz : ∀ a o u, H a = some (.frz o u) → H' a = some (.frz o u)
  cod : ∀ a q, H a = some (LamX.CodeO a q) → H' a = some (LamX.CodeO a q)
theorem Ext.of {H H' : Hp} (h : ∀ a u, H a = some u → H' a = some u) : Ext H H' := ⟨fun _ _ z => h _ _ z, fun _ _ _ z => h _ _ z, fun _ _ z => h _ _ z⟩
theorem Ext.refl (H : Hp) : Ext H H := .of fun _ _ h => h
theorem Ext.trans {H H1 H2 : Hp} (a : Ext H H1) (b : Ext H1 H2) : Ext H H2 := ⟨fun x o h => b.tup x o (a.tup x o h), fun x o u h => b.frz x o u (a.frz x o u h), fun x q h => b.cod x q (a.cod x q h)⟩
theorem Ext.new {H : Hp} {p : Addr} {o : HO} (h : H p = none) : Ext H (upd H p o) := .of fun a u e => by rw [upd_ne (ne_of_none e h)]; exact e
theorem codeO_is {a : Addr} {q : Str} {o : HO} (h : ∀ φ, o ≠ .ext φ) : LamX.CodeO a q ≠ o := fun z => h _ z.symm
theorem Ext.upd_of {H : Hp} {p : Addr} {o0 o : HO} (h : H p = some o0) (h1 : ∀ xs, o0 ≠ .tup xs) (h2 : ∀ ob u, o0 ≠ .frz ob u) (h3 : ∀ a q, LamX.CodeO a q ≠ o0) : Ext H (upd H p o) :=
  ⟨fun a ys e => by rw [upd_ne (ne_of e h (fun z => h1 _ z.symm))]; exact e, fun a o u e => by rw [upd_ne (ne_of e h (fun z => h2 _ _ z.symm))]; exact e, fun a q e => by rw [upd_ne (ne_of e h (fun z => h3 _ _ z))]; exact e⟩
theorem Ext.set {H : Hp} {p : Addr} {xs : List V} {o : HO} (h : H p = some (.lst xs)) : Ext H (upd H p o) := .upd_of h (fun _ z => nomatch z) (fun _ _ z => nomatch z) fun _ _ => codeO_is fun _ z => nomatch z
theorem Ext.tp {K : PySem.W.Frag} {H H' : Hp} {a : Addr} {xs : List V} (e : Ext H H') (h : Tp K H a xs) : Tp K H' a xs := by
  rcases h with ⟨o, h, p⟩ | h
  · exact .inl ⟨o, e.frz _ _ _ h, p⟩
  · exact .inr h
theorem pre_get {α : Type} {l m : List α} {n : Nat} {a : α} (p : l <+: m) (h : l[n]? = some a) : m[n]? = some a := by
  obtain ⟨t, rfl⟩ := p
  rw [List.getElem?_append_left (List.getElem?_eq_some_iff.mp h).1]
  exact h
mutual
theorem DV.mono {K : PySem.W.Frag} {H H' : Hp} {ρ ρ' : List Addr} (e : Ext H H') (p : ρ <+: ρ') : ∀ {d : Dt} {v : V}, DV K H ρ d v → DV K H' ρ' d v
  | _, _, .non => .non
  | _, _, .bl b => .bl b
  | _, _, .int i => .int i
  | _, _, .str x => .str x
  | _, _, .tup h hs => .tup (e.tp h) (DVs.mono e p hs)
  | _, _, .box h => .box (pre_get p h)
theorem DVs.mono {K : PySem.W.Frag} {H H' : Hp} {ρ ρ' : List Addr} (e : Ext H H') (p : ρ <+: ρ') : ∀ {ds : List Dt} {vs : List V}, DVs K H ρ ds vs → DVs K H' ρ' ds vs
  | _, _, .nil => .nil
  | _, _, .cons h hs => .cons (DV.mono e p h) (DVs.mono e p hs)
end
section
variable {K : PySem.W.Frag} {H : Hp} {ρ : List Addr}
theorem DVs.length : ∀ {ds : List Dt} {vs : List V}, DVs K H ρ ds vs → ds.length = vs.length
  | _, _, .nil => rfl
  | _, _, .cons _ t => congrArg (· + 1) (DVs.length t)
theorem DVs.get : ∀ {ds : List Dt} {vs : List V} {i : Nat} {d : Dt}, DVs K H ρ ds vs → ds[i]? = some d → ∃ v, vs[i]? = some v ∧ DV K H ρ d v
  | _, _, _, _, .nil, e => by simp at e
  | _, _, 0, _, .cons r _, e => by simp at e; subst e; exact ⟨_, rfl, r⟩
  | _, _, i + 1, d, .cons _ t, e => by
    obtain ⟨u, h1, h2⟩ := DVs.get (i := i) (d := d) t (by simpa using e)
    exact ⟨u, by simpa using h1, h2⟩
theorem DVs.get' : ∀ {ds : List Dt} {vs : List V} {i : Nat} {v : V}, DVs K H ρ ds vs → vs[i]? = some v → ∃ d, ds[i]? = some d ∧ DV K H ρ d v
  | _, _, _, _, .nil, e => by simp at e
  | _, _, 0, _, .cons r _, e => by simp at e; subst e; exact ⟨_, rfl, r⟩
  | _, _, i + 1, d, .cons _ t, e => by
    obtain ⟨u, h1, h2⟩ := DVs.get' (i := i) (v := d) t (by simpa using e)
    exact ⟨u, by simpa using h1, h2⟩
theorem DVs.app : ∀ {ds es : List Dt} {vs ws : List V}, DVs K H ρ ds vs → DVs K H ρ es ws → DVs K H ρ (ds ++ es) (vs ++ ws)
  | _, _, _, _, .nil, s => s
  | _, _, _, _, .cons r t, s => .cons r (DVs.app t s)
theorem DVs.set {d : Dt} {v : V} (r : DV K H ρ d v) : ∀ {ds : List Dt} {vs : List V} (i : Nat), DVs K H ρ ds vs → DVs K H ρ (ds.set i d) (vs.set i v)
  | _, _, _, .nil => .nil
  | _, _, 0, .cons _ t => .cons r t
  | _, _, i + 1, .cons q t => .cons q (DVs.set r i t)
theorem DVs.take : ∀ {ds : List Dt} {vs : List V} (n : Nat), DVs K H ρ ds vs → DVs K H ρ (ds.take n) (vs.take n)
  | _, _, 0, _ => by rw [List.take_zero, List.take_zero]; exact .nil
  | _, _, _ + 1, .nil => .nil
  | _, _, n + 1, .cons r t => .cons r (DVs.take n t)
theorem DVs.drop : ∀ {ds : List Dt} {vs : List V} (n : Nat), DVs K H ρ ds vs → DVs K H ρ (ds.drop n) (vs.drop n)
  | _, _, 0, r => r
  | _, _, _ + 1, .nil => .nil
  | _, _, n + 1, .cons _ t => DVs.drop n t
theorem DVs.rep {d : Dt} {v : V} (r : DV K H ρ d v) : ∀ n : Nat, DVs K H ρ (List.replicate n d) (List.replicate n v)
  | 0 => .nil
  | n + 1 => .cons r (DVs.rep r n)
end
/-- a list that nobody changes -/
def Ro (K : PySem.W.Frag) (H : Hp) (a : Addr) (vs : List V) : Prop := (∃ o, H a = some (.frz o (.lst vs))) ∨ ∀ H', SqL K H' a vs
theorem Ro.mono {K : PySem.W.Frag} {H H' : Hp} {a : Addr} {vs : List V} (e : Ext H H') (h : Ro K H a vs) : Ro K H' a vs := by
  rcases h with ⟨o, h⟩ | h
  · exact .inl ⟨o, e.frz _ _ _ h⟩
  · exact .inr h
theorem Ro.sql {K : PySem.W.Frag} {H : Hp} {a : Addr} {vs : List V} (h : Ro K H a vs) : SqL K H a vs := by
  rcases h with ⟨o, h⟩ | h
  · exact .inl (.inr ⟨o, h⟩)
  · exact h H
/-- pairs, their second parts data -/
inductive DPs {κ : Type} (K : PySem.W.Frag) (H : Hp) (ρ : List Addr) : List (κ × Dt) → List (κ × V) → Prop
  | nil : DPs K H ρ [] []
  | cons {k : κ} {d : Dt} {v : V} {ds : List (κ × Dt)} {vs : List (κ × V)} : DV K H ρ d v → DPs K H ρ ds vs → DPs K H ρ ((k, d) :: ds) ((k, v) :: vs)
theorem DPs.mono {κ : Type} {K : PySem.W.Frag} {H H' : Hp} {ρ ρ' : List Addr} (e : Ext H H') (p : ρ <+: ρ') : ∀ {ds : List (κ × Dt)} {vs : List (κ × V)}, DPs K H ρ ds vs → DPs K H' ρ' ds vs
  | _, _, .nil => .nil
  | _, _, .cons h hs => .cons (h.mono e p) (DPs.mono e p hs)
theorem DPs.length {κ : Type} {K : PySem.W.Frag} {H : Hp} {ρ : List Addr} : ∀ {ds : List (κ × Dt)} {vs : List (κ × V)}, DPs K H ρ ds vs → ds.length = vs.length
  | _, _, .nil => rfl
  | _, _, .cons _ t => congrArg (· + 1) (DPs.length t)
/-! ### dicts whose keys are tuples of ints -/
abbrev TE3 := List Int × Addr × Value
def tiHash (ks : List Int) : Int := reduceHash (Builtin.Tuple.tupleHashOf (ks.map hashInt))
def tiEntry (x : TE3) : DictEntry := ⟨tiHash x.1, .ref x.2.1, x.2.2⟩
/-- the dict's object -/
def DtP (a : Addr) (xs : List TE3) (h : Heap) : Prop := (a == sysModules) = false ∧ ∃ o es ep, h.get? a = some o ∧ o.ExactDict ∧ o.data = .dict es ep ∧ es.toList = xs.map tiEntry ∧ (xs.map (·.1)).Nodup
def DtO (a : Addr) (xs : List TE3) : HO := .ext (DtP a xs)
/-- the dict {None: None} -/
def NdP (a : Addr) (h : Heap) : Prop := (a == sysModules) = false ∧ ∀ (P : Program) (w : World), h.DictOf (leafKind P w) a [(Leaf.none, Value.none)]
def NdO (a : Addr) : HO := .ext (NdP a)
inductive KTp (K : PySem.W.Frag) (H : Hp) (ρ : List Addr) : List (List Int × Dt) → List TE3 → Prop
  | nil : KTp K H ρ [] []
  | cons {k : List Int} {d : Dt} {v : V} {u : Value} {b : Addr} {ds : List (List Int × Dt)} {xs : List TE3} : Tp K H b (k.map V.int) → DV K H ρ d v → RelV v u → KTp K H ρ ds xs → KTp K H ρ ((k, d) :: ds) ((k, b, u) :: xs)
theorem KTp.mono {K : PySem.W.Frag} {H H' : Hp} {ρ ρ' : List Addr} (e : Ext H H') (p : ρ <+: ρ') : ∀ {ds : List (List Int × Dt)} {xs : List TE3}, KTp K H ρ ds xs → KTp K H' ρ' ds xs
  | _, _, .nil => .nil
  | _, _, .cons t h r hs => .cons (e.tp t) (h.mono e p) r (KTp.mono e p hs)
theorem KTp.length {K : PySem.W.Frag} {H : Hp} {ρ : List Addr} : ∀ {ds : List (List Int × Dt)} {xs : List TE3}, KTp K H ρ ds xs → ds.length = xs.length
  | _, _, .nil => rfl
  | _, _, .cons _ _ _ t => congrArg (· + 1) (KTp.length t)
/-- what a box holds stands at a -/
def BoxAt (K : PySem.W.Frag) (H : Hp) (ρ : List Addr) (a : Addr) : MBox → Prop
  | .lst xs => ∃ vs, H a = some (.lst vs) ∧ DVs K H ρ xs vs
  | .ro xs => ∃ vs, Ro K H a vs ∧ DVs K H ρ xs vs
  | .dk kvs => ∃ ws, H a = some (.dK ws) ∧ DPs K H ρ kvs ws
  | .dkr kvs => ∃ (ws : List (Key × V)) (o : Obj), H a = some (HO.frz o (.dK ws)) ∧ DPs K H ρ kvs ws
  | .dt kvs => ∃ xs, H a = some (DtO a xs) ∧ KTp K H ρ kvs xs
  | .obj C fs => ∃ dx ws, H a = some (.ins C dx ws) ∧ DPs K H ρ fs ws
  | .tab x => (∃ c, PySem.W.tabIn K x = some (c, a)) ∧ LamX.TabS H a (x ++ ".<locals>." ++ "<lambda>")
  | .fnc x => PySem.W.nsIn K mainGlobals x = some (some (.ref a))
  | .nd => H a = some (NdO a)
/-- the part of the heap that a box leans on -/
theorem BoxAt.mono {K : PySem.W.Frag} {H H' : Hp} {ρ ρ' : List Addr} {a : Addr} {b : MBox} (e : Ext H H') (p : ρ <+: ρ') (ha : b.mu = true → H' a = H a) (h : BoxAt K H ρ a b) : BoxAt K H' ρ' a b := by
  cases b with
  | lst xs => obtain ⟨vs, h1, h2⟩ := h; exact ⟨vs, (ha rfl).trans h1, h2.mono e p⟩
  | ro xs => obtain ⟨vs, h1, h2⟩ := h; exact ⟨vs, h1.mono e, h2.mono e p⟩
  | dk kvs => obtain ⟨vs, h1, h2⟩ := h; exact ⟨vs, (ha rfl).trans h1, h2.mono e p⟩
  | dkr kvs => obtain ⟨vs, o, h1, h2⟩ := h; exact ⟨vs, o, (ha rfl).trans h1, h2.mono e p⟩
  | dt kvs => obtain ⟨vs, h1, h2⟩ := h; exact ⟨vs, (ha rfl).trans h1, h2.mono e p⟩
  | obj C fs => obtain ⟨dx, vs, h1, h2⟩ := h; exact ⟨dx, vs, (ha rfl).trans h1, h2.mono e p⟩
  | tab x =>
    obtain ⟨h1, ps, h2, h3, h4⟩ := h
    exact ⟨h1, ps, (ha rfl).trans h2, h3, fun pos cv hc => let ⟨c, e1, e2⟩ := h4 pos cv hc; ⟨c, e1, e.cod _ _ e2⟩⟩
  | fnc x => exact h
  | nd => exact (ha rfl).trans h
theorem BoxAt.some {K : PySem.W.Frag} {H : Hp} {ρ : List Addr} {a : Addr} {b : MBox} (h : BoxAt K H ρ a b) (hb : b.mu = true) : ∃ o, H a = .some o := by
  cases b with
  | lst xs => obtain ⟨vs, h1, _⟩ := h; exact ⟨_, h1⟩
  | ro xs => cases hb
  | dk kvs => obtain ⟨vs, h1, _⟩ := h; exact ⟨_, h1⟩
  | dkr kvs => obtain ⟨vs, o, h1, _⟩ := h; exact ⟨_, h1⟩
  | dt kvs => obtain ⟨vs, h1, _⟩ := h; exact ⟨_, h1⟩
  | obj C fs => obtain ⟨dx, vs, h1, _⟩ := h; exact ⟨_, h1⟩
  | tab x => obtain ⟨_, ps, h1, _⟩ := h; exact ⟨_, h1⟩
  | fnc x => cases hb
  | nd => exact ⟨_, h⟩
/-- the boxes stand in the heap -/
structure HR (K : PySem.W.Frag) (H : Hp) (ρ : List Addr) (S : Bxs) : Prop where
  len : ρ.length = S.length
  at_ : ∀ (n : Nat) b, S[n]? = some b → ∃ a, ρ[n]? = some a ∧ BoxAt K H ρ a b
  inj : ∀ (n m : Nat) b c a, S[n]? = some b → S[m]? = some c → b.mu = true → c.mu = true → ρ[n]? = some a → ρ[m]? = some a → n = m
theorem HR.lst {K : PySem.W.Frag} {H : Hp} {ρ : List Addr} {S : Bxs} (h : HR K H ρ S) (n : Nat) (xs : List Dt) (e : S[n]? = some (MBox.lst xs)) : ∃ a vs, ρ[n]? = some a ∧ H a = some (.lst vs) ∧ DVs K H ρ xs vs := by
  obtain ⟨a, h1, vs, h2, h3⟩ := h.at_ n _ e
  exact ⟨a, vs, h1, h2, h3⟩
theorem HR.ro {K : PySem.W.Frag} {H : Hp} {ρ : List Addr} {S : Bxs} (h : HR K H ρ S) (n : Nat) (xs : List Dt) (e : S[n]? = some (MBox.ro xs)) : ∃ a vs, ρ[n]? = some a ∧ Ro K H a vs ∧ DVs K H ρ xs vs := by
  obtain ⟨a, h1, vs, h2, h3⟩ := h.at_ n _ e
  exact ⟨a, vs, h1, h2, h3⟩
theorem HR.dk {K : PySem.W.Frag} {H : Hp} {ρ : List Addr} {S : Bxs} (h : HR K H ρ S) (n : Nat) (xs : List (Key × Dt)) (e : S[n]? = some (MBox.dk xs)) : ∃ a vs, ρ[n]? = some a ∧ H a = some (.dK vs) ∧ DPs K H ρ xs vs := by
  obtain ⟨a, h1, vs, h2, h3⟩ := h.at_ n _ e
  exact ⟨a, vs, h1, h2, h3⟩
theorem HR.dkr {K : PySem.W.Frag} {H : Hp} {ρ : List Addr} {S : Bxs} (h : HR K H ρ S) (n : Nat) (xs : List (Key × Dt)) (e : S[n]? = some (MBox.dkr xs)) : ∃ a vs o, ρ[n]? = some a ∧ H a = some (.frz o (.dK vs)) ∧ DPs K H ρ xs vs := by
  obtain ⟨a, h1, vs, o, h2, h3⟩ := h.at_ n _ e
  exact ⟨a, vs, o, h1, h2, h3⟩
theorem HR.dt {K : PySem.W.Frag} {H : Hp} {ρ : List Addr} {S : Bxs} (h : HR K H ρ S) (n : Nat) (xs : List (List Int × Dt)) (e : S[n]? = some (MBox.dt xs)) : ∃ a vs, ρ[n]? = some a ∧ H a = some (DtO a vs) ∧ KTp K H ρ xs vs := by
  obtain ⟨a, h1, vs, h2, h3⟩ := h.at_ n _ e
  exact ⟨a, vs, h1, h2, h3⟩
/-- a new box -/
theorem HR.grown {K : PySem.W.Frag} {H H' : Hp} {ρ : List Addr} {S : Bxs} {p : Addr} {b : MBox} (h : HR K H ρ S) (hk : ∀ a u, H a = some u → H' a = some u) (hp : H p = none) (hb : BoxAt K H' (ρ ++ [p]) p b) :
    HR K H' (ρ ++ [p]) (S ++ [b]) := by
  have e : Ext H H' := .of hk
  have pre : ρ <+: ρ ++ [p] := List.prefix_append _ _
  have cut : ∀ (n : Nat) (x : MBox), (S ++ [b])[n]? = some x → (n < S.length ∧ S[n]? = some x) ∨ (n = S.length ∧ x = b) := fun n x hx => by
    by_cases hn : n < S.length
    · rw [List.getElem?_append_left hn] at hx
      exact .inl ⟨hn, hx⟩
    · rw [List.getElem?_append_right (by omega)] at hx
      by_cases h0 : n - S.length = 0
      · rw [h0] at hx
        exact .inr ⟨by omega, (Option.some.inj hx).symm⟩
      · rw [List.getElem?_eq_none (by simp; omega)] at hx
        cases hx
  have last : (ρ ++ [p])[S.length]? = some p := by
    rw [← h.len, List.getElem?_append_right (Nat.le_refl _), Nat.sub_self]; rfl
  have old : ∀ (n : Nat) (x : MBox), S[n]? = some x → x.mu = true → ∃ a, ρ[n]? = some a ∧ a ≠ p := fun n x hx hm => by
    obtain ⟨a, h1, h2⟩ := h.at_ n x hx
    obtain ⟨u, hu⟩ := h2.some hm
    exact ⟨a, h1, ne_of_none hu hp⟩
  refine ⟨by simp [h.len], fun n x hx => ?_, fun n m x y a h1 h2 mx my h3 h4 => ?_⟩
  · rcases cut n _ hx with ⟨hn, hx⟩ | ⟨en, ex⟩
    · obtain ⟨a, h1, h2⟩ := h.at_ n x hx
      refine ⟨a, pre_get pre h1, h2.mono e pre fun hm => ?_⟩
      obtain ⟨u, hu⟩ := h2.some hm
      rw [hu]; exact hk _ _ hu
    · subst en; subst ex
      exact ⟨p, last, hb⟩
  · rcases cut n x h1 with ⟨hn, g1⟩ | ⟨rfl, _⟩
    · rcases cut m y h2 with ⟨hm, g2⟩ | ⟨rfl, _⟩
      · obtain ⟨a1, q1, _⟩ := old n x g1 mx
        obtain ⟨a2, q2, _⟩ := old m y g2 my
        rw [pre_get pre q1] at h3
        rw [pre_get pre q2] at h4
        cases h3; cases h4
        exact h.inj n m x y a g1 g2 mx my q1 q2
      · obtain ⟨a1, q1, q2⟩ := old n x g1 mx
        rw [pre_get pre q1] at h3
        rw [last] at h4
        cases h3; cases h4
        exact absurd rfl q2
    · rcases cut m y h2 with ⟨hm, g2⟩ | ⟨rfl, _⟩
      · obtain ⟨a1, q1, q2⟩ := old m y g2 my
        rw [pre_get pre q1] at h4
        rw [last] at h3
        cases h3; cases h4
        exact absurd rfl q2
      · rfl
theorem upd_keeps {H : Hp} {p : Addr} {o : HO} (hp : H p = none) : ∀ a u, H a = some u → upd H p o a = some u := fun a u e => by rw [upd_ne (ne_of_none e hp)]; exact e
theorem HR.newB {K : PySem.W.Frag} {H : Hp} {ρ : List Addr} {S : Bxs} {p : Addr} {b : MBox} {o : HO} (h : HR K H ρ S) (hp : H p = none) (hb : BoxAt K (upd H p o) (ρ ++ [p]) p b) :
    HR K (upd H p o) (ρ ++ [p]) (S ++ [b]) := h.grown (upd_keeps hp) hp hb
theorem HR.new {K : PySem.W.Frag} {H : Hp} {ρ : List Addr} {S : Bxs} {p : Addr} {xs : List Dt} {vs : List V} (h : HR K H ρ S) (hp : H p = none) (hd : DVs K H ρ xs vs) :
    HR K (upd H p (.lst vs)) (ρ ++ [p]) (S ++ [MBox.lst xs]) := h.newB hp ⟨vs, upd_same, hd.mono (Ext.new hp) (List.prefix_append _ _)⟩
/-- a box changed; what changes is no tuple, nothing locked -/
theorem HR.setB {K : PySem.W.Frag} {H : Hp} {ρ : List Addr} {S : Bxs} {n : Nat} {a : Addr} {b c : MBox} {o : HO} (h : HR K H ρ S) (hn : S[n]? = some b) (mb : b.mu = true) (mc : c.mu = true) (ha : ρ[n]? = some a) (e : Ext H (upd H a o)) (hc : BoxAt K (upd H a o) ρ a c) :
    HR K (upd H a o) ρ (S.set n c) := by
  have hl : n < S.length := (List.getElem?_eq_some_iff.mp hn).1
  have same : ∀ (m : Nat) y, (S.set n c)[m]? = some y → y.mu = true → ∃ z, S[m]? = some z ∧ z.mu = true := fun m y hy hm => by
    by_cases hmn : n = m
    · subst hmn; exact ⟨b, hn, mb⟩
    · rw [List.getElem?_set_ne hmn] at hy
      exact ⟨y, hy, hm⟩
  refine ⟨by simp [h.len], fun m y hy => ?_, fun k m y z x h1 h2 my mz h3 h4 => ?_⟩
  · by_cases hm : n = m
    · subst hm
      rw [List.getElem?_set_self hl] at hy
      cases hy
      exact ⟨a, ha, hc⟩
    · rw [List.getElem?_set_ne hm] at hy
      obtain ⟨x, h1, h2⟩ := h.at_ m y hy
      exact ⟨x, h1, h2.mono e (List.prefix_refl _) fun my => upd_ne fun q => hm (h.inj n m b y a hn hy mb my ha (q ▸ h1))⟩
  · obtain ⟨y', h1', m1⟩ := same k y h1 my
    obtain ⟨z', h2', m2⟩ := same m z h2 mz
    exact h.inj k m y' z' x h1' h2' m1 m2 h3 h4
/-- a box's list changed -/
theorem HR.set {K : PySem.W.Frag} {H : Hp} {ρ : List Addr} {S : Bxs} {n : Nat} {a : Addr} {xs0 xs : List Dt} {vs0 vs : List V} (h : HR K H ρ S) (hn : S[n]? = some (MBox.lst xs0)) (ha : ρ[n]? = some a) (hH : H a = some (.lst vs0)) (hd : DVs K H ρ xs vs) :
    HR K (upd H a (.lst vs)) ρ (S.set n (MBox.lst xs)) := h.setB hn rfl rfl ha (Ext.set hH) ⟨vs, upd_same, hd.mono (Ext.set hH) (List.prefix_refl _)⟩
theorem Ext.setD {H : Hp} {p : Addr} {xs : List (Key × V)} {o : HO} (h : H p = some (.dK xs)) : Ext H (upd H p o) := .upd_of h (fun _ z => nomatch z) (fun _ _ z => nomatch z) fun _ _ => codeO_is fun _ z => nomatch z
/-- a heap with code objects alone up to a -/
def codeHeap (a : Addr) (q : Str) : Heap := { objs := Array.replicate (a + 1) { cls := .none, data := .fields #[.none, .str q 0] } }
theorem codeHeap_get {a b : Addr} {q : Str} {o : Obj} (h : (codeHeap a q).get? b = some o) : o.data = .fields #[.none, .str q 0] := by
  unfold codeHeap Heap.get? at h
  rw [Array.getElem?_replicate] at h
  split at h
  · rename_i e; split at e <;> cases e
  · split at h
    · cases h; rfl
    · cases h
theorem codeHeap_at (a : Addr) (q : Str) : (codeHeap a q).get? a = some { cls := .none, data := .fields #[.none, .str q 0] } := by
  unfold codeHeap Heap.get?
  rw [Array.getElem?_replicate, if_pos (Nat.lt_succ_self a)]
theorem codeO_dt {a p : Addr} {q : Str} {xs : List TE3} : LamX.CodeO a q ≠ DtO p xs := fun z => by
  unfold LamX.CodeO DtO at z
  injection z with z
  have h : DtP p xs (codeHeap a q) := by
    rw [← z]
    exact ⟨_, _, 0, codeHeap_at a q, rfl, rfl⟩
  obtain ⟨_, o, es, ep, h1, _, h2, _⟩ := h
  rw [codeHeap_get h1] at h2
  cases h2
theorem Ext.setT {H : Hp} {p : Addr} {xs : List TE3} {o : HO} (h : H p = some (DtO p xs)) : Ext H (upd H p o) := .upd_of h (fun _ z => nomatch z) (fun _ _ z => nomatch z) fun _ _ => codeO_dt
/-- a box's dict changed -/
theorem HR.setD {K : PySem.W.Frag} {H : Hp} {ρ : List Addr} {S : Bxs} {n : Nat} {a : Addr} {xs0 xs : List (Key × Dt)} {vs0 vs : List (Key × V)} (h : HR K H ρ S) (hn : S[n]? = some (MBox.dk xs0)) (ha : ρ[n]? = some a) (hH : H a = some (.dK vs0)) (hd : DPs K H ρ xs vs) :
    HR K (upd H a (.dK vs)) ρ (S.set n (MBox.dk xs)) := h.setB hn rfl rfl ha (Ext.setD hH) ⟨vs, upd_same, hd.mono (Ext.setD hH) (List.prefix_refl _)⟩
/-- the heap grows otherwise (a new tuple) -/
theorem HR.tup {K : PySem.W.Frag} {H : Hp} {ρ : List Addr} {S : Bxs} {p : Addr} {o : HO} (h : HR K H ρ S) (hp : H p = none) : HR K (upd H p o) ρ S := by
  refine ⟨h.len, fun n y hy => ?_, h.inj⟩
  obtain ⟨a, h1, h2⟩ := h.at_ n y hy
  refine ⟨a, h1, h2.mono (Ext.new hp) (List.prefix_refl _) fun hm => ?_⟩
  obtain ⟨u, hu⟩ := h2.some hm
  exact upd_ne (ne_of_none hu hp)
/-! ### the slots -/
abbrev Sg := List (Option Dt)
structure Sl (K : PySem.W.Frag) (H : Hp) (ρ : List Addr) (σ : Sg) (τ : L2.St) : Prop where
  len : σ.length = τ.length
  at_ : ∀ (i : Nat) d, σ[i]? = some (some d) → ∃ v, τ[i]? = some (some v) ∧ DV K H ρ d v
theorem Sl.mono {K : PySem.W.Frag} {H H' : Hp} {ρ ρ' : List Addr} {σ : Sg} {τ : L2.St} (e : Ext H H') (p : ρ <+: ρ') (h : Sl K H ρ σ τ) : Sl K H' ρ' σ τ :=
  ⟨h.len, fun i d q => let ⟨v, h1, h2⟩ := h.at_ i d q; ⟨v, h1, h2.mono e p⟩⟩
theorem Sl.set {K : PySem.W.Frag} {H : Hp} {ρ : List Addr} {σ : Sg} {τ : L2.St} (h : Sl K H ρ σ τ) {d : Dt} {v : V} (i : Nat) (r : DV K H ρ d v) : Sl K H ρ (σ.set i (some d)) (τ.set i (some v)) := by
  refine ⟨by simp [h.len], fun j e q => ?_⟩
  by_cases hj : i = j
  · subst hj
    by_cases hi : i < σ.length
    · rw [List.getElem?_set_self hi] at q
      cases q
      exact ⟨v, by rw [List.getElem?_set_self (by rw [← h.len]; exact hi)], r⟩
    · rw [List.getElem?_eq_none (by simpa using hi)] at q
      cases q
  · rw [List.getElem?_set_ne hj] at q
    rw [List.getElem?_set_ne hj]
    exact h.at_ j e q
theorem Sl.forget {K : PySem.W.Frag} {H : Hp} {ρ : List Addr} {σ : Sg} {τ : L2.St} (h : Sl K H ρ σ τ) (i : Nat) : Sl K H ρ (σ.set i none) (τ.set i none) := by
  refine ⟨by simp [h.len], fun j e q => ?_⟩
  by_cases hj : i = j
  · subst hj
    by_cases hi : i < σ.length
    · rw [List.getElem?_set_self hi] at q
      cases q
    · rw [List.getElem?_eq_none (by simpa using hi)] at q
      cases q
  · rw [List.getElem?_set_ne hj] at q
    rw [List.getElem?_set_ne hj]
    exact h.at_ j e q
def wipeD (σ : Sg) : List Nat → Sg
  | [] => σ
  | v :: vs => (wipeD σ vs).set v none
theorem Sl.wipe {K : PySem.W.Frag} {H : Hp} {ρ : List Addr} {σ : Sg} {τ : L2.St} (h : Sl K H ρ σ τ) : ∀ vs : List Nat, Sl K H ρ (wipeD σ vs) (L2.wipe τ vs)
  | [] => h
  | v :: vs => (Sl.wipe h vs).forget v
/-- the state of both sides -/
structure Ty (K : PySem.W.Frag) (H : Hp) (ρ : List Addr) (σ : Sg) (S : Bxs) (τ : L2.St) : Prop where
  hr : HR K H ρ S
  sl : Sl K H ρ σ τ
/-- a way on -/
structure To (H H' : Hp) (ρ ρ' : List Addr) : Prop where
  ext : Ext H H'
  pre : ρ <+: ρ'
theorem To.refl (H : Hp) (ρ : List Addr) : To H H ρ ρ := ⟨Ext.refl H, List.prefix_refl _⟩
theorem To.trans {H H1 H2 : Hp} {ρ ρ1 ρ2 : List Addr} (a : To H H1 ρ ρ1) (b : To H1 H2 ρ1 ρ2) : To H H2 ρ ρ2 := ⟨a.ext.trans b.ext, a.pre.trans b.pre⟩
theorem DV.to {K : PySem.W.Frag} {H H' : Hp} {ρ ρ' : List Addr} {d : Dt} {v : V} (t : To H H' ρ ρ') (h : DV K H ρ d v) : DV K H' ρ' d v := h.mono t.ext t.pre
theorem DVs.to {K : PySem.W.Frag} {H H' : Hp} {ρ ρ' : List Addr} {d : List Dt} {v : List V} (t : To H H' ρ ρ') (h : DVs K H ρ d v) : DVs K H' ρ' d v := h.mono t.ext t.pre
theorem Sl.to {K : PySem.W.Frag} {H H' : Hp} {ρ ρ' : List Addr} {σ : Sg} {τ : L2.St} (t : To H H' ρ ρ') (h : Sl K H ρ σ τ) : Sl K H' ρ' σ τ := h.mono t.ext t.pre
/-! ### a dict is locked, and unlocked -/
end Mn
set_option Elab.async false
set_option linter.all false
set_option maxRecDepth 100000
set_option maxHeartbeats 4000000
/-! MnT: tuples that are tracked with their object: no dict. -/
namespace Mn
open PySem PySem.Spec PyProof.Rows L2
/-- «for a new tuple of ys» -/
def NewT (ys : List V) (H : Hp) (Q : VK) : Prop := ∀ p o, H p = none → PT0 o → Q (.ref p) (upd H p (.frz o (.tup ys)))
section
variable {X : Cx} {pins : List (Addr × Obj)} {σ : L2.St} {H : Hp} {s : Shared}
theorem laidT {ys : List V} {us : List Value} {tk : Nat} {Q : VK} (I : Inv X pins σ H s) (r : Vals ys us) (hz : ys.length ≤ sizeLine) (q : NewT ys H Q) :
    EP X pins σ Q (.ref s.heap.objs.size) { s with heap := s.heap.push { cls := .type "tuple", data := .seq us.toArray }, toks := tk } := by
  have nf : H s.heap.objs.size = none := I.hok.fresh (Nat.le_refl _)
  refine ⟨.ref s.heap.objs.size, _, ?_, rfl, q _ { cls := .type "tuple", data := .seq us.toArray } nf ⟨rfl, rfl⟩⟩
  refine I.laid (t' := tk) (fun b u e => Heap.get?_push_of_some _ e) (Nat.le_refl _) ?_
  exact ⟨Heap.get?_push_size _ rfl, hz, us, r, ⟨_, Heap.get?_push_size _ rfl, rfl, _, rfl⟩⟩
def tTupZ (t : TA) : TE := fun σ H Q => t σ H fun xs H1 => xs.length ≤ sizeLine ∧ NewT xs H1 Q
theorem pe_tupZ {es : List Expr} {k : Nat} {pos : Pos} {t : TA} (h : PA X es t) : PE X (.Tuple es k pos) (tTupZ t) := by
  constructor
  intro pins s σ H Q I hq
  refine wpAny_Tuple_spliced (thn (h.run pos pins s σ H _ I hq) ?_)
  rintro us s1 ⟨xs, H1, I1, r, z, q⟩
  exact ⟨by rw [← r.length]; exact z, laidT I1 r z q⟩
/-- tuple(x) -/
def rTupZ (K : PySem.W.Frag) : List V → Hp → VK → Prop := fun xs H Q => ∃ p ys, xs = [.ref p] ∧ ((SqL K H p ys ∧ NewT ys H Q) ∨ (SqT K H p ys ∧ Q (.ref p) H))
theorem call_tupleZ : CallR X (.type "tuple") (rTupZ X.K) := by
  rintro pins s σ H xs us Q I r ⟨p, ys, rfl, h⟩
  obtain ⟨u, rfl, rx⟩ := vals1 r
  cases rx
  rcases h with ⟨hq, q⟩ | ⟨hq, q⟩
  · obtain ⟨its, r', pl, hz⟩ := I.list hq
    have hn := r'.length
    refine call_tuple_list pl.isList (fun h' kp => ?_) (by rw [List.size_toArray]; omega)
    have I1 : Inv X pins σ H { s with heap := h' } := I.kept (t' := s.toks) kp
    exact laidT (tk := s.toks) I1 r' hz q
  · obtain ⟨its, r', pl, hz⟩ := I.tuple hq
    exact call_tuple_same pl ⟨.ref p, H, I, rfl, q⟩
/-- t + u -/
def rCatZ (K : PySem.W.Frag) : R2 := fun x y H Q => ∃ a b xs ys, x = .ref a ∧ y = .ref b ∧ SqT K H a xs ∧ SqT K H b ys ∧ xs.length + ys.length ≤ sizeLine ∧
  (xs = [] → Q (.ref b) H) ∧ (xs ≠ [] → ys = [] → Q (.ref a) H) ∧ (xs ≠ [] → ys ≠ [] → NewT (xs ++ ys) H Q)
theorem op_catZ : OpR X (binaryOp .Add) (rCatZ X.K) := by
  rintro pins s σ H x y v u Q I rx ry ⟨a, b, xs, ys, rfl, rfl, ha, hb, hz, q0, q1, q2⟩
  cases rx
  cases ry
  obtain ⟨its, r1, p1, _⟩ := I.tuple ha
  obtain ⟨its2, r2, p2, _⟩ := I.tuple hb
  by_cases hx : xs = []
  · subst hx
    cases r1
    exact cat_tup0 p1 p2 ⟨.ref b, H, I, rfl, q0 rfl⟩
  · have hx' : its ≠ [] := fun z => hx (r1.nil_iff.mp z)
    have hsz : its.length + its2.length ≤ sizeLine := by rw [← r1.length, ← r2.length]; exact hz
    refine HT.cat_tup p1 p2 hx' (fun z => ⟨.ref a, H, I, rfl, q1 hx (r2.nil_iff.mp z)⟩) (fun z => ?_) hsz
    exact laidT (tk := s.toks) I (r1.append r2) (by rw [List.length_append]; exact hz) (q2 hx fun w => z (r2.nil_iff.mpr w))
/-- t[lo:hi] -/
def wholeCut (n : Nat) (lo hi : Option Int) : Bool := decide (HT.sIx n 0 lo = 0) && decide (HT.sIx n n hi = n)
def rSlZ (K : PySem.W.Frag) : V → Option Int → Option Int → Hp → VK → Prop := fun x lo hi H Q => ∃ a xs, x = .ref a ∧ SqT K H a xs ∧
  (wholeCut xs.length lo hi = true → Q (.ref a) H) ∧ (wholeCut xs.length lo hi = false → NewT (cutV xs lo hi) H Q)
theorem sl_tupZ : SlR X (rSlZ X.K) := by
  rintro pins s σ H x v vl vu lo hi sl Q I rx hs pl pu ⟨a, xs, rfl, hx, q1, q2⟩
  cases rx
  obtain ⟨its, r, ht, hz⟩ := I.tuple hx
  have hlen : its.toArray.size = xs.length := by rw [List.size_toArray]; exact r.length.symm
  refine ⟨"tuple", _, PyProof.Rows.slot_tuple_getitem.lookup, ht.typeIs, ?_⟩
  cases hw : wholeCut xs.length lo hi with
  | true =>
    have hw' : HT.sIx xs.length 0 lo = 0 ∧ HT.sIx xs.length xs.length hi = xs.length := by
      unfold wholeCut at hw
      rw [Bool.and_eq_true, decide_eq_true_eq, decide_eq_true_eq] at hw
      exact hw
    exact getItem_tuple_whole ht hs pl pu (by rw [hlen]; exact hw') ⟨.ref a, H, I, rfl, q1 hw⟩
  | false =>
    have hw' : ¬ (HT.sIx xs.length 0 lo = 0 ∧ HT.sIx xs.length xs.length hi = xs.length) := fun z => by
      unfold wholeCut at hw
      rw [decide_eq_true z.1, decide_eq_true z.2] at hw
      cases hw
    refine HT.getItem_tuple_cut ht hs pl pu (by rw [hlen]; exact hw') ?_ (by rw [hlen]; exact hz)
    rw [hlen]
    have rr : Vals (cutV xs lo hi) ((its.drop (HT.sIx xs.length 0 lo)).take (HT.sIx xs.length xs.length hi - HT.sIx xs.length 0 lo)) := (r.drop _).take _
    exact laidT (tk := s.toks) I rr (Nat.le_trans (cutV_length xs lo hi) hz) (q2 hw)
end
/-! ### t * k -/
section
theorem tmul_same (l : Addr) (items : Array Value) (n : Nat) (dd : Option Addr) (sl : Array (Option Value)) (x : Int) (u : Tok)
    (c0 : (decide (x < -(2 ^ 63)) || decide (x ≥ 2 ^ 63)) = false) (c1 : (items.isEmpty || x == 1) = true) :
    Meets (Builtin.«tuple.__mul__» ⟨[.ref l, .int x u], []⟩) (fun _ Z s =>
      s.heap.get? l = some { cls := .type "tuple", dict := dd, data := .seq items n, slots := sl } ∧ Z (.ok (.ret (Value.ref l))) s) :=
  .of_wp fun prog w A Z s h => by
    obtain ⟨hp, g, d, tk, os⟩ := s
    obtain ⟨hl, h⟩ := h
    have f1 := AutoSeq1.idx_int
    wp_walk using wpAny_loadPart' hl
    repeat (first
      | (refine wpAny_ite_false (decide_eq_false (by rw [c0]; exact Bool.false_ne_true)) ?_; wp_walk using wpAny_loadPart' hl)
      | (refine wpAny_ite_true (decide_eq_true c1) ?_; wp_walk using wpAny_loadPart' hl))
    exact ⟨_, rfl, h⟩
theorem tmul_none (l : Addr) (items : Array Value) (n : Nat) (dd : Option Addr) (sl : Array (Option Value)) (x : Int) (u : Tok)
    (c0 : (decide (x < -(2 ^ 63)) || decide (x ≥ 2 ^ 63)) = false) (c1 : (items.isEmpty || x == 1) = false) (c2 : (decide (x ≤ 0) || items.isEmpty) = true) :
    Meets (Builtin.«tuple.__mul__» ⟨[.ref l, .int x u], []⟩) (fun _ Z s =>
      s.heap.get? l = some { cls := .type "tuple", dict := dd, data := .seq items n, slots := sl } ∧
        Z (.ok (.ret (Value.ref s.heap.objs.size))) { s with heap := s.heap.push { cls := Value.type "tuple", data := Data.seq #[] }, toks := s.toks }) :=
  .of_wp fun prog w A Z s h => by
    obtain ⟨hp, g, d, tk, os⟩ := s
    obtain ⟨hl, h⟩ := h
    have f1 := AutoSeq1.idx_int
    wp_walk using wpAny_loadPart' hl
    repeat (first
      | (refine wpAny_ite_false (decide_eq_false (by rw [c0]; exact Bool.false_ne_true)) ?_; wp_walk using wpAny_loadPart' hl)
      | (refine wpAny_ite_false (decide_eq_false (by rw [c1]; exact Bool.false_ne_true)) ?_; wp_walk using wpAny_loadPart' hl)
      | (refine wpAny_ite_true (decide_eq_true c2) ?_; wp_walk using wpAny_loadPart' hl))
    exact ⟨_, rfl, h⟩
def rRepZ (K : PySem.W.Frag) : R2 := fun x y H Q => ∃ l k xs, x = .ref l ∧ y = .int k ∧ SqT K H l xs ∧ xs ≠ [] ∧ -1000 ≤ k ∧ k ≤ 1000 ∧ xs.length ≤ 100 ∧
  (k = 1 → Q (.ref l) H) ∧ (k ≤ 0 → NewT [] H Q) ∧ (2 ≤ k → NewT (List.replicate k.toNat xs).flatten H Q)
variable {X : Cx}
theorem op_repZ : OpR X (binaryOp .Mult) (rRepZ X.K) := by
  rintro pins s σ H x y v u Q I rx ry ⟨l, k, xs, rfl, rfl, hT, hne, h1, h2, hz, q1, q0, q2⟩
  cases rx
  obtain ⟨t, rfl⟩ := ry
  obtain ⟨its, r, ⟨⟨cls, dd, data, sl⟩, ho, hc, n, hd⟩, hs⟩ := I.tuple hT
  simp only at hc hd
  subst hc hd
  have hle : its.length = xs.length := r.length.symm
  have hi : its.toArray.isEmpty = false := by
    cases its with
    | nil => exact absurd (List.eq_nil_of_length_eq_zero hle.symm) hne
    | cons a b => rfl
  have c0 : (decide (k < -(2 ^ 63)) || decide (k ≥ 2 ^ 63)) = false := by
    rw [decide_eq_false (by omega), decide_eq_false (by omega)] <;> rfl
  by_cases hk1 : k = 1
  · have c1 : (its.toArray.isEmpty || k == 1) = true := by rw [hk1]; simp
    refine wpAny_binaryOp_repeat_ref (T := "tuple") (U := "int") (by decide) ⟨_, ho, rfl⟩ (fun s' => typeIs_int s' k t) noFill_tuple_mul F.fills_int_mul F.slot_int_rmul repeat_tuple F.slot_int_index.lookup
      (call_meets F.slot_int_rmul (typeIs_int s k t) F.entry_int_rmul (F.args_int_rmul_2 _ _) (int_rmul_tuple k t l its.toArray n dd sl)
        ⟨ho, rfl, ⟨_, ho, rfl⟩, call_meets F.slot_tuple_mul ⟨_, ho, rfl⟩ F.entry_tuple_mul (F.args_tuple_mul_2 _ _) (tmul_same l its.toArray n dd sl k t c0 c1) ⟨ho, ?_⟩⟩)
    exact ⟨.ref l, H, I, rfl, q1 hk1⟩
  · have c1 : (its.toArray.isEmpty || k == 1) = false := by
      rw [hi, Bool.false_or]
      exact beq_eq_false_iff_ne.mpr hk1
    by_cases hk0 : k ≤ 0
    · have c2 : (decide (k ≤ 0) || its.toArray.isEmpty) = true := by rw [decide_eq_true hk0]; rfl
      refine wpAny_binaryOp_repeat_ref (T := "tuple") (U := "int") (by decide) ⟨_, ho, rfl⟩ (fun s' => typeIs_int s' k t) noFill_tuple_mul F.fills_int_mul F.slot_int_rmul repeat_tuple F.slot_int_index.lookup
        (call_meets F.slot_int_rmul (typeIs_int s k t) F.entry_int_rmul (F.args_int_rmul_2 _ _) (int_rmul_tuple k t l its.toArray n dd sl)
          ⟨ho, rfl, ⟨_, ho, rfl⟩, call_meets F.slot_tuple_mul ⟨_, ho, rfl⟩ F.entry_tuple_mul (F.args_tuple_mul_2 _ _) (tmul_none l its.toArray n dd sl k t c0 c1 c2) ⟨ho, ?_⟩⟩)
      exact laidT (us := []) (tk := s.toks) I .nil (by decide) (q0 hk0)
    · have hsz0 : its.toArray.size = xs.length := by rw [List.size_toArray, hle]
      have hm : ((its.toArray.size : Nat) : Int) * k ≤ 100000 := by
        rw [hsz0]
        have a1 : ((xs.length : Nat) : Int) * k ≤ 100 * k := Int.mul_le_mul_of_nonneg_right (by omega) (by omega)
        omega
      have a2 : k.toNat * xs.length ≤ 1000 * 100 := Nat.mul_le_mul (by omega) hz
      have flen : (List.replicate k.toNat its).flatten.length ≤ sizeLine := by
        rw [PyProof.Rows.lm_len_rep_flat, hle, sizeLine_eq]
        omega
      have c2 : (decide (k ≤ 0) || its.toArray.isEmpty) = false := by
        rw [hi, Bool.or_false]
        exact decide_eq_false hk0
      have c4 : Builtin.Tuple.tupleTooMany (((its.toArray.size : Nat) : Int) * k) = false := by
        unfold Builtin.Tuple.tupleTooMany
        rw [sizeLine_eq]
        exact decide_eq_false (by omega)
      refine wpAny_binaryOp_repeat_ref (T := "tuple") (U := "int") (by decide) ⟨_, ho, rfl⟩ (fun s' => typeIs_int s' k t) noFill_tuple_mul F.fills_int_mul F.slot_int_rmul repeat_tuple F.slot_int_index.lookup
        (call_meets F.slot_int_rmul (typeIs_int s k t) F.entry_int_rmul (F.args_int_rmul_2 _ _) (int_rmul_tuple k t l its.toArray n dd sl)
          ⟨ho, rfl, ⟨_, ho, rfl⟩, call_meets F.slot_tuple_mul ⟨_, ho, rfl⟩ F.entry_tuple_mul (F.args_tuple_mul_2 _ _) (tuple_mulW l its.toArray n dd sl k t c0 c1 c2 (by omega) c4 (by rw [size_rep, List.size_toArray]; exact flen)) ⟨ho, ?_⟩⟩)
      rw [size_rep]
      exact laidT (tk := s.toks) I (r.rep k.toNat) (by rw [PyProof.Rows.lm_len_rep_flat, sizeLine_eq]; omega) (q2 (by omega))
end
end Mn
set_option Elab.async false
set_option linter.all false
set_option maxRecDepth 100000
set_option maxHeartbeats 4000000
/-! MnB: what an expression comes to, on plain data. -/
namespace Mn
open PySem PySem.Spec PyProof.Rows L2
/-- what is wanted of an exception, at the data: its class's number, its fields, the boxes; the heap, the boxes' places -/
abbrev ER := Nat → List Dt → Bxs → Hp → List Addr → Prop
def KO (K : PySem.W.Frag) (H : Hp) (ρ : List Addr) (Q : VK) : Dt → Bxs → Prop := fun d S' => ∀ v H' ρ', To H H' ρ ρ' → HR K H' ρ' S' → DV K H' ρ' d v → Q v H'
def KB (K : PySem.W.Frag) (H : Hp) (ρ : List Addr) (Q : Bool → Hp → Prop) : Bool → Bxs → Prop := fun b S' => ∀ H' ρ', To H H' ρ ρ' → HR K H' ρ' S' → Q b H'
def KA (K : PySem.W.Frag) (H : Hp) (ρ : List Addr) (Q : List V → Hp → Prop) : List Dt → Bxs → Prop := fun ds S' => ∀ vs H' ρ', To H H' ρ ρ' → HR K H' ρ' S' → DVs K H' ρ' ds vs → Q vs H'
def KX (Er : ER) (H : Hp) (ρ : List Addr) : Nat → List Dt → Bxs → Prop := fun c ds S' => ∀ H' ρ', To H H' ρ ρ' → Er c ds S' H' ρ'
theorem KX.to {Er : ER} {H H1 : Hp} {ρ ρ1 : List Addr} (t : To H H1 ρ ρ1) {c : Nat} {ds : List Dt} {S : Bxs} (h : KX Er H ρ c ds S) : KX Er H1 ρ1 c ds S := fun H' ρ' t' => h H' ρ' (t.trans t')
abbrev noX : Nat → List Dt → Bxs → Prop := fun _ _ _ => False
abbrev FE := Sg → Bxs → Rs Dt
abbrev FB := Sg → Bxs → Rs Bool
abbrev FA := Sg → Bxs → Rs (List Dt)
structure SE (X : Cx) (Er : ER) (e : Expr) (f : FE) : Prop where
  ex : ∃ te, PE X e te ∧ ∀ τ H ρ σ S Q, Ty X.K H ρ σ S τ → (f σ S).Sat (KO X.K H ρ Q) (KX Er H ρ) → te τ H Q
structure ST (X : Cx) (Er : ER) (e : Expr) (f : FB) : Prop where
  ex : ∃ tt, PT X e tt ∧ ∀ τ H ρ σ S Q, Ty X.K H ρ σ S τ → (f σ S).Sat (KB X.K H ρ Q) (KX Er H ρ) → tt τ H Q
structure SA (X : Cx) (Er : ER) (es : List Expr) (f : FA) : Prop where
  ex : ∃ ta, PA X es ta ∧ ∀ τ H ρ σ S Q, Ty X.K H ρ σ S τ → (f σ S).Sat (KA X.K H ρ Q) (KX Er H ρ) → ta τ H Q
/-- one step of a chain: from the first part's answer to the second's -/
theorem link {α β : Type} {r : Rs α} {k : α → Bxs → Rs β} {P : β → Bxs → Prop} {E : Nat → List Dt → Bxs → Prop} (h : (r.bind k).Sat P E) : r.Sat (fun a s => (k a s).Sat P E) E := Rs.sat_bind.mp h
section
variable {X : Cx} {Er : ER} {K : PySem.W.Frag} {H H1 : Hp} {ρ ρ1 : List Addr} {σ : Sg} {S S1 : Bxs} {τ : L2.St}
theorem Ty.to (t : To H H1 ρ ρ1) (h : Ty K H ρ σ S τ) (hr : HR K H1 ρ1 S1) : Ty K H1 ρ1 σ S1 τ := ⟨hr, h.sl.to t⟩
theorem Rs.Sat.toO {r : Rs Dt} {Q : VK} (t : To H H1 ρ ρ1) (h : r.Sat (KO K H ρ Q) (KX Er H ρ)) : r.Sat (KO K H1 ρ1 Q) (KX Er H1 ρ1) :=
  h.mono (fun _ _ q v H' ρ' t' => q v H' ρ' (t.trans t')) fun _ _ _ q => q.to t
theorem Rs.Sat.toB {r : Rs Bool} {Q : Bool → Hp → Prop} (t : To H H1 ρ ρ1) (h : r.Sat (KB K H ρ Q) (KX Er H ρ)) : r.Sat (KB K H1 ρ1 Q) (KX Er H1 ρ1) :=
  h.mono (fun _ _ q H' ρ' t' => q H' ρ' (t.trans t')) fun _ _ _ q => q.to t
/-! ### names, constants -/
def dVar (i : Nat) : FE := fun σ S => match σ[i]? with
  | some (some d) => .ok d S
  | _ => .no
theorem se_var (i : Nat) {x : Str} {pos : Pos} (hN : X.N[i]? = some x := by rfl) (hv : Vis X.env.scope x := by first | exact Or.inl rfl | exact Or.inr (Or.inl rfl) | exact Or.inr (Or.inr rfl)) (hd : (x == ("__debug__" : Str)) = false := by decide)
    (hcd : (x == ("__classdict__" : Str)) = false := by decide) : SE X Er (.Name x pos) (dVar i) := by
  refine ⟨_, pe_var hN hv hd hcd, fun τ H ρ σ S Q T h => ?_⟩
  unfold dVar at h
  cases e : σ[i]? with
  | none => rw [e] at h; exact h.elim
  | some o =>
    cases o with
    | none => rw [e] at h; exact h.elim
    | some d =>
      rw [e] at h
      obtain ⟨v, h1, h2⟩ := T.sl.at_ i d e
      exact ⟨v, h1, h v H ρ (To.refl _ _) T.hr h2⟩
def dC (d : Dt) : FE := fun _ S => .ok d S
theorem se_int {i j pos} : SE X Er (.Constant (.int i) j pos) (dC (.int i)) := ⟨_, pe_int, fun τ H ρ σ S Q T h => h _ H ρ (To.refl _ _) T.hr (.int i)⟩
theorem se_bl {b j pos} : SE X Er (.Constant (.bool b) j pos) (dC (.bl b)) := ⟨_, pe_bl, fun τ H ρ σ S Q T h => h _ H ρ (To.refl _ _) T.hr (.bl b)⟩
theorem se_non {j pos} : SE X Er (.Constant .none j pos) (dC .non) := ⟨_, pe_non, fun τ H ρ σ S Q T h => h _ H ρ (To.refl _ _) T.hr .non⟩
theorem se_str {x j pos} : SE X Er (.Constant (.str x) j pos) (dC (.str x)) := ⟨_, pe_str, fun τ H ρ σ S Q T h => h _ H ρ (To.refl _ _) T.hr (.str x)⟩
/-- a module's constant -/
theorem se_glob {x : Str} {i : Int} {t : Tok} {pos : Pos} (hg : Gl X x) (hm : X.mg x = some (.int i t)) (hd : (x == ("__debug__" : Str)) = false := by decide) : SE X Er (.Name x pos) (dC (.int i)) :=
  ⟨_, pe_glob (v := .int i) hg hm ⟨t, rfl⟩ hd, fun τ H ρ σ S Q T h => h _ H ρ (To.refl _ _) T.hr (.int i)⟩
/-! ### two places -/
abbrev G2 := Dt → Dt → Bxs → Rs Dt
def dBin (g : G2) (a b : FE) : FE := fun σ S => (a σ S).bind fun x S1 => (b σ S1).bind fun y S2 => g x y S2
/-- the operation by values keeps to g -/
def RO (K : PySem.W.Frag) (r : R2) (g : G2) : Prop := ∀ H ρ S x y xv yv Q, HR K H ρ S → DV K H ρ x xv → DV K H ρ y yv → (g x y S).Sat (KO K H ρ Q) noX → r xv yv H Q
/-- nothing is raised by g -/
def Calm2 (g : G2) : Prop := ∀ x y S c ds S', g x y S ≠ .ex c ds S'
theorem sat_calm {α : Type} {r : Rs α} {P : α → Bxs → Prop} {E : Nat → List Dt → Bxs → Prop} (hc : ∀ c ds S', r ≠ .ex c ds S') (h : r.Sat P E) : r.Sat P noX := by
  cases r with
  | ok a s => exact h
  | ex c ds s => exact absurd rfl (hc c ds s)
  | no => exact h
theorem bin_sat {fa fb : FE} {g : G2} {ta tb : TE} {r : R2} (ha : ∀ τ H ρ σ S Q, Ty X.K H ρ σ S τ → (fa σ S).Sat (KO X.K H ρ Q) (KX Er H ρ) → ta τ H Q) (hb : ∀ τ H ρ σ S Q, Ty X.K H ρ σ S τ → (fb σ S).Sat (KO X.K H ρ Q) (KX Er H ρ) → tb τ H Q)
    (hr : RO X.K r g) (hc : Calm2 g) {τ : L2.St} {Q : VK} (T : Ty X.K H ρ σ S τ) (h : (dBin g fa fb σ S).Sat (KO X.K H ρ Q) (KX Er H ρ)) : ta τ H fun x H1 => tb τ H1 fun y H2 => r x y H2 Q := by
  refine ha τ H ρ σ S _ T ((link h).mono (fun x S1 h1 => ?_) fun _ _ _ q => q)
  intro xv H1 ρ1 t1 hr1 dx
  refine hb τ H1 ρ1 σ S1 _ (T.to t1 hr1) ((link h1).mono (fun y S2 h2 => ?_) fun _ _ _ q => q.to t1)
  intro yv H2 ρ2 t2 hr2 dy
  exact hr H2 ρ2 S2 x y xv yv Q hr2 (dx.to t2) dy (sat_calm (hc x y S2) (Rs.Sat.toO (t1.trans t2) h2))
theorem se_bin {a b : Expr} {op : Operator} {pos : Pos} {fa fb : FE} {g : G2} {r : R2} (ho : OpR X (binaryOp op) r) (hr : RO X.K r g) (hc : Calm2 g) (ha : SE X Er a fa) (hb : SE X Er b fb) : SE X Er (.BinOp a op b pos) (dBin g fa fb) := by
  obtain ⟨ta, pa, qa⟩ := ha.ex
  obtain ⟨tb, pb, qb⟩ := hb.ex
  exact ⟨_, pe_op ho pa pb, fun τ H ρ σ S Q T h => bin_sat qa qb hr hc T h⟩
theorem se_cmp {a b : Expr} {op : CmpOp} {pos : Pos} {fa fb : FE} {g : G2} {r : R2} (ho : OpR X (compareOp op) r) (hr : RO X.K r g) (hc : Calm2 g) (ha : SE X Er a fa) (hb : SE X Er b fb) (hm : behindInMarks op b = false := by rfl) : SE X Er (.Compare a [op] [b] pos) (dBin g fa fb) := by
  obtain ⟨ta, pa, qa⟩ := ha.ex
  obtain ⟨tb, pb, qb⟩ := hb.ex
  exact ⟨_, pe_cmpR ho pa pb hm, fun τ H ρ σ S Q T h => bin_sat qa qb hr hc T h⟩
/-- a comparison as a test -/
def dTrue (f : FE) : FB := fun σ S => (f σ S).bind fun d S1 => match d with
  | .bl b => .ok b S1
  | _ => .no
theorem true_sat {f : FE} {Q : Bool → Hp → Prop} (h : (dTrue f σ S).Sat (KB K H ρ Q) (KX Er H ρ)) : (f σ S).Sat (KO K H ρ fun x H1 => ∃ c, x = V.bl c ∧ Q c H1) (KX Er H ρ) :=
  (link h).mono (fun d S1 h1 => by
    intro v H' ρ' t hr dv
    cases dv with
    | bl b => exact ⟨b, rfl, h1 H' ρ' t hr⟩
    | _ => exact h1.elim) fun _ _ _ q => q
theorem st_cmp {a b : Expr} {op : CmpOp} {pos : Pos} {fa fb : FE} {g : G2} {r : R2} (ho : OpR X (compareOp op) r) (hr : RO X.K r g) (hc : Calm2 g) (ha : SE X Er a fa) (hb : SE X Er b fb) (hm : behindInMarks op b = false := by rfl) : ST X Er (.Compare a [op] [b] pos) (dTrue (dBin g fa fb)) := by
  obtain ⟨ta, pa, qa⟩ := ha.ex
  obtain ⟨tb, pb, qb⟩ := hb.ex
  exact ⟨_, pt_cmpR ho pa pb hm, fun τ H ρ σ S Q T h => bin_sat qa qb hr hc T (true_sat h)⟩
/-- an expression that gives True or False, as a test -/
theorem st_val {e : Expr} {f : FE} (h : SE X Er e f) (he : ∀ whole, isTrue e X.env whole = (do let v ← whole; standAt e.pos; holding [v] (truthy v)) := by intro _; rfl) : ST X Er e (dTrue f) := by
  obtain ⟨te, p, q⟩ := h.ex
  exact ⟨_, pt_val p he, fun τ H ρ σ S Q T h => q τ H ρ σ S _ T (true_sat h)⟩
/-- is None, is not None -/
def Dt.isN : Dt → Bool
  | .non => true
  | _ => false
def dIsN (a : FE) : FE := fun σ S => (a σ S).bind fun d S1 => .ok (.bl d.isN) S1
def dNotN (a : FE) : FE := fun σ S => (a σ S).bind fun d S1 => .ok (.bl (!d.isN)) S1
theorem non_iff {d : Dt} {v : V} (h : DV K H ρ d v) : decide (v = .non) = d.isN := by
  cases h <;> first | rfl | exact decide_eq_false (fun z => nomatch z)
theorem se_isN {a : Expr} {fa : FE} {pos pos' : Pos} {j : Nat} (ha : SE X Er a fa) : SE X Er (.Compare a [.Is] [.Constant .none j pos'] pos) (dIsN fa) := by
  obtain ⟨te, p, q⟩ := ha.ex
  refine ⟨_, pe_cmp (pc_isN p) rfl, fun τ H ρ σ S Q T h => q τ H ρ σ S _ T ((link h).mono (fun d S1 h1 => ?_) fun _ _ _ q => q)⟩
  intro v H' ρ' t hr dv
  show Q (.bl (decide (v = .non))) H'
  rw [non_iff dv]
  exact h1 _ H' ρ' t hr (.bl _)
/-! ### and, or, not, if else -/
def dAnd (a b : FB) : FB := fun σ S => (a σ S).bind fun c S1 => if c = true then b σ S1 else .ok false S1
def dOr (a b : FB) : FB := fun σ S => (a σ S).bind fun c S1 => if c = true then .ok true S1 else b σ S1
def dNot (a : FB) : FB := fun σ S => (a σ S).bind fun c S1 => .ok (!c) S1
structure SW (X : Cx) (Er : ER) (e : Expr) (f : FB) : Prop where
  ex : ∃ tt, PW X e tt ∧ ∀ τ H ρ σ S Q, Ty X.K H ρ σ S τ → (f σ S).Sat (KB X.K H ρ Q) (KX Er H ρ) → tt τ H Q
theorem SW.st {e : Expr} {f : FB} (h : SW X Er e f) : ST X Er e f := let ⟨t, p, q⟩ := h.ex; ⟨t, p.pt, q⟩
theorem sw_and1 {a : Expr} {fa : FB} {pos : Pos} (h : ST X Er a fa) : SW X Er (.BoolOp .And [a] pos) fa := let ⟨_, p, q⟩ := h.ex; ⟨_, pw_and1 p, q⟩
theorem sw_or1 {a : Expr} {fa : FB} {pos : Pos} (h : ST X Er a fa) : SW X Er (.BoolOp .Or [a] pos) fa := let ⟨_, p, q⟩ := h.ex; ⟨_, pw_or1 p, q⟩
theorem sw_and {a b : Expr} {rest : List Expr} {fa fb : FB} {pos : Pos} (ha : ST X Er a fa) (hb : SW X Er (.BoolOp .And (b :: rest) pos) fb) : SW X Er (.BoolOp .And (a :: b :: rest) pos) (dAnd fa fb) := by
  obtain ⟨ta, pa, qa⟩ := ha.ex
  obtain ⟨tb, pb, qb⟩ := hb.ex
  refine ⟨_, pw_and pa pb, fun τ H ρ σ S Q T h => qa τ H ρ σ S _ T ((link h).mono (fun c S1 h1 => ?_) fun _ _ _ q => q)⟩
  intro H' ρ' t hr
  cases c with
  | true =>
    rw [if_pos rfl] at h1 ⊢
    exact qb τ H' ρ' σ S1 Q (T.to t hr) (Rs.Sat.toB t h1)
  | false =>
    rw [if_neg Bool.false_ne_true] at h1 ⊢
    exact h1 H' ρ' t hr
theorem sw_or {a b : Expr} {rest : List Expr} {fa fb : FB} {pos : Pos} (ha : ST X Er a fa) (hb : SW X Er (.BoolOp .Or (b :: rest) pos) fb) : SW X Er (.BoolOp .Or (a :: b :: rest) pos) (dOr fa fb) := by
  obtain ⟨ta, pa, qa⟩ := ha.ex
  obtain ⟨tb, pb, qb⟩ := hb.ex
  refine ⟨_, pw_or pa pb, fun τ H ρ σ S Q T h => qa τ H ρ σ S _ T ((link h).mono (fun c S1 h1 => ?_) fun _ _ _ q => q)⟩
  intro H' ρ' t hr
  cases c with
  | false =>
    rw [if_neg Bool.false_ne_true] at h1 ⊢
    exact qb τ H' ρ' σ S1 Q (T.to t hr) (Rs.Sat.toB t h1)
  | true =>
    rw [if_pos rfl] at h1 ⊢
    exact h1 H' ρ' t hr
theorem st_not {a : Expr} {fa : FB} {pos : Pos} (ha : ST X Er a fa) : ST X Er (.UnaryOp .Not a pos) (dNot fa) := by
  obtain ⟨ta, pa, qa⟩ := ha.ex
  refine ⟨_, pt_not pa, fun τ H ρ σ S Q T h => qa τ H ρ σ S _ T ((link h).mono (fun c S1 h1 => ?_) fun _ _ _ q => q)⟩
  intro H' ρ' t hr
  exact h1 H' ρ' t hr
def dAndV (a b : FE) : FE := fun σ S => (a σ S).bind fun d S1 => match d with
  | .bl true => b σ S1
  | .bl false => .ok (.bl false) S1
  | _ => .no
def dOrV (a b : FE) : FE := fun σ S => (a σ S).bind fun d S1 => match d with
  | .bl true => .ok (.bl true) S1
  | .bl false => b σ S1
  | _ => .no
def dNotV (a : FE) : FE := fun σ S => (a σ S).bind fun d S1 => match d with
  | .bl b => .ok (.bl (!b)) S1
  | _ => .no
theorem se_one {op} {a : Expr} {fa : FE} {pos : Pos} (h : SE X Er a fa) : SE X Er (.BoolOp op [a] pos) fa := let ⟨_, p, q⟩ := h.ex; ⟨_, pe_one p, q⟩
theorem se_and {a b : Expr} {rest : List Expr} {fa fb : FE} {pos : Pos} (ha : SE X Er a fa) (hb : SE X Er (.BoolOp .And (b :: rest) pos) fb) : SE X Er (.BoolOp .And (a :: b :: rest) pos) (dAndV fa fb) := by
  obtain ⟨ta, pa, qa⟩ := ha.ex
  obtain ⟨tb, pb, qb⟩ := hb.ex
  refine ⟨_, pe_and pa pb, fun τ H ρ σ S Q T h => qa τ H ρ σ S _ T ((link h).mono (fun d S1 h1 => ?_) fun _ _ _ q => q)⟩
  intro v H' ρ' t hr dv
  cases dv with
  | bl b =>
    refine ⟨b, rfl, ?_⟩
    cases b with
    | true =>
      rw [if_pos rfl]
      exact qb τ H' ρ' σ S1 Q (T.to t hr) (Rs.Sat.toO t h1)
    | false =>
      rw [if_neg Bool.false_ne_true]
      exact h1 _ H' ρ' t hr (.bl _)
  | _ => exact h1.elim
theorem se_or {a b : Expr} {rest : List Expr} {fa fb : FE} {pos : Pos} (ha : SE X Er a fa) (hb : SE X Er (.BoolOp .Or (b :: rest) pos) fb) : SE X Er (.BoolOp .Or (a :: b :: rest) pos) (dOrV fa fb) := by
  obtain ⟨ta, pa, qa⟩ := ha.ex
  obtain ⟨tb, pb, qb⟩ := hb.ex
  refine ⟨_, pe_or pa pb, fun τ H ρ σ S Q T h => qa τ H ρ σ S _ T ((link h).mono (fun d S1 h1 => ?_) fun _ _ _ q => q)⟩
  intro v H' ρ' t hr dv
  cases dv with
  | bl b =>
    refine ⟨b, rfl, ?_⟩
    cases b with
    | true =>
      rw [if_pos rfl]
      exact h1 _ H' ρ' t hr (.bl _)
    | false =>
      rw [if_neg Bool.false_ne_true]
      exact qb τ H' ρ' σ S1 Q (T.to t hr) (Rs.Sat.toO t h1)
  | _ => exact h1.elim
theorem se_not {a : Expr} {fa : FE} {pos : Pos} (ha : SE X Er a fa) : SE X Er (.UnaryOp .Not a pos) (dNotV fa) := by
  obtain ⟨ta, pa, qa⟩ := ha.ex
  refine ⟨_, pe_not pa, fun τ H ρ σ S Q T h => qa τ H ρ σ S _ T ((link h).mono (fun d S1 h1 => ?_) fun _ _ _ q => q)⟩
  intro v H' ρ' t hr dv
  cases dv with
  | bl b => exact ⟨b, rfl, h1 _ H' ρ' t hr (.bl _)⟩
  | _ => exact h1.elim
def dIf (c : FB) (a b : FE) : FE := fun σ S => (c σ S).bind fun k S1 => if k = true then a σ S1 else b σ S1
theorem se_if {c a b : Expr} {fc : FB} {fa fb : FE} {pos : Pos} (hc : ST X Er c fc) (ha : SE X Er a fa) (hb : SE X Er b fb) : SE X Er (.IfExp c a b pos) (dIf fc fa fb) := by
  obtain ⟨tc, pc, qc⟩ := hc.ex
  obtain ⟨ta, pa, qa⟩ := ha.ex
  obtain ⟨tb, pb, qb⟩ := hb.ex
  refine ⟨_, pe_ifExp pc pa pb, fun τ H ρ σ S Q T h => qc τ H ρ σ S _ T ((link h).mono (fun k S1 h1 => ?_) fun _ _ _ q => q)⟩
  intro H' ρ' t hr
  cases k with
  | true =>
    rw [if_pos rfl] at h1 ⊢
    exact qa τ H' ρ' σ S1 Q (T.to t hr) (Rs.Sat.toO t h1)
  | false =>
    rw [if_neg Bool.false_ne_true] at h1 ⊢
    exact qb τ H' ρ' σ S1 Q (T.to t hr) (Rs.Sat.toO t h1)
/-! ### argument lists, displays -/
def aNil : FA := fun _ S => .ok [] S
def aCons (a : FE) (r : FA) : FA := fun σ S => (a σ S).bind fun d S1 => (r σ S1).bind fun ds S2 => .ok (d :: ds) S2
theorem sa_nil : SA X Er [] aNil := ⟨_, pa_nil, fun τ H ρ σ S Q T h => h [] H ρ (To.refl _ _) T.hr .nil⟩
theorem sa_cons {e : Expr} {es : List Expr} {f : FE} {g : FA} (ha : SE X Er e f) (hr : SA X Er es g) (hs : starEach (e :: es) X.env = (false, eval e X.env) :: starEach es X.env := by rfl) : SA X Er (e :: es) (aCons f g) := by
  obtain ⟨ta, pa, qa⟩ := ha.ex
  obtain ⟨tr, pr, qr⟩ := hr.ex
  refine ⟨_, pa_cons pa pr hs, fun τ H ρ σ S Q T h => qa τ H ρ σ S _ T ((link h).mono (fun d S1 h1 => ?_) fun _ _ _ q => q)⟩
  intro v H1 ρ1 t1 hr1 dv
  refine qr τ H1 ρ1 σ S1 _ (T.to t1 hr1) ((link h1).mono (fun ds S2 h2 => ?_) fun _ _ _ q => q.to t1)
  intro vs H2 ρ2 t2 hr2 dvs
  exact h2 (v :: vs) H2 ρ2 (t1.trans t2) hr2 (.cons (dv.to t2) dvs)
/-- lists of this length may stand anywhere -/
def LIM : Nat := 100000
theorem lim_le {n : Nat} (h : n ≤ LIM) : n ≤ sizeLine := Nat.le_trans h (by decide)
theorem lim_lt {n : Nat} (h : n < LIM) : n < sizeLine := Nat.lt_of_lt_of_le h (by decide)
def dTup (a : FA) : FE := fun σ S => (a σ S).bind fun ds S1 => if ds.length ≤ LIM then .ok (.tup ds) S1 else .no
/-- a new list -/
def newL (ds : List Dt) (S : Bxs) : Rs Dt := if ds.length ≤ LIM then .ok (.box S.length) (S ++ [.lst ds]) else .no
def dLst (a : FA) : FE := fun σ S => (a σ S).bind newL
theorem new_tup {Q : VK} {ds : List Dt} {vs : List V} (hr : HR K H ρ S) (dvs : DVs K H ρ ds vs) (h : KO K H ρ Q (.tup ds) S) : NewT vs H Q := fun p o hp po =>
  h _ _ ρ ⟨Ext.new hp, List.prefix_refl _⟩ (hr.tup hp) (.tup (.inl ⟨o, upd_same, po⟩) (dvs.mono (Ext.new hp) (List.prefix_refl _)))
theorem new_lst {Q : VK} {ds : List Dt} {vs : List V} {p : Addr} (hr : HR K H ρ S) (dvs : DVs K H ρ ds vs) (hp : H p = none) (h : KO K H ρ Q (.box S.length) (S ++ [.lst ds])) : Q (.ref p) (upd H p (.lst vs)) := by
  refine h _ _ (ρ ++ [p]) ⟨Ext.new hp, List.prefix_append _ _⟩ (hr.new hp dvs) (.box ?_)
  rw [← hr.len, List.getElem?_append_right (Nat.le_refl _), Nat.sub_self]; rfl
theorem se_tup {es : List Expr} {x1} {f : FA} {pos : Pos} (h : SA X Er es f) : SE X Er (.Tuple es x1 pos) (dTup f) := by
  obtain ⟨ta, pa, qa⟩ := h.ex
  refine ⟨_, pe_tupZ pa, fun τ H ρ σ S Q T h => qa τ H ρ σ S _ T ((link h).mono (fun ds S1 h1 => ?_) fun _ _ _ q => q)⟩
  intro vs H1 ρ1 t1 hr1 dvs
  by_cases hl : ds.length ≤ LIM
  · rw [if_pos hl] at h1
    refine ⟨by rw [← dvs.length]; exact lim_le hl, new_tup hr1 dvs ?_⟩
    exact fun v H' ρ' t' => h1 v H' ρ' (t1.trans t')
  · rw [if_neg hl] at h1
    exact h1.elim
theorem se_lst {es : List Expr} {f : FA} {pos : Pos} (h : SA X Er es f) : SE X Er (.List es pos) (dLst f) := by
  obtain ⟨ta, pa, qa⟩ := h.ex
  refine ⟨_, pe_lst pa, fun τ H ρ σ S Q T h => qa τ H ρ σ S _ T ((link h).mono (fun ds S1 h1 => ?_) fun _ _ _ q => q)⟩
  intro vs H1 ρ1 t1 hr1 dvs
  unfold newL at h1
  by_cases hl : ds.length ≤ LIM
  · rw [if_pos hl] at h1
    refine ⟨by rw [← dvs.length]; exact lim_le hl, fun p hp => new_lst hr1 dvs hp ?_⟩
    exact fun v H' ρ' t' => h1 v H' ρ' (t1.trans t')
  · rw [if_neg hl] at h1
    exact h1.elim
end
end Mn
set_option Elab.async false
set_option linter.all false
set_option maxRecDepth 100000
set_option maxHeartbeats 4000000
/-! MnC: the operations on plain data. -/
namespace Mn
open PySem PySem.Spec PyProof.Rows L2
section
variable {X : Cx} {Er : ER} {K : PySem.W.Frag} {H H1 : Hp} {ρ ρ1 : List Addr} {σ : Sg} {S S1 : Bxs} {τ : L2.St}
/-! ### what a box holds -/
def Bxs.lst (S : Bxs) (n : Nat) : Option (List Dt) := match S[n]? with
  | some (.lst xs) => some xs
  | _ => none
/-- .. to be read -/
def Bxs.seq (S : Bxs) (n : Nat) : Option (List Dt) := match S[n]? with
  | some (.lst xs) => some xs
  | some (.ro xs) => some xs
  | _ => none
theorem lst_get {n : Nat} {xs : List Dt} (h : S.lst n = some xs) : S[n]? = some (MBox.lst xs) := by
  unfold Bxs.lst at h
  cases e : S[n]? with
  | none => rw [e] at h; cases h
  | some b =>
    rw [e] at h
    cases b <;> cases h
    rfl
theorem HR.rd {n : Nat} {a : Addr} {xs : List Dt} (hr : HR K H ρ S) (ha : ρ[n]? = some a) (h : S.seq n = some xs) : ∃ vs, SqL K H a vs ∧ DVs K H ρ xs vs := by
  unfold Bxs.seq at h
  cases e : S[n]? with
  | none => rw [e] at h; cases h
  | some b =>
    rw [e] at h
    cases b with
    | lst ys =>
      cases h
      obtain ⟨a', vs, h1, h2, h3⟩ := hr.lst n _ e
      rw [ha] at h1; cases h1
      exact ⟨vs, SqL.of h2, h3⟩
    | ro ys =>
      cases h
      obtain ⟨a', vs, h1, h2, h3⟩ := hr.ro n _ e
      rw [ha] at h1; cases h1
      exact ⟨vs, h2.sql, h3⟩
    | dk _ => cases h
    | dkr _ => cases h
    | dt _ => cases h
    | obj _ _ => cases h
    | tab _ => cases h
    | fnc _ => cases h
    | nd => cases h
theorem HR.mu {n : Nat} {a : Addr} {xs : List Dt} (hr : HR K H ρ S) (ha : ρ[n]? = some a) (h : S.lst n = some xs) : ∃ vs, H a = some (.lst vs) ∧ DVs K H ρ xs vs := by
  obtain ⟨a', vs, h1, h2, h3⟩ := hr.lst n _ (lst_get h)
  rw [ha] at h1; cases h1
  exact ⟨vs, h2, h3⟩
theorem newL_ok {ds : List Dt} {P : Dt → Bxs → Prop} {E : Nat → List Dt → Bxs → Prop} (h : (newL ds S).Sat P E) : ds.length ≤ LIM ∧ P (.box S.length) (S ++ [.lst ds]) := by
  unfold newL at h
  by_cases hl : ds.length ≤ LIM
  · rw [if_pos hl] at h; exact ⟨hl, h⟩
  · rw [if_neg hl] at h; exact h.elim
theorem newL_calm (ds : List Dt) (S : Bxs) (c : Nat) (es : List Dt) (S' : Bxs) : newL ds S ≠ .ex c es S' := by
  unfold newL
  split <;> (intro z; cases z)
/-! ### numbers -/
def mulOk (i j : Int) : Prop := CMul i j ∨ CMulW i j
instance (i j : Int) : Decidable (mulOk i j) := by unfold mulOk CMul CMulW; infer_instance
theorem mulOk.small {i j : Int} (h1 : -(2 ^ 64) < i) (h2 : i < 2 ^ 64) : mulOk i j := .inl (.inl ⟨h1, h2⟩)
theorem mulOk.small2 {i j : Int} (h1 : -(2 ^ 64) < j) (h2 : j < 2 ^ 64) : mulOk i j := .inl (.inr ⟨h1, h2⟩)
def divOk (j : Int) : Prop := 0 < j ∧ j.natAbs.log2 < 9000
instance (j : Int) : Decidable (divOk j) := by unfold divOk; infer_instance
def powOk (i j : Int) : Prop := CPow i j
instance (i j : Int) : Decidable (powOk i j) := by unfold powOk CPow; infer_instance
def strLim : Nat := 1000000
def addG : G2 := fun x y S => match x, y with
  | .int i, .int j => .ok (.int (i + j)) S
  | .str a, .str b => if a.length + b.length ≤ strLim then .ok (.str (a ++ b)) S else .no
  | .box m, .box n => match S.lst m, S.lst n with
    | some xs, some ys => newL (xs ++ ys) S
    | _, _ => .no
  | .tup xs, .tup ys => if xs.length + ys.length ≤ LIM then .ok (.tup (xs ++ ys)) S else .no
  | _, _ => .no
def subG : G2 := fun x y S => match x, y with
  | .int i, .int j => .ok (.int (i - j)) S
  | _, _ => .no
def mulG : G2 := fun x y S => match x, y with
  | .int i, .int j => if mulOk i j then .ok (.int (i * j)) S else .no
  | .box n, .int k => match S.lst n with
    | some xs => if -1000 ≤ k ∧ k ≤ 1000 ∧ xs.length ≤ 100 then newL (List.replicate k.toNat xs).flatten S else .no
    | none => .no
  | .tup xs, .int k => if xs ≠ [] ∧ -1000 ≤ k ∧ k ≤ 1000 ∧ xs.length ≤ 100 then .ok (.tup (List.replicate k.toNat xs).flatten) S else .no
  | _, _ => .no
def fdivG : G2 := fun x y S => match x, y with
  | .int i, .int j => if divOk j then .ok (.int (i / j)) S else .no
  | _, _ => .no
def modG : G2 := fun x y S => match x, y with
  | .int i, .int j => if 0 < j then .ok (.int (i % j)) S else .no
  | _, _ => .no
def powG : G2 := fun x y S => match x, y with
  | .int i, .int j => if powOk i j then .ok (.int (i ^ j.toNat)) S else .no
  | _, _ => .no
def cmpG (p : Int → Int → Bool) : G2 := fun x y S => match x, y with
  | .int i, .int j => .ok (.bl (p i j)) S
  | _, _ => .no
abbrev ltG := cmpG fun i j => decide (i < j)
abbrev leG := cmpG fun i j => decide (i ≤ j)
abbrev gtG := cmpG fun i j => decide (j < i)
abbrev geG := cmpG fun i j => decide (j ≤ i)
theorem calm_ite {α : Type} {c : Prop} [Decidable c] {r : Rs α} (h : ∀ k ds S', r ≠ .ex k ds S') : ∀ k ds S', (if c then r else .no) ≠ .ex k ds S' := fun k ds S' => by
  split
  · exact h k ds S'
  · intro z; cases z
theorem calm_ok {α : Type} (a : α) (S : Bxs) : ∀ k ds S', (Rs.ok a S) ≠ .ex k ds S' := fun _ _ _ z => nomatch z
theorem calm_no {α : Type} : ∀ k ds S', (Rs.no : Rs α) ≠ .ex k ds S' := fun _ _ _ z => nomatch z
theorem cmpG_calm (p) : Calm2 (cmpG p) := by
  intro x y S
  unfold cmpG
  split <;> first | exact calm_ok _ _ | exact calm_no
theorem fdivG_calm : Calm2 fdivG := by
  intro x y S
  unfold fdivG
  split <;> first | exact calm_ite (calm_ok _ _) | exact calm_no
theorem modG_calm : Calm2 modG := by
  intro x y S
  unfold modG
  split <;> first | exact calm_ite (calm_ok _ _) | exact calm_no
theorem powG_calm : Calm2 powG := by
  intro x y S
  unfold powG
  split <;> first | exact calm_ite (calm_ok _ _) | exact calm_no
theorem mulG_calm : Calm2 mulG := by
  intro x y S
  unfold mulG
  split
  · exact calm_ite (calm_ok _ _)
  · split
    · exact calm_ite (newL_calm _ _)
    · exact calm_no
  · exact calm_ite (calm_ok _ _)
  · exact calm_no
theorem addG_calm : Calm2 addG := by
  intro x y S
  unfold addG
  split
  · exact calm_ok _ _
  · exact calm_ite (calm_ok _ _)
  · split
    · exact newL_calm _ _
    · exact calm_no
  · exact calm_ite (calm_ok _ _)
  · exact calm_no
theorem ko_here {Q : VK} {d : Dt} {v : V} (hr : HR K H ρ S) (h : KO K H ρ Q d S) (dv : DV K H ρ d v) : Q v H := h v H ρ (To.refl _ _) hr dv
theorem ite_sat {α : Type} {c : Prop} [Decidable c] {r : Rs α} {P : α → Bxs → Prop} {E : Nat → List Dt → Bxs → Prop} (h : (if c then r else .no).Sat P E) : c ∧ r.Sat P E := by
  by_cases hc : c
  · rw [if_pos hc] at h; exact ⟨hc, h⟩
  · rw [if_neg hc] at h; exact h.elim
theorem ro_cmp {p : Int → Int → Bool} : RO K (rI0 fun i j => .bl (p i j)) (cmpG p) := by
  intro H ρ S x y xv yv Q hr dx dy h
  cases dx <;> first | exact h.elim | skip
  cases dy <;> first | exact h.elim | skip
  exact ⟨_, _, rfl, rfl, ko_here hr h (.bl _)⟩
theorem ro_fdiv : RO K (rI CDivW fun i j => .int (i / j)) fdivG := by
  intro H ρ S x y xv yv Q hr dx dy h
  cases dx <;> first | exact h.elim | skip
  cases dy <;> first | exact h.elim | skip
  obtain ⟨c, h⟩ := ite_sat h
  exact ⟨_, _, rfl, rfl, c, ko_here hr h (.int _)⟩
theorem ro_mod : RO K (rI (fun _ j => 0 < j) fun i j => .int (i % j)) modG := by
  intro H ρ S x y xv yv Q hr dx dy h
  cases dx <;> first | exact h.elim | skip
  cases dy <;> first | exact h.elim | skip
  obtain ⟨c, h⟩ := ite_sat h
  exact ⟨_, _, rfl, rfl, c, ko_here hr h (.int _)⟩
theorem ro_pow : RO K (rI CPow fun i j => .int (i ^ j.toNat)) powG := by
  intro H ρ S x y xv yv Q hr dx dy h
  cases dx <;> first | exact h.elim | skip
  cases dy <;> first | exact h.elim | skip
  obtain ⟨c, h⟩ := ite_sat h
  exact ⟨_, _, rfl, rfl, c, ko_here hr h (.int _)⟩
def rMulA (K : PySem.W.Frag) : R2 := fun x y H Q => rI CMul (fun i j => .int (i * j)) x y H Q ∨ (rI CMulW (fun i j => .int (i * j)) x y H Q ∨ (rRep x y H Q ∨ rRepZ K x y H Q))
theorem op_mulA : OpR X (binaryOp .Mult) (rMulA X.K) := op_mul.or (op_mulW.or (op_rep.or op_repZ))
theorem DVs.flat {ds : List Dt} {vs : List V} (h : DVs K H ρ ds vs) : ∀ n : Nat, DVs K H ρ (List.replicate n ds).flatten (List.replicate n vs).flatten
  | 0 => .nil
  | n + 1 => by
    rw [List.replicate_succ, List.replicate_succ, List.flatten_cons, List.flatten_cons]
    exact h.app (DVs.flat h n)
theorem ro_mul : RO K (rMulA K) mulG := by
  intro H ρ S x y xv yv Q hr dx dy h
  cases dx <;> first | exact h.elim | skip
  · cases dy <;> first | exact h.elim | skip
    obtain ⟨c, h⟩ := ite_sat h
    have q := ko_here hr h (.int _)
    rcases c with c | c
    · exact .inl ⟨_, _, rfl, rfl, c, q⟩
    · exact .inr (.inl ⟨_, _, rfl, rfl, c, q⟩)
  · rename_i a ds vs ht hd
    cases dy <;> first | exact h.elim | skip
    rename_i k
    obtain ⟨⟨c0, c1, c2, c3⟩, h⟩ := ite_sat h
    have hl := hd.length
    refine .inr (.inr (.inr ⟨a, k, vs, rfl, rfl, ht.sqt, fun z => c0 (List.eq_nil_of_length_eq_zero (by rw [hl, z]; rfl)), c1, c2, by rw [← hl]; exact c3, fun hk => ?_, fun hk => ?_, fun hk => ?_⟩))
    · have e : (List.replicate k.toNat ds).flatten = ds := by rw [hk]; simp
      rw [e] at h
      exact ko_here hr h (.tup ht hd)
    · have e : (List.replicate k.toNat ds).flatten = [] := by rw [show k.toNat = 0 by omega]; rfl
      rw [e] at h
      exact new_tup hr .nil h
    · exact new_tup hr (hd.flat k.toNat) h
  · rename_i n a ha
    cases dy <;> first | exact h.elim | skip
    rename_i k
    unfold mulG at h
    simp only at h
    cases e : S.lst n with
    | none => rw [e] at h; exact h.elim
    | some xs =>
      rw [e] at h
      obtain ⟨⟨c1, c2, c3⟩, h⟩ := ite_sat h
      obtain ⟨hl, h⟩ := newL_ok h
      obtain ⟨vs, h1, h2⟩ := hr.mu ha e
      have hv := (h2.flat k.toNat).length
      have hz : vs.length * k.toNat ≤ sizeLine := by
        have := h2.length
        have a2 : vs.length * k.toNat ≤ 100 * 1000 := Nat.mul_le_mul (by omega) (by omega)
        exact Nat.le_trans a2 (by decide)
      exact .inr (.inr (.inl ⟨a, k, vs, rfl, rfl, h1, by omega, by omega, hz, fun p hp => new_lst hr (h2.flat k.toNat) hp h⟩))
def rAddA (K : PySem.W.Frag) : R2 := fun x y H Q => rI0 (fun i j => .int (i + j)) x y H Q ∨
  ((∃ i j, x = .str i ∧ y = .str j ∧ i.length + j.length ≤ sizeLine ∧ Q (.str (i ++ j)) H) ∨ (rCat x y H Q ∨ rCatZ K x y H Q))
theorem op_addA : OpR X (binaryOp .Add) (rAddA X.K) := op_add.or (op_add_str.or (op_cat.or op_catZ))
theorem ro_add : RO K (rAddA K) addG := by
  intro H ρ S x y xv yv Q hr dx dy h
  cases dx <;> first | exact h.elim | skip
  · cases dy <;> first | exact h.elim | skip
    exact .inl ⟨_, _, rfl, rfl, ko_here hr h (.int _)⟩
  · cases dy <;> first | exact h.elim | skip
    obtain ⟨c, h⟩ := ite_sat h
    exact .inr (.inl ⟨_, _, rfl, rfl, Nat.le_trans c (by decide), ko_here hr h (.str _)⟩)
  · rename_i a ds vs ht hd
    cases dy <;> first | exact h.elim | skip
    rename_i b es ws ht2 hd2
    obtain ⟨c, h⟩ := ite_sat h
    have hl := hd.length
    have hl2 := hd2.length
    refine .inr (.inr (.inr ⟨a, b, vs, ws, rfl, rfl, ht.sqt, ht2.sqt, by rw [← hl, ← hl2]; exact lim_le c, fun z => ?_, fun _ z => ?_, fun _ _ => new_tup hr (hd.app hd2) h⟩))
    · subst z
      cases hd
      exact ko_here hr h (.tup ht2 hd2)
    · subst z
      cases hd2
      rw [List.append_nil] at h
      exact ko_here hr h (.tup ht hd)
  · rename_i m a ha
    cases dy <;> first | exact h.elim | skip
    rename_i n b hb
    unfold addG at h
    simp only at h
    cases e : S.lst m with
    | none => rw [e] at h; exact h.elim
    | some xs =>
      cases e2 : S.lst n with
      | none => rw [e, e2] at h; exact h.elim
      | some ys =>
        rw [e, e2] at h
        obtain ⟨hl, h⟩ := newL_ok h
        obtain ⟨vs, h1, h2⟩ := hr.mu ha e
        obtain ⟨ws, h3, h4⟩ := hr.mu hb e2
        rw [List.length_append] at hl
        have := h2.length
        have := h4.length
        exact .inr (.inr (.inl ⟨a, b, vs, ws, rfl, rfl, h1, h3, lim_le (by omega), fun p hp => new_lst hr (h2.app h4) hp h⟩))
/-! ### one place -/
def dNeg (a : FE) : FE := fun σ S => (a σ S).bind fun d S1 => match d with
  | .int i => .ok (.int (-i)) S1
  | _ => .no
theorem se_neg {a : Expr} {fa : FE} {pos : Pos} (ha : SE X Er a fa) : SE X Er (.UnaryOp .USub a pos) (dNeg fa) := by
  obtain ⟨ta, pa, qa⟩ := ha.ex
  refine ⟨_, pe_un un_neg pa, fun τ H ρ σ S Q T h => qa τ H ρ σ S _ T ((link h).mono (fun d S1 h1 => ?_) fun _ _ _ q => q)⟩
  intro v H' ρ' t hr dv
  cases dv <;> first | exact h1.elim | skip
  exact ⟨_, rfl, h1 _ H' ρ' t hr (.int _)⟩
/-! ### x in xs -/
def Dt.flat : Dt → Bool
  | .tup _ => false
  | .box _ => false
  | _ => true
def Dt.eqf : Dt → Dt → Bool
  | .non, .non => true
  | .bl a, .bl b => a == b
  | .int a, .int b => a == b
  | .str a, .str b => decide (a = b)
  | .bl a, .int b => (if a then 1 else 0) == b
  | .int a, .bl b => a == (if b then 1 else 0)
  | _, _ => false
/-! ### dicts by ints and texts -/
def keyOf : Dt → Option Key
  | .int i => some (.inl i)
  | .str x => some (.inr x)
  | _ => none
def valD (kvs : List (Key × Dt)) (k : Key) : Option Dt := (kvs.find? fun kv => decide (kv.1 = k)).map (·.2)
def putD (kvs : List (Key × Dt)) (k : Key) (d : Dt) : List (Key × Dt) :=
  if (kvs.any fun kv => decide (kv.1 = k)) = true then kvs.map fun kv => if kv.1 = k then (kv.1, d) else kv else kvs ++ [(k, d)]
def Bxs.dk (S : Bxs) (n : Nat) : Option (List (Key × Dt)) := match S[n]? with
  | some (.dk kvs) => some kvs
  | _ => none
/-- the dict that a value is -/
def Bxs.dkR (S : Bxs) (n : Nat) : Option (List (Key × Dt)) := match S[n]? with
  | some (.dk kvs) => some kvs
  | some (.dkr kvs) => some kvs
  | _ => none
def dkW (S : Bxs) : Dt → Option (List (Key × Dt))
  | .box n => S.dk n
  | _ => none
def dkO (S : Bxs) : Dt → Option (List (Key × Dt))
  | .box n => S.dkR n
  | _ => none
theorem dk_get {n : Nat} {kvs : List (Key × Dt)} (h : S.dk n = some kvs) : S[n]? = some (MBox.dk kvs) := by
  unfold Bxs.dk at h
  cases e : S[n]? with
  | none => rw [e] at h; cases h
  | some b =>
    rw [e] at h
    cases b <;> cases h
    rfl
theorem dkW_some {d : Dt} {v : V} {kvs : List (Key × Dt)} (hr : HR K H ρ S) (dv : DV K H ρ d v) (h : dkW S d = some kvs) : ∃ n a ws, d = .box n ∧ v = .ref a ∧ ρ[n]? = some a ∧ S[n]? = some (MBox.dk kvs) ∧ H a = some (.dK ws) ∧ DPs K H ρ kvs ws := by
  cases dv <;> first | (cases h; done) | skip
  rename_i n a ha
  have e := dk_get h
  obtain ⟨a', ws, h1, h2, h3⟩ := hr.dk n _ e
  rw [ha] at h1; cases h1
  exact ⟨n, a, ws, rfl, rfl, ha, e, h2, h3⟩
theorem dkR_get {n : Nat} {kvs : List (Key × Dt)} (h : S.dkR n = some kvs) : S[n]? = some (MBox.dk kvs) ∨ S[n]? = some (MBox.dkr kvs) := by
  unfold Bxs.dkR at h
  cases e : S[n]? with
  | none => rw [e] at h; cases h
  | some b =>
    rw [e] at h
    cases b <;> cases h
    · exact .inl rfl
    · exact .inr rfl
theorem dkO_some {d : Dt} {v : V} {kvs : List (Key × Dt)} (hr : HR K H ρ S) (dv : DV K H ρ d v) (h : dkO S d = some kvs) : ∃ n a ws, d = .box n ∧ v = .ref a ∧ ρ[n]? = some a ∧ Rd H a (.dK ws) ∧ DPs K H ρ kvs ws := by
  cases dv <;> first | (cases h; done) | skip
  rename_i n a ha
  rcases dkR_get h with e | e
  · obtain ⟨a', ws, h1, h2, h3⟩ := hr.dk n _ e
    rw [ha] at h1; cases h1
    exact ⟨n, a, ws, rfl, rfl, ha, .inl h2, h3⟩
  · obtain ⟨a', ws, o, h1, h2, h3⟩ := hr.dkr n _ e
    rw [ha] at h1; cases h1
    exact ⟨n, a, ws, rfl, rfl, ha, .inr ⟨o, h2⟩, h3⟩
theorem DGet.rd {a : Addr} {ws : List (Key × V)} {k : Key} (e : Rd H a (.dK ws)) : DGet H a (kV k) (valV ws k) := .inl ⟨ws, k, e, rfl, rfl⟩
theorem key_dv {d : Dt} {v : V} {k : Key} (dv : DV K H ρ d v) (h : keyOf d = some k) : v = kV k := by
  cases dv <;> cases h <;> rfl
theorem dps_val (k : Key) : ∀ {kvs : List (Key × Dt)} {ws : List (Key × V)}, DPs K H ρ kvs ws → (∃ d v, valD kvs k = some d ∧ valV ws k = some v ∧ DV K H ρ d v) ∨ (valD kvs k = none ∧ valV ws k = none)
  | _, _, .nil => .inr ⟨rfl, rfl⟩
  | _, _, .cons (k := j) (ds := ds) (vs := vs) h t => by
    by_cases e : j = k
    · exact .inl ⟨_, _, by simp [valD, List.find?_cons, e], by simp [valV, List.find?_cons, e], h⟩
    · have e1 : ∀ d : Dt, valD ((j, d) :: ds) k = valD ds k := fun d => by simp [valD, List.find?_cons, e]
      have e2 : ∀ v : V, valV ((j, v) :: vs) k = valV vs k := fun v => by simp [valV, List.find?_cons, e]
      rw [e1, e2]
      exact dps_val k t
theorem dps_isSome {kvs : List (Key × Dt)} {ws : List (Key × V)} (h : DPs K H ρ kvs ws) (k : Key) : (valD kvs k).isSome = (valV ws k).isSome := by
  rcases dps_val k h with ⟨d, v, e1, e2, _⟩ | ⟨e1, e2⟩ <;> rw [e1, e2] <;> rfl
theorem dps_any (k : Key) : ∀ {kvs : List (Key × Dt)} {ws : List (Key × V)}, DPs K H ρ kvs ws → (kvs.any fun kv => decide (kv.1 = k)) = (ws.any fun kv => decide (kv.1 = k))
  | _, _, .nil => rfl
  | _, _, .cons _ t => by rw [List.any_cons, List.any_cons, dps_any k t]
theorem dps_snoc {k : Key} {d : Dt} {v : V} (r : DV K H ρ d v) : ∀ {kvs : List (Key × Dt)} {ws : List (Key × V)}, DPs K H ρ kvs ws → DPs K H ρ (kvs ++ [(k, d)]) (ws ++ [(k, v)])
  | _, _, .nil => .cons r .nil
  | _, _, .cons h t => .cons h (dps_snoc r t)
theorem dps_map {k : Key} {d : Dt} {v : V} (r : DV K H ρ d v) : ∀ {kvs : List (Key × Dt)} {ws : List (Key × V)}, DPs K H ρ kvs ws →
    DPs K H ρ (kvs.map fun kv => if kv.1 = k then (kv.1, d) else kv) (ws.map fun kv => if kv.1 = k then (kv.1, v) else kv)
  | _, _, .nil => .nil
  | _, _, .cons (k := j) h t => by
    rw [List.map_cons, List.map_cons]
    by_cases e : j = k
    · rw [if_pos e, if_pos e]; exact .cons r (dps_map r t)
    · rw [if_neg e, if_neg e]; exact .cons h (dps_map r t)
theorem dps_put {k : Key} {d : Dt} {v : V} (r : DV K H ρ d v) {kvs : List (Key × Dt)} {ws : List (Key × V)} (h : DPs K H ρ kvs ws) : DPs K H ρ (putD kvs k d) (putK ws k v) := by
  unfold putD putK
  rw [dps_any k h]
  split
  · exact dps_map r h
  · exact dps_snoc r h
/-- v = d[k] -/
def dgetG (kvs : List (Key × Dt)) (y : Dt) (S : Bxs) : Rs Dt := match keyOf y with
  | some k => match valD kvs k with
    | some d => .ok d S
    | none => .no
  | none => .no
theorem dgetG_calm (kvs : List (Key × Dt)) (y : Dt) (S : Bxs) : ∀ c es S', dgetG kvs y S ≠ .ex c es S' := by
  intro c es S'
  unfold dgetG
  split
  · split
    · exact calm_ok _ _ _ _ _
    · exact calm_no _ _ _
  · exact calm_no _ _ _
def rDGet : R2 := fun x y H Q => ∃ a v, x = .ref a ∧ DGet H a y (some v) ∧ Q v H
theorem dget_sat {x y : Dt} {xv yv : V} {kvs : List (Key × Dt)} {Q : VK} (hr : HR K H ρ S) (dx : DV K H ρ x xv) (dy : DV K H ρ y yv) (e : dkO S x = some kvs) (h : (dgetG kvs y S).Sat (KO K H ρ Q) noX) : rDGet xv yv H Q := by
  obtain ⟨n, a, ws, rfl, rfl, ha, hH, hd⟩ := dkO_some hr dx e
  unfold dgetG at h
  cases ek : keyOf y with
  | none => rw [ek] at h; exact h.elim
  | some k =>
    rw [ek] at h
    simp only at h
    rcases dps_val k hd with ⟨d, v, e1, e2, dv⟩ | ⟨e1, e2⟩
    · rw [e1] at h
      rw [key_dv dy ek]
      exact ⟨a, v, rfl, e2 ▸ DGet.rd hH, ko_here hr h dv⟩
    · rw [e1] at h; exact h.elim
theorem ix_dict (hu : X.A.units + 1 < cLine) : IxR X rDGet := by
  rintro value slice pins s σ H x y v u Q I rx ry ⟨a, z, rfl, g, q⟩ hs
  cases rx
  unfold subscriptTail
  refine wpAny_bind ?_
  rw [getitemInPython_of_ne (dict_typeIs I g).not_modules]
  refine wpAny_bind (wpAny_specialOf (dict_typeIs I g) PySem.F.slot_dict_getitem.lookup ?_)
  have fin : wpAny (model X.prog X.w) X.A (subscripted slice false (.ref a) u) (fun r s₃ => wpAny (model X.prog X.w) X.A (letTemporaryGo value (.ref a) r >>= fun _ => pure r) (EP X pins σ Q) X.xe s₃) X.xe s := by
    rw [hs]
    refine wpAny_operating (wpAny_mono (d_getItem hu I g ry (Q := fun w' s' => ∃ H', Inv X pins σ H' s' ∧ RelV z w' ∧ H' = H) fun w' s3 I3 rw' => ⟨H, I3, rw', rfl⟩) (fun r s₃ h₃ => ?_) fun _ _ x => x)
    obtain ⟨H', I3, rw', rfl⟩ := h₃
    exact wpAny_bind (wpAny_letTemporaryGo (wpAny_pure ⟨z, _, I3, rw', q⟩))
  first
    | exact wpAny_pure (wpAny_bind fin)
    | exact wpAny_bind (wpAny_pure (wpAny_bind fin))
    | exact wpAny_bind fin
theorem get_dict (hu : X.A.units + 1 < cLine) : PGet X rDGet := by
  rintro pins s τ H o i ov iv Q I ro ri ⟨a, z, rfl, g, q⟩
  cases ro
  exact d_getItem hu I g ri fun w' s3 I3 rw' => ⟨z, H, I3, rw', q⟩
def rDIn (neg : Bool) : R2 := fun x y H Q => ∃ a o, y = .ref a ∧ DGet H a x o ∧ Q (.bl (if neg then !o.isSome else o.isSome)) H
theorem op_din (hu : X.A.units + 1 < cLine) : OpR X (compareOp .In) (rDIn false) := by
  rintro pins s σ H x y v u Q I rx ry ⟨a, o, rfl, g, q⟩
  cases ry
  exact d_in hu I g rx fun s3 I3 => ⟨.bl o.isSome, H, I3, rfl, q⟩
theorem op_dnin (hu : X.A.units + 1 < cLine) : OpR X (compareOp .NotIn) (rDIn true) := by
  rintro pins s σ H x y v u Q I rx ry ⟨a, o, rfl, g, q⟩
  cases ry
  exact d_notIn hu I g rx fun s3 I3 => ⟨.bl (!o.isSome), H, I3, rfl, q⟩
def rDSet : V → V → V → Hp → (Hp → Prop) → Prop := fun o i v H Q => ∃ a H', o = .ref a ∧ DPut H a i v H' ∧ Q H'
theorem set_dict (hu : X.A.units + 1 < cLine) : PSet X rDSet := by
  rintro pins s σ H o i v ov iv u Q I ro ri rv ⟨a, H', rfl, g, q⟩
  cases ro
  exact d_setItem hu I g ri rv fun s4 I4 => ⟨H', I4, q⟩
theorem PSet.or {t t' : TSet} (h : PSet X t) (h' : PSet X t') : PSet X (fun o i v H Q => t o i v H Q ∨ t' o i v H Q) := by
  intro pins s σ H o i v ov iv u Q I ro ri rv q
  rcases q with q | q
  · exact h pins s σ H o i v ov iv u Q I ro ri rv q
  · exact h' pins s σ H o i v ov iv u Q I ro ri rv q
theorem PGet.or {t t' : V → V → Hp → VK → Prop} (h : PGet X t) (h' : PGet X t') : PGet X (fun o i H Q => t o i H Q ∨ t' o i H Q) := by
  intro pins s σ H o i ov iv Q I ro ri q
  rcases q with q | q
  · exact h pins s σ H o i ov iv Q I ro ri q
  · exact h' pins s σ H o i ov iv Q I ro ri q
end
end Mn
set_option Elab.async false
set_option linter.all false
set_option maxRecDepth 100000
set_option maxHeartbeats 4000000
/-! MnCt: dicts whose keys are tuples of ints. -/
namespace Mn
open PySem PySem.Spec PyProof.Rows L2
section
variable {X : Cx} {pins : List (Addr × Obj)} {τ : L2.St} {H : Hp} {s : Shared} {K : PySem.W.Frag} {ρ : List Addr} {S : Bxs}
theorem ints_are {P : Program} {w : World} : ∀ {ks : List Int} {us : List Value}, Vals (ks.map V.int) us → ItemsAre (PySem.intKind P w) ks us
  | [], _, h => by cases h; exact .nil
  | k :: ks, _, h => by
    rw [List.map_cons] at h
    cases h with
    | cons r t =>
      obtain ⟨tk, rfl⟩ := (show ∃ t, _ = Value.int k t from r)
      exact .cons (intKind_is P w k tk) (ints_are t)
theorem tk_is {b : Addr} {k : List Int} (I : Inv X pins τ H s) (t : Tp X.K H b (k.map V.int)) : (tupleKind (PySem.intKind X.prog X.w)).is s.heap k b := by
  rcases t with ⟨o, ho, p⟩ | ⟨o, its, n, ho, p, hd, hz, hv⟩
  · obtain ⟨e, z, its, r, o2, h1, h2, n, h3⟩ := I.hok b _ ho
    exact ⟨o2, its.toArray, n, h1, h2, h3, by simpa using ints_are r⟩
  · exact ⟨o, its, n, I.kIn b o ho, p.1, hd, ints_are hv⟩
/-- a dict with such keys, to be read -/
def TRd (K : PySem.W.Frag) (H : Hp) (a : Addr) (xs : List TE3) : Prop := (H a = some (DtO a xs) ∧ ∀ x ∈ xs, Tp K H x.2.1 (x.1.map V.int)) ∨ (H a = some (.dK []) ∧ xs = [])
theorem trd_at {a : Addr} {xs : List TE3} (I : Inv X pins τ H s) (t : TRd X.K H a xs) : (a == sysModules) = false ∧ s.heap.DictOfH (tupleKind (PySem.intKind X.prog X.w)) a xs := by
  rcases t with ⟨e, hk⟩ | ⟨e, rfl⟩
  · obtain ⟨⟨hd, o, es, ep, h1, h2, h3, h4, h5⟩, _⟩ := I.hok a _ e
    exact ⟨hd, o, es, ep, h1, h2, h3, h4, fun x hx => tk_is I (hk x hx), h5⟩
  · obtain ⟨z, hd, vs, rel, dd⟩ := dk_of I.hok e
    cases rel
    obtain ⟨o, es, ep, h1, h2, h3, h4⟩ := dd
    have hes : es.toList = [] := by
      obtain ⟨_, hp, _⟩ := h4
      cases e : es.toList with
      | nil => rfl
      | cons b l => rw [e] at hp; cases hp
    exact ⟨hd, o, es, ep, h1, h2, h3, hes, (fun _ z => nomatch z), List.nodup_nil⟩
def rTIx (K : PySem.W.Frag) : R2 := fun x y H Q => ∃ (a b : Addr) (k : List Int) (xs : List TE3) (u : Value) (v : V), x = .ref a ∧ y = .ref b ∧ Tp K H b (k.map V.int) ∧ TRd K H a xs ∧ (atKey xs k).map (·.2) = some u ∧ RelV v u ∧ Q v H
theorem t_getItem {a b : Addr} {k : List Int} {xs : List TE3} {u : Value} {Q : Value → Shared → Prop} {A : Around} {E : Value → Shared → Prop} (hu : A.units + 1 < cLine) (I : Inv X pins τ H s) (tk : Tp X.K H b (k.map V.int)) (t : TRd X.K H a xs) (e : (atKey xs k).map (·.2) = some u)
    (h : ∀ s', Inv X pins τ H s' → Q u s') : wpAny (model X.prog X.w) A (getItem (.ref a) (.ref b)) Q E s := by
  obtain ⟨hd, dd⟩ := trd_at I t
  obtain ⟨p, hp, hp2⟩ := Option.map_eq_some_iff.mp e
  refine wpAny_getItem_heap (tupleKind_room_in1 hu) (tk_is I tk) dd hp ?_
  rw [hp2]
  exact h _ (I.tok _)
theorem ix_dt (hu : X.A.units + 1 < cLine) : IxR X (rTIx X.K) := by
  rintro value slice pins s σ H x y v u Q I rx ry ⟨a, b, k, xs, w', z, rfl, rfl, tk, t, e, rz, q⟩ hs
  cases rx
  cases ry
  obtain ⟨hd, dd⟩ := trd_at I t
  unfold subscriptTail
  refine wpAny_bind ?_
  rw [getitemInPython_of_ne dd.typeIs.not_modules]
  refine wpAny_bind (wpAny_specialOf dd.typeIs PySem.F.slot_dict_getitem.lookup ?_)
  have fin : wpAny (model X.prog X.w) X.A (subscripted slice false (.ref a) (.ref b)) (fun r s₃ => wpAny (model X.prog X.w) X.A (letTemporaryGo value (.ref a) r >>= fun _ => pure r) (EP X pins σ Q) X.xe s₃) X.xe s := by
    rw [hs]
    refine wpAny_operating (wpAny_mono (t_getItem hu I tk t e (Q := fun w2 s' => ∃ H', Inv X pins σ H' s' ∧ RelV z w2 ∧ H' = H) fun s3 I3 => ⟨H, I3, rz, rfl⟩) (fun r s₃ h₃ => ?_) fun _ _ x => x)
    obtain ⟨H', I3, rw', rfl⟩ := h₃
    exact wpAny_bind (wpAny_letTemporaryGo (wpAny_pure ⟨z, _, I3, rw', q⟩))
  first
    | exact wpAny_pure (wpAny_bind fin)
    | exact wpAny_bind (wpAny_pure (wpAny_bind fin))
    | exact wpAny_bind fin
theorem get_dt (hu : X.A.units + 1 < cLine) : PGet X (rTIx X.K) := by
  rintro pins s τ H o i ov iv Q I ro ri ⟨a, b, k, xs, w', z, rfl, rfl, tk, t, e, rz, q⟩
  cases ro
  cases ri
  exact t_getItem hu I tk t e fun s3 I3 => ⟨z, H, I3, rz, q⟩
def rTIn (K : PySem.W.Frag) (neg : Bool) : R2 := fun x y H Q => ∃ (a b : Addr) (k : List Int) (xs : List TE3), y = .ref a ∧ x = .ref b ∧ Tp K H b (k.map V.int) ∧ TRd K H a xs ∧ Q (.bl (if neg then !(atKey xs k).isSome else (atKey xs k).isSome)) H
theorem op_tin (hu : X.A.units + 1 < cLine) : OpR X (compareOp .In) (rTIn X.K false) := by
  rintro pins s σ H x y v u Q I rx ry ⟨a, b, k, xs, rfl, rfl, tk, t, q⟩
  cases rx
  cases ry
  obtain ⟨hd, dd⟩ := trd_at I t
  refine wpAny_in_heap (tupleKind_room_in1 hu) (tk_is I tk) hd dd ?_
  exact ⟨.bl _, H, I.tok _, rfl, q⟩
theorem op_tnin (hu : X.A.units + 1 < cLine) : OpR X (compareOp .NotIn) (rTIn X.K true) := by
  rintro pins s σ H x y v u Q I rx ry ⟨a, b, k, xs, rfl, rfl, tk, t, q⟩
  cases rx
  cases ry
  obtain ⟨hd, dd⟩ := trd_at I t
  refine wpAny_notIn_heap (tupleKind_room_in1 hu) (tk_is I tk) hd dd ?_
  exact ⟨.bl _, H, I.tok _, rfl, q⟩
theorem dt_ok {P : Program} {w : World} {H' : Hp} {h' : Heap} {a : Addr} {xs : List TE3} (hd : (a == sysModules) = false) (dd : h'.DictOfH (tupleKind (PySem.intKind P w)) a xs) : ObjOk P w H' h' a (DtO a xs) := by
  obtain ⟨o, es, ep, h1, h2, h3, h4, _, h5⟩ := dd
  refine ⟨⟨hd, o, es, ep, h1, h2, h3, h4, h5⟩, ⟨o, h1⟩, fun g1 g2 ⟨hd, o, es, ep, h1, h2, h3, h4, h5⟩ k => ⟨hd, o, es, ep, k o h1, h2, h3, h4, h5⟩⟩
def rTSet (K : PySem.W.Frag) : V → V → V → Hp → (Hp → Prop) → Prop := fun o i v H Q => ∃ (a b : Addr) (k : List Int) (xs : List TE3), o = .ref a ∧ i = .ref b ∧ Tp K H b (k.map V.int) ∧ TRd K H a xs ∧ xs.length < sizeLine ∧ ∀ u, RelV v u → Q (upd H a (DtO a (storedH xs k b u)))
theorem set_dt (hu : X.A.units + 1 < cLine) : PSet X (rTSet X.K) := by
  rintro pins s σ H o i v ov iv u Q I ro ri rv ⟨a, b, k, xs, rfl, rfl, tk, t, hl, q⟩
  cases ro
  cases ri
  obtain ⟨hd, dd⟩ := trd_at I t
  refine wpAny_setItem_heap (hsz := Nat.le_of_lt hl) (tupleKind_room_in1 hu) (tk_is I tk) dd fun h' dd' hs => ?_
  have he : ∃ q, h'.get? a = some q := let ⟨q, _, _, hq, _⟩ := dd'; ⟨q, hq⟩
  exact ⟨_, d_write I (by rcases t with ⟨e, _⟩ | ⟨e, _⟩ <;> rw [e] <;> exact True.intro) hs he (dt_ok hd dd'), q u rv⟩
/-! d.get(k), d.get(k, x) -/
/-! as data -/
def tiAll : List Dt → Option (List Int)
  | [] => some []
  | .int i :: r => (tiAll r).map (i :: ·)
  | _ :: _ => none
def tiOf : Dt → Option (List Int)
  | .tup ds => tiAll ds
  | _ => none
theorem tiAll_v : ∀ {ds : List Dt} {vs : List V} {k : List Int}, DVs K H ρ ds vs → tiAll ds = some k → vs = k.map V.int
  | [], _, _, .nil, e => by cases e; rfl
  | d :: ds, _, k, .cons h t, e => by
    cases h <;> first | (cases e; done) | skip
    rename_i i
    have e : (tiAll ds).map (i :: ·) = some k := e
    cases e2 : tiAll ds with
    | none => rw [e2] at e; cases e
    | some l =>
      rw [e2] at e
      cases e
      rw [tiAll_v t e2]; rfl
theorem tiOf_dv {d : Dt} {v : V} {k : List Int} (dv : DV K H ρ d v) (e : tiOf d = some k) : ∃ b, v = .ref b ∧ Tp K H b (k.map V.int) := by
  cases dv <;> first | (cases e; done) | skip
  rename_i a ds vs ht hd
  exact ⟨a, rfl, tiAll_v hd e ▸ ht⟩
def Bxs.dt (S : Bxs) (n : Nat) : Option (List (List Int × Dt)) := match S[n]? with
  | some (.dt kvs) => some kvs
  | some (.dk []) => some []
  | _ => none
def dtO (S : Bxs) : Dt → Option (List (List Int × Dt))
  | .box n => S.dt n
  | _ => none
def valT (kvs : List (List Int × Dt)) (k : List Int) : Option Dt := (kvs.find? fun kv => decide (kv.1 = k)).map (·.2)
def putT (kvs : List (List Int × Dt)) (k : List Int) (d : Dt) : List (List Int × Dt) :=
  if (valT kvs k).isSome = true then kvs.map (fun kv => if kv.1 = k then (kv.1, d) else kv) else kvs ++ [(k, d)]
theorem dt_get {n : Nat} {kvs : List (List Int × Dt)} (h : S.dt n = some kvs) : S[n]? = some (MBox.dt kvs) ∨ (S[n]? = some (MBox.dk []) ∧ kvs = []) := by
  unfold Bxs.dt at h
  cases e : S[n]? with
  | none => rw [e] at h; cases h
  | some b =>
    rw [e] at h
    cases b with
    | dt l => cases h; exact .inl rfl
    | dk l =>
      cases l with
      | nil => cases h; exact .inr ⟨rfl, rfl⟩
      | cons x l => cases h
    | lst l => cases h
    | ro l => cases h
    | dkr l => cases h
    | obj C l => cases h
    | tab l => cases h
    | fnc l => cases h
    | nd => cases h
theorem KTp.keys : ∀ {kvs : List (List Int × Dt)} {xs : List TE3}, KTp K H ρ kvs xs → ∀ x ∈ xs, Tp K H x.2.1 (x.1.map V.int)
  | _, _, .nil => fun _ z => nomatch z
  | _, _, .cons t _ _ r => fun x hx => by
    rcases List.mem_cons.mp hx with rfl | hx
    · exact t
    · exact KTp.keys r x hx
theorem dtO_some {d : Dt} {v : V} {kvs : List (List Int × Dt)} (hr : HR K H ρ S) (dv : DV K H ρ d v) (h : dtO S d = some kvs) : ∃ n a xs, d = .box n ∧ v = .ref a ∧ ρ[n]? = some a ∧ S.dt n = some kvs ∧ TRd K H a xs ∧ KTp K H ρ kvs xs := by
  cases dv <;> first | (cases h; done) | skip
  rename_i n a ha
  have h : S.dt n = some kvs := h
  rcases dt_get h with e | ⟨e, rfl⟩
  · obtain ⟨a', ws, h1, h2, h3⟩ := hr.dt n _ e
    rw [ha] at h1; cases h1
    exact ⟨n, a, ws, rfl, rfl, ha, h, .inl ⟨h2, h3.keys⟩, h3⟩
  · obtain ⟨a', ws, h1, h2, h3⟩ := hr.dk n _ e
    rw [ha] at h1; cases h1
    cases h3
    exact ⟨n, a, [], rfl, rfl, ha, h, .inr ⟨h2, rfl⟩, .nil⟩
theorem kt_val (k : List Int) : ∀ {kvs : List (List Int × Dt)} {xs : List TE3}, KTp K H ρ kvs xs → (∃ d v u, valT kvs k = some d ∧ (atKey xs k).map (·.2) = some u ∧ RelV v u ∧ DV K H ρ d v) ∨ (valT kvs k = none ∧ atKey xs k = none)
  | _, _, .nil => .inr ⟨rfl, rfl⟩
  | _, _, .cons (k := j) (ds := ds) (xs := xs) (d := d) (v := v) (u := u) (b := b) _ h r t => by
    by_cases e : j = k
    · exact .inl ⟨d, v, u, by simp [valT, List.find?_cons, e], by simp [atKey, List.find?_cons, e], r, h⟩
    · have e1 : valT ((j, d) :: ds) k = valT ds k := by simp [valT, List.find?_cons, e]
      have e2 : atKey ((j, b, u) :: xs) k = atKey xs k := by simp [atKey, List.find?_cons, e]
      rw [e1, e2]
      exact kt_val k t
theorem kt_isSome {kvs : List (List Int × Dt)} {xs : List TE3} (h : KTp K H ρ kvs xs) (k : List Int) : (valT kvs k).isSome = (atKey xs k).isSome := by
  rcases kt_val k h with ⟨d, v, u, e1, e2, _⟩ | ⟨e1, e2⟩
  · rw [e1]
    cases e : atKey xs k with
    | none => rw [e] at e2; cases e2
    | some p => rfl
  · rw [e1, e2]; rfl
theorem kt_snoc {k : List Int} {d : Dt} {v : V} {u : Value} {b : Addr} (tk : Tp K H b (k.map V.int)) (r : DV K H ρ d v) (ru : RelV v u) : ∀ {kvs : List (List Int × Dt)} {xs : List TE3}, KTp K H ρ kvs xs → KTp K H ρ (kvs ++ [(k, d)]) (xs ++ [(k, b, u)])
  | _, _, .nil => .cons tk r ru .nil
  | _, _, .cons t h q s => .cons t h q (kt_snoc tk r ru s)
theorem kt_map {k : List Int} {d : Dt} {v : V} {u : Value} (r : DV K H ρ d v) (ru : RelV v u) : ∀ {kvs : List (List Int × Dt)} {xs : List TE3}, KTp K H ρ kvs xs →
    KTp K H ρ (kvs.map fun kv => if kv.1 = k then (kv.1, d) else kv) (xs.map (putAt k u))
  | _, _, .nil => .nil
  | _, _, .cons (k := j) t h q s => by
    rw [List.map_cons, List.map_cons]
    unfold putAt
    by_cases e : j = k
    · rw [if_pos e, if_pos e]; exact .cons t r ru (kt_map r ru s)
    · rw [if_neg e, if_neg e]; exact .cons t h q (kt_map r ru s)
theorem kt_put {k : List Int} {d : Dt} {v : V} {u : Value} {b : Addr} (tk : Tp K H b (k.map V.int)) (r : DV K H ρ d v) (ru : RelV v u) {kvs : List (List Int × Dt)} {xs : List TE3} (h : KTp K H ρ kvs xs) : KTp K H ρ (putT kvs k d) (storedH xs k b u) := by
  unfold putT storedH
  rw [kt_isSome h k]
  split
  · exact kt_map r ru h
  · exact kt_snoc tk r ru h
/-- d[k], k in d, by tuples -/
def tget (S : Bxs) (x y : Dt) : Option (Option Dt) := match tiOf y, dtO S x with
  | some k, some kvs => some (valT kvs k)
  | _, _ => none
theorem tget_some {x y : Dt} {xv yv : V} {o : Option Dt} (hr : HR K H ρ S) (dx : DV K H ρ x xv) (dy : DV K H ρ y yv) (e : tget S x y = some o) :
    ∃ (a b : Addr) (k : List Int) (xs : List TE3), xv = .ref a ∧ yv = .ref b ∧ Tp K H b (k.map V.int) ∧ TRd K H a xs ∧ (o.isSome = (atKey xs k).isSome) ∧ ((∃ d v u, o = some d ∧ (atKey xs k).map (·.2) = some u ∧ RelV v u ∧ DV K H ρ d v) ∨ (o = none ∧ atKey xs k = none)) := by
  unfold tget at e
  cases e1 : tiOf y with
  | none => rw [e1] at e; cases e
  | some k =>
    cases e2 : dtO S x with
    | none => rw [e1, e2] at e; cases e
    | some kvs =>
      rw [e1, e2] at e
      cases e
      obtain ⟨b, rfl, tk⟩ := tiOf_dv dy e1
      obtain ⟨n, a, xs, rfl, rfl, ha, hn, t, kt⟩ := dtO_some hr dx e2
      exact ⟨a, b, k, xs, rfl, rfl, tk, t, kt_isSome kt k, kt_val k kt⟩
end
end Mn
set_option Elab.async false
set_option linter.all false
set_option maxRecDepth 100000
set_option maxHeartbeats 4000000
/-! MnD: equality, in, subscripts, slices, calls of built-ins, repr. -/
namespace Mn
open PySem PySem.Spec PyProof.Rows L2
section
variable {X : Cx} {Er : ER} {K : PySem.W.Frag} {H H1 : Hp} {ρ ρ1 : List Addr} {σ : Sg} {S S1 : Bxs} {τ : L2.St}
/-! ### x in xs, flat items -/
theorem flat_of {d : Dt} {v : V} (h : DV K H ρ d v) (hd : d.flat = true) : flatV v = true := by
  cases h <;> first | rfl | exact hd
theorem eqf_of {d e : Dt} {v w : V} (h : DV K H ρ d v) (h' : DV K H ρ e w) (hd : d.flat = true) (he : e.flat = true) : eqV v w = d.eqf e := by
  cases h <;> first | (exact absurd hd Bool.false_ne_true) | skip
  all_goals (cases h' <;> first | (exact absurd he Bool.false_ne_true) | rfl)
theorem flats_of : ∀ {ds : List Dt} {vs : List V}, DVs K H ρ ds vs → ds.all Dt.flat = true → vs.all flatV = true
  | _, _, .nil, _ => rfl
  | _, _, .cons h t, q => by
    rw [List.all_cons, Bool.and_eq_true] at q
    rw [List.all_cons, flat_of h q.1, flats_of t q.2]
    rfl
theorem ins_of {d : Dt} {v : V} (h : DV K H ρ d v) (hd : d.flat = true) : ∀ {ds : List Dt} {vs : List V}, DVs K H ρ ds vs → ds.all Dt.flat = true → inV v vs = ds.any fun e => e.eqf d
  | _, _, .nil, _ => rfl
  | _, _, .cons q t, z => by
    rw [List.all_cons, Bool.and_eq_true] at z
    unfold inV
    rw [List.any_cons, List.any_cons, eqf_of q h z.1 hd]
    congr 1
    exact ins_of h hd t z.2
/-- the items of a sequence -/
def seqOf (S : Bxs) : Dt → Option (List Dt)
  | .tup xs => some xs
  | .box n => S.seq n
  | _ => none
theorem seq_of {d : Dt} {v : V} {xs : List Dt} (hr : HR K H ρ S) (h : DV K H ρ d v) (hs : seqOf S d = some xs) : ∃ a vs, v = .ref a ∧ (SqL K H a vs ∨ SqT K H a vs) ∧ DVs K H ρ xs vs := by
  cases h <;> first | (cases hs; done) | skip
  · rename_i a ds vs ht hd
    cases hs
    exact ⟨a, vs, rfl, .inr ht.sqt, hd⟩
  · rename_i n a ha
    obtain ⟨vs, h1, h2⟩ := hr.rd ha hs
    exact ⟨a, vs, rfl, .inl h1, h2⟩
def inF (neg : Bool) : G2 := fun x y S => match seqOf S y with
  | some ys => if x.flat = true ∧ ys.all Dt.flat = true then .ok (.bl (if neg then !(ys.any fun e => e.eqf x) else ys.any fun e => e.eqf x)) S else .no
  | none => .no
theorem inF_calm (neg : Bool) : Calm2 (inF neg) := by
  intro x y S
  unfold inF
  split
  · exact calm_ite (calm_ok _ _)
  · exact calm_no
theorem ro_inF {neg : Bool} : RO K (rIn K neg) (inF neg) := by
  intro H ρ S x y xv yv Q hr dx dy h
  unfold inF at h
  cases e : seqOf S y with
  | none => rw [e] at h; exact h.elim
  | some ys =>
    rw [e] at h
    obtain ⟨⟨c1, c2⟩, h⟩ := ite_sat h
    obtain ⟨a, vs, rfl, hs, hd⟩ := seq_of hr dy e
    refine ⟨a, vs, rfl, hs, flat_of dx c1, flats_of hd c2, ?_⟩
    rw [ins_of dx c1 hd c2]
    exact ko_here hr h (.bl _)
/-! ### data as a whole -/
def optAll {α : Type} : List (Option α) → Option (List α)
  | [] => some []
  | none :: _ => none
  | some a :: r => (optAll r).map (a :: ·)
/-- the data, boxes opened, so deep at most -/
def pd (S : Bxs) : Nat → Dt → Option PyData
  | 0, _ => none
  | _ + 1, .non => some .none
  | _ + 1, .bl b => some (.bool b)
  | _ + 1, .int i => some (.int i)
  | _ + 1, .str x => some (.str x)
  | n + 1, .tup xs => (optAll (xs.map (pd S n))).map .tuple
  | n + 1, .box m => match S.seq m with
    | some xs => (optAll (xs.map (pd S n))).map .list
    | none => none
theorem dps_of {n : Nat} (ih : ∀ (d : Dt) (v : V) (p : PyData), DV K H ρ d v → pd S n d = some p → Dp K H v p) : ∀ (ds : List Dt) (vs : List V) (ps : List PyData), DVs K H ρ ds vs → optAll (ds.map (pd S n)) = some ps → DpAll K H vs ps
  | [], _, _, .nil, h => by cases h; exact .nil
  | x :: xs, _, ps, .cons hx hs, h => by
    rw [List.map_cons] at h
    cases e : pd S n x with
    | none => rw [e] at h; cases h
    | some p =>
      rw [e] at h
      unfold optAll at h
      cases e2 : optAll (xs.map (pd S n)) with
      | none => rw [e2] at h; cases h
      | some qs =>
        rw [e2] at h
        cases h
        exact .cons (ih x _ p hx e) (dps_of ih xs _ qs hs e2)
theorem dp_of (hr : HR K H ρ S) : ∀ (n : Nat) (d : Dt) (v : V) (p : PyData), DV K H ρ d v → pd S n d = some p → Dp K H v p
  | 0, _, _, _, _, h => by unfold pd at h; cases h
  | n + 1, .non, _, _, .non, h => by unfold pd at h; cases h; exact .non
  | n + 1, .bl b, _, _, .bl _, h => by unfold pd at h; cases h; exact .bl b
  | n + 1, .int i, _, _, .int _, h => by unfold pd at h; cases h; exact .int i
  | n + 1, .str x, _, _, .str _, h => by unfold pd at h; cases h; exact .str x
  | n + 1, .tup xs, _, p, .tup ht hd, h => by
    unfold pd at h
    cases e : optAll (xs.map (pd S n)) with
    | none => rw [e] at h; cases h
    | some ps =>
      rw [e] at h
      cases h
      exact .tup ht.sqt (dps_of (dp_of hr n) xs _ ps hd e)
  | n + 1, .box m, _, p, .box ha, h => by
    unfold pd at h
    cases e : S.seq m with
    | none => rw [e] at h; cases h
    | some xs =>
      rw [e] at h
      simp only at h
      cases e2 : optAll (xs.map (pd S n)) with
      | none => rw [e2] at h; cases h
      | some ps =>
        rw [e2] at h
        cases h
        obtain ⟨vs, h1, h2⟩ := hr.rd ha e
        exact .lst h1 (dps_of (dp_of hr n) xs vs ps h2 e2)
/-- so deep data may be -/
def DEEP : Nat := 60
def pdo (S : Bxs) (d : Dt) : Option PyData := pd S DEEP d
/-- x in a list of any data -/
def inDp (neg : Bool) : G2 := fun x y S => match y with
  | .box _ => match pdo S x, pdo S y with
    | some p, some (.list qs) => if SeqAt.shaped p = true ∧ SeqAt.shaped (.list qs) = true then .ok (.bl (if neg then !(qs.any fun z => PyData.eqv z p) else qs.any fun z => PyData.eqv z p)) S else .no
    | _, _ => .no
  | _ => .no
theorem inDp_calm (neg : Bool) : Calm2 (inDp neg) := by
  intro x y S
  unfold inDp
  split
  · split
    · exact calm_ite (calm_ok _ _)
    · exact calm_no
  · exact calm_no
def rInDN (K : PySem.W.Frag) (neg : Bool) : R2 := fun x y H Q => ∃ d ds, Dp K H x d ∧ Dp K H y (.list ds) ∧ SeqAt.shaped d = true ∧ SeqAt.shaped (.list ds) = true ∧ Q (.bl (if neg then !(ds.any fun z => PyData.eqv z d) else ds.any fun z => PyData.eqv z d)) H
theorem ro_inDp {neg : Bool} : RO K (rInDN K neg) (inDp neg) := by
  intro H ρ S x y xv yv Q hr dx dy h
  unfold inDp at h
  split at h
  · split at h
    · rename_i p qs e1 e2
      obtain ⟨⟨c1, c2⟩, h⟩ := ite_sat h
      exact ⟨p, qs, dp_of hr _ x xv p dx e1, dp_of hr _ _ yv _ dy e2, c1, c2, ko_here hr h (.bl _)⟩
    · exact h.elim
  · exact h.elim
/-- x in y -/
def inG0 (neg : Bool) : G2 := fun x y S => match dkO S y with
  | some kvs => match keyOf x with
    | some k => .ok (.bl (if neg then !(valD kvs k).isSome else (valD kvs k).isSome)) S
    | none => .no
  | none => if x.flat = true then inF neg x y S else inDp neg x y S
theorem inG0_calm (neg : Bool) : Calm2 (inG0 neg) := by
  intro x y S
  unfold inG0
  split
  · split
    · exact calm_ok _ _
    · exact calm_no
  · split
    · exact inF_calm neg x y S
    · exact inDp_calm neg x y S
def inG (neg : Bool) : G2 := fun x y S => match tget S y x with
  | some o => .ok (.bl (if neg then !o.isSome else o.isSome)) S
  | none => inG0 neg x y S
theorem inG_calm (neg : Bool) : Calm2 (inG neg) := by
  intro x y S
  unfold inG
  split
  · exact calm_ok _ _
  · exact inG0_calm neg x y S
def rInB (K : PySem.W.Frag) (neg : Bool) : R2 := fun x y H Q => rIn K neg x y H Q ∨ (rDIn neg x y H Q ∨ rInDN K neg x y H Q)
def rInA (K : PySem.W.Frag) (neg : Bool) : R2 := fun x y H Q => rInB K neg x y H Q ∨ rTIn K neg x y H Q
theorem u128 {k : Nat} {A : Around} (r : Room k A) : A.units + 128 < cLine := by have := r.un; omega
theorem op_inA (hu : X.A.units + 128 < cLine) : OpR X (compareOp .In) (rInA X.K false) := (op_in_seq.or ((op_din (by omega)).or (op_inD (by omega)))).or (op_tin (by omega))
theorem op_ninA (hu : X.A.units + 128 < cLine) : OpR X (compareOp .NotIn) (rInA X.K true) := (op_notIn_seq.or ((op_dnin (by omega)).or (op_notInD (by omega)))).or (op_tnin (by omega))
theorem ro_in0 {neg : Bool} : RO K (rInB K neg) (inG0 neg) := by
  intro H ρ S x y xv yv Q hr dx dy h
  unfold inG0 at h
  cases e : dkO S y with
  | none =>
    rw [e] at h
    simp only at h
    by_cases hf : x.flat = true
    · rw [if_pos hf] at h
      exact .inl (ro_inF H ρ S x y xv yv Q hr dx dy h)
    · rw [if_neg hf] at h
      exact .inr (.inr (ro_inDp H ρ S x y xv yv Q hr dx dy h))
  | some kvs =>
    rw [e] at h
    simp only at h
    cases ek : keyOf x with
    | none => rw [ek] at h; exact h.elim
    | some k =>
      rw [ek] at h
      obtain ⟨n, a, ws, rfl, rfl, ha, hH, hd⟩ := dkO_some hr dy e
      refine .inr (.inl ⟨a, valV ws k, rfl, by rw [key_dv dx ek]; exact DGet.rd hH, ?_⟩)
      rw [← dps_isSome hd k]
      exact ko_here hr h (.bl _)
theorem ro_in {neg : Bool} : RO K (rInA K neg) (inG neg) := by
  intro H ρ S x y xv yv Q hr dx dy h
  unfold inG at h
  cases e : tget S y x with
  | none =>
    rw [e] at h
    exact .inl (ro_in0 H ρ S x y xv yv Q hr dx dy h)
  | some o =>
    rw [e] at h
    obtain ⟨a, b, k, xs, rfl, rfl, tk, t, es, _⟩ := tget_some hr dy dx e
    refine .inr ⟨a, b, k, xs, rfl, rfl, tk, t, ?_⟩
    rw [← es]
    exact ko_here hr h (.bl _)
def eqG (neg : Bool) : G2 := fun x y S => match pdo S x, pdo S y with
  | some p, some q => if SeqAt.shaped p = true ∧ SeqAt.shaped q = true then .ok (.bl (if neg then !PyData.eqv p q else PyData.eqv p q)) S else .no
  | _, _ => .no
theorem eqG_calm (neg : Bool) : Calm2 (eqG neg) := by
  intro x y S
  unfold eqG
  split
  · exact calm_ite (calm_ok _ _)
  · exact calm_no
def rEqN (K : PySem.W.Frag) (neg : Bool) : R2 := fun x y H Q => ∃ d e, Dp K H x d ∧ Dp K H y e ∧ SeqAt.shaped d = true ∧ SeqAt.shaped e = true ∧ Q (.bl (if neg then !PyData.eqv d e else PyData.eqv d e)) H
theorem op_eqN (hu : X.A.units + 128 < cLine) : OpR X (compareOp .Eq) (rEqN X.K false) := op_eqD (by omega)
theorem op_neN (hu : X.A.units + 128 < cLine) : OpR X (compareOp .NotEq) (rEqN X.K true) := op_neD (by omega)
theorem ro_eq {neg : Bool} : RO K (rEqN K neg) (eqG neg) := by
  intro H ρ S x y xv yv Q hr dx dy h
  unfold eqG at h
  cases e : pdo S x with
  | none => rw [e] at h; exact h.elim
  | some p =>
    cases e2 : pdo S y with
    | none => rw [e, e2] at h; exact h.elim
    | some q =>
      rw [e, e2] at h
      obtain ⟨⟨c1, c2⟩, h⟩ := ite_sat h
      exact ⟨p, q, dp_of hr _ x xv p dx e, dp_of hr _ y yv q dy e2, c1, c2, ko_here hr h (.bl _)⟩
/-! ### x[i], x[a:b] -/
def ixL : G2 := fun x y S => match y with
  | .int i => match x with
    | .str z => if z.length ≤ strLim then match atI z.cps.toList i with
      | some c => .ok (.str ⟨#[c]⟩) S
      | none => .no else .no
    | _ => match seqOf S x with
      | some xs => match atI xs i with
        | some d => .ok d S
        | none => .no
      | none => .no
  | _ => .no
theorem DVs.atI {ds : List Dt} {vs : List V} {i : Int} {d : Dt} (h : DVs K H ρ ds vs) (e : L2.atI ds i = some d) : ∃ v, L2.atI vs i = some v ∧ DV K H ρ d v := by
  unfold L2.atI at e ⊢
  rw [← h.length]
  cases hj : ixN ds.length i with
  | none => rw [hj] at e; cases e
  | some j =>
    rw [hj] at e
    exact h.get e
theorem ro_ixL : RO K (rIx K) ixL := by
  intro H ρ S x y xv yv Q hr dx dy h
  cases dy <;> first | exact h.elim | skip
  rename_i i
  unfold ixL at h
  simp only at h
  cases dx
  case str z =>
    simp only at h
    obtain ⟨c, h⟩ := ite_sat h
    cases e : atI z.cps.toList i with
    | none => rw [e] at h; exact h.elim
    | some c' =>
      rw [e] at h
      exact .inr (.inr ⟨z, i, c', rfl, rfl, Nat.le_trans c (by decide), e, ko_here hr h (.str _)⟩)
  case tup a ds vs ht hd =>
    simp only [seqOf] at h
    cases e : L2.atI ds i with
    | none => rw [e] at h; exact h.elim
    | some d =>
      rw [e] at h
      obtain ⟨v, h1, h2⟩ := hd.atI e
      exact .inr (.inl ⟨a, vs, i, v, rfl, rfl, ht.sqt, h1, ko_here hr h h2⟩)
  case box n a ha =>
    simp only [seqOf] at h
    cases e0 : S.seq n with
    | none => rw [e0] at h; exact h.elim
    | some xs =>
      rw [e0] at h
      simp only at h
      obtain ⟨vs, h1, h2⟩ := hr.rd ha e0
      cases e : L2.atI xs i with
      | none => rw [e] at h; exact h.elim
      | some d =>
        rw [e] at h
        obtain ⟨v, h3, h4⟩ := h2.atI e
        exact .inl ⟨a, vs, i, v, rfl, rfl, h1, h3, ko_here hr h h4⟩
  all_goals (simp only [seqOf] at h; exact h.elim)
theorem ixL_calm : Calm2 ixL := by
  intro x y S c ds S'
  unfold ixL
  split <;> try exact calm_no _ _ _
  split
  · split
    · split
      · exact calm_ok _ _ _ _ _
      · exact calm_no _ _ _
    · exact calm_no _ _ _
  · split
    · split
      · exact calm_ok _ _ _ _ _
      · exact calm_no _ _ _
    · exact calm_no _ _ _
def ixG0 : G2 := fun x y S => match dkO S x with
  | some kvs => dgetG kvs y S
  | none => ixL x y S
theorem ixG0_calm : Calm2 ixG0 := by
  intro x y S
  unfold ixG0
  split
  · exact dgetG_calm _ _ _
  · exact ixL_calm x y S
theorem ro_ix0 : RO K (fun x y H Q => rIx K x y H Q ∨ rDGet x y H Q) ixG0 := by
  intro H ρ S x y xv yv Q hr dx dy h
  unfold ixG0 at h
  cases e : dkO S x with
  | none =>
    rw [e] at h
    exact .inl (ro_ixL H ρ S x y xv yv Q hr dx dy h)
  | some kvs =>
    rw [e] at h
    exact .inr (dget_sat hr dx dy e h)
def ixG : G2 := fun x y S => match tget S x y with
  | some (some d) => .ok d S
  | some none => .no
  | none => ixG0 x y S
theorem ixG_calm : Calm2 ixG := by
  intro x y S
  unfold ixG
  split
  · exact calm_ok _ _
  · exact calm_no
  · exact ixG0_calm x y S
theorem ro_ix : RO K (fun x y H Q => (rIx K x y H Q ∨ rDGet x y H Q) ∨ rTIx K x y H Q) ixG := by
  intro H ρ S x y xv yv Q hr dx dy h
  unfold ixG at h
  cases e : tget S x y with
  | none =>
    rw [e] at h
    exact .inl (ro_ix0 H ρ S x y xv yv Q hr dx dy h)
  | some o =>
    rw [e] at h
    obtain ⟨a, b, k, xs, rfl, rfl, tk, t, es, c⟩ := tget_some hr dx dy e
    rcases c with ⟨d, v, u, rfl, e1, r, dv⟩ | ⟨rfl, _⟩
    · exact .inr ⟨a, b, k, xs, u, v, rfl, rfl, tk, t, e1, r, ko_here hr h dv⟩
    · exact h.elim
theorem se_ix {a b : Expr} {pos : Pos} {fa fb : FE} (hu : X.A.units + 128 < cLine) (ha : SE X Er a fa) (hb : SE X Er b fb) (hs : PlainIx b := by intro _ _; rfl) : SE X Er (.Subscript a b pos) (dBin ixG fa fb) := by
  obtain ⟨ta, pa, qa⟩ := ha.ex
  obtain ⟨tb, pb, qb⟩ := hb.ex
  exact ⟨_, pe_ix ((ix_seq.or (ix_dict (by omega))).or (ix_dt (by omega))) pa pb hs, fun τ H ρ σ S Q T h => bin_sat qa qb ro_ix ixG_calm T h⟩
abbrev FO := Sg → Bxs → Rs (Option Int)
structure SO (X : Cx) (Er : ER) (e : Option Expr) (f : FO) : Prop where
  ex : ∃ t, PO X e t ∧ ∀ τ H ρ σ S (Q : Option Int → Hp → Prop), Ty X.K H ρ σ S τ → (f σ S).Sat (fun o S' => ∀ H' ρ', To H H' ρ ρ' → HR X.K H' ρ' S' → Q o H') (KX Er H ρ) → t τ H Q
def oNone : FO := fun _ S => .ok none S
def oSome (f : FE) : FO := fun σ S => (f σ S).bind fun d S1 => match d with
  | .int i => .ok (some i) S1
  | _ => .no
theorem so_none : SO X Er none oNone := ⟨_, po_none, fun τ H ρ σ S Q T h => h H ρ (To.refl _ _) T.hr⟩
theorem so_some {e : Expr} {f : FE} (h : SE X Er e f) : SO X Er (some e) (oSome f) := by
  obtain ⟨te, p, q⟩ := h.ex
  refine ⟨_, po_some p, fun τ H ρ σ S Q T h => q τ H ρ σ S _ T ((link h).mono (fun d S1 h1 => ?_) fun _ _ _ q => q)⟩
  intro v H' ρ' t hr dv
  cases dv <;> first | exact h1.elim | skip
  exact ⟨_, rfl, h1 H' ρ' t hr⟩
def cutD (xs : List Dt) (lo hi : Option Int) : List Dt := (xs.drop (HT.sIx xs.length 0 lo)).take (HT.sIx xs.length xs.length hi - HT.sIx xs.length 0 lo)
theorem DVs.cut {ds : List Dt} {vs : List V} (h : DVs K H ρ ds vs) (lo hi : Option Int) : DVs K H ρ (cutD ds lo hi) (cutV vs lo hi) := by
  unfold cutD cutV
  rw [← h.length]
  exact (h.drop _).take _
theorem cutD_length (xs : List Dt) (lo hi : Option Int) : (cutD xs lo hi).length ≤ xs.length := by
  unfold cutD
  rw [List.length_take, List.length_drop]
  omega
theorem cutD_whole {xs : List Dt} {lo hi : Option Int} (h : wholeCut xs.length lo hi = true) : cutD xs lo hi = xs := by
  unfold wholeCut at h
  rw [Bool.and_eq_true, decide_eq_true_eq, decide_eq_true_eq] at h
  unfold cutD
  rw [h.1, h.2, List.drop_zero, Nat.sub_zero, List.take_length]
def slG (lo hi : Option Int) (x : Dt) (S : Bxs) : Rs Dt := match x with
  | .str z => if z.length ≤ strLim then .ok (.str (cutS z lo hi)) S else .no
  | .tup xs => .ok (.tup (cutD xs lo hi)) S
  | .box n => match S.seq n with
    | some xs => newL (cutD xs lo hi) S
    | none => .no
  | _ => .no
def dSl (f : FE) (lo hi : FO) : FE := fun σ S => (f σ S).bind fun d S1 => (lo σ S1).bind fun l S2 => (hi σ S2).bind fun u S3 => slG l u d S3
def rSlAll (K : PySem.W.Frag) : V → Option Int → Option Int → Hp → VK → Prop := fun x lo hi H Q => rSlL K x lo hi H Q ∨ (rSlZ K x lo hi H Q ∨ rSlS x lo hi H Q)
theorem sl_all : SlR X (rSlAll X.K) := sl_list.or (sl_tupZ.or sl_str)
theorem slG_calm (lo hi : Option Int) (x : Dt) (S : Bxs) (c : Nat) (es : List Dt) (S' : Bxs) : slG lo hi x S ≠ .ex c es S' := by
  unfold slG
  split
  · exact calm_ite (calm_ok _ _) _ _ _
  · exact calm_ok _ _ _ _ _
  · split
    · exact newL_calm _ _ _ _ _
    · exact calm_no _ _ _
  · exact calm_no _ _ _
theorem sl_sat {lo hi : Option Int} {d : Dt} {v : V} {Q : VK} (hr : HR K H ρ S) (dv : DV K H ρ d v) (h : (slG lo hi d S).Sat (KO K H ρ Q) noX) : rSlAll K v lo hi H Q := by
  cases dv <;> first | exact h.elim | skip
  · obtain ⟨c, h⟩ := ite_sat h
    exact .inr (.inr ⟨_, rfl, Nat.le_trans c (by decide), ko_here hr h (.str _)⟩)
  · rename_i a ds vs ht hd
    refine .inr (.inl ⟨a, vs, rfl, ht.sqt, fun z => ?_, fun _ => new_tup hr (hd.cut lo hi) h⟩)
    have h' : KO K H ρ Q (.tup (cutD ds lo hi)) S := h
    rw [cutD_whole (by rw [hd.length]; exact z)] at h'
    exact ko_here hr h' (.tup ht hd)
  · rename_i n a ha
    unfold slG at h
    simp only at h
    cases e : S.seq n with
    | none => rw [e] at h; exact h.elim
    | some xs =>
      rw [e] at h
      obtain ⟨hl, h⟩ := newL_ok h
      obtain ⟨vs, h1, h2⟩ := hr.rd ha e
      exact .inl ⟨a, vs, rfl, h1, fun p hp => new_lst hr (h2.cut lo hi) hp h⟩
theorem se_slice {e : Expr} {lo hi : Option Expr} {f : FE} {fl fh : FO} {p2 pos : Pos} (he : SE X Er e f) (hl : SO X Er lo fl) (hh : SO X Er hi fh) : SE X Er (.Subscript e (.Slice lo hi none p2) pos) (dSl f fl fh) := by
  obtain ⟨te, pe, qe⟩ := he.ex
  obtain ⟨tl, pl, ql⟩ := hl.ex
  obtain ⟨th, ph, qh⟩ := hh.ex
  refine ⟨_, pe_slice sl_all pe pl ph, fun τ H ρ σ S Q T h => qe τ H ρ σ S _ T ((link h).mono (fun d S1 h1 => ?_) fun _ _ _ q => q)⟩
  intro v H1 ρ1 t1 hr1 dv
  refine ql τ H1 ρ1 σ S1 _ (T.to t1 hr1) ((link h1).mono (fun l S2 h2 => ?_) fun _ _ _ q => q.to t1)
  intro H2 ρ2 t2 hr2
  refine qh τ H2 ρ2 σ S2 _ (T.to (t1.trans t2) hr2) ((link h2).mono (fun u S3 h3 => ?_) fun _ _ _ q => q.to (t1.trans t2))
  intro H3 ρ3 t3 hr3
  exact sl_sat hr3 (dv.to (t2.trans t3)) (sat_calm (slG_calm _ _ _ _) (Rs.Sat.toO ((t1.trans t2).trans t3) h3))
/-! ### calls of built-ins -/
abbrev GC := List Dt → Bxs → Rs Dt
def CalmC (g : GC) : Prop := ∀ ds S c es S', g ds S ≠ .ex c es S'
def RCo (K : PySem.W.Frag) (r : List V → Hp → VK → Prop) (g : GC) : Prop := ∀ H ρ S ds vs Q, HR K H ρ S → DVs K H ρ ds vs → (g ds S).Sat (KO K H ρ Q) noX → r vs H Q
def dCall (g : GC) (a : FA) : FE := fun σ S => (a σ S).bind g
theorem call_sat {fa : FA} {g : GC} {ta : TA} {r : List V → Hp → VK → Prop} (ha : ∀ τ H ρ σ S Q, Ty X.K H ρ σ S τ → (fa σ S).Sat (KA X.K H ρ Q) (KX Er H ρ) → ta τ H Q)
    (hr : RCo X.K r g) (hc : CalmC g) {τ : L2.St} {Q : VK} (T : Ty X.K H ρ σ S τ) (h : (dCall g fa σ S).Sat (KO X.K H ρ Q) (KX Er H ρ)) : ta τ H fun vs H1 => r vs H1 Q := by
  refine ha τ H ρ σ S _ T ((link h).mono (fun ds S1 h1 => ?_) fun _ _ _ q => q)
  intro vs H1 ρ1 t1 hr1 dvs
  exact hr H1 ρ1 S1 ds vs Q hr1 dvs (sat_calm (hc ds S1) (Rs.Sat.toO t1 h1))
theorem se_callB {x : Str} {p pos : Pos} {e : Expr} {es : List Expr} {id : String} {r : List V → Hp → VK → Prop} {g : GC} {fa : FA} (hc : CallR X (.builtin id) r) (hr : RCo X.K r g) (hcalm : CalmC g) (hg : Gl X x) (hm : X.mg x = none) (hv : bootBuiltins x = some (.builtin id))
    (ha : SA X Er (e :: es) fa) (hn : x ≠ "__name__" := by decide) (hdb : (x == ("__debug__" : Str)) = false := by decide)
    (he : starEach (e :: es) X.env = (false, eval e X.env) :: starEach es X.env := by rfl) (hpl : (backTo pos (starEach es X.env)).any (·.1) = false := by rfl) : SE X Er (.Call (.Name x p) (e :: es) [] pos) (dCall g fa) := by
  obtain ⟨ta, pa, qa⟩ := ha.ex
  exact ⟨_, pe_callB hc hg hm hv pa hn hdb he hpl, fun τ H ρ σ S Q T h => call_sat qa hr hcalm T h⟩
theorem se_callTy {x : Str} {p pos : Pos} {e : Expr} {es : List Expr} {tn : String} {r : List V → Hp → VK → Prop} {g : GC} {fa : FA} (hc : CallR X (.type tn) r) (hr : RCo X.K r g) (hcalm : CalmC g) (hg : Gl X x) (hm : X.mg x = none) (hv : bootBuiltins x = some (.type tn))
    (ha : SA X Er (e :: es) fa) (hn : x ≠ "__name__" := by decide) (hdb : (x == ("__debug__" : Str)) = false := by decide)
    (he : starEach (e :: es) X.env = (false, eval e X.env) :: starEach es X.env := by rfl) (hpl : (backTo pos (starEach es X.env)).any (·.1) = false := by rfl) : SE X Er (.Call (.Name x p) (e :: es) [] pos) (dCall g fa) := by
  obtain ⟨ta, pa, qa⟩ := ha.ex
  exact ⟨_, pe_callTy hc hg hm hv pa hn hdb he hpl, fun τ H ρ σ S Q T h => call_sat qa hr hcalm T h⟩
end
end Mn
set_option Elab.async false
set_option linter.all false
set_option maxRecDepth 100000
set_option maxHeartbeats 4000000
/-! MnE: targets, statements, loops, comprehensions. -/
namespace Mn
open PySem PySem.Spec PyProof.Rows L2
section
variable {X : Cx} {Er : ER} {K : PySem.W.Frag} {H H1 : Hp} {ρ ρ1 : List Addr} {σ : Sg} {S S1 : Bxs} {τ : L2.St}
/-! ### one form for each judgement -/
def canE (K : PySem.W.Frag) (Er : ER) (f : FE) : TE := fun τ H Q => ∃ ρ σ S, Ty K H ρ σ S τ ∧ (f σ S).Sat (KO K H ρ Q) (KX Er H ρ)
def canT (K : PySem.W.Frag) (Er : ER) (f : FB) : TT := fun τ H Q => ∃ ρ σ S, Ty K H ρ σ S τ ∧ (f σ S).Sat (KB K H ρ Q) (KX Er H ρ)
theorem SE.can {e : Expr} {f : FE} (h : SE X Er e f) : PE X e (canE X.K Er f) := by
  obtain ⟨te, p, q⟩ := h.ex
  exact ⟨fun pins s σ H Q I ⟨ρ, σ', S, T, hs⟩ => p.run pins s σ H Q I (q _ _ _ _ _ _ T hs)⟩
theorem ST.can {e : Expr} {f : FB} (h : ST X Er e f) : PT X e (canT X.K Er f) := by
  obtain ⟨te, p, q⟩ := h.ex
  exact ⟨fun pins s σ H Q I ⟨ρ, σ', S, T, hs⟩ => p.run pins s σ H Q I (q _ _ _ _ _ _ T hs)⟩
/-! ### targets -/
abbrev FT := Dt → Sg → Bxs → Rs Sg
abbrev FTs := List Dt → Sg → Bxs → Rs Sg
def KS (K : PySem.W.Frag) (H : Hp) (ρ : List Addr) (Q : L2.St → Hp → Prop) : Sg → Bxs → Prop := fun σ' S' => ∀ τ' H' ρ', To H H' ρ ρ' → Ty K H' ρ' σ' S' τ' → Q τ' H'
structure SG (X : Cx) (Er : ER) (tg : Expr) (g : FT) : Prop where
  ex : ∃ t, PG X tg t ∧ ∀ v d τ H ρ σ S Q, Ty X.K H ρ σ S τ → DV X.K H ρ d v → (g d σ S).Sat (KS X.K H ρ Q) (KX Er H ρ) → t v τ H Q
structure SGs (X : Cx) (Er : ER) (ts : List Expr) (g : FTs) : Prop where
  ex : ∃ t, PGs X ts t ∧ ∀ vs ds τ H ρ σ S Q, Ty X.K H ρ σ S τ → DVs X.K H ρ ds vs → (g ds σ S).Sat (KS X.K H ρ Q) (KX Er H ρ) → t vs τ H Q
theorem Rs.Sat.toS {r : Rs Sg} {Q : L2.St → Hp → Prop} (t : To H H1 ρ ρ1) (h : r.Sat (KS K H ρ Q) (KX Er H ρ)) : r.Sat (KS K H1 ρ1 Q) (KX Er H1 ρ1) :=
  h.mono (fun _ _ q τ' H' ρ' t' => q τ' H' ρ' (t.trans t')) fun _ _ _ q => q.to t
def tName (i : Nat) : FT := fun d σ S => .ok (σ.set i (some d)) S
theorem sg_name (i : Nat) {x : Str} {pos : Pos} (hN : X.N.Nodup) (hi : X.N[i]? = some x := by rfl) (hx : Loc X.env.scope x := by first | exact .inl rfl | exact .inr rfl) (hf : X.fn x = true ∨ X.env.scope.names.lookup x = some .local := by first | exact .inl rfl | exact .inr rfl) : SG X Er (.Name x pos) (tName i) :=
  ⟨_, pg_name hN hi hx hf, fun v d τ H ρ σ S Q T dv h => h _ H ρ (To.refl _ _) ⟨T.hr, T.sl.set i dv⟩⟩
def tNilG : FTs := fun ds σ S => match ds with
  | [] => .ok σ S
  | _ => .no
def tConsG (g : FT) (r : FTs) : FTs := fun ds σ S => match ds with
  | d :: ds => (g d σ S).bind fun σ1 S1 => r ds σ1 S1
  | [] => .no
theorem sgs_nil : SGs X Er [] tNilG := by
  refine ⟨_, pgs_nil, fun vs ds τ H ρ σ S Q T dv h => ?_⟩
  cases dv with
  | nil => exact ⟨rfl, h τ H ρ (To.refl _ _) T⟩
  | cons _ _ => exact h.elim
theorem sgs_cons {e : Expr} {es : List Expr} {g : FT} {r : FTs} (h1 : SG X Er e g) (h2 : SGs X Er es r) (hs : (assignEach (e :: es) X.env).map (·.2) = assign e X.env :: (assignEach es X.env).map (·.2) := by rfl) : SGs X Er (e :: es) (tConsG g r) := by
  obtain ⟨t1, p1, q1⟩ := h1.ex
  obtain ⟨t2, p2, q2⟩ := h2.ex
  refine ⟨_, pgs_cons p1 p2 hs, fun vs ds τ H ρ σ S Q T dv h => ?_⟩
  cases dv with
  | nil => exact h.elim
  | cons dx dxs =>
    refine ⟨_, _, rfl, q1 _ _ τ H ρ σ S _ T dx ((link h).mono (fun σ1 S1 h1 => ?_) fun _ _ _ q => q)⟩
    intro τ1 H1 ρ1 t T1
    exact q2 _ _ τ1 H1 ρ1 σ1 S1 Q T1 (dxs.to t) (Rs.Sat.toS t h1)
/-- (a, b, ..) = a tuple -/
def tTupG (n : Nat) (g : FTs) : FT := fun d σ S => match d with
  | .tup xs => if xs.length = n then g xs σ S else .no
  | _ => .no
theorem sg_tup {es : List Expr} {k n : Nat} {pos : Pos} {g : FTs} (hc : X.calm = true) (h : SGs X Er es g) (hn : (assignEach es X.env).length = n := by rfl) (hst : (assignEach es X.env).findIdx? (·.1) = none := by rfl) : SG X Er (.Tuple es k pos) (tTupG n g) := by
  obtain ⟨t, p, q⟩ := h.ex
  refine ⟨_, pg_tup hc p hn hst, fun v d τ H ρ σ S Q T dv h => ?_⟩
  cases dv <;> first | exact h.elim | skip
  rename_i a ds vs ht hd
  obtain ⟨c, h⟩ := ite_sat h
  exact ⟨a, vs, rfl, ht.sqt, by rw [← hd.length]; exact c, q _ _ τ H ρ σ S Q T hd h⟩
/-- xs[i] = .. of a list -/
def setL (o i d : Dt) (S : Bxs) : Rs Unit := match o, i with
  | .box n, .int k => match S.lst n with
    | some xs => match ixN xs.length k with
      | some j => .ok () (S.set n (.lst (xs.set j d)))
      | none => .no
    | none => .no
  | _, _ => .no
theorem setL_sat {o i d : Dt} {ov iv v : V} {Q : Hp → Prop} (hr : HR K H ρ S) (dO : DV K H ρ o ov) (di : DV K H ρ i iv) (dv : DV K H ρ d v)
    (h : (setL o i d S).Sat (fun _ S' => ∀ H' , To H H' ρ ρ → HR K H' ρ S' → Q H') noX) : rSetL ov iv v H Q := by
  cases dO <;> first | exact h.elim | skip
  rename_i n a ha
  cases di <;> first | exact h.elim | skip
  rename_i k
  unfold setL at h
  simp only at h
  cases e : S.lst n with
  | none => rw [e] at h; exact h.elim
  | some xs =>
    rw [e] at h
    simp only at h
    cases e2 : ixN xs.length k with
    | none => rw [e2] at h; exact h.elim
    | some j =>
      rw [e2] at h
      obtain ⟨vs, h1, h2⟩ := hr.mu ha e
      exact ⟨a, vs, k, j, rfl, rfl, h1, by rw [← h2.length]; exact e2, h _ ⟨Ext.set h1, List.prefix_refl _⟩ (hr.set (lst_get e) ha h1 (h2.set dv j))⟩
theorem setL_calm (o i d : Dt) (S : Bxs) : ∀ c es S', setL o i d S ≠ .ex c es S' := by
  intro c es S'
  unfold setL
  split
  · split
    · split
      · exact calm_ok _ _ _ _ _
      · exact calm_no _ _ _
    · exact calm_no _ _ _
  · exact calm_no _ _ _
/-- d[k] = .. of a dict -/
def dsetG (o i d : Dt) (kvs : List (Key × Dt)) (S : Bxs) : Rs Unit := match o, keyOf i with
  | .box n, some k => if kvs.length < LIM then .ok () (S.set n (.dk (putD kvs k d))) else .no
  | _, _ => .no
/-- x[i] = .. -/
def setG0 (o i d : Dt) (S : Bxs) : Rs Unit := match dkW S o with
  | some kvs => dsetG o i d kvs S
  | none => setL o i d S
theorem setG0_calm (o i d : Dt) (S : Bxs) : ∀ c es S', setG0 o i d S ≠ .ex c es S' := by
  intro c es S'
  unfold setG0
  split
  · unfold dsetG
    split
    · exact calm_ite (calm_ok _ _) _ _ _
    · exact calm_no _ _ _
  · exact setL_calm _ _ _ _ _ _ _
theorem set_sat0 {o i d : Dt} {ov iv v : V} {Q : Hp → Prop} (hr : HR K H ρ S) (dO : DV K H ρ o ov) (di : DV K H ρ i iv) (dv : DV K H ρ d v)
    (h : (setG0 o i d S).Sat (fun _ S' => ∀ H' , To H H' ρ ρ → HR K H' ρ S' → Q H') noX) : rSetL ov iv v H Q ∨ rDSet ov iv v H Q := by
  unfold setG0 at h
  cases e : dkW S o with
  | none =>
    rw [e] at h
    exact .inl (setL_sat hr dO di dv h)
  | some kvs =>
    rw [e] at h
    simp only at h
    obtain ⟨n, a, ws, rfl, rfl, ha, hn, hH, hd⟩ := dkW_some hr dO e
    unfold dsetG at h
    cases ek : keyOf i with
    | none => rw [ek] at h; exact h.elim
    | some k =>
      rw [ek] at h
      obtain ⟨c, h⟩ := ite_sat h
      refine .inr ⟨a, _, rfl, by rw [key_dv di ek]; exact DPut.k hH (by rw [← hd.length]; exact lim_lt c), h _ ⟨Ext.setD hH, List.prefix_refl _⟩ (hr.setD hn ha hH (dps_put dv hd))⟩
def tsetG (o i d : Dt) (S : Bxs) : Option (Rs Unit) := match o, tiOf i, dtO S o with
  | .box n, some k, some kvs => some (if kvs.length < LIM then .ok () (S.set n (.dt (putT kvs k d))) else .no)
  | _, _, _ => none
def setG (o i d : Dt) (S : Bxs) : Rs Unit := match tsetG o i d S with
  | some r => r
  | none => setG0 o i d S
theorem setG_calm (o i d : Dt) (S : Bxs) : ∀ c es S', setG o i d S ≠ .ex c es S' := by
  intro c es S'
  unfold setG tsetG
  split
  · rename_i r e
    split at e
    · cases e
      exact calm_ite (calm_ok _ _) _ _ _
    · cases e
  · exact setG0_calm _ _ _ _ _ _ _
theorem set_sat {o i d : Dt} {ov iv v : V} {Q : Hp → Prop} (hr : HR K H ρ S) (dO : DV K H ρ o ov) (di : DV K H ρ i iv) (dv : DV K H ρ d v)
    (h : (setG o i d S).Sat (fun _ S' => ∀ H' , To H H' ρ ρ → HR K H' ρ S' → Q H') noX) : (rSetL ov iv v H Q ∨ rDSet ov iv v H Q) ∨ rTSet K ov iv v H Q := by
  unfold setG at h
  cases e : tsetG o i d S with
  | none =>
    rw [e] at h
    exact .inl (set_sat0 hr dO di dv h)
  | some r =>
    rw [e] at h
    unfold tsetG at e
    split at e
    · rename_i n k kvs e1 e2
      cases e
      obtain ⟨c, h⟩ := ite_sat h
      obtain ⟨b, rfl, tk⟩ := tiOf_dv di e1
      obtain ⟨n', a, xs, en, rfl, ha, hn, t, kt⟩ := dtO_some hr dO e2
      cases en
      refine .inr ⟨a, b, k, xs, rfl, rfl, tk, t, by rw [← kt.length]; exact lim_lt c, fun u ru => ?_⟩
      have ex : Ext H (upd H a (DtO a (storedH xs k b u))) := by
        rcases t with ⟨q, _⟩ | ⟨q, _⟩
        · exact Ext.setT q
        · exact Ext.setD q
      refine h _ ⟨ex, List.prefix_refl _⟩ ?_
      have hb : ∃ bx, S[n]? = some bx ∧ bx.mu = true := by
        rcases dt_get hn with q | ⟨q, _⟩
        · exact ⟨_, q, rfl⟩
        · exact ⟨_, q, rfl⟩
      obtain ⟨bx, hb1, hb2⟩ := hb
      exact hr.setB hb1 hb2 rfl ha ex ⟨_, upd_same, (kt_put tk dv ru kt).mono ex (List.prefix_refl _)⟩
    · cases e
def tSubG (o i : FE) : FT := fun d σ S => (o σ S).bind fun a S1 => (i σ S1).bind fun b S2 => (setG a b d S2).bind fun _ S3 => .ok σ S3
theorem sg_sub {o i : Expr} {fo fi : FE} {pos : Pos} (hu : X.A.units + 128 < cLine) (ho : SE X Er o fo) (hi : SE X Er i fi)
    (ha : ∀ v, assign (.Subscript o i pos) X.env v = (do
      let ov ← holding [v] (eval o X.env)
      let iv ← holding [v, ov] (eval i X.env)
      standAt pos
      holding [v, ov, iv] (setItem ov iv v)
      release [v, ov, iv] []) := by intro _; rfl) : SG X Er (.Subscript o i pos) (tSubG fo fi) := by
  obtain ⟨to, po, qo⟩ := ho.ex
  obtain ⟨ti, pi, qi⟩ := hi.ex
  refine ⟨_, pg_sub po pi (PSet.or (PSet.or set_list (set_dict (by omega))) (set_dt (by omega))) ha, fun v d τ H ρ σ S Q T dv h => qo τ H ρ σ S _ T ((link h).mono (fun a S1 h1 => ?_) fun _ _ _ q => q)⟩
  intro ov H1 ρ1 t1 hr1 da
  refine qi τ H1 ρ1 σ S1 _ (T.to t1 hr1) ((link h1).mono (fun b S2 h2 => ?_) fun _ _ _ q => q.to t1)
  intro iv H2 ρ2 t2 hr2 db
  refine set_sat hr2 (da.to t2) db (dv.to (t1.trans t2)) (sat_calm (setG_calm _ _ _ _) ((link h2).mono (fun _ S3 h3 => ?_) fun _ _ _ q => q))
  intro H3 t3 hr3
  exact h3 τ H3 ρ2 ((t1.trans t2).trans t3) (T.to ((t1.trans t2).trans t3) hr3)
/-! ### statements -/
inductive Fl where
  | nx | rt (d : Dt) | bk | ct
abbrev FS := Sg → Bxs → Rs (Fl × Sg)
def KF (K : PySem.W.Frag) (H : Hp) (ρ : List Addr) (D : Ends) : Fl × Sg → Bxs → Prop := fun r S' => match r.1 with
  | .nx => KS K H ρ D.nx r.2 S'
  | .rt d => KO K H ρ D.rt d S'
  | .bk => KS K H ρ D.bk r.2 S'
  | .ct => KS K H ρ D.ct r.2 S'
theorem KF.to {D : Ends} {r : Fl × Sg} {S' : Bxs} (t : To H H1 ρ ρ1) (h : KF K H ρ D r S') : KF K H1 ρ1 D r S' := by
  obtain ⟨fl, σ'⟩ := r
  cases fl with
  | nx => exact fun τ' H' ρ' t' => h τ' H' ρ' (t.trans t')
  | rt d => exact fun v H' ρ' t' => h v H' ρ' (t.trans t')
  | bk => exact fun τ' H' ρ' t' => h τ' H' ρ' (t.trans t')
  | ct => exact fun τ' H' ρ' t' => h τ' H' ρ' (t.trans t')
theorem Rs.Sat.toF {r : Rs (Fl × Sg)} {D : Ends} (t : To H H1 ρ ρ1) (h : r.Sat (KF K H ρ D) (KX Er H ρ)) : r.Sat (KF K H1 ρ1 D) (KX Er H1 ρ1) :=
  h.mono (fun _ _ q => q.to t) fun _ _ _ q => q.to t
structure SS (X : Cx) (Er : ER) (st : Stmt) (f : FS) : Prop where
  ex : ∃ ts, PS X st ts ∧ ∀ τ H ρ σ S D, Ty X.K H ρ σ S τ → (f σ S).Sat (KF X.K H ρ D) (KX Er H ρ) → ts D τ H
structure SSs (X : Cx) (Er : ER) (st : List Stmt) (f : FS) : Prop where
  ex : ∃ ts, PSs X st ts ∧ ∀ τ H ρ σ S D, Ty X.K H ρ σ S τ → (f σ S).Sat (KF X.K H ρ D) (KX Er H ρ) → ts D τ H
def sNil : FS := fun σ S => .ok (.nx, σ) S
def sCons (f g : FS) : FS := fun σ S => (f σ S).bind fun r S1 => match r.1 with
  | .nx => g r.2 S1
  | _ => .ok r S1
theorem ss_nil : SSs X Er [] sNil := ⟨_, pss_nil, fun τ H ρ σ S D T h => h τ H ρ (To.refl _ _) T⟩
theorem ss_cons {st : Stmt} {rest : List Stmt} {f g : FS} (h1 : SS X Er st f) (h2 : SSs X Er rest g) : SSs X Er (st :: rest) (sCons f g) := by
  obtain ⟨t1, p1, q1⟩ := h1.ex
  obtain ⟨t2, p2, q2⟩ := h2.ex
  refine ⟨_, pss_cons p1 p2, fun τ H ρ σ S D T h => q1 τ H ρ σ S _ T ((link h).mono (fun r S1 h1 => ?_) fun _ _ _ q => q)⟩
  obtain ⟨fl, σ1⟩ := r
  cases fl with
  | nx =>
    intro τ1 H1 ρ1 t T1
    exact q2 τ1 H1 ρ1 σ1 S1 D T1 (Rs.Sat.toF t h1)
  | rt d => exact h1
  | bk => exact h1
  | ct => exact h1
theorem ss_one {st : Stmt} {f : FS} (h1 : SS X Er st f) : SSs X Er [st] f := let ⟨_, p, q⟩ := h1.ex; ⟨_, pss_one p, q⟩
def sExpr (f : FE) : FS := fun σ S => (f σ S).bind fun _ S1 => .ok (.nx, σ) S1
theorem ss_expr {e : Expr} {f : FE} {pos : Pos} (he : SE X Er e f) (hs : swapsWith e none pos.line X.env = pure false := by rfl) : SS X Er (.Expr e pos) (sExpr f) := by
  obtain ⟨te, p, q⟩ := he.ex
  refine ⟨_, ps_expr p hs, fun τ H ρ σ S D T h => q τ H ρ σ S _ T ((link h).mono (fun d S1 h1 => ?_) fun _ _ _ q => q)⟩
  intro v H' ρ' t hr _
  exact h1 τ H' ρ' t (T.to t hr)
def sRet (f : FE) : FS := fun σ S => (f σ S).bind fun d S1 => .ok (.rt d, σ) S1
theorem ss_ret {e : Expr} {f : FE} {pos : Pos} (he : SE X Er e f) : SS X Er (.Return (some e) pos) (sRet f) := by
  obtain ⟨te, p, q⟩ := he.ex
  exact ⟨_, ps_ret p, fun τ H ρ σ S D T h => q τ H ρ σ S _ T ((link h).mono (fun d S1 h1 => h1) fun _ _ _ q => q)⟩
def sAsg (f : FE) (g : FT) : FS := fun σ S => (f σ S).bind fun d S1 => (g d σ S1).bind fun σ1 S2 => .ok (.nx, σ1) S2
theorem ss_asg {tg e : Expr} {f : FE} {g : FT} {pos : Pos} (he : SE X Er e f) (hg : SG X Er tg g) (hs : swapsWithSole [tg] e pos.line X.env = pure false := by rfl) (hw : swappedStores [tg] e X.env = pure none := by rfl)
    (h1 : (assignEach [tg] X.env).map (·.2) = [assign tg X.env] := by rfl) : SS X Er (.Assign [tg] e pos) (sAsg f g) := by
  obtain ⟨te, p, q⟩ := he.ex
  obtain ⟨t, pg, qg⟩ := hg.ex
  refine ⟨_, ps_asg p pg hs hw h1, fun τ H ρ σ S D T h => q τ H ρ σ S _ T ((link h).mono (fun d S1 h1 => ?_) fun _ _ _ q => q)⟩
  intro v H1 ρ1 t1 hr1 dv
  refine qg v d τ H1 ρ1 σ S1 _ (T.to t1 hr1) dv ((link h1).mono (fun σ1 S2 h2 => ?_) fun _ _ _ q => q.to t1)
  intro τ2 H2 ρ2 t2 T2
  exact h2 τ2 H2 ρ2 (t1.trans t2) T2
/-- name = e -/
def sSet (i : Nat) (f : FE) : FS := fun σ S => (f σ S).bind fun d S1 => .ok (.nx, σ.set i (some d)) S1
theorem ss_set (i : Nat) {x : Str} {e : Expr} {f : FE} {pos pos' : Pos} (hN : X.N.Nodup) (he : SE X Er e f) (hi : X.N[i]? = some x := by rfl) (hx : Loc X.env.scope x := by first | exact .inl rfl | exact .inr rfl)
    (hs : swapsWith e (some (.Name x pos')) pos.line X.env = pure false := by rfl) (hf : X.fn x = true ∨ X.env.scope.names.lookup x = some .local := by first | exact .inl rfl | exact .inr rfl) : SS X Er (.Assign [.Name x pos'] e pos) (sSet i f) := by
  obtain ⟨te, p, q⟩ := he.ex
  refine ⟨_, ps_set (i := i) hN hi hx p hs hf, fun τ H ρ σ S D T h => q τ H ρ σ S _ T ((link h).mono (fun d S1 h1 => ?_) fun _ _ _ q => q)⟩
  intro v H1 ρ1 t1 hr1 dv
  exact h1 _ H1 ρ1 t1 ⟨hr1, (T.sl.to t1).set i dv⟩
/-- a, b = x, y by plain local names -/
def sPar2 (i j : Nat) (a : FA) : FS := fun σ S => (a σ S).bind fun ds S1 => match ds with
  | [d, e] => .ok (.nx, (σ.set i (some d)).set j (some e)) S1
  | _ => .no
theorem ss_par2 (i j : Nat) {x y : Str} {a b : Expr} {fa : FA} {px py pt pos : Pos} {kt k2 pt2} (hc : X.calm = true) (hN : X.N.Nodup) (ha : SA X Er [a, b] fa) (hi : X.N[i]? = some x := by rfl) (hj : X.N[j]? = some y := by rfl) (hij : i ≠ j := by decide)
    (hx : X.env.scope.names.lookup x = some .local := by rfl) (hy : X.env.scope.names.lookup y = some .local := by rfl)
    (hw : swappedStores [.Tuple [.Name x px, .Name y py] kt pt] (.Tuple [a, b] k2 pt2) X.env = pure (some [x, y]) := by rfl)
    (hs : swapsWithSole [.Tuple [.Name x px, .Name y py] kt pt] (.Tuple [a, b] k2 pt2) pos.line X.env = pure false := by rfl) :
    SS X Er (.Assign [.Tuple [.Name x px, .Name y py] kt pt] (.Tuple [a, b] k2 pt2) pos) (sPar2 i j fa) := by
  obtain ⟨ta, pa, qa⟩ := ha.ex
  refine ⟨_, ps_par hc hN hi hj hij hx hy pa hw hs, fun τ H ρ σ S D T h => qa τ H ρ σ S _ T ((link h).mono (fun ds S1 h1 => ?_) fun _ _ _ q => q)⟩
  intro vs H1 ρ1 t1 hr1 dvs
  cases dvs with
  | nil => exact h1.elim
  | cons d1 r1 =>
    cases r1 with
    | nil => exact h1.elim
    | cons d2 r2 =>
      cases r2 with
      | nil => exact ⟨_, _, rfl, h1 _ H1 ρ1 t1 ⟨hr1, ((T.sl.to t1).set i d1).set j d2⟩⟩
      | cons _ _ => exact h1.elim
def sIf (c : FB) (a b : FS) : FS := fun σ S => (c σ S).bind fun k S1 => if k = true then a σ S1 else b σ S1
theorem ss_if {c : Expr} {a b : List Stmt} {fc : FB} {fa fb : FS} {pos : Pos} (hc : ST X Er c fc) (ha : SSs X Er a fa) (hb : SSs X Er b fb) : SS X Er (.If c a b pos) (sIf fc fa fb) := by
  obtain ⟨tc, pc, qc⟩ := hc.ex
  obtain ⟨ta, pa, qa⟩ := ha.ex
  obtain ⟨tb, pb, qb⟩ := hb.ex
  refine ⟨_, ps_if pc pa pb, fun τ H ρ σ S D T h => qc τ H ρ σ S _ T ((link h).mono (fun k S1 h1 => ?_) fun _ _ _ q => q)⟩
  intro H1 ρ1 t1 hr1
  cases k with
  | true =>
    rw [if_pos rfl] at h1 ⊢
    exact qa τ H1 ρ1 σ S1 D (T.to t1 hr1) (Rs.Sat.toF t1 h1)
  | false =>
    rw [if_neg Bool.false_ne_true] at h1 ⊢
    exact qb τ H1 ρ1 σ S1 D (T.to t1 hr1) (Rs.Sat.toF t1 h1)
theorem ip_addI : PIp X .Add (rI0 fun i j => .int (i + j)) := ip_add
def addI : G2 := fun x y S => match x, y with
  | .int i, .int j => .ok (.int (i + j)) S
  | _, _ => .no
theorem addI_calm : Calm2 addI := by
  intro x y S
  unfold addI
  split <;> first | exact calm_ok _ _ | exact calm_no
theorem ro_addI : RO K (rI0 fun i j => .int (i + j)) addI := by
  intro H ρ S x y xv yv Q hr dx dy h
  cases dx <;> first | exact h.elim | skip
  cases dy <;> first | exact h.elim | skip
  exact ⟨_, _, rfl, rfl, ko_here hr h (.int _)⟩
end
end Mn
set_option Elab.async false
set_option linter.all false
set_option maxRecDepth 100000
set_option maxHeartbeats 4000000
/-! MnZ: zip and enumerate over lists and tuples in any mix. -/
namespace Mn
open PySem PySem.Spec PyProof.Rows L2
/-- a list (false) or a tuple (true), to be read -/
def SqX (k : Bool) (K : PySem.W.Frag) (H : Hp) (a : Addr) (xs : List V) : Prop := match k with
  | true => SqT K H a xs
  | false => SqL K H a xs
def HIt (k : Bool) (h : Heap) (it a : Addr) (i : Nat) : Prop := match k with
  | true => h.IsTupleIter it a i
  | false => h.IsListIter it a i
def HSq (k : Bool) (h : Heap) (a : Addr) (vs : Array Value) : Prop := match k with
  | true => h.IsTuple a vs
  | false => h.IsList a vs
def itObj (k : Bool) (a : Addr) : Obj := match k with
  | true => { cls := .type "tuple_iterator", data := .fields #[.ref a, .int 0 0] }
  | false => { cls := .type "list_iterator", data := .fields #[.ref a, .int 0 0] }
section
variable {X : Cx} {pins : List (Addr × Obj)} {σ : L2.St} {H : Hp} {s : Shared} {a : Addr} {xs ys : List V} {k : Bool}
theorem sqx_inv (I : Inv X pins σ H s) (h : SqX k X.K H a xs) : ∃ its : List Value, Vals xs its ∧ HSq k s.heap a its.toArray ∧ a < s.heap.objs.size := by
  cases k with
  | true =>
    obtain ⟨its, r, p, _⟩ := I.tuple h
    exact ⟨its, r, p, p.lt⟩
  | false =>
    obtain ⟨its, r, p, _⟩ := I.list h
    exact ⟨its, r, p.isList, p.lt⟩
theorem sqx_inj (I : Inv X pins σ H s) (h : SqX k X.K H a xs) (h' : SqX k X.K H a ys) : xs = ys := by
  cases k with
  | true => exact I.tuple_inj h h'
  | false => exact I.list_inj h h'
theorem drawsX {prog : Program} {w : World} {A : Around} (k : Bool) (hh : A.handled = none) (it l : Addr) (hne : l ≠ it) (items : Array Value) :
    Draws prog w A it [it, l] items.size (fun i v => items[i]? = some v) (fun i h => HIt k h it l i ∧ HSq k h l items) := by
  cases k with
  | true => exact Draws.tuple hh it l hne items
  | false => exact Draws.list hh it l hne items
theorem HIt.at {h h' : Heap} {it : Addr} {i : Nat} (x : HIt k h it a i) (f : ∀ o, h.get? it = some o → h'.get? it = some o) : HIt k h' it a i := by
  cases k with
  | true => exact Heap.IsTupleIter.at x f
  | false => exact Heap.IsListIter.at x f
theorem HIt.obj {h : Heap} {it : Addr} {i : Nat} (x : HIt k h it a i) : ∃ o, h.get? it = some o ∧ ∀ v, o.data ≠ .cell v := by
  cases k with
  | true =>
    obtain ⟨o, e, _, d⟩ := x
    exact ⟨o, e, fun v q => by rw [d] at q; cases q⟩
  | false =>
    obtain ⟨o, e, _, d⟩ := x
    exact ⟨o, e, fun v q => by rw [d] at q; cases q⟩
theorem beginsX (k : Bool) (l : Addr) (items : Array Value) : Begins (.ref l) (itObj k l) fun h => HSq k h l items := by
  cases k with
  | true => exact begins_tuple l items
  | false => exact begins_list l items
theorem hit_new {h : Heap} {it : Addr} (e : h.get? it = some (itObj k a)) : HIt k h it a 0 := by
  cases k with
  | true => exact ⟨_, e, rfl, rfl⟩
  | false => exact ⟨_, e, rfl, rfl⟩
end
/-! ### zip -/
def ItzX (k1 k2 : Bool) (K : PySem.W.Frag) (a b : Addr) : It where
  go := fun i H => ∃ (xs ys : List V) (x y : V), SqX k1 K H a xs ∧ SqX k2 K H b ys ∧ xs[i]? = some x ∧ ys[i]? = some y
  yld := fun i H v H' => ∃ T x y, v = .ref T ∧ H T = none ∧ H' = upd H T (.tup [x, y]) ∧ (∀ xs, SqX k1 K H a xs → xs[i]? = some x) ∧ ∀ ys, SqX k2 K H b ys → ys[i]? = some y
  stop := fun i H => ∃ xs ys : List V, SqX k1 K H a xs ∧ SqX k2 K H b ys ∧ i ≤ xs.length ∧ i ≤ ys.length ∧ (i = xs.length ∨ i = ys.length)
/-- the cells apart -/
structure ZA (z TI TO i1 i2 a b : Addr) : Prop where
  sep : ZipSep2 z TI TO i1 i2 [i1, a] [i2, b]
  ai1 : a ≠ i1
  bi2 : b ≠ i2
  TIi2 : TI ≠ i2
theorem turn_zipX {P : Program} {w : World} {K : PySem.W.Frag} {elts : List Expr} {kk : Nat} {tpos : Pos} {k1 k2 : Bool} {a b z TI TO i1 i2 : Addr} (D : ZA z TI TO i1 i2 a b) :
    Turn P w K (.Tuple elts kk tpos) (ItzX k1 k2 K a b) [z, TI, TO, i1, i2] z
      (fun i h => IsZip h z TI TO .none ∧ IsTupOf2 h TI (.ref i1) (.ref i2) ∧ (∃ x y, IsTupOf2 h TO x y) ∧ HIt k1 h i1 a i ∧ HIt k2 h i2 b i) where
  mem := by simp
  obj := fun i h st c hc => by
    obtain ⟨hz, hTI, ⟨x, y, hTO⟩, h1, h2⟩ := st
    have e' : c = z ∨ c = TI ∨ c = TO ∨ c = i1 ∨ c = i2 := by simpa using hc
    rcases e' with rfl | rfl | rfl | rfl | rfl
    · exact ⟨_, hz, fun v q => nomatch q⟩
    · exact ⟨_, hTI, fun v q => nomatch q⟩
    · exact ⟨_, hTO, fun v q => nomatch q⟩
    · exact h1.obj
    · exact h2.obj
  keep := fun i h h' st f => by
    obtain ⟨hz, hTI, ⟨x, y, hTO⟩, h1, h2⟩ := st
    exact ⟨f z (by simp) _ hz, f TI (by simp) _ hTI, ⟨x, y, f TO (by simp) _ hTO⟩, h1.at fun o q => f i1 (by simp) o q, h2.at fun o q => f i2 (by simp) o q⟩
  item := by
    intro X hP hw hK hc i pins s σ H E I hf st hg
    subst hP hw hK
    obtain ⟨hz, hTI, ⟨x0, y0, hTO⟩, h1, h2⟩ := st
    obtain ⟨xs, ys, x, y, hqx, hqy, hx, hy⟩ := hg
    obtain ⟨its, rv, p, _⟩ := sqx_inv I hqx
    obtain ⟨its2, rv2, p2, _⟩ := sqx_inv I hqy
    obtain ⟨u, hu, ru⟩ := rv.get hx
    obtain ⟨u2, hu2, ru2⟩ := rv2.get hy
    have hzl : z < s.heap.objs.size := Heap.lt_size hz
    have l1 : i < its.toArray.size := by rw [List.size_toArray]; exact (List.getElem?_eq_some_iff.mp hu).1
    have l2 : i < its2.toArray.size := by rw [List.size_toArray]; exact (List.getElem?_eq_some_iff.mp hu2).1
    have d1 := drawsX (prog := X.prog) (w := X.w) (A := X.A.in1) k1 (I.ok.hd hc) i1 a D.ai1 its.toArray
    have d2 := drawsX (prog := X.prog) (w := X.w) (A := X.A.in1) k2 (I.ok.hd hc) i2 b D.bi2 its2.toArray
    refine wpAny_pyNext_zipD2_item D.sep d1 d2 hz hTI hTO ⟨h1, p⟩ ⟨h2, p2⟩ l1 l2 fun x1 x2 h' tk y1 y2 z' TO' s1 s2 hT hsz hk => ?_
    obtain rfl : u = x1 := Option.some.inj ((show its[i]? = some u from hu).symm.trans (by simpa using y1))
    obtain rfl : u2 = x2 := Option.some.inj ((show its2[i]? = some u2 from hu2).symm.trans (by simpa using y2))
    refine ⟨_, rfl, wpAny_letOwnedTupleGo_zip (s := { s with heap := h', toks := tk }) z' fun h'' z'' sb => ?_⟩
    have hT2 : h''.get? s.heap.objs.size = some { cls := .type "tuple", data := .seq #[u, u2] } := (sb.2 _ (Nat.ne_of_gt hzl)).trans hT
    have new : ObjOk X.prog X.w (upd H s.heap.objs.size (.tup [x, y])) h'' s.heap.objs.size (.tup [x, y]) :=
      ⟨by show 2 ≤ sizeLine; decide, [u, u2], .cons ru (.cons ru2 .nil), ⟨_, hT2, rfl, _, rfl⟩⟩
    have hk' : ∀ c o, c ∉ [z, TI, TO, i1, i2] → s.heap.get? c = some o → h''.get? c = some o := fun c o hb q => by
      simp only [List.mem_cons, List.not_mem_nil, or_false, not_or] at hb
      exact (sb.2 c hb.1).trans (hk c o hb.1 hb.2.2.1 hb.2.2.2.1 hb.2.2.2.2 q)
    have I1 : Inv X pins σ (upd H s.heap.objs.size (.tup [x, y])) { s with heap := h'', toks := tk } := I.turnedNew (t' := tk) (ch := [z, TI, TO, i1, i2]) hk' hf (Nat.le_refl _) new
    refine ⟨.ref s.heap.objs.size, _, I1, rfl, ⟨_, x, y, rfl, I.hok.fresh (Nat.le_refl _), rfl, fun l hl => by rw [sqx_inj I hl hqx]; exact hx, fun l hl => by rw [sqx_inj I hl hqy]; exact hy⟩, ⟨z'', ?_, ⟨u, u2, ?_⟩, ?_, ?_⟩, fun c hcm => ?_⟩
    · exact (sb.2 _ D.sep.TIz).trans (hk _ _ D.sep.TIz D.sep.TITO D.sep.TIi1 D.TIi2 hTI)
    · exact (sb.2 _ D.sep.TOz).trans TO'
    · exact s1.1.at fun o q => (sb.2 _ D.sep.zi1.symm).trans q
    · exact s2.1.at fun o q => (sb.2 _ D.sep.zi2.symm).trans q
    · rw [upd_ne]
      · exact (hf c hcm).1
      · have e' : c = z ∨ c = TI ∨ c = TO ∨ c = i1 ∨ c = i2 := by simpa using hcm
        refine Nat.ne_of_lt ?_
        rcases e' with rfl | rfl | rfl | rfl | rfl
        · exact hzl
        · exact Heap.lt_size hTI
        · exact Heap.lt_size hTO
        · obtain ⟨_, e1, _⟩ := h1.obj; exact Heap.lt_size e1
        · obtain ⟨_, e2, _⟩ := h2.obj; exact Heap.lt_size e2
  done := by
    intro X hP hw hK hc i pins s σ H E I hf st hg
    subst hP hw hK
    obtain ⟨hz, hTI, ⟨x0, y0, hTO⟩, h1, h2⟩ := st
    obtain ⟨xs, ys, hqx, hqy, hl1, hl2, hend⟩ := hg
    obtain ⟨its, rv, p, _⟩ := sqx_inv I hqx
    obtain ⟨its2, rv2, p2, _⟩ := sqx_inv I hqy
    have l1 := rv.length
    have l2 := rv2.length
    have d1 := drawsX (prog := X.prog) (w := X.w) (A := X.A.in1) k1 (I.ok.hd hc) i1 a D.ai1 its.toArray
    have d2 := drawsX (prog := X.prog) (w := X.w) (A := X.A.in1) k2 (I.ok.hd hc) i2 b D.bi2 its2.toArray
    refine wpAny_pyNext_zipD2_end D.sep d1 d2 hz hTI hTO ⟨h1, p⟩ ⟨h2, p2⟩
      (by rw [List.size_toArray]; omega) (by rw [List.size_toArray]; omega) (by rw [List.size_toArray, List.size_toArray]; omega) fun h' tk hk => ⟨rfl, I.turnedL (t' := tk) (ch := [z, TI, TO, i1, i2]) (fun c o hb q => ?_) hf⟩
    simp only [List.mem_cons, List.not_mem_nil, or_false, not_or] at hb
    exact hk c o hb.1 hb.2.2.1 hb.2.2.2.1 hb.2.2.2.2 q
  self := fun A i s Q E st h => wpAny_pyIter_zip st.1 h
def iZipX (k1 k2 : Bool) (K : PySem.W.Frag) (ta : TA) : TI := fun σ H R => ta σ H fun vs H1 => ∃ a b xs ys, vs = [.ref a, .ref b] ∧ SqX k1 K H1 a xs ∧ SqX k2 K H1 b ys ∧ R (ItzX k1 k2 K a b) H1
theorem pi_zipX {X : Cx} {e e2 : Expr} {ta : TA} {p pos tpos : Pos} {elts : List Expr} {kk : Nat} (k1 k2 : Bool) (hg : Gl X "zip") (hm : X.mg "zip" = none) (ha : PA X [e, e2] ta)
    (hs : starEach [e, e2] X.env = (false, eval e X.env) :: starEach [e2] X.env := by rfl) (hpl : (backTo pos (starEach [e2] X.env)).any (·.1) = false := by rfl) :
    PI X (.Tuple elts kk tpos) (.Call (.Name "zip" p) [e, e2] [] pos) (iZipX k1 k2 X.K ta) := by
  constructor
  intro pins s σ H R I h
  refine Call_ (ld_blt I hg hm PyProof.Rows.boot_zip (PyProof.Rows.callWith_type1 (thn (ha.run pos pins s σ H _ I h) ?_) hs hpl))
  rintro us s1 ⟨vs, H1, I1, r1, a, b, xs, ys, rfl, hqx, hqy, q⟩
  obtain ⟨u1, u2, rfl, ra, rb⟩ := r1.two
  cases ra
  cases rb
  obtain ⟨its, rv, p1, la⟩ := sqx_inv I1 hqx
  obtain ⟨its2, rv2, p2, lb⟩ := sqx_inv I1 hqy
  refine zip_begins2 (beginsX k1 a its.toArray) (beginsX k2 b its2.toArray) p1 p2 fun h' hz hTI hTO g1 g2 hsz hk => wpAny_pyIter_zip hz ?_
  have I2 : Inv X pins σ H1 { s1 with heap := h' } := I1.kept (t' := s1.toks) hk
  have dz : ZA (s1.heap.objs.size + 4) (s1.heap.objs.size + 2) (s1.heap.objs.size + 3) s1.heap.objs.size (s1.heap.objs.size + 1) a b :=
    ⟨zip_sep2 (fp1 := [a]) (fp2 := [b]) (by intro c hc; rw [List.mem_singleton.mp hc]; exact la) (by intro c hc; rw [List.mem_singleton.mp hc]; exact lb),
      Nat.ne_of_lt la, Nat.ne_of_lt (Nat.lt_succ_of_lt lb), Nat.ne_of_gt (Nat.lt_succ_self _)⟩
  refine ⟨s1.heap.objs.size + 4, [s1.heap.objs.size + 4, s1.heap.objs.size + 2, s1.heap.objs.size + 3, s1.heap.objs.size, s1.heap.objs.size + 1], _, _, H1, rfl, I2, turn_zipX dz, ⟨hz, hTI, ⟨_, _, hTO⟩, hit_new g1, hit_new g2⟩, fun c hcm => ?_, q⟩
  have hle : s1.heap.objs.size ≤ c := by
    have e' : c = s1.heap.objs.size + 4 ∨ c = s1.heap.objs.size + 2 ∨ c = s1.heap.objs.size + 3 ∨ c = s1.heap.objs.size ∨ c = s1.heap.objs.size + 1 := by simpa using hcm
    rcases e' with z | z | z | z | z <;> rw [z] <;> first | exact Nat.le_add_right _ _ | exact Nat.le_refl _
  exact I1.fpOk hle (I1.hok.fresh hle)
end Mn
set_option Elab.async false
set_option linter.all false
set_option maxRecDepth 100000
set_option maxHeartbeats 4000000
/-! MnF: what is walked, loops, comprehensions. -/
namespace Mn
open PySem PySem.Spec PyProof.Rows L2
section
variable {X : Cx} {Er : ER} {K : PySem.W.Frag} {H H1 : Hp} {ρ ρ1 : List Addr} {σ : Sg} {S S1 : Bxs} {τ : L2.St}
/-! ### items -/
/-- how an item of a walk comes, told at the heap ahead: the item, the value that is yielded, the heap behind -/
abbrev IRel (α : Type) := PySem.W.Frag → Hp → List Addr → α → V → Hp → Prop
def itS : IRel Dt := fun K H ρ a x H' => H' = H ∧ DV K H ρ a x
def itP : IRel (Dt × Dt) := fun K H ρ a x H' => ∃ T x1 x2, x = .ref T ∧ H T = none ∧ H' = upd H T (.tup [x1, x2]) ∧ DV K H ρ a.1 x1 ∧ DV K H ρ a.2 x2
abbrev Src (α : Type) := Sg → Bxs → Rs (List α × (Bxs → Prop))
/-- a walk: its items, and what must stand all the while -/
def KI {α : Type} (K : PySem.W.Frag) (H : Hp) (ρ : List Addr) (it : IRel α) (R : It → Hp → Prop) : List α × (Bxs → Prop) → Bxs → Prop := fun r S1 =>
  ∀ H1 ρ1 J G Y, To H H1 ρ ρ1 → HR K H1 ρ1 S1 → Walk J r.1.length G Y → (∀ H' ρ' S', To H1 H' ρ1 ρ' → HR K H' ρ' S' → r.2 S' → G H') →
    (∀ i a x H' H'' ρ' S', To H1 H' ρ1 ρ' → HR K H' ρ' S' → r.2 S' → r.1[i]? = some a → Y i H' x H'' → it K H' ρ' a x H'') → R J H1
structure SI {α : Type} (X : Cx) (Er : ER) (it : IRel α) (tg iter : Expr) (src : Src α) : Prop where
  ex : ∃ wi, PI X tg iter wi ∧ ∀ τ H ρ σ S R, Ty X.K H ρ σ S τ → (src σ S).Sat (KI X.K H ρ it R) (KX Er H ρ) → wi τ H R
theorem PI.or {tg iter : Expr} {w1 w2 : TI} (h1 : PI X tg iter w1) (h2 : PI X tg iter w2) : PI X tg iter (fun σ H R => w1 σ H R ∨ w2 σ H R) :=
  ⟨fun pins s σ H R I h => h.elim (h1.run pins s σ H R I) (h2.run pins s σ H R I)⟩
/-- tuple (true) or list (false) -/
def Dt.isT : Dt → Bool
  | .tup _ => true
  | _ => false
theorem sqx_of {d : Dt} {v : V} {xs : List Dt} (hr : HR K H ρ S) (h : DV K H ρ d v) (hs : seqOf S d = some xs) : ∃ a vs, v = .ref a ∧ SqX d.isT K H a vs ∧ DVs K H ρ xs vs := by
  cases h <;> first | (cases hs; done) | skip
  · rename_i a ds vs ht hd
    cases hs
    exact ⟨a, vs, rfl, ht.sqt, hd⟩
  · rename_i n a ha
    obtain ⟨vs, h1, h2⟩ := hr.rd ha hs
    exact ⟨a, vs, rfl, h1, h2⟩
def ItX (k : Bool) (K : PySem.W.Frag) (a : Addr) : It := match k with
  | true => Itt K a
  | false => Itl K a
theorem walkX {k : Bool} {a : Addr} {n : Nat} : Walk (ItX k K a) n (fun H => ∃ vs, SqX k K H a vs ∧ vs.length = n) (fun i H x H' => H' = H ∧ ∀ vs, SqX k K H a vs → vs[i]? = some x) := by
  cases k with
  | true =>
    exact ⟨fun i _ hi ⟨vs, q, hl⟩ => ⟨vs, vs[i]'(by omega), q, by simp [hl, hi]⟩, fun _ ⟨vs, q, hl⟩ => ⟨vs, q, by omega⟩, fun _ _ _ _ _ _ y => y⟩
  | false =>
    exact ⟨fun i _ hi ⟨vs, q, hl⟩ => ⟨vs, vs[i]'(by omega), q, by simp [hl, hi]⟩, fun _ ⟨vs, q, hl⟩ => ⟨vs, q, by omega⟩, fun _ _ _ _ _ _ y => y⟩
theorem walkZ {k1 k2 : Bool} {a b : Addr} {n1 n2 : Nat} :
    Walk (ItzX k1 k2 K a b) (min n1 n2) (fun H => ∃ vs ws, SqX k1 K H a vs ∧ SqX k2 K H b ws ∧ vs.length = n1 ∧ ws.length = n2)
      (fun i H v H' => ∃ T x y, v = .ref T ∧ H T = none ∧ H' = upd H T (.tup [x, y]) ∧ (∀ xs, SqX k1 K H a xs → xs[i]? = some x) ∧ ∀ ys, SqX k2 K H b ys → ys[i]? = some y) := by
  refine ⟨fun i _ hi ⟨vs, ws, q1, q2, l1, l2⟩ => ?_, fun _ ⟨vs, ws, q1, q2, l1, l2⟩ => ⟨vs, ws, q1, q2, by omega, by omega, by omega⟩, fun i H v H' _ _ y => y⟩
  · exact ⟨vs, ws, vs[i]'(by omega), ws[i]'(by omega), q1, q2, by simp [show i < vs.length by omega], by simp [show i < ws.length by omega]⟩
/-- a list, a tuple -/
def srcSeq (f : FE) : Src Dt := fun σ S => (f σ S).bind fun d S1 => match seqOf S1 d with
  | some xs => .ok (xs, fun S' => seqOf S' d = some xs) S1
  | none => .no
theorem si_seq {tg iter : Expr} {f : FE} (h : SE X Er iter f) : SI X Er itS tg iter (srcSeq f) := by
  obtain ⟨te, p, q⟩ := h.ex
  refine ⟨_, PI.or (pi_list p) (pi_tup p), fun τ H ρ σ S R T h => ?_⟩
  have h := link h
  cases e : f σ S with
  | no => rw [e] at h; exact h.elim
  | ex c ds s' =>
    rw [e] at h
    exact .inl (q τ H ρ σ S _ T (by rw [e]; exact h))
  | ok d S1 =>
    rw [e] at h
    have h : (match seqOf S1 d with
      | some xs => Rs.ok (xs, fun S' => seqOf S' d = some xs) S1
      | none => Rs.no).Sat (KI X.K H ρ itS R) (KX Er H ρ) := h
    cases e2 : seqOf S1 d with
    | none => rw [e2] at h; exact h.elim
    | some xs =>
      rw [e2] at h
      have h : KI X.K H ρ itS R (xs, fun S' => seqOf S' d = some xs) S1 := h
      have core : ∀ v H1 ρ1, To H H1 ρ ρ1 → HR X.K H1 ρ1 S1 → DV X.K H1 ρ1 d v → ∃ a, v = .ref a ∧ (∃ vs, SqX d.isT X.K H1 a vs) ∧ R (ItX d.isT X.K a) H1 := by
        intro v H1 ρ1 t1 hr1 dv
        obtain ⟨a, vs, rfl, hs, hd⟩ := sqx_of hr1 dv e2
        refine ⟨a, rfl, ⟨vs, hs⟩, h H1 ρ1 _ _ _ t1 hr1 walkX (fun H' ρ' S' t hr' st => ?_) fun i x y H' H'' ρ' S' t hr' st hi hy => ?_⟩
        · obtain ⟨a', vs', ea, hs', hd'⟩ := sqx_of hr' (dv.to t) st
          cases ea
          exact ⟨vs', hs', hd'.length.symm⟩
        · obtain ⟨e3, hx⟩ := hy
          obtain ⟨a', vs', ea, hs', hd'⟩ := sqx_of hr' (dv.to t) st
          cases ea
          obtain ⟨v', h3, h4⟩ := hd'.get hi
          rw [hx vs' hs'] at h3
          cases h3
          exact ⟨e3, h4⟩
      cases hk : d.isT with
      | true =>
        refine .inr (q τ H ρ σ S _ T ?_)
        rw [e]
        intro v H1 ρ1 t1 hr1 dv
        have := core v H1 ρ1 t1 hr1 dv
        rw [hk] at this
        exact this
      | false =>
        refine .inl (q τ H ρ σ S _ T ?_)
        rw [e]
        intro v H1 ρ1 t1 hr1 dv
        have := core v H1 ρ1 t1 hr1 dv
        rw [hk] at this
        exact this
/-- range(n), range(a, b) -/
def rgD (lo : Int) (n : Nat) : List Dt := (List.range n).map fun (i : Nat) => Dt.int (lo + (i : Int))
theorem rgD_get {lo : Int} {n i : Nat} {a : Dt} (h : (rgD lo n)[i]? = some a) : a = .int (lo + (i : Int)) := by
  unfold rgD at h
  rw [List.getElem?_map] at h
  by_cases hi : i < n
  · rw [List.getElem?_range hi] at h
    exact (Option.some.inj h).symm
  · rw [List.getElem?_eq_none (by rw [List.length_range]; omega)] at h
    cases h
def inR (j : Int) : Prop := -(2 ^ 62) ≤ j ∧ j < 2 ^ 62
instance (j : Int) : Decidable (inR j) := by unfold inR; infer_instance
def srcR1 (f : FA) : Src Dt := fun σ S => (f σ S).bind fun ds S1 => match ds with
  | [.int j] => if inR j then .ok (rgD 0 j.toNat, fun _ => True) S1 else .no
  | _ => .no
theorem range_ki {R : It → Hp → Prop} {lo : Int} {n : Nat} {st : Bxs → Prop} (h : KI K H ρ itS R (rgD lo n, st) S1) (t : To H H1 ρ ρ1) (hr : HR K H1 ρ1 S1) : R (Itr lo n) H1 := by
  have hl : (rgD lo n).length = n := by unfold rgD; rw [List.length_map, List.length_range]
  refine h H1 ρ1 (Itr lo n) (fun _ => True) (YFn fun i => .int (lo + i)) t hr (by rw [hl]; exact walk_range) (fun _ _ _ _ _ _ => trivial) fun i a x H' H'' ρ' S' _ _ _ hi hy => ?_
  obtain ⟨e1, e2⟩ := hy
  rw [rgD_get hi, e2]
  exact ⟨e1, .int _⟩
theorem si_r1 {tg a : Expr} {fa : FA} {p pos : Pos} (hg : Gl X "range") (hm : X.mg "range" = none) (ha : SA X Er [a] fa) (hs : starEach [a] X.env = [(false, eval a X.env)] := by rfl) : SI X Er itS tg (.Call (.Name "range" p) [a] [] pos) (srcR1 fa) := by
  obtain ⟨ta, pa, qa⟩ := ha.ex
  refine ⟨_, pi_range1 hg hm pa hs, fun τ H ρ σ S R T h => qa τ H ρ σ S _ T ((link h).mono (fun ds S1 h1 => ?_) fun _ _ _ q => q)⟩
  intro vs H1 ρ1 t1 hr1 dvs
  split at h1
  · rename_i j
    obtain ⟨c, h1⟩ := ite_sat h1
    cases dvs with
    | cons d r =>
      cases r
      cases d
      exact ⟨_, rfl, c.1, c.2, range_ki h1 t1 hr1⟩
  · exact h1.elim
/-- zip -/
def srcZip (f : FA) : Src (Dt × Dt) := fun σ S => (f σ S).bind fun ds S1 => match ds with
  | [d, e] => match seqOf S1 d, seqOf S1 e with
    | some xs, some ys => .ok (xs.zip ys, fun S' => seqOf S' d = some xs ∧ seqOf S' e = some ys) S1
    | _, _ => .no
  | _ => .no
theorem PI.or4 {tg iter : Expr} {w : Bool → Bool → TI} (h : ∀ a b, PI X tg iter (w a b)) : PI X tg iter (fun σ H R => ∃ a b, w a b σ H R) :=
  ⟨fun pins s σ H R I ⟨a, b, q⟩ => (h a b).run pins s σ H R I q⟩
theorem si_zip {elts : List Expr} {kk : Nat} {tpos : Pos} {a b : Expr} {fa : FA} {p pos : Pos} (hg : Gl X "zip") (hm : X.mg "zip" = none) (ha : SA X Er [a, b] fa)
    (hs : starEach [a, b] X.env = (false, eval a X.env) :: starEach [b] X.env := by rfl) (hpl : (backTo pos (starEach [b] X.env)).any (·.1) = false := by rfl) :
    SI X Er itP (.Tuple elts kk tpos) (.Call (.Name "zip" p) [a, b] [] pos) (srcZip fa) := by
  obtain ⟨ta, pa, qa⟩ := ha.ex
  refine ⟨_, PI.or4 fun k1 k2 => pi_zipX k1 k2 hg hm pa hs hpl, fun τ H ρ σ S R T h => ?_⟩
  have h := link h
  cases e : fa σ S with
  | no => rw [e] at h; exact h.elim
  | ex c ds s' =>
    rw [e] at h
    exact ⟨true, true, qa τ H ρ σ S _ T (by rw [e]; exact h)⟩
  | ok ds S1 =>
    rw [e] at h
    rcases ds with _ | ⟨d, _ | ⟨d2, _ | ⟨d3, dr⟩⟩⟩
    · exact h.elim
    · exact h.elim
    · cases e1 : seqOf S1 d with
      | none =>
        simp only [Rs.Sat, e1] at h
      | some xs =>
       cases e2 : seqOf S1 d2 with
       | none =>
        simp only [Rs.Sat, e1, e2] at h
       | some ys =>
        have h : KI X.K H ρ itP R (xs.zip ys, fun S' => seqOf S' d = some xs ∧ seqOf S' d2 = some ys) S1 := by
          simpa only [Rs.Sat, e1, e2] using h
        refine ⟨d.isT, d2.isT, qa τ H ρ σ S _ T ?_⟩
        rw [e]
        intro vs H1 ρ1 t1 hr1 dvs
        cases dvs with
        | cons dv r =>
          cases r with
          | cons dv2 r =>
            cases r
            obtain ⟨a, us, rfl, hs1, hd1⟩ := sqx_of hr1 dv e1
            obtain ⟨b, ws, rfl, hs2, hd2⟩ := sqx_of hr1 dv2 e2
            refine ⟨a, b, us, ws, rfl, hs1, hs2, h H1 ρ1 _ _ _ t1 hr1 (by rw [List.length_zip]; exact walkZ (n1 := xs.length) (n2 := ys.length)) (fun H' ρ' S' t hr' st => ?_) fun i x y H' H'' ρ' S' t hr' st hi hy => ?_⟩
            · obtain ⟨a', us', ea, q1, q2⟩ := sqx_of hr' (dv.to t) st.1
              obtain ⟨b', ws', eb, q3, q4⟩ := sqx_of hr' (dv2.to t) st.2
              cases ea
              cases eb
              exact ⟨us', ws', q1, q3, q2.length.symm, q4.length.symm⟩
            · obtain ⟨U, x1, x2, h1, h2, h3, h4, h5⟩ := hy
              obtain ⟨a', us', ea, q1, q2⟩ := sqx_of hr' (dv.to t) st.1
              obtain ⟨b', ws', eb, q3, q4⟩ := sqx_of hr' (dv2.to t) st.2
              cases ea
              cases eb
              obtain ⟨p1, p2⟩ := x
              have hz := List.getElem?_zip_eq_some.mp hi
              obtain ⟨v1, g1, g2⟩ := q2.get hz.1
              obtain ⟨v2, g3, g4⟩ := q4.get hz.2
              rw [h4 us' q1] at g1
              rw [h5 ws' q3] at g3
              cases g1
              cases g3
              exact ⟨U, _, _, h1, h2, h3, g2, g4⟩
    · exact h.elim
/-! ### targets of walks -/
structure SGi {α : Type} (X : Cx) (Er : ER) (it : IRel α) (tg : Expr) (g : α → Sg → Bxs → Rs Sg) : Prop where
  ex : ∃ t, PG X tg t ∧ ∀ v a τ H H' ρ σ S Q, Ty X.K H ρ σ S τ → it X.K H ρ a v H' → (g a σ S).Sat (KS X.K H ρ Q) (KX Er H ρ) → t v τ H' Q
theorem sgi_one {tg : Expr} {g : FT} (h : SG X Er tg g) : SGi X Er itS tg g := by
  obtain ⟨t, p, q⟩ := h.ex
  refine ⟨t, p, fun v a τ H H' ρ σ S Q T hi hs => ?_⟩
  obtain ⟨rfl, dv⟩ := hi
  exact q v a τ _ ρ σ S Q T dv hs
def tPairG (g : FTs) : Dt × Dt → Sg → Bxs → Rs Sg := fun a σ S => g [a.1, a.2] σ S
theorem sgi_pair {es : List Expr} {k : Nat} {pos : Pos} {g : FTs} (hc : X.calm = true) (h : SGs X Er es g) (hn : (assignEach es X.env).length = 2 := by rfl) (hst : (assignEach es X.env).findIdx? (·.1) = none := by rfl) : SGi X Er itP (.Tuple es k pos) (tPairG g) := by
  obtain ⟨t, p, q⟩ := h.ex
  refine ⟨_, pg_tup hc p hn hst, fun v a τ H H' ρ σ S Q T hi hs => ?_⟩
  obtain ⟨U, x1, x2, rfl, hU, rfl, d1, d2⟩ := hi
  have t1 : To H (upd H U (.tup [x1, x2])) ρ ρ := ⟨Ext.new hU, List.prefix_refl _⟩
  exact ⟨U, [x1, x2], rfl, SqT.of upd_same, rfl, q _ _ τ _ ρ σ S Q (T.to t1 (T.hr.tup hU)) (.cons (d1.to t1) (.cons (d2.to t1) .nil)) (Rs.Sat.toS t1 hs)⟩
def canG {α : Type} (K : PySem.W.Frag) (Er : ER) (it : IRel α) (g : α → Sg → Bxs → Rs Sg) : TG := fun v τ H' Q => ∃ H a ρ σ S, Ty K H ρ σ S τ ∧ it K H ρ a v H' ∧ (g a σ S).Sat (KS K H ρ Q) (KX Er H ρ)
theorem SGi.can {α : Type} {it : IRel α} {tg : Expr} {g : α → Sg → Bxs → Rs Sg} (h : SGi X Er it tg g) : PG X tg (canG X.K Er it g) := by
  obtain ⟨t, p, q⟩ := h.ex
  exact ⟨fun pins s τ H' v u Q I r ⟨H, a, ρ, σ, S, T, hi, hs⟩ => p.run pins s τ H' v u Q I r (q _ _ _ _ _ _ _ _ _ T hi hs)⟩
/-! ### for -/
open Classical in
noncomputable def loopF {α : Type} (st : Bxs → Prop) (g : α → Sg → Bxs → Rs Sg) (body : FS) : List α → Sg → Bxs → Rs (Fl × Sg)
  | [], σ, S => if st S then .ok (.nx, σ) S else .no
  | x :: xs, σ, S => if st S then (g x σ S).bind fun σ1 S1 => (body σ1 S1).bind fun r S2 => match r.1 with
      | .nx => loopF st g body xs r.2 S2
      | .ct => loopF st g body xs r.2 S2
      | .bk => .ok (.nx, r.2) S2
      | .rt d => .ok (.rt d, r.2) S2 else .no
noncomputable def sFor {α : Type} (src : Src α) (g : α → Sg → Bxs → Rs Sg) (body : FS) : FS := fun σ S => (src σ S).bind fun r S1 => loopF r.2 g body r.1 σ S1
theorem iteC_sat {α : Type} {c : Prop} {dc : Decidable c} {r : Rs α} {P : α → Bxs → Prop} {E : Nat → List Dt → Bxs → Prop} (h : (@ite _ c dc r .no).Sat P E) : c ∧ r.Sat P E := by
  by_cases hc : c
  · rw [if_pos hc] at h; exact ⟨hc, h⟩
  · rw [if_neg hc] at h; exact h.elim
theorem loop_st {α : Type} {st : Bxs → Prop} {g : α → Sg → Bxs → Rs Sg} {body : FS} {xs : List α} {P : Fl × Sg → Bxs → Prop} {E : Nat → List Dt → Bxs → Prop} (h : (loopF st g body xs σ S).Sat P E) : st S := by
  cases xs with
  | nil => unfold loopF at h; exact (iteC_sat h).1
  | cons x xs => unfold loopF at h; exact (iteC_sat h).1
theorem ss_for {α : Type} {it : IRel α} {tg iter : Expr} {body : List Stmt} {src : Src α} {g : α → Sg → Bxs → Rs Sg} {fb : FS} {pos : Pos} (hp : PassesOwn (model X.prog X.w) X.A X.env X.xe) (hc : X.calm = true) (hi : SI X Er it tg iter src) (hg : SGi X Er it tg g) (hb : SSs X Er body fb)
    (hs : ∀ x, foldedSetIterable iter X.env x = pure x := by intro _; rfl) : SS X Er (.For tg iter body [] pos) (sFor src g fb) := by
  obtain ⟨wi, pi, qi⟩ := hi.ex
  obtain ⟨t, pg, qg⟩ := hg.ex
  obtain ⟨tb, pb, qb⟩ := hb.ex
  refine ⟨_, ps_for hp hc pi pg pb hs, fun τ H ρ σ S D T h => qi τ H ρ σ S _ T ((link h).mono (fun r S1 h1 => ?_) fun _ _ _ q => q)⟩
  obtain ⟨xs, st⟩ := r
  intro H1 ρ1 J G Y t1 hr1 w hG hY
  refine for_it w (fun i τ' H' => ∃ ρ' σ' S', To H1 H' ρ1 ρ' ∧ Ty X.K H' ρ' σ' S' τ' ∧ (loopF st g fb (xs.drop i) σ' S').Sat (KF X.K H' ρ' D) (KX Er H' ρ'))
    ⟨ρ1, σ, S1, To.refl _ _, T.to t1 hr1, Rs.Sat.toF t1 h1⟩ (fun i τ' H' _ ⟨ρ', σ', S', t', T', h'⟩ => hG H' ρ' S' t' T'.hr (loop_st h')) (fun i x τ' H' H'' hlt ⟨ρ', σ', S', t', T', h'⟩ hy => ?_) fun τ' H' ⟨ρ', σ', S', t', T', h'⟩ => ?_
  · have hi : xs[i]? = some xs[i] := List.getElem?_eq_getElem hlt
    have hd : xs.drop i = xs[i] :: xs.drop (i + 1) := List.drop_eq_getElem_cons hlt
    rw [hd] at h'
    have hst := loop_st h'
    unfold loopF at h'
    obtain ⟨_, h'⟩ := iteC_sat h'
    refine qg x xs[i] τ' H' H'' ρ' σ' S' _ T' (hY i _ x H' H'' ρ' S' t' T'.hr hst hi hy) ((link h').mono (fun σ1 S2 h2 => ?_) fun _ _ _ q => q)
    intro τ2 H2 ρ2 t2 T2
    refine qb τ2 H2 ρ2 σ1 S2 _ T2 ((link h2).mono (fun r S3 h3 => ?_) fun _ _ _ q => q.to t2)
    obtain ⟨fl, σ3⟩ := r
    cases fl with
    | nx =>
      intro τ3 H3 ρ3 t3 T3
      exact ⟨ρ3, σ3, S3, (t'.trans t2).trans t3, T3, Rs.Sat.toF (t2.trans t3) h3⟩
    | ct =>
      intro τ3 H3 ρ3 t3 T3
      exact ⟨ρ3, σ3, S3, (t'.trans t2).trans t3, T3, Rs.Sat.toF (t2.trans t3) h3⟩
    | bk =>
      intro τ3 H3 ρ3 t3 T3
      exact h3 τ3 H3 ρ3 (t2.trans t3) T3
    | rt d =>
      intro v H3 ρ3 t3 hr3 dv
      exact h3 v H3 ρ3 (t2.trans t3) hr3 dv
  · rw [List.drop_length] at h'
    unfold loopF at h'
    obtain ⟨_, h'⟩ := iteC_sat h'
    exact h' τ' H' ρ' (To.refl _ _) T'
end
end Mn
set_option Elab.async false
set_option linter.all false
set_option maxRecDepth 100000
set_option maxHeartbeats 4000000
/-! MnG: comprehensions. -/
namespace Mn
open PySem PySem.Spec PyProof.Rows L2
/-- nothing leaves a comprehension -/
abbrev noEr : ER := fun _ _ _ _ _ => False
section
variable {X : Cx} {Er : ER} {K : PySem.W.Frag} {H H1 : Hp} {ρ ρ1 : List Addr} {σ : Sg} {S S1 : Bxs} {τ : L2.St}
/-! ### targets that keep to the block's own slots -/
def KW (K : PySem.W.Frag) (H : Hp) (ρ : List Addr) (vs : List Nat) (τ : L2.St) (Q : L2.St → Hp → Prop) : Sg → Bxs → Prop := fun σ' S' => ∀ τ' H' ρ', To H H' ρ ρ' → Ty K H' ρ' σ' S' τ' → L2.wipe τ' vs = L2.wipe τ vs → Q τ' H'
structure SV (X : Cx) (vs : List Nat) (tg : Expr) (g : FT) : Prop where
  ex : ∃ t, PG X tg t ∧ ∀ v d τ H ρ σ S Q, Ty X.K H ρ σ S τ → DV X.K H ρ d v → (g d σ S).Sat (KW X.K H ρ vs τ Q) noX → t v τ H Q
structure SVs (X : Cx) (vs : List Nat) (ts : List Expr) (g : FTs) : Prop where
  ex : ∃ t, PGs X ts t ∧ ∀ us ds τ H ρ σ S Q, Ty X.K H ρ σ S τ → DVs X.K H ρ ds us → (g ds σ S).Sat (KW X.K H ρ vs τ Q) noX → t us τ H Q
theorem wipe_set {i : Nat} {o : Option V} : ∀ {vs : List Nat} {τ : L2.St}, i ∈ vs → L2.wipe (τ.set i o) vs = L2.wipe τ vs
  | v :: vs, τ, h => by
    by_cases hv : v = i
    · subst hv
      have key : ∀ (ws : List Nat) (τ : L2.St), (L2.wipe (τ.set v o) ws).set v none = (L2.wipe τ ws).set v none := by
        intro ws
        induction ws with
        | nil => intro τ; show (τ.set v o).set v none = τ.set v none; rw [List.set_set]
        | cons w ws ih =>
          intro τ
          show ((L2.wipe (τ.set v o) ws).set w none).set v none = ((L2.wipe τ ws).set w none).set v none
          by_cases hw : w = v
          · subst hw
            rw [List.set_set, List.set_set]
            exact ih τ
          · rw [List.set_comm _ _ hw, List.set_comm _ _ hw, ih τ]
      exact key vs τ
    · have h' : i ∈ vs := by
        rcases List.mem_cons.mp h with e | e
        · exact absurd e.symm hv
        · exact e
      show (L2.wipe (τ.set i o) vs).set v none = (L2.wipe τ vs).set v none
      rw [wipe_set h']
theorem sv_name (i : Nat) {x : Str} {pos : Pos} {vs : List Nat} (hN : X.N.Nodup) (hi : X.N[i]? = some x := by rfl) (hx : Loc X.env.scope x := by first | exact .inl rfl | exact .inr rfl) (hf : X.fn x = true ∨ X.env.scope.names.lookup x = some .local := by first | exact .inl rfl | exact .inr rfl)
    (hv : i ∈ vs := by decide) : SV X vs (.Name x pos) (tName i) :=
  ⟨_, pg_name hN hi hx hf, fun v d τ H ρ σ S Q T dv h => h _ H ρ (To.refl _ _) ⟨T.hr, T.sl.set i dv⟩ (wipe_set hv)⟩
theorem svs_nil {vs : List Nat} : SVs X vs [] tNilG := by
  refine ⟨_, pgs_nil, fun us ds τ H ρ σ S Q T dv h => ?_⟩
  cases dv with
  | nil => exact ⟨rfl, h τ H ρ (To.refl _ _) T rfl⟩
  | cons _ _ => exact h.elim
theorem svs_cons {vs : List Nat} {e : Expr} {es : List Expr} {g : FT} {r : FTs} (h1 : SV X vs e g) (h2 : SVs X vs es r) (hs : (assignEach (e :: es) X.env).map (·.2) = assign e X.env :: (assignEach es X.env).map (·.2) := by rfl) : SVs X vs (e :: es) (tConsG g r) := by
  obtain ⟨t1, p1, q1⟩ := h1.ex
  obtain ⟨t2, p2, q2⟩ := h2.ex
  refine ⟨_, pgs_cons p1 p2 hs, fun us ds τ H ρ σ S Q T dv h => ?_⟩
  cases dv with
  | nil => exact h.elim
  | cons dx dxs =>
    refine ⟨_, _, rfl, q1 _ _ τ H ρ σ S _ T dx ((link h).mono (fun σ1 S1 h1 => ?_) fun _ _ _ q => q)⟩
    intro τ1 H1 ρ1 t T1 w1
    exact q2 _ _ τ1 H1 ρ1 σ1 S1 Q T1 (dxs.to t) (h1.mono (fun σ2 S2 k τ2 H2 ρ2 t2 T2 w2 => k τ2 H2 ρ2 (t.trans t2) T2 (w2.trans w1)) fun _ _ _ q => q)
theorem sv_tup {vs : List Nat} {es : List Expr} {k n : Nat} {pos : Pos} {g : FTs} (hc : X.calm = true) (h : SVs X vs es g) (hn : (assignEach es X.env).length = n := by rfl) (hst : (assignEach es X.env).findIdx? (·.1) = none := by rfl) : SV X vs (.Tuple es k pos) (tTupG n g) := by
  obtain ⟨t, p, q⟩ := h.ex
  refine ⟨_, pg_tup hc p hn hst, fun v d τ H ρ σ S Q T dv h => ?_⟩
  cases dv <;> first | exact h.elim | skip
  rename_i a ds us ht hd
  obtain ⟨c, h⟩ := ite_sat h
  exact ⟨a, us, rfl, ht.sqt, by rw [← hd.length]; exact c, q _ _ τ H ρ σ S Q T hd h⟩
structure SVi {α : Type} (X : Cx) (vs : List Nat) (it : IRel α) (tg : Expr) (g : α → Sg → Bxs → Rs Sg) : Prop where
  ex : ∃ t, PG X tg t ∧ ∀ v a τ H H' ρ σ S Q, Ty X.K H ρ σ S τ → it X.K H ρ a v H' → (g a σ S).Sat (KW X.K H ρ vs τ Q) noX → t v τ H' Q
theorem svi_one {vs : List Nat} {tg : Expr} {g : FT} (h : SV X vs tg g) : SVi X vs itS tg g := by
  obtain ⟨t, p, q⟩ := h.ex
  refine ⟨t, p, fun v a τ H H' ρ σ S Q T hi hs => ?_⟩
  obtain ⟨rfl, dv⟩ := hi
  exact q v a τ _ ρ σ S Q T dv hs
theorem svi_pair {vs : List Nat} {es : List Expr} {k : Nat} {pos : Pos} {g : FTs} (hc : X.calm = true) (h : SVs X vs es g) (hn : (assignEach es X.env).length = 2 := by rfl) (hst : (assignEach es X.env).findIdx? (·.1) = none := by rfl) : SVi X vs itP (.Tuple es k pos) (tPairG g) := by
  obtain ⟨t, p, q⟩ := h.ex
  refine ⟨_, pg_tup hc p hn hst, fun v a τ H H' ρ σ S Q T hi hs => ?_⟩
  obtain ⟨U, x1, x2, rfl, hU, rfl, d1, d2⟩ := hi
  have t1 : To H (upd H U (.tup [x1, x2])) ρ ρ := ⟨Ext.new hU, List.prefix_refl _⟩
  exact ⟨U, [x1, x2], rfl, SqT.of upd_same, rfl, q _ _ τ _ ρ σ S Q (T.to t1 (T.hr.tup hU)) (.cons (d1.to t1) (.cons (d2.to t1) .nil)) (hs.mono (fun σ2 S2 k τ2 H2 ρ2 t2 T2 w2 => k τ2 H2 ρ2 (t1.trans t2) T2 w2) fun _ _ _ q => q)⟩
def canV {α : Type} (K : PySem.W.Frag) (vs : List Nat) (it : IRel α) (g : α → Sg → Bxs → Rs Sg) : TG := fun v τ H' Q => ∃ H a ρ σ S, Ty K H ρ σ S τ ∧ it K H ρ a v H' ∧ (g a σ S).Sat (KW K H ρ vs τ Q) noX
theorem SVi.can {α : Type} {vs : List Nat} {it : IRel α} {tg : Expr} {g : α → Sg → Bxs → Rs Sg} (h : SVi X vs it tg g) : PG X tg (canV X.K vs it g) := by
  obtain ⟨t, p, q⟩ := h.ex
  exact ⟨fun pins s τ H' v u Q I r ⟨H, a, ρ, σ, S, T, hi, hs⟩ => p.run pins s τ H' v u Q I r (q _ _ _ _ _ _ _ _ _ T hi hs)⟩
/-! ### tests of a clause -/
structure STs (X : Cx) (ifs : List Expr) (f : FB) : Prop where
  can : PTs X ifs (canT X.K noEr f)
def bYes : FB := fun _ S => .ok true S
theorem sts_nil : STs X [] bYes := ⟨⟨fun pins s σ H Q I ⟨ρ, σ', S, T, h⟩ => pts_nil.run pins s σ H Q I (h H ρ (To.refl _ _) T.hr)⟩⟩
theorem sts_one {c : Expr} {f : FB} (h : ST X noEr c f) : STs X [c] f := ⟨pts_one h.can⟩
/-! ### the loop -/
open Classical in
noncomputable def lcF {α : Type} (st : Bxs → Prop) (g : α → Sg → Bxs → Rs Sg) (tt : FB) (te : FE) (σw : Sg) (n : Nat) : List α → Bxs → Rs Unit
  | [], S => if st S then .ok () S else .no
  | x :: xs, S => if st S then (g x σw S).bind fun σ1 S1 => (tt σ1 S1).bind fun b S2 => if b = true then (te σ1 S2).bind fun d S3 => match S3.lst n with
      | some acc => if acc.length < LIM then lcF st g tt te σw n xs (S3.set n (.lst (acc ++ [d]))) else .no
      | none => .no else lcF st g tt te σw n xs S2 else .no
/-- what raises is not told -/
def Rs.quiet {α : Type} : Rs α → Rs α
  | .ok a s => .ok a s
  | _ => .no
@[simp] theorem Rs.quiet_ok {α : Type} (a : α) (s : Bxs) : (Rs.ok a s).quiet = .ok a s := rfl
theorem quiet_sat {α : Type} {r : Rs α} {P : α → Bxs → Prop} {E E' : Nat → List Dt → Bxs → Prop} (h : r.quiet.Sat P E) : r.Sat P E' := by
  cases r with
  | ok a s => exact h
  | ex c ds s => exact h.elim
  | no => exact h.elim
noncomputable def dLc {α : Type} (src : Src α) (g : α → Sg → Bxs → Rs Sg) (tt : FB) (te : FE) (vs : List Nat) : FE := fun σ S => (src σ S).bind fun r S1 =>
  (lcF r.2 g tt te (wipeD σ vs) S1.length r.1 (S1 ++ [.lst []])).quiet.bind fun _ S2 => .ok (.box S1.length) S2
theorem lcF_st {α : Type} {st : Bxs → Prop} {g : α → Sg → Bxs → Rs Sg} {tt : FB} {te : FE} {n : Nat} {xs : List α} {P : Unit → Bxs → Prop} {E : Nat → List Dt → Bxs → Prop} (h : (lcF st g tt te σ n xs S).Sat P E) : st S := by
  cases xs with
  | nil => unfold lcF at h; exact (iteC_sat h).1
  | cons x xs => unfold lcF at h; exact (iteC_sat h).1
/-- what the reading of a comprehension asks, from the plain one -/
theorem lc_sat {α : Type} {it : IRel α} {src : Src α} {g : α → Sg → Bxs → Rs Sg} {ft : FB} {fe : FE} {vs : List Nat} {wi : TI} (qi : ∀ τ H ρ σ S R, Ty X.K H ρ σ S τ → (src σ S).Sat (KI X.K H ρ it R) (KX Er H ρ) → wi τ H R)
    {Q : VK} (T : Ty X.K H ρ σ S τ) (h : (dLc src g ft fe vs σ S).Sat (KO X.K H ρ Q) (KX Er H ρ)) : tLc wi (canV X.K vs it g) (canT X.K noEr ft) (canE X.K noEr fe) vs τ H Q := by
  refine qi τ H ρ σ S _ T ((link h).mono (fun r S1 h1 => ?_) fun _ _ _ q => q)
  obtain ⟨xs, st⟩ := r
  intro H1 ρ1 J G Y t1 hr1 w hG hY
  intro D hD
  have h2 : (lcF st g ft fe (wipeD σ vs) S1.length xs (S1 ++ [MBox.lst []])).Sat (fun _ S2 => KO X.K H ρ Q (.box S1.length) S2) noX := quiet_sat (link h1)
  have tD : To H1 (upd H1 D (.lst [])) ρ1 (ρ1 ++ [D]) := ⟨Ext.new hD, List.prefix_append _ _⟩
  have hDr : (ρ1 ++ [D])[S1.length]? = some D := by rw [← hr1.len, List.getElem?_append_right (Nat.le_refl _), Nat.sub_self]; rfl
  refine lc_it w (fun i H' => ∃ ρ' S', To (upd H1 D (.lst [])) H' (ρ1 ++ [D]) ρ' ∧ HR X.K H' ρ' S' ∧ (lcF st g ft fe (wipeD σ vs) S1.length (xs.drop i) S').Sat (fun _ S2 => KO X.K H ρ Q (.box S1.length) S2) noX)
    ⟨ρ1 ++ [D], S1 ++ [MBox.lst []], To.refl _ _, hr1.new hD .nil, h2⟩ (fun i H' _ ⟨ρ', S', t', hr', h'⟩ => hG H' ρ' S' (tD.trans t') hr' (lcF_st h')) (fun i x H' H'' hlt ⟨ρ', S', t', hr', h'⟩ hy => ?_) fun H' ⟨ρ', S', t', hr', h'⟩ => ?_
  · have hi : xs[i]? = some xs[i] := List.getElem?_eq_getElem hlt
    have hd : xs.drop i = xs[i] :: xs.drop (i + 1) := List.drop_eq_getElem_cons hlt
    rw [hd] at h'
    have hst := lcF_st h'
    unfold lcF at h'
    obtain ⟨_, h'⟩ := iteC_sat h'
    have Tw : Ty X.K H' ρ' (wipeD σ vs) S' (L2.wipe τ vs) := ⟨hr', (T.sl.to ((t1.trans tD).trans t')).wipe vs⟩
    refine ⟨H', xs[i], ρ', wipeD σ vs, S', Tw, hY i _ x H' H'' ρ' S' (tD.trans t') hr' hst hi hy, (link h').mono (fun σ1 S2 h3 => ?_) fun _ _ _ q => q⟩
    intro τ2 H2 ρ2 t2 T2 w2
    refine ⟨?_, ρ2, σ1, S2, T2, (link h3).mono (fun b S3 h4 => ?_) fun c ds s q => q.elim⟩
    · rw [w2]
      have idem : ∀ (us : List Nat) (τ : L2.St), (∀ u ∈ us, u ∈ vs) → L2.wipe (L2.wipe τ us) vs = L2.wipe τ vs := by
        intro us
        induction us with
        | nil => intro τ _; rfl
        | cons u us ih =>
          intro τ hu
          show L2.wipe ((L2.wipe τ us).set u none) vs = L2.wipe τ vs
          rw [wipe_set (hu u List.mem_cons_self)]
          exact ih τ fun x hx => hu x (List.mem_cons_of_mem _ hx)
      exact idem vs τ fun u hu => hu
    intro H3 ρ3 t3 hr3
    cases b with
    | true =>
      rw [if_pos rfl] at h4
      show if true = true then _ else _
      rw [if_pos rfl]
      refine ⟨ρ3, σ1, S3, T2.to t3 hr3, (link h4).mono (fun d S4 h5 => ?_) fun c ds s q => q.elim⟩
      intro y H4 ρ4 t4 hr4 dv
      cases e : S4.lst S1.length with
      | none => rw [e] at h5; exact h5.elim
      | some acc =>
        rw [e] at h5
        obtain ⟨hl, h5⟩ := ite_sat h5
        have ha : ρ4[S1.length]? = some D := pre_get (((t'.trans t2).trans t3).trans t4).pre hDr
        obtain ⟨us, g1, g2⟩ := hr4.mu ha e
        have tu : To H4 (upd H4 D (.lst (us ++ [y]))) ρ4 ρ4 := ⟨Ext.set g1, List.prefix_refl _⟩
        exact ⟨us, g1, by rw [← g2.length]; exact lim_lt hl, ρ4, _, (((t'.trans t2).trans t3).trans t4).trans tu, hr4.set (lst_get e) ha g1 (g2.app (.cons dv .nil)), h5⟩
    | false =>
      rw [if_neg Bool.false_ne_true] at h4
      show if false = true then _ else _
      rw [if_neg Bool.false_ne_true]
      exact ⟨ρ3, S3, (t'.trans t2).trans t3, hr3, h4⟩
  · rw [List.drop_length] at h'
    unfold lcF at h'
    obtain ⟨_, h'⟩ := iteC_sat h'
    exact h' (.ref D) H' ρ' ((t1.trans tD).trans t') hr' (.box (pre_get t'.pre hDr))
section
variable {α : Type} {it : IRel α} {elt tg iter : Expr} {ifs : List Expr} {scope : Scope} {own : List (Str × Nat)} {pos : Pos} {src : Src α} {g : α → Sg → Bxs → Rs Sg} {ft : FB} {fe : FE}
theorem se_lc (own : List (Str × Nat)) (hc : X.calm = true) (hN : X.N.Nodup) (hi : SI X Er it tg iter src) (ok : BlkOk X.N X.env.scope scope own)
    (hg : ∀ (s : Shared) (H : Hp) (C : Addr) (cl : List (Str × Addr)) (fp : List Addr), SVi (X.blk s H scope (compEnvC scope cl C X.env) fp) (own.map (·.2)) it tg g)
    (ht : ∀ (s : Shared) (H : Hp) (C : Addr) (cl : List (Str × Addr)) (fp : List Addr), STs (X.blk s H scope (compEnvC scope cl C X.env) fp) ifs ft)
    (he : ∀ (s : Shared) (H : Hp) (C : Addr) (cl : List (Str × Addr)) (fp : List Addr), SE (X.blk s H scope (compEnvC scope cl C X.env) fp) noEr elt fe)
    (hs : ∀ x, foldedSetIterable iter X.env x = pure x := by intro _; rfl) : SE X Er (.ListComp elt [⟨tg, iter, ifs, 0⟩] scope pos) (dLc src g ft fe (own.map (·.2))) := by
  obtain ⟨wi, pi, qi⟩ := hi.ex
  exact ⟨tLc wi (canV X.K (own.map (·.2)) it g) (canT X.K noEr ft) (canE X.K noEr fe) (own.map (·.2)), pe_lc hc hN pi ok (fun s H C cl fp => (hg s H C cl fp).can) (fun s H C cl fp => (ht s H C cl fp).can) (fun s H C cl fp => (he s H C cl fp).can) hs, fun τ H ρ σ S Q T h => lc_sat qi T h⟩
/-- name = [..] on one line, the name a local -/
theorem ss_setLc (i : Nat) (own : List (Str × Nat)) {y : Str} {py spos : Pos} (hc : X.calm = true) (hN : X.N.Nodup) (hi : SI X Er it tg iter src) (ok : BlkOk X.N X.env.scope scope own)
    (hsw : swapsWith (.ListComp elt [⟨tg, iter, ifs, 0⟩] scope pos) (some (.Name y py)) spos.line X.env = pure true)
    (hg : ∀ (s : Shared) (H : Hp) (C : Addr) (cl : List (Str × Addr)) (fp : List Addr), SVi (X.blk s H scope (compEnvC scope cl C X.env) fp) (own.map (·.2)) it tg g)
    (ht : ∀ (s : Shared) (H : Hp) (C : Addr) (cl : List (Str × Addr)) (fp : List Addr), STs (X.blk s H scope (compEnvC scope cl C X.env) fp) ifs ft)
    (he : ∀ (s : Shared) (H : Hp) (C : Addr) (cl : List (Str × Addr)) (fp : List Addr), SE (X.blk s H scope (compEnvC scope cl C X.env) fp) noEr elt fe)
    (hy : X.N[i]? = some y := by rfl) (hyl : X.env.scope.names.lookup y = some .local := by rfl) (hs : ∀ x, foldedSetIterable iter X.env x = pure x := by intro _; rfl) :
    SS X Er (.Assign [.Name y py] (.ListComp elt [⟨tg, iter, ifs, 0⟩] scope pos) spos) (sSet i (dLc src g ft fe (own.map (·.2)))) := by
  obtain ⟨wi, pi, qi⟩ := hi.ex
  refine ⟨tAsg (tLc wi (canV X.K (own.map (·.2)) it g) (canT X.K noEr ft) (canE X.K noEr fe) (own.map (·.2))) (gName i), ps_setLc hc hN hy hyl hsw pi ok (fun s H C cl fp => (hg s H C cl fp).can) (fun s H C cl fp => (ht s H C cl fp).can) (fun s H C cl fp => (he s H C cl fp).can) hs, fun τ H ρ σ S D T h => ?_⟩
  refine lc_sat qi T ((link h).mono (fun d S1 h1 => ?_) fun _ _ _ q => q)
  intro v H1 ρ1 t1 hr1 dv
  exact h1 _ H1 ρ1 t1 ⟨hr1, (T.sl.to t1).set i dv⟩
end
end
end Mn
set_option Elab.async false
set_option linter.all false
set_option maxRecDepth 100000
set_option maxHeartbeats 4000000
/-! MnH: defs, their calls, repr, the end of a law. -/
namespace Mn
open PySem PySem.Spec PyProof.Rows L2
abbrev FN := List Dt → Bxs → Rs Dt
/-- the def at f comes to what F tells, where no repr is under way -/
structure FnD (P : Program) (w : World) (K : PySem.W.Frag) (mg : Str → Option Value) (base : Heap) (CX : CXT) (eo : XK → ER) (k : Nat) (f : Addr) (fd : FuncData) (ps : List Str) (F : FN) : Prop where
  run : ∀ (A : Around) (outer : List Env) (s : Shared) (H : Hp) (args : Args) (us : List Value) (vs : List V) (ρ : List Addr) (S : Bxs) (ds : List Dt) (Q : VK) (E : XK), A.guards = some [] → Room k A → Env0 P w K mg base A outer s H →
    BindsTo s fd args (ps.zip us) → Vals vs us → ds.length = ps.length → HR K H ρ S → DVs K H ρ ds vs → (F ds S).Sat (KO K H ρ Q) (KX (eo E) H ρ) → codeAny (model P w) A (.call (.ref f) args) (CR CX outer P w H s Q E) s
theorem FnD.mono {P : Program} {w : World} {K : PySem.W.Frag} {mg : Str → Option Value} {base : Heap} {CX : CXT} {eo : XK → ER} {j k : Nat} {f : Addr} {fd : FuncData} {ps : List Str} {F : FN} (h : FnD P w K mg base CX eo j f fd ps F) (hk : j ≤ k) :
    FnD P w K mg base CX eo k f fd ps F := ⟨fun A outer s H args us vs ρ S ds Q E hg hr => h.run A outer s H args us vs ρ S ds Q E hg (hr.mono hk)⟩
/-! ### a def by its body -/
/-- the slots at the entry -/
def startD (n : Nat) (ds : List Dt) : Sg := ds.map some ++ List.replicate (n - ds.length) none
def bodyF (n : Nat) (f : FS) : FN := fun ds S => (f (startD n ds) S).bind fun r S1 => match r.1 with
  | .rt d => .ok d S1
  | .nx => .ok .non S1
  | _ => .no
theorem sl_start {K : PySem.W.Frag} {H : Hp} {ρ : List Addr} {N : List Str} {ds : List Dt} {vs : List V} (h : DVs K H ρ ds vs) : Sl K H ρ (startD N.length ds) (L2.start N vs) := by
  have hl := h.length
  refine ⟨by unfold startD L2.start; simp [hl], fun i d e => ?_⟩
  unfold startD at e
  unfold L2.start
  by_cases hi : i < ds.length
  · rw [List.getElem?_append_left (by simpa using hi), List.getElem?_map] at e
    cases e2 : ds[i]? with
    | none => rw [e2] at e; cases e
    | some d' =>
      rw [e2] at e
      cases e
      obtain ⟨v, h1, h2⟩ := h.get e2
      refine ⟨v, ?_, h2⟩
      rw [List.getElem?_append_left (by simpa [← hl] using hi), List.getElem?_map, h1]
      rfl
  · rw [List.getElem?_append_right (by simpa using hi), List.getElem?_replicate] at e
    split at e <;> cases e
section
variable {P : Program} {w : World} {K : PySem.W.Frag} {mg : Str → Option Value} {base : Heap}
theorem fnD_of {CX : CXT} {eo : XK → ER} {k : Nat} {x qual : Str} {st : Stmt} {f : Addr} {fd : FuncData} {N ps : List Str} {fb : FS} (F : Fun K x qual st f fd) (S0 : FnScope N ps (defScope st))
    (hbody : ∀ cdv : Value, fd.code = cdv → ∀ (A : Around) (outer : List Env) (s : Shared) (H : Hp) (E : XK), Room k (A.deeper (envOfC qual (defScope st) s.heap.objs.size f cdv)) → A.guards = some [] →
      SSs (cxOf CX P w K mg base N qual (defScope st) f cdv A outer s H E) (eo E) (defBody st) fb) : FnD P w K mg base CX eo (k + 1) f fd ps (bodyF N.length fb) := by
  obtain ⟨oc, od, kV, doc, pm, an, cdv, ct, osl, rfl, lk, hcd⟩ := F.ex
  constructor
  intro A outer s H args us vs ρ S ds Q E hgd hr e0 hb r hl hR dvs hs
  have hlv : vs.length = ps.length := by rw [← dvs.length]; exact hl
  have inK : K.In s.heap := e0.mod.kin.keeps fun b o e => (e0.bs b o e).1
  have lim : s.heap.NoLimit := e0.mod.nolimit.keeps fun b o e => (e0.bs b o e).1
  have kinds : ∀ y ∈ ps.zip us, (defScope st).names.lookup y.1 = some .local ∨ ((defScope st).names.lookup y.1 = some .cell ∧ ((cellsFrom (s.heap.objs.size + 1) (defScope st).names []).lookup y.1).isSome = true) := by
    rintro ⟨n, v⟩ hy
    rcases S0.par n (List.of_mem_zip hy).1 with q | q
    · exact .inl q
    · exact .inr ⟨q, PySem.W.cellsFrom_some _ _ _ (.inl q)⟩
  refine codeAny_call_function hr.depth (inK _ _ lk) rfl S0.co S0.gen rfl (PySem.W.codeRec_of inK hcd) (hb _ _ _ _ ?_)
  refine wpAny_newFunctionEnv_cells S0.kind kinds fun env he s1 x1 => ?_
  subst he
  refine ⟨lim.keeps x1.toInCall.keep, codeAny_func ?_⟩
  obtain ⟨t, pt, qt⟩ := (hbody cdv rfl A outer s H E (hr.deeper _) hgd).ex
  have I := inv_start (CX := CX) (E := E) S0 hr.hd e0 hlv r x1
  have T : Ty K H ρ (startD N.length ds) S (L2.start N vs) := ⟨hR, sl_start dvs⟩
  have go : t { nx := fun _ H' => Q .non H', rt := Q } (L2.start N vs) H := by
    refine qt _ H ρ (startD N.length ds) S _ T ((link hs).mono (fun r S1 h1 => ?_) fun _ _ _ q => q)
    obtain ⟨fl, σ1⟩ := r
    cases fl with
    | nx => exact fun τ' H' ρ' t' T' => h1 _ H' ρ' t' T'.hr .non
    | rt d => exact h1
    | bk => exact h1.elim
    | ct => exact h1.elim
  refine wpAny_mono (pt.run [] s1 (L2.start N vs) H _ I go) (fun fl s' hf => ?_) fun e s' he => he
  cases fl with
  | ret u =>
    obtain ⟨v, σ', H', J, rv, q⟩ := hf
    exact ⟨v, H', J.os, J.bare, J.base, J.hok, rv, q⟩
  | next =>
    obtain ⟨σ', H', J, q⟩ := hf
    exact ⟨V.non, H', J.os, J.bare, J.base, J.hok, rfl, q⟩
  | brk =>
    obtain ⟨_, _, _, q⟩ := hf
    exact False.elim q
  | cont =>
    obtain ⟨_, _, _, q⟩ := hf
    exact False.elim q
end
/-! ### a def called -/
section
variable {X : Cx} {Er : ER} {H H1 : Hp} {ρ ρ1 : List Addr} {σ : Sg} {S S1 : Bxs} {τ : L2.St}
theorem SE.ofCan {e : Expr} {f : FE} (h : PE X e (canE X.K Er f)) : SE X Er e f := ⟨_, h, fun τ H ρ σ S Q T q => ⟨ρ, σ, S, T, q⟩⟩
theorem se_call {CX : CXT} {eo : XK → ER} {E : XK} {k : Nat} {f : Addr} {fd : FuncData} {ps : List Str} {F : FN} {x : Str} {p pos : Pos} {e : Expr} {es : List Expr} {fa : FA} (n : Nat) (FD : FnD X.prog X.w X.K X.mg X.base CX eo k f fd ps F) (hgd : X.A.guards = some []) (hr : Room k X.A) (hg : Gl X x) (hm : X.mg x = some (.ref f))
    (hk : PySem.W.keepIn X.K (.ref f) = true) (hb : Binds X.K fd ps []) (hx : Passes CX X E) (hE : ∀ c ds S H ρ, Er c ds S H ρ → eo E c ds S H ρ) (ha : SA X Er (e :: es) fa) (hn : ∀ σ S ds S', fa σ S = .ok ds S' → ds.length = n) (hps : ps.length = n)
    (hdb : (x == ("__debug__" : Str)) = false := by decide) (he : starEach (e :: es) X.env = (false, eval e X.env) :: starEach es X.env := by rfl) (hpl : (backTo pos (starEach es X.env)).any (·.1) = false := by rfl) :
    SE X Er (.Call (.Name x p) (e :: es) [] pos) (dCall F fa) := by
  obtain ⟨ta, pa, qa⟩ := ha.ex
  refine SE.ofCan ⟨fun pins s τ H Q I ⟨ρ, σ, S, T, h⟩ => ?_⟩
  refine wpAny_Call_Name_kw (ld_glob I hg hm ?_ hdb)
  have h := link h
  have h' : (fa σ S).Sat (fun ds S1 => ds.length = n ∧ (F ds S1).Sat (KO X.K H ρ Q) (KX Er H ρ)) (KX Er H ρ) := by
    cases e0 : fa σ S with
    | ok ds S1 => rw [e0] at h; exact ⟨hn σ S ds S1 e0, h⟩
    | ex c ds S1 => rw [e0] at h; exact h
    | no => rw [e0] at h; exact h
  refine PySem.W.callWith_K (h₀ := X.base) I.ok.mod.kin hk (thn (pa.run pos pins s τ H (fun vs H1 => ∃ ρ1 S1 ds, To H H1 ρ ρ1 ∧ HR X.K H1 ρ1 S1 ∧ DVs X.K H1 ρ1 ds vs ∧ ds.length = n ∧ (F ds S1).Sat (KO X.K H ρ Q) (KX Er H ρ)) I ?_) ?_) he hpl
  · exact qa τ H ρ σ S _ T (h'.mono (fun ds S1 q vs H1 ρ1 t1 hr1 dvs => ⟨ρ1, S1, ds, t1, hr1, dvs, q.1, q.2⟩) fun _ _ _ q => q)
  · rintro us s1 ⟨vs, H1, I1, r, ρ1, S1, ds, t1, hr1, dvs, hl, q⟩
    refine ⟨I1.kIn, ?_⟩
    have hlu : (us ++ []).length = ps.length := by rw [List.append_nil, ← r.length, ← dvs.length, hl, hps]
    have hq := (Rs.Sat.toO t1 q).mono (fun _ _ z => z) (fun c es S' (z : KX Er H1 ρ1 c es S') => (fun H' ρ' t' => hE _ _ _ _ _ (z H' ρ' t') : KX (eo E) H1 ρ1 c es S'))
    refine wpAny_call (codeAny_mono (FD.run X.A X.stack s1 H1 ⟨us, []⟩ (us ++ []) vs ρ1 S1 ds Q E hgd hr I1.env0 (hb s1 us I1.kIn hlu) (by rw [List.append_nil]; exact r) (hl.trans hps.symm) hr1 dvs hq) fun rr s' hq => ?_)
    cases rr with
    | error e => exact hx pins τ H1 s1 e s' I1 hq
    | ok fl =>
      cases fl with
      | ret u => exact I1.after hq
      | next => exact False.elim hq
      | brk => exact False.elim hq
      | cont => exact False.elim hq
/-- so many arguments -/
theorem len_nil : ∀ σ S ds S', aNil σ S = .ok ds S' → ds.length = 0 := fun σ S ds S' h => by cases h; rfl
theorem len_cons {a : FE} {r : FA} {n : Nat} (hr : ∀ σ S ds S', r σ S = .ok ds S' → ds.length = n) : ∀ σ S ds S', aCons a r σ S = .ok ds S' → ds.length = n + 1 := fun σ S ds S' h => by
  unfold aCons at h
  cases e : a σ S with
  | ok d S1 =>
    rw [e, Rs.bind_ok] at h
    cases e2 : r σ S1 with
    | ok es S2 =>
      rw [e2, Rs.bind_ok] at h
      cases h
      rw [List.length_cons, hr _ _ _ _ e2]
    | ex c es S2 => rw [e2] at h; cases h
    | no => rw [e2] at h; cases h
  | ex c es S1 => rw [e] at h; cases h
  | no => rw [e] at h; cases h
end
/-! ### repr -/
section
variable {X : Cx} {Er : ER} {K : PySem.W.Frag} {H H1 : Hp} {ρ ρ1 : List Addr} {σ : Sg} {S S1 : Bxs} {τ : L2.St}
def showOk (p : PyData) : Bool := PyData.showable p && !PyData.hasDict p && decide (p.depth ≤ 60) && decide (p.shown.length ≤ strLim)
def reprG : GC := fun ds S => match ds with
  | [d] => match pdo S d with
    | some p => if showOk p = true then .ok (.str p.shown) S else .no
    | none => .no
  | _ => .no
theorem reprG_calm : CalmC reprG := by
  intro ds S c es S'
  unfold reprG
  split
  · split
    · exact calm_ite (calm_ok _ _) _ _ _
    · exact calm_no _ _ _
  · exact calm_no _ _ _
def rRepr (K : PySem.W.Frag) : List V → Hp → VK → Prop := fun vs H Q => ∃ v p, vs = [v] ∧ Dp K H v p ∧ showOk p = true ∧ Q (.str p.shown) H
theorem call_repr (hg : X.A.guards = some []) (hu : X.A.units + 64 < cLine) : CallR X (.builtin "repr") (rRepr X.K) := by
  rintro pins s σ H xs us Q I r ⟨v, p, rfl, hd, hs, q⟩
  obtain ⟨u, rfl, rv⟩ := vals1 r
  unfold showOk at hs
  rw [Bool.and_eq_true, Bool.and_eq_true, Bool.and_eq_true, decide_eq_true_eq, decide_eq_true_eq] at hs
  obtain ⟨⟨⟨s1, s2⟩, s3⟩, s4⟩ := hs
  have hsz : p.shown.length ≤ sizeLine := Nat.le_trans s4 (by decide)
  have hnd : p.hasDict = true → False := fun z => by rw [z] at s2; cases s2
  obtain ⟨as, hr⟩ := Dp.reads I p v u hd rv
  cases hd with
  | non =>
    cases rv
    exact PySem.P.repr_of_none ⟨.str _, H, I.tok _, ⟨_, rfl⟩, q⟩
  | bl b =>
    cases rv
    refine PySem.P.repr_of_bool ⟨.str _, H, I.tok _, ⟨_, rfl⟩, ?_⟩
    have q' : Q (.str (PyData.shown (.bool b))) H := q
    simp only [PyData.shown] at q'
    cases b <;> exact q'
  | int i =>
    obtain ⟨t, rfl⟩ := rv
    refine PySem.P.repr_of_int ?_ ⟨.str _, H, I.tok _, ⟨_, rfl⟩, ?_⟩
    · simpa [PyData.showable] using s1
    · have q' : Q (.str (PyData.shown (.int i))) H := q
      simp only [PyData.shown] at q'
      exact q'
  | str x =>
    obtain ⟨t, rfl⟩ := rv
    have q' : Q (.str (PyData.shown (.str x))) H := q
    simp only [PyData.shown] at q' hsz
    exact PySem.P.repr_of_str ⟨.str _, H, I.tok _, ⟨_, rfl⟩, q'⟩ hsz
  | lst hq ha =>
    cases rv
    exact repr_of_reads' hr s1 (fun z => (hnd z).elim) hg (by omega) (fun _ _ e => e) (fun h' u tk hk => ⟨.str _, H, I.kept (t' := tk) hk, ⟨_, rfl⟩, q⟩) hsz
  | tup hq ha =>
    cases rv
    exact repr_of_reads' hr s1 (fun z => (hnd z).elim) hg (by omega) (fun _ _ e => e) (fun h' u tk hk => ⟨.str _, H, I.kept (t' := tk) hk, ⟨_, rfl⟩, q⟩) hsz
theorem rc_repr : RCo K (rRepr K) reprG := by
  intro H ρ S ds vs Q hr dvs h
  cases dvs with
  | nil => exact h.elim
  | cons dv r =>
    cases r with
    | cons _ _ => exact h.elim
    | nil =>
      unfold reprG at h
      simp only at h
      rename_i d v
      cases e : pdo S d with
      | none => rw [e] at h; exact h.elim
      | some p =>
        rw [e] at h
        obtain ⟨c, h⟩ := ite_sat h
        exact ⟨v, p, rfl, dp_of hr _ d v p dv e, c, ko_here hr h (.str _)⟩
end
end Mn
set_option Elab.async false
set_option linter.all false
set_option maxRecDepth 100000
set_option maxHeartbeats 4000000
/-! MnI: built-in calls and methods. -/
namespace Mn
open PySem PySem.Spec PyProof.Rows L2
section
variable {X : Cx} {Er : ER} {K : PySem.W.Frag} {H H1 : Hp} {ρ ρ1 : List Addr} {σ : Sg} {S S1 : Bxs} {τ : L2.St}
/-! ### lists of ints, of truths, of texts -/
def intsOf : List Dt → Option (List Int)
  | [] => some []
  | .int i :: r => (intsOf r).map (i :: ·)
  | _ => none
def blsOf : List Dt → Option (List Bool)
  | [] => some []
  | .bl b :: r => (blsOf r).map (b :: ·)
  | _ => none
def strsOf : List Dt → Option (List Str)
  | [] => some []
  | .str b :: r => (strsOf r).map (b :: ·)
  | _ => none
theorem ints_v : ∀ {ds : List Dt} {vs : List V} {ns : List Int}, DVs K H ρ ds vs → intsOf ds = some ns → vs = ns.map V.int
  | _, _, _, .nil, h => by cases h; rfl
  | _, _, ns, .cons dv r, h => by
    cases dv <;> first | (cases h; done) | skip
    unfold intsOf at h
    rename_i ds vs i
    cases e : intsOf ds with
    | none => rw [e] at h; cases h
    | some ms =>
      rw [e] at h
      cases h
      rw [List.map_cons, ints_v r e]
theorem bls_v : ∀ {ds : List Dt} {vs : List V} {ns : List Bool}, DVs K H ρ ds vs → blsOf ds = some ns → vs = ns.map V.bl
  | _, _, _, .nil, h => by cases h; rfl
  | _, _, ns, .cons dv r, h => by
    cases dv <;> first | (cases h; done) | skip
    unfold blsOf at h
    rename_i ds vs i
    cases e : blsOf ds with
    | none => rw [e] at h; cases h
    | some ms =>
      rw [e] at h
      cases h
      rw [List.map_cons, bls_v r e]
theorem strs_v : ∀ {ds : List Dt} {vs : List V} {ns : List Str}, DVs K H ρ ds vs → strsOf ds = some ns → vs = ns.map V.str
  | _, _, _, .nil, h => by cases h; rfl
  | _, _, ns, .cons dv r, h => by
    cases dv <;> first | (cases h; done) | skip
    unfold strsOf at h
    rename_i ds vs i
    cases e : strsOf ds with
    | none => rw [e] at h; cases h
    | some ms =>
      rw [e] at h
      cases h
      rw [List.map_cons, strs_v r e]
theorem dvs1 {d : Dt} {vs : List V} (h : DVs K H ρ [d] vs) : ∃ v, vs = [v] ∧ DV K H ρ d v := by
  cases h with
  | cons a r => cases r; exact ⟨_, rfl, a⟩
theorem dvs2 {d e : Dt} {vs : List V} (h : DVs K H ρ [d, e] vs) : ∃ v w, vs = [v, w] ∧ DV K H ρ d v ∧ DV K H ρ e w := by
  cases h with
  | cons a r =>
    cases r with
    | cons b r => cases r; exact ⟨_, _, rfl, a, b⟩
/-! ### len, list, tuple -/
def lenG : GC := fun ds S => match ds with
  | [.str z] => if z.length ≤ strLim then .ok (.int z.length) S else .no
  | [d] => match seqOf S d with
    | some xs => .ok (.int (xs.length : Int)) S
    | none => .no
  | _ => .no
theorem lenG_calm : CalmC lenG := by
  intro ds S c es S'
  unfold lenG
  split
  · exact calm_ite (calm_ok _ _) _ _ _
  · split
    · exact calm_ok _ _ _ _ _
    · exact calm_no _ _ _
  · exact calm_no _ _ _
def rLen (K : PySem.W.Frag) : List V → Hp → VK → Prop := fun xs H Q => ∃ x n, xs = [x] ∧ LenV K x H n ∧ Q (.int n) H
theorem rc_len : RCo K (rLen K) lenG := by
  intro H ρ S ds vs Q hr dvs h
  unfold lenG at h
  split at h
  · obtain ⟨v, rfl, dv⟩ := dvs1 dvs
    cases dv
    obtain ⟨c, h⟩ := ite_sat h
    exact ⟨_, _, rfl, ⟨Nat.le_trans c (by decide), rfl⟩, ko_here hr h (.int _)⟩
  · obtain ⟨v, rfl, dv⟩ := dvs1 dvs
    split at h
    · rename_i xs e
      obtain ⟨a, us, rfl, hs, hd⟩ := seq_of hr dv e
      have hl := hd.length
      rw [hl] at h
      refine ⟨_, us.length, rfl, ?_, ko_here hr h (.int _)⟩
      rcases hs with hs | hs
      · exact .inl ⟨us, hs, rfl⟩
      · exact .inr ⟨us, hs, rfl⟩
    · exact h.elim
  · exact h.elim
def listG : GC := fun ds S => match ds with
  | [d] => match seqOf S d with
    | some xs => newL xs S
    | none => .no
  | _ => .no
theorem listG_calm : CalmC listG := by
  intro ds S c es S'
  unfold listG
  split
  · split
    · exact newL_calm _ _ _ _ _
    · exact calm_no _ _ _
  · exact calm_no _ _ _
def rList (K : PySem.W.Frag) : List V → Hp → VK → Prop := fun xs H Q => ∃ p ys, xs = [.ref p] ∧ (SqL K H p ys ∨ SqT K H p ys) ∧ ∀ l, H l = none → Q (.ref l) (upd H l (.lst ys))
theorem rc_list : RCo K (rList K) listG := by
  intro H ρ S ds vs Q hr dvs h
  unfold listG at h
  split at h
  · obtain ⟨v, rfl, dv⟩ := dvs1 dvs
    split at h
    · rename_i xs e
      obtain ⟨a, us, rfl, hs, hd⟩ := seq_of hr dv e
      obtain ⟨hl, h⟩ := newL_ok h
      exact ⟨a, us, rfl, hs, fun p hp => new_lst hr hd hp h⟩
    · exact h.elim
  · exact h.elim
def tupleG : GC := fun ds S => match ds with
  | [.tup xs] => .ok (.tup xs) S
  | [.box n] => match S.seq n with
    | some xs => .ok (.tup xs) S
    | none => .no
  | _ => .no
theorem tupleG_calm : CalmC tupleG := by
  intro ds S c es S'
  unfold tupleG
  split
  · exact calm_ok _ _ _ _ _
  · split
    · exact calm_ok _ _ _ _ _
    · exact calm_no _ _ _
  · exact calm_no _ _ _
theorem rc_tuple : RCo K (rTupZ K) tupleG := by
  intro H ρ S ds vs Q hr dvs h
  unfold tupleG at h
  split at h
  · obtain ⟨v, rfl, dv⟩ := dvs1 dvs
    cases dv with
    | tup ht hd => exact ⟨_, _, rfl, .inr ⟨ht.sqt, ko_here hr h (.tup ht hd)⟩⟩
  · obtain ⟨v, rfl, dv⟩ := dvs1 dvs
    split at h
    · rename_i xs e
      cases dv with
      | box ha =>
        obtain ⟨us, h1, h2⟩ := hr.rd ha e
        exact ⟨_, us, rfl, .inl ⟨h1, new_tup hr h2 h⟩⟩
    · exact h.elim
  · exact h.elim
/-! ### numbers -/
def absG : GC := fun ds S => match ds with
  | [.int i] => .ok (.int (if i < 0 then -i else i)) S
  | _ => .no
theorem absG_calm : CalmC absG := by
  intro ds S c es S'
  unfold absG
  split <;> first | exact calm_ok _ _ _ _ _ | exact calm_no _ _ _
theorem rc_abs : RCo K (fun xs H Q => ∃ i, xs = [.int i] ∧ Q (.int (if i < 0 then -i else i)) H) absG := by
  intro H ρ S ds vs Q hr dvs h
  unfold absG at h
  split at h
  · obtain ⟨v, rfl, dv⟩ := dvs1 dvs
    cases dv
    exact ⟨_, rfl, ko_here hr h (.int _)⟩
  · exact h.elim
def intG : GC := fun ds S => match ds with
  | [.int i] => .ok (.int i) S
  | [.bl b] => .ok (.int (if b then 1 else 0)) S
  | _ => .no
theorem intG_calm : CalmC intG := by
  intro ds S c es S'
  unfold intG
  split <;> first | exact calm_ok _ _ _ _ _ | exact calm_no _ _ _
theorem rc_int : RCo K (fun xs H Q => (∃ i, xs = [.int i] ∧ Q (.int i) H) ∨ ∃ k, xs = [.bl k] ∧ Q (.int (if k then 1 else 0)) H) intG := by
  intro H ρ S ds vs Q hr dvs h
  unfold intG at h
  split at h
  · obtain ⟨v, rfl, dv⟩ := dvs1 dvs
    cases dv
    exact .inl ⟨_, rfl, ko_here hr h (.int _)⟩
  · obtain ⟨v, rfl, dv⟩ := dvs1 dvs
    cases dv
    exact .inr ⟨_, rfl, ko_here hr h (.int _)⟩
  · exact h.elim
def maxI : List Int → Int
  | [] => 0
  | [i] => i
  | i :: r => if maxI r > i then maxI r else i
theorem maxI_of : ∀ {ns : List Int} {m : Int}, m ∈ ns → (∀ y, y ∈ ns → y ≤ m) → maxI ns = m
  | [i], m, h, _ => (List.mem_singleton.mp h).symm
  | i :: j :: r, m, h, hm => by
    show (if maxI (j :: r) > i then maxI (j :: r) else i) = m
    have hmem : maxI (j :: r) ∈ j :: r := by
      have go : ∀ l : List Int, l ≠ [] → maxI l ∈ l := by
        intro l
        induction l with
        | nil => intro h; exact absurd rfl h
        | cons a l ih =>
          intro _
          cases l with
          | nil => exact List.mem_singleton.mpr rfl
          | cons b l =>
            show (if maxI (b :: l) > a then maxI (b :: l) else a) ∈ _
            split
            · exact List.mem_cons_of_mem _ (ih (List.cons_ne_nil _ _))
            · exact List.mem_cons_self
      exact go _ (List.cons_ne_nil _ _)
    have h1 := hm _ (List.mem_cons_of_mem _ hmem)
    have h2 := hm i List.mem_cons_self
    rcases List.mem_cons.mp h with e | e
    · split
      · omega
      · exact e.symm
    · have h3 : maxI (j :: r) = m := maxI_of e fun y hy => hm y (List.mem_cons_of_mem _ hy)
      split
      · exact h3
      · omega
/-! max of a tuple -/
section
variable {prog : Program} {w : World} {A : Around} {E : Value → Shared → Prop} {s : Shared} {l : Addr} {its : List Value} {ns : List Int} {Q : Value → Shared → Prop}
theorem iter_tup {xs : Array Value} {Q : Value → Shared → Prop} (hl : s.heap.IsTuple l xs)
    (h : ∀ s₂ : Shared, s₂ = { s with heap := s.heap.push { cls := .type "tuple_iterator", data := .fields #[.ref l, .int 0 0] } } →
      (s₂.heap.IsTupleIter s.heap.objs.size l 0 ∧ s₂.heap.IsTuple l xs) → (∀ b ∈ [s.heap.objs.size, l], b < s₂.heap.objs.size) → l ≠ s.heap.objs.size → Q (.ref s.heap.objs.size) s₂) :
    wpAny (model prog w) A (pyIter (.ref l)) Q E s := by
  have hlt : l < s.heap.objs.size := by obtain ⟨_, e, _⟩ := hl; exact Heap.lt_size e
  refine wpAny_pyIter_tuple hl (h _ rfl ⟨⟨_, Heap.get?_push_size _ rfl, rfl, rfl⟩, hl.at fun o e => Heap.get?_push_of_some _ e⟩ (fun b hb => ?_) (Nat.ne_of_lt hlt))
  show b < (s.heap.push _).objs.size
  rw [Heap.size_push]
  rcases List.mem_cons.mp hb with rfl | hb
  · exact Nat.lt_succ_self _
  · rcases List.mem_cons.mp hb with rfl | hb
    · exact Nat.lt_succ_of_lt hlt
    · cases hb
theorem old_keptT {h' : Heap} (hk : ∀ b o, b ∉ [s.heap.objs.size] → (s.heap.push { cls := .type "tuple_iterator", data := .fields #[.ref l, .int 0 0] }).get? b = some o → h'.get? b = some o) :
    ∀ b o, s.heap.get? b = some o → h'.get? b = some o := fun b o e => by
  refine hk b o (fun hm => ?_) (Heap.get?_push_of_some _ e)
  rcases List.mem_cons.mp hm with e1 | hm
  · exact absurd (e1 ▸ Heap.lt_size e) (Nat.lt_irrefl _)
  · cases hm
theorem max_tup_raw (hh : A.handled = none) (hl : s.heap.IsTuple l its.toArray) (hi : IntsAre its ns) (hne : 0 < ns.length)
    (h : ∀ h' tk M t', (∀ b o, s.heap.get? b = some o → h'.get? b = some o) → M ∈ ns → (∀ a, a ∈ ns → a ≤ M) → Q (.int M t') { s with heap := h', toks := tk }) : wpAny (model prog w) A (call (.builtin "max") [.ref l]) Q E s := by
  obtain ⟨xs, e⟩ := hi.allInts.items
  have hn : numsOf (intItems xs).toList = ns := by rw [← e]; exact hi.numsOf
  rw [nums_intItems] at hn
  subst hn
  rw [e] at hl
  have hsz : 0 < xs.size := by simpa using hne
  refine call_max_walk (iter_tup hl fun s₂ e st hfp hlI => ?_)
  subst e
  refine ⟨_, _, _, _, _, _, _, rfl, Walks.tuple (A := A.in1) hh _ l hlI (intItems xs), st, hfp, by simpa [intItems] using hsz, CmpOf.ints_gt (numAt xs) (fun _ _ => intItems_at), fun v h' tk hP hk => ?_⟩
  obtain ⟨t, rfl⟩ := intItems_at hP
  have hsz2 : (intItems xs).size = xs.size := by simp [intItems]
  rw [hsz2]
  obtain ⟨h1, h2⟩ := argBest_gt (numAt xs) (xs.size - 1)
  refine h h' tk _ t (old_keptT hk) ?_ fun a ha => ?_
  · rw [numAt_eq]; exact PySem.getD_mem (by rw [List.length_map, Array.length_toList]; omega)
  · obtain ⟨j, hj, rfl⟩ := mem_getD ha
    rw [List.length_map, Array.length_toList] at hj
    rw [← numAt_eq]; exact h2 j (by omega)
theorem min_tup_raw (hh : A.handled = none) (hl : s.heap.IsTuple l its.toArray) (hi : IntsAre its ns) (hne : 0 < ns.length)
    (h : ∀ h' tk M t', (∀ b o, s.heap.get? b = some o → h'.get? b = some o) → M ∈ ns → (∀ a, a ∈ ns → M ≤ a) → Q (.int M t') { s with heap := h', toks := tk }) : wpAny (model prog w) A (call (.builtin "min") [.ref l]) Q E s := by
  obtain ⟨xs, e⟩ := hi.allInts.items
  have hn : numsOf (intItems xs).toList = ns := by rw [← e]; exact hi.numsOf
  rw [nums_intItems] at hn
  subst hn
  rw [e] at hl
  have hsz : 0 < xs.size := by simpa using hne
  refine call_min_walk (iter_tup hl fun s₂ e st hfp hlI => ?_)
  subst e
  refine ⟨_, _, _, _, _, _, _, rfl, Walks.tuple (A := A.in1) hh _ l hlI (intItems xs), st, hfp, by simpa [intItems] using hsz, CmpOf.ints_lt (numAt xs) (fun _ _ => intItems_at), fun v h' tk hP hk => ?_⟩
  obtain ⟨t, rfl⟩ := intItems_at hP
  have hsz2 : (intItems xs).size = xs.size := by simp [intItems]
  rw [hsz2]
  obtain ⟨h1, h2⟩ := argBest_lt (numAt xs) (xs.size - 1)
  refine h h' tk _ t (old_keptT hk) ?_ fun a ha => ?_
  · rw [numAt_eq]; exact PySem.getD_mem (by rw [List.length_map, Array.length_toList]; omega)
  · obtain ⟨j, hj, rfl⟩ := mem_getD ha
    rw [List.length_map, Array.length_toList] at hj
    rw [← numAt_eq]; exact h2 j (by omega)
end
def rMaxT (K : PySem.W.Frag) : List V → Hp → VK → Prop := fun vs H Q => ∃ (a : Addr) (ns : List Int), vs = [V.ref a] ∧ SqT K H a (ns.map V.int) ∧ 0 < ns.length ∧ ∀ m, m ∈ ns → (∀ y, y ∈ ns → y ≤ m) → Q (.int m) H
def rMinT (K : PySem.W.Frag) : List V → Hp → VK → Prop := fun vs H Q => ∃ (a : Addr) (ns : List Int), vs = [V.ref a] ∧ SqT K H a (ns.map V.int) ∧ 0 < ns.length ∧ ∀ m, m ∈ ns → (∀ y, y ∈ ns → m ≤ y) → Q (.int m) H
theorem cr_maxT (hc : X.calm = true) : CallR X (.builtin "max") (rMaxT X.K) := by
  intro pins s σ H vs us Q I r h
  obtain ⟨a, ns, rfl, hs, hne, q⟩ := h
  obtain ⟨its, rv, hl, _⟩ := I.tuple hs
  rw [Vals.ref1 r]
  exact max_tup_raw (I.ok.hd hc) hl rv.ints hne fun h' tk m t' hk h1 h2 => ⟨.int _, H, I.kept hk, ⟨_, rfl⟩, q m h1 h2⟩
theorem cr_minT (hc : X.calm = true) : CallR X (.builtin "min") (rMinT X.K) := by
  intro pins s σ H vs us Q I r h
  obtain ⟨a, ns, rfl, hs, hne, q⟩ := h
  obtain ⟨its, rv, hl, _⟩ := I.tuple hs
  rw [Vals.ref1 r]
  exact min_tup_raw (I.ok.hd hc) hl rv.ints hne fun h' tk m t' hk h1 h2 => ⟨.int _, H, I.kept hk, ⟨_, rfl⟩, q m h1 h2⟩
def maxG : GC := fun ds S => match ds with
  | [.int i, .int j] => .ok (.int (if j > i then j else i)) S
  | [d] => match seqOf S d with
    | some xs => match intsOf xs with
      | some ns => if ns ≠ [] then .ok (.int (maxI ns)) S else .no
      | none => .no
    | none => .no
  | _ => .no
theorem maxG_calm : CalmC maxG := by
  intro ds S c es S'
  unfold maxG
  split
  · exact calm_ok _ _ _ _ _
  · split
    · split
      · exact calm_ite (calm_ok _ _) _ _ _
      · exact calm_no _ _ _
    · exact calm_no _ _ _
  · exact calm_no _ _ _
def rMaxA (K : PySem.W.Frag) : List V → Hp → VK → Prop := fun xs H Q => (∃ i j, xs = [.int i, .int j] ∧ Q (.int (if j > i then j else i)) H) ∨ (rMax K xs H Q ∨ rMaxT K xs H Q)
theorem call_maxA (hc : X.calm = true) : CallR X (.builtin "max") (rMaxA X.K) := (call_max2 hc).or ((cr_max hc).or (cr_maxT hc))
theorem rc_max : RCo K (rMaxA K) maxG := by
  intro H ρ S ds vs Q hr dvs h
  unfold maxG at h
  split at h
  · obtain ⟨v, w, rfl, dv, dw⟩ := dvs2 dvs
    cases dv
    cases dw
    exact .inl ⟨_, _, rfl, ko_here hr h (.int _)⟩
  · rename_i d
    obtain ⟨v, rfl, dv⟩ := dvs1 dvs
    cases e : seqOf S d with
    | none => rw [e] at h; exact h.elim
    | some xs =>
      rw [e] at h
      simp only at h
      cases e2 : intsOf xs with
      | none => rw [e2] at h; exact h.elim
      | some ns =>
        rw [e2] at h
        obtain ⟨hne, h⟩ := ite_sat h
        obtain ⟨a, ws, rfl, hs, hd⟩ := seq_of hr dv e
        obtain rfl := ints_v hd e2
        have hl : 0 < ns.length := List.length_pos_iff.mpr hne
        rcases hs with hs | hs
        · exact .inr (.inl ⟨a, ns, rfl, hs, hl, fun m h1 h2 => by rw [← maxI_of h1 h2]; exact ko_here hr h (.int _)⟩)
        · exact .inr (.inr ⟨a, ns, rfl, hs, hl, fun m h1 h2 => by rw [← maxI_of h1 h2]; exact ko_here hr h (.int _)⟩)
  · exact h.elim
def sumG : GC := fun ds S => match ds with
  | [.box n] => match S.seq n with
    | some xs => match intsOf xs with
      | some ns => .ok (.int ns.sum) S
      | none => .no
    | none => .no
  | _ => .no
def allG (any : Bool) : GC := fun ds S => match ds with
  | [.box n] => match S.seq n with
    | some xs => match blsOf xs with
      | some bs => .ok (.bl (if any then bs.any id else bs.all id)) S
      | none => .no
    | none => .no
  | _ => .no
theorem allG_calm (any : Bool) : CalmC (allG any) := by
  intro ds S c es S'
  unfold allG
  split
  · split
    · split
      · exact calm_ok _ _ _ _ _
      · exact calm_no _ _ _
    · exact calm_no _ _ _
  · exact calm_no _ _ _
theorem rc_any : RCo K (rAny K) (allG true) := by
  intro H ρ S ds vs Q hr dvs h
  unfold allG at h
  split at h
  · obtain ⟨v, rfl, dv⟩ := dvs1 dvs
    split at h
    · rename_i xs e
      split at h
      · rename_i ns e2
        cases dv with
        | box ha =>
          obtain ⟨us, h1, h2⟩ := hr.rd ha e
          have hu := bls_v h2 e2
          subst hu
          exact ⟨_, ns, rfl, h1, ko_here hr h (.bl _)⟩
      · exact h.elim
    · exact h.elim
  · exact h.elim
/-! ### methods -/
/-- the receiver is of that type -/
def tyD (T : String) (d : Dt) (S : Bxs) : Prop := match d with
  | .box n => (T = "list" ∧ (S.seq n).isSome = true) ∨ (T = "dict" ∧ ((S.dkR n).isSome = true ∨ (S.dt n).isSome = true))
  | .tup _ => T = "tuple"
  | _ => False
theorem ty_is {pins : List (Addr × Obj)} {s : Shared} {T : String} {d : Dt} {x : V} {v : Value} (I : Inv X pins τ H s) (hr : HR X.K H ρ S) (dv : DV X.K H ρ d x) (r : RelV x v) (ty : tyD T d S) :
    s.TypeIs v T ∧ ∀ a, v = .ref a → ∃ ob, s.heap.get? a = some ob ∧ ob.dict = none := by
  cases dv <;> first | exact ty.elim | skip
  · rename_i a ds vs ht hd
    obtain rfl : T = "tuple" := ty
    cases r
    rcases ht with ⟨o, ho, p⟩ | ⟨o, its, n, ho, p, _⟩
    · obtain ⟨e, _⟩ := I.hok a _ ho
      exact ⟨⟨o, e, p.1⟩, fun b eb => by cases eb; exact ⟨o, e, p.2⟩⟩
    · have e := I.kIn a o ho
      exact ⟨⟨o, e, p.1⟩, fun b eb => by cases eb; exact ⟨o, e, p.2⟩⟩
  · rename_i n a ha
    rcases ty with ⟨hT, hs⟩ | ⟨hT, hs⟩
    · subst hT
      obtain ⟨xs, hx⟩ := Option.isSome_iff_exists.mp hs
      obtain ⟨vs, h1, _⟩ := hr.rd ha hx
      exact tyV_is I r (.inl ⟨rfl, vs, h1⟩)
    · subst hT
      cases r
      rcases hs with hs | hs
      · obtain ⟨kvs, hx⟩ := Option.isSome_iff_exists.mp hs
        obtain ⟨n', a', ws, en, ea, h1, h2, h3⟩ := dkO_some hr (.box ha) hx
        cases en
        cases ea
        obtain ⟨t1, t2, _⟩ := isD_at I (.inl ⟨ws, h2⟩)
        exact ⟨t1, t2⟩
      · obtain ⟨kvs, hx⟩ := Option.isSome_iff_exists.mp hs
        obtain ⟨n', a', xs, en, ea, h1, h2, h3, h4⟩ := dtO_some hr (.box ha) hx
        cases en
        cases ea
        obtain ⟨_, dd⟩ := trd_at I h3
        obtain ⟨o, es, ep, g1, g2, _⟩ := id dd
        exact ⟨dd.typeIs, fun b eb => by cases eb; exact ⟨o, g1, g2.2.1⟩⟩
abbrev GM := Dt → List Dt → Bxs → Rs Dt
open Classical in
noncomputable def dMeth (T : String) (g : GM) (o : FE) (a : FA) : FE := fun σ S => (o σ S).bind fun d S1 => if tyD T d S1 then (a σ S1).bind fun ds S2 => g d ds S2 else .no
def RMo (K : PySem.W.Frag) (r : V → List V → Hp → VK → Prop) (g : GM) : Prop := ∀ H ρ S d v ds vs Q, HR K H ρ S → DV K H ρ d v → DVs K H ρ ds vs → (g d ds S).Sat (KO K H ρ Q) noX → r v vs H Q
def CalmM (g : GM) : Prop := ∀ d ds S c es S', g d ds S ≠ .ex c es S'
theorem se_meth {T id : String} {name : Str} {r : V → List V → Hp → VK → Prop} {g : GM} {o e : Expr} {es : List Expr} {fo : FE} {fa : FA} {apos cpos : Pos} (pa : PlainAttrs T) (slot : Slot T name id) (hty : typeOf (.builtin id) = pure (.type "method_descriptor")) (hm : MtR X id r) (hr : RMo X.K r g) (hc : CalmM g)
    (ho : SE X Er o fo) (ha : SA X Er (e :: es) fa) (hbase : attributeBase o name X.env (eval o X.env) = eval o X.env := by rfl)
    (hfew : ((backTo cpos (starEach (e :: es) X.env)).all (fun x => !x.1) && (backToKw cpos (keywordEach [] X.env)).all (fun x => x.1.isSome)
      && decide ((e :: es).length + ([] : List Keyword).length + (if ([] : List Keyword).isEmpty then 0 else 1) < 30)) = true := by rfl)
    (hline : (apos.endLine == cpos.line) = true := by rfl) (hs : starEach (e :: es) X.env = (false, eval e X.env) :: starEach es X.env := by rfl) (hplain : (backTo cpos (starEach es X.env)).any (·.1) = false := by rfl) :
    SE X Er (.Call (.Attribute o name apos) (e :: es) [] cpos) (dMeth T g fo fa) := by
  obtain ⟨to, po, qo⟩ := ho.ex
  obtain ⟨ta, pA, qa⟩ := ha.ex
  refine SE.ofCan ⟨fun pins s τ H Q I ⟨ρ, σ, S, Ty0, h⟩ => ?_⟩
  have h := link h
  refine wpAny_Call_method_late hbase hfew hline rfl (thn (po.run pins s τ H (fun x H1 => ∃ ρ1 S1 d, To H H1 ρ ρ1 ∧ HR X.K H1 ρ1 S1 ∧ DV X.K H1 ρ1 d x ∧ tyD T d S1 ∧ ((fa σ S1).bind fun ds S2 => g d ds S2).Sat (KO X.K H ρ Q) (KX Er H ρ)) I ?_) ?_)
  · exact qo τ H ρ σ S _ Ty0 (h.mono (fun d S1 q x H1 ρ1 t1 hr1 dv => ⟨ρ1, S1, d, t1, hr1, dv, (iteC_sat q).1, (iteC_sat q).2⟩) fun _ _ _ q => q)
  rintro v s1 ⟨x, H1, I1, r1, ρ1, S1, d, t1, hr1, dv, ty, q⟩
  obtain ⟨h1, h2⟩ := ty_is I1 hr1 dv r1 ty
  refine ⟨T, id, pa, slot, hty, h1, h2, ?_⟩
  have q := link q
  have hA := pA.run cpos pins s1 τ H1 (fun vs H2 => ∃ ρ2 S2 ds, To H1 H2 ρ1 ρ2 ∧ HR X.K H2 ρ2 S2 ∧ DVs X.K H2 ρ2 ds vs ∧ (g d ds S2).Sat (KO X.K H ρ Q) (KX Er H ρ)) I1
    (qa τ H1 ρ1 σ S1 _ (Ty0.to t1 hr1) (q.mono (fun ds S2 z vs H2 ρ2 t2 hr2 dvs => ⟨ρ2, S2, ds, t2, hr2, dvs, z⟩) fun _ _ _ z => z.to t1))
  rw [hs] at hA ⊢
  have hnn : ((false, eval e X.env) :: backTo cpos (starEach es X.env)).any (·.1) = false := by
    rw [List.any_cons, hplain]
    rfl
  refine Calls.callWith_builtin hnn (Calls.evalArgs_plain (thn hA ?_))
  rintro us s2 ⟨vs, H2, I2, r2, ρ2, S2, ds, t2, hr2, dvs, z⟩
  exact hm pins s2 τ H2 x vs v us Q I2 r1 r2 (hr H2 ρ2 S2 d x ds vs Q hr2 (dv.to t2) dvs (sat_calm (hc _ _ _) (Rs.Sat.toO (t1.trans t2) z)))
def appendG : GM := fun d ds S => match d, ds with
  | .box n, [e] => match S.lst n with
    | some xs => if xs.length < LIM then .ok .non (S.set n (.lst (xs ++ [e]))) else .no
    | none => .no
  | _, _ => .no
theorem appendG_calm : CalmM appendG := by
  intro d ds S c es S'
  unfold appendG
  split
  · split
    · exact calm_ite (calm_ok _ _) _ _ _
    · exact calm_no _ _ _
  · exact calm_no _ _ _
/-- a box's list changed, the answer None -/
theorem ko_set {Q : VK} {n : Nat} {a : Addr} {xs0 xs : List Dt} {vs0 vs : List V} (hr : HR K H ρ S) (e : S.lst n = some xs0) (ha : ρ[n]? = some a) (h1 : H a = some (.lst vs0)) (hd : DVs K H ρ xs vs)
    (h : KO K H ρ Q .non (S.set n (.lst xs))) : Q .non (upd H a (.lst vs)) := h _ _ ρ ⟨Ext.set h1, List.prefix_refl _⟩ (hr.set (lst_get e) ha h1 hd) .non
theorem rm_append : RMo K rAppend appendG := by
  intro H ρ S d v ds vs Q hr dv dvs h
  unfold appendG at h
  split at h
  · obtain ⟨w, rfl, dw⟩ := dvs1 dvs
    rename_i n e0
    cases dv with
    | box ha =>
      split at h
      · rename_i xs e
        obtain ⟨c, h⟩ := ite_sat h
        obtain ⟨us, h1, h2⟩ := hr.mu ha e
        exact ⟨_, us, w, rfl, rfl, h1, by rw [← h2.length]; exact lim_lt c, ko_set hr e ha h1 (h2.app (.cons dw .nil)) h⟩
      · exact h.elim
  · exact h.elim
def insertG : GM := fun d ds S => match d, ds with
  | .box n, [.int i, e] => match S.lst n with
    | some xs => if xs.length < LIM ∧ 0 ≤ i ∧ i < 2 ^ 63 then .ok .non (S.set n (.lst (xs.take i.toNat ++ [e] ++ xs.drop i.toNat))) else .no
    | none => .no
  | _, _ => .no
theorem insertG_calm : CalmM insertG := by
  intro d ds S c es S'
  unfold insertG
  split
  · split
    · exact calm_ite (calm_ok _ _) _ _ _
    · exact calm_no _ _ _
  · exact calm_no _ _ _
def rInsert : V → List V → Hp → VK → Prop := fun x vs H Q => ∃ (l : Addr) (xs : List V) (i : Int) (y : V), x = .ref l ∧ vs = [.int i, y] ∧ H l = some (.lst xs) ∧ xs.length < sizeLine ∧ 0 ≤ i ∧ i < 2 ^ 63 ∧
    Q .non (upd H l (.lst (xs.take i.toNat ++ [y] ++ xs.drop i.toNat)))
theorem rm_insert : RMo K rInsert insertG := by
  intro H ρ S d v ds vs Q hr dv dvs h
  unfold insertG at h
  split at h
  · obtain ⟨u, w, rfl, du, dw⟩ := dvs2 dvs
    cases du
    cases dv with
    | box ha =>
      split at h
      · rename_i xs e
        obtain ⟨⟨c1, c2, c3⟩, h⟩ := ite_sat h
        obtain ⟨us, h1, h2⟩ := hr.mu ha e
        exact ⟨_, us, _, w, rfl, rfl, h1, by rw [← h2.length]; exact lim_lt c1, c2, c3, ko_set hr e ha h1 (((h2.take _).app (.cons dw .nil)).app (h2.drop _)) h⟩
      · exact h.elim
  · exact h.elim
/-- the first place of a text -/
def strAt (z : Str) : List Str → Option Nat
  | [] => none
  | y :: r => if y = z then some 0 else (strAt z r).map (· + 1)
theorem strAt_get {z : Str} : ∀ {ys : List Str} {j : Nat}, strAt z ys = some j → ys[j]? = some z ∧ ∀ m, m < j → ys[m]? ≠ some z
  | [], _, h => by cases h
  | y :: r, j, h => by
    unfold strAt at h
    by_cases hy : y = z
    · rw [if_pos hy] at h
      cases h
      exact ⟨by rw [hy]; rfl, fun m hm => absurd hm (Nat.not_lt_zero _)⟩
    · rw [if_neg hy] at h
      cases e : strAt z r with
      | none => rw [e] at h; cases h
      | some k =>
        rw [e] at h
        obtain rfl : k + 1 = j := Option.some.inj h
        obtain ⟨h1, h2⟩ := strAt_get e
        refine ⟨by simpa using h1, fun m hm => ?_⟩
        cases m with
        | zero => intro q; exact hy (Option.some.inj q)
        | succ m => simpa using h2 m (by omega)
def tindexG : GM := fun d ds S => match d, ds with
  | .tup xs, [.str z] => match strsOf xs with
    | some ys => match strAt z ys with
      | some j => .ok (.int (j : Int)) S
      | none => .no
    | none => .no
  | _, _ => .no
theorem tindexG_calm : CalmM tindexG := by
  intro d ds S c es S'
  unfold tindexG
  split
  · split
    · split
      · exact calm_ok _ _ _ _ _
      · exact calm_no _ _ _
    · exact calm_no _ _ _
  · exact calm_no _ _ _
def rTindex (K : PySem.W.Frag) : V → List V → Hp → VK → Prop := fun x xs H Q => ∃ p, ∃ ys : List Str, ∃ z j, x = .ref p ∧ xs = [.str z] ∧ SqT K H p (ys.map V.str) ∧ ys[j]? = some z ∧ (∀ m, m < j → ys[m]? ≠ some z) ∧ Q (.int (j : Nat)) H
theorem rm_tindex : RMo K (rTindex K) tindexG := by
  intro H ρ S d v ds vs Q hr dv dvs h
  unfold tindexG at h
  split at h
  · obtain ⟨w, rfl, dw⟩ := dvs1 dvs
    cases dw
    cases dv with
    | tup ht hd =>
      split at h
      · rename_i ys e
        split at h
        · rename_i j e2
          have hu := strs_v hd e
          subst hu
          obtain ⟨g1, g2⟩ := strAt_get e2
          exact ⟨_, ys, _, j, rfl, rfl, ht.sqt, g1, g2, ko_here hr h (.int _)⟩
        · exact h.elim
      · exact h.elim
  · exact h.elim
end
end Mn
set_option Elab.async false
set_option linter.all false
set_option maxRecDepth 100000
set_option maxHeartbeats 4000000
/-! MnJ: xs[i] op= e, three names at once, the law's call, the end. -/
namespace Mn
open PySem PySem.Spec PyProof.Rows L2
section
variable {X : Cx} {Er : ER} {K : PySem.W.Frag} {H H1 : Hp} {ρ ρ1 : List Addr} {σ : Sg} {S S1 : Bxs} {τ : L2.St}
/-- xs[i] of a list, i from 0 on -/
def rGetL (K : PySem.W.Frag) : V → V → Hp → VK → Prop := fun o i H Q => ∃ a xs j v, o = .ref a ∧ i = .int j ∧ SqL K H a xs ∧ 0 ≤ j ∧ j < 2 ^ 63 ∧ xs[j.toNat]? = some v ∧ Q v H
theorem get_list : PGet X (rGetL X.K) := by
  rintro pins s τ H o i ov iv Q I ro ri ⟨a, xs, j, v, rfl, rfl, hq, h0, h1, hv, q⟩
  cases ro
  obtain ⟨t, rfl⟩ := ri
  obtain ⟨its, r, p, hz⟩ := I.list hq
  obtain ⟨u, hu, ru⟩ := r.get hv
  exact wpAny_getItem_list p.isList h0 h1 (by simpa using hu) ⟨v, H, I, ru, q⟩
def getL (o i : Dt) (S : Bxs) : Rs Dt := match o, i with
  | .box n, .int j => match S.lst n with
    | some xs => if 0 ≤ j ∧ j < 2 ^ 63 then match xs[j.toNat]? with
      | some d => .ok d S
      | none => .no else .no
    | none => .no
  | _, _ => .no
theorem getL_calm (o i : Dt) (S : Bxs) : ∀ c es S', getL o i S ≠ .ex c es S' := by
  intro c es S'
  unfold getL
  split
  · split
    · split
      · split
        · exact calm_ok _ _ _ _ _
        · exact calm_no _ _ _
      · exact calm_no _ _ _
    · exact calm_no _ _ _
  · exact calm_no _ _ _
theorem getL_sat {o i : Dt} {ov iv : V} {Q : VK} (hr : HR K H ρ S) (dO : DV K H ρ o ov) (di : DV K H ρ i iv) (h : (getL o i S).Sat (KO K H ρ Q) noX) : rGetL K ov iv H Q := by
  cases dO <;> first | exact h.elim | skip
  rename_i n a ha
  cases di <;> first | exact h.elim | skip
  rename_i j
  unfold getL at h
  simp only at h
  cases e : S.lst n with
  | none => rw [e] at h; exact h.elim
  | some xs =>
    rw [e] at h
    obtain ⟨c, h⟩ := ite_sat h
    cases e2 : xs[j.toNat]? with
    | none => rw [e2] at h; exact h.elim
    | some d =>
      rw [e2] at h
      obtain ⟨vs, h1, h2⟩ := hr.mu ha e
      obtain ⟨v, h3, h4⟩ := h2.get e2
      exact ⟨a, vs, j, v, rfl, rfl, SqL.of h1, c.1, c.2, h3, ko_here hr h h4⟩
def getG0 (o i : Dt) (S : Bxs) : Rs Dt := match dkO S o with
  | some kvs => dgetG kvs i S
  | none => getL o i S
theorem getG0_calm (o i : Dt) (S : Bxs) : ∀ c es S', getG0 o i S ≠ .ex c es S' := by
  intro c es S'
  unfold getG0
  split
  · exact dgetG_calm _ _ _ _ _ _
  · exact getL_calm _ _ _ _ _ _
theorem get_sat0 {o i : Dt} {ov iv : V} {Q : VK} (hr : HR K H ρ S) (dO : DV K H ρ o ov) (di : DV K H ρ i iv) (h : (getG0 o i S).Sat (KO K H ρ Q) noX) : rGetL K ov iv H Q ∨ rDGet ov iv H Q := by
  unfold getG0 at h
  cases e : dkO S o with
  | none =>
    rw [e] at h
    exact .inl (getL_sat hr dO di h)
  | some kvs =>
    rw [e] at h
    exact .inr (dget_sat hr dO di e h)
def getG (o i : Dt) (S : Bxs) : Rs Dt := match tget S o i with
  | some (some d) => .ok d S
  | some none => .no
  | none => getG0 o i S
theorem getG_calm (o i : Dt) (S : Bxs) : ∀ c es S', getG o i S ≠ .ex c es S' := by
  intro c es S'
  unfold getG
  split
  · exact calm_ok _ _ _ _ _
  · exact calm_no _ _ _
  · exact getG0_calm _ _ _ _ _ _
theorem get_sat {o i : Dt} {ov iv : V} {Q : VK} (hr : HR K H ρ S) (dO : DV K H ρ o ov) (di : DV K H ρ i iv) (h : (getG o i S).Sat (KO K H ρ Q) noX) : (rGetL K ov iv H Q ∨ rDGet ov iv H Q) ∨ rTIx K ov iv H Q := by
  unfold getG at h
  cases e : tget S o i with
  | none =>
    rw [e] at h
    exact .inl (get_sat0 hr dO di h)
  | some q =>
    rw [e] at h
    obtain ⟨a, b, k, xs, rfl, rfl, tk, t, es, c⟩ := tget_some hr dO di e
    rcases c with ⟨d, v, u, rfl, e1, r, dv⟩ | ⟨rfl, _⟩
    · exact .inr ⟨a, b, k, xs, u, v, rfl, rfl, tk, t, e1, r, ko_here hr h dv⟩
    · exact h.elim
/-- o[i] op= e -/
def sAugS (o i : FE) (g : G2) (f : FE) : FS := fun σ S => (o σ S).bind fun a S1 => (i σ S1).bind fun b S2 => (getG a b S2).bind fun d S3 => (f σ S3).bind fun e S4 => (g d e S4).bind fun z S5 => (setG a b z S5).bind fun _ S6 => .ok (.nx, σ) S6
theorem ss_augS {o i e : Expr} {fo fi f : FE} {op : Operator} {tip : TIp} {g : G2} {tpos pos : Pos} (hu : X.A.units + 128 < cLine) (hp : PIp X op tip) (hrp : RO X.K tip g) (hcp : Calm2 g) (ho : SE X Er o fo) (hi : SE X Er i fi) (he : SE X Er e f)
    (ha : ∀ ov iv new, augStore i ov iv new = (do holding [new, ov, iv] (setItem ov iv new); release [new, ov, iv] []; pure .next) := by intros; rfl) : SS X Er (.AugAssign (.Subscript o i tpos) op e pos) (sAugS fo fi g f) := by
  obtain ⟨to, po, qo⟩ := ho.ex
  obtain ⟨ti, pi, qi⟩ := hi.ex
  obtain ⟨te, pe, qe⟩ := he.ex
  refine ⟨_, ps_augS po pi (PGet.or (PGet.or get_list (get_dict (by omega))) (get_dt (by omega))) pe hp (PSet.or (PSet.or set_list (set_dict (by omega))) (set_dt (by omega))) ha, fun τ H ρ σ S D T h => qo τ H ρ σ S _ T ((link h).mono (fun a S1 h1 => ?_) fun _ _ _ q => q)⟩
  intro ov H1 ρ1 t1 hr1 da
  refine qi τ H1 ρ1 σ S1 _ (T.to t1 hr1) ((link h1).mono (fun b S2 h2 => ?_) fun _ _ _ q => q.to t1)
  intro iv H2 ρ2 t2 hr2 db
  refine get_sat hr2 (da.to t2) db (sat_calm (getG_calm _ _ _) ((link h2).mono (fun d S3 h3 => ?_) fun _ _ _ q => q))
  intro dv H3 ρ3 t3 hr3 dd
  have t13 := (t1.trans t2).trans t3
  refine qe τ H3 ρ3 σ S3 _ (T.to t13 hr3) ((link h3).mono (fun e S4 h4 => ?_) fun _ _ _ q => q.to t13)
  intro ev H4 ρ4 t4 hr4 de
  refine hrp H4 ρ4 S4 d e dv ev _ hr4 (dd.to t4) de (sat_calm (hcp _ _ _) ((link h4).mono (fun z S5 h5 => ?_) fun _ _ _ q => q))
  intro zv H5 ρ5 t5 hr5 dz
  have t25 := ((t3.trans t4).trans t5)
  refine set_sat hr5 (da.to (t2.trans t25)) (db.to t25) dz (sat_calm (setG_calm _ _ _ _) ((link h5).mono (fun _ S6 h6 => ?_) fun _ _ _ q => q))
  intro H6 t6 hr6
  have tt := (t13.trans (t4.trans t5)).trans t6
  exact h6 τ H6 ρ5 tt (T.to tt hr6)
def subI : G2 := fun x y S => match x, y with
  | .int i, .int j => .ok (.int (i - j)) S
  | _, _ => .no
/-- a, b, c = x, y, z by plain local names -/
def sPar3 (i j l : Nat) (a : FA) : FS := fun σ S => (a σ S).bind fun ds S1 => match ds with
  | [d, e, f] => .ok (.nx, ((σ.set i (some d)).set j (some e)).set l (some f)) S1
  | _ => .no
theorem ss_par3 (i j l : Nat) {x y z : Str} {a b c : Expr} {fa : FA} {px py pz pt pos : Pos} {kt k2 pt2} (hc : X.calm = true) (hN : X.N.Nodup) (ha : SA X Er [a, b, c] fa) (hi : X.N[i]? = some x := by rfl) (hj : X.N[j]? = some y := by rfl) (hl : X.N[l]? = some z := by rfl) (hij : i ≠ j := by decide) (hil : i ≠ l := by decide) (hjl : j ≠ l := by decide)
    (hx : X.env.scope.names.lookup x = some .local := by rfl) (hy : X.env.scope.names.lookup y = some .local := by rfl) (hz : X.env.scope.names.lookup z = some .local := by rfl)
    (hw : swappedStores [.Tuple [.Name x px, .Name y py, .Name z pz] kt pt] (.Tuple [a, b, c] k2 pt2) X.env = pure (some [x, y, z]) := by rfl)
    (hs : swapsWithSole [.Tuple [.Name x px, .Name y py, .Name z pz] kt pt] (.Tuple [a, b, c] k2 pt2) pos.line X.env = pure false := by rfl) :
    SS X Er (.Assign [.Tuple [.Name x px, .Name y py, .Name z pz] kt pt] (.Tuple [a, b, c] k2 pt2) pos) (sPar3 i j l fa) := by
  obtain ⟨ta, pa, qa⟩ := ha.ex
  refine ⟨_, ps_par3 hc hN hi hj hl hij hil hjl hx hy hz pa hw hs, fun τ H ρ σ S D T h => qa τ H ρ σ S _ T ((link h).mono (fun ds S1 h1 => ?_) fun _ _ _ q => q)⟩
  intro vs H1 ρ1 t1 hr1 dvs
  rcases ds with _ | ⟨d1, _ | ⟨d2, _ | ⟨d3, _ | ⟨d4, r⟩⟩⟩⟩
  · exact h1.elim
  · exact h1.elim
  · exact h1.elim
  · cases dvs with
    | cons e1 r =>
      cases r with
      | cons e2 r =>
        cases r with
        | cons e3 r =>
          cases r
          exact ⟨_, _, _, rfl, h1 _ H1 ρ1 t1 ⟨hr1, (((T.sl.to t1).set i e1).set j e2).set l e3⟩⟩
  · exact h1.elim
end
/-! ### the law's own call -/
/-- the boxes ahead: the script alone -/
def script0 (ns : List Int) : Bxs := [.ro (ns.map Dt.int)]
theorem script_dvs {K : PySem.W.Frag} {H : Hp} {ρ : List Addr} : ∀ ns : List Int, DVs K H ρ (ns.map Dt.int) (ns.map V.int)
  | [] => .nil
  | n :: ns => .cons (.int n) (script_dvs ns)
theorem hr_script {K : PySem.W.Frag} {H : Hp} {a : Addr} {ns : List Int} (h : Ro K H a (ns.map V.int)) : HR K H [a] (script0 ns) := by
  refine ⟨rfl, fun n b e => ?_, fun n m b c x h1 h2 hb hc _ _ => ?_⟩
  · cases n with
    | zero =>
      cases e
      exact ⟨a, rfl, ns.map V.int, h, script_dvs ns⟩
    | succ n => cases e
  · cases n with
    | zero => cases h1; cases hb
    | succ n => cases h1
theorem ro_of {K : PySem.W.Frag} {H : Hp} {a : Addr} {vs : List V} (hO : Only H) (h : SqL K H a vs) : Ro K H a vs := by
  rcases h with (h | ⟨o, h⟩) | h
  · rcases hO a with z | ⟨o, xs, z⟩
    · rw [z] at h; cases h
    · rw [z] at h; cases h
  · exact .inl ⟨o, h⟩
  · exact .inr fun H' => .inr h
/-- the goal that k_head leaves, from the law's plain function: FD gives its def once, then what it comes to, over every base -/
theorem walkD {l : PySem.W.OpenLaw} {n k : Nat} {q : Program} {loose : List Str} {XP : (Str → Option Value) → Heap → Prop} {YP : World → Heap → Prop} {d : DefRec} {K : Params → PySem.W.Frag} {CX : World → CXT} {eo : World → XK → ER} {F : FN} {x : Str}
    (hn : l.most = some n) (hn2 : n ≤ sizeLine) (hdf : d.params.defaults = []) (hr : Room k callerA)
    (hY : ∀ (w : World) (h : Heap), YP w h → (K w.params).In h)
    (FD : ∀ (w : World) (mg : Str → Option Value) (fa : Addr) (h : Heap), (K w.params).In h → h.Ns mainGlobals mg → mg d.name = some (.ref fa) →
      ∃ fd : FuncData, (∀ (s : Shared) (u : Value), BindsTo s fd ⟨[u], []⟩ [(x, u)]) ∧
        ∀ base : Heap, (K w.params).In base → base.Ns mainGlobals mg → FnD l.prog w (K w.params) mg base (CX w) (eo w) k fa fd [x] F)
    (hF : ∀ ns : List Int, ns.length ≤ n → ∃ S', F [.box 0] (script0 ns) = .ok (.bl true) S')
    (hCX : ∀ (w : World) (H : Hp) (s : Shared) (e : Value) (s' : Shared), CX w [] H s (fun _ _ _ => False) e s' → False) :
    PySem.W.WalkO q loose XP YP l.row.toRowW d [] (fun f vs => PySem.call f vs) := by
  refine Att.attach_call hn hdf fun w s₀ s₁ mg mb fa o pm cd doc a vs ns G Y ho hd hcd hmg hobj hints hlen hg => ?_
  have KIn := hY w _ Y
  obtain ⟨fd, hb, hFD⟩ := FD w mg fa _ KIn G.T.g hmg
  obtain ⟨S', hS⟩ := hF ns hlen
  have hl : ns.length ≤ sizeLine := Nat.le_trans hlen hn2
  have rv := vals_ints hints
  have lenV := hints.length
  have core : ∀ H : Hp, Only H → SqL (K w.params) H a (ns.map V.int) → HOk l.prog w H s₁.heap → (∀ b, H b ≠ none → b = a) → (H a ≠ none → (K w.params).lookup a = none) →
      codeAny (model l.prog w) callerA (.call (.ref fa) ⟨[.ref a], []⟩) (fun r s' => r = .ok (.ret (.bool true)) ∧ OldK s₁.heap s'.heap ∧ s'.os = s₁.os ∧ AllBare s'.gens) s₁ := by
    intro H hO hSq hok hA hK
    have notDict : ∀ {b : Addr} {ob : Obj} {es : Array DictEntry} {ep : Nat}, s₁.heap.get? b = some ob → ob.data = .dict es ep → H b = none := by
      intro b ob es ep e dd
      cases z : H b with
      | none => rfl
      | some u =>
        obtain rfl : b = a := hA b (by rw [z]; simp)
        rw [hobj] at e
        cases e
        cases dd
    have nsK : ∀ {b : Addr} {m : Str → Option Value}, s₁.heap.Ns b m → (hidT s₁.heap H).Ns b m := by
      rintro b m ⟨ob, es, ep, e, dd, rest⟩
      exact ⟨ob, es, ep, hidT_get e (notDict e dd), dd, rest⟩
    have inB : (K w.params).In (hidT s₁.heap H) := by
      intro b ob e
      refine hidT_get (KIn b ob e) ?_
      cases z : H b with
      | none => rfl
      | some u =>
        obtain rfl : b = a := hA b (by rw [z]; simp)
        rw [hK (by rw [z]; simp)] at e
        cases e
    obtain ⟨mc, m1, m2⟩ := G.T.nolimit
    have hM : Mod (K w.params) mg (hidT s₁.heap H) := ⟨inB, nsK G.T.g, ⟨mb, nsK G.T.b, G.T.builtins⟩, mc, nsK m1, m2⟩
    have e0 : Env0 l.prog w (K w.params) mg (hidT s₁.heap H) callerA [] s₁ H :=
      ⟨rfl, hM, fun b ob e => of_hidT e, Nat.le_of_eq (hidT_size _ _), trivial, fun b hb => absurd (show b ∈ ([] : List Addr) from hb) (by simp), hok, .of_eq hg⟩
    have sat : (F [.box 0] (script0 ns)).Sat (KO (K w.params) H [a] fun v _ => v = .bl true) (KX (eo w fun _ _ _ => False) H [a]) := by
      rw [hS]
      intro v H' ρ' _ _ dv
      cases dv
      rfl
    refine codeAny_mono ((hFD _ inB (nsK G.T.g)).run callerA [] s₁ H ⟨[.ref a], []⟩ [.ref a] [.ref a] [a] (script0 ns) [.box 0] _ _ rfl hr e0 (hb s₁ (.ref a)) (.cons rfl .nil) rfl (hr_script (ro_of hO hSq)) (.cons (.box rfl) .nil) sat) fun r s' h => ?_
    cases r with
    | error e => exact (hCX w H s₁ e s' h).elim
    | ok fl =>
      cases fl with
      | next => exact False.elim h
      | brk => exact False.elim h
      | cont => exact False.elim h
      | ret u =>
        obtain ⟨v, H', os, bare, un, hok', r', hv⟩ := h
        obtain rfl : v = .bl true := hv
        obtain rfl : u = Value.bool true := r'
        refine ⟨rfl, OldK.of_keep fun b ob e => ?_, os, bare⟩
        cases z : H b with
        | none => exact un.keep b ob e z (fun y => absurd (show b ∈ ([] : List Addr) from y) (by simp)) (by simp)
        | some u =>
          rcases hO b with y | ⟨o2, xs, y⟩
          · rw [z] at y; cases y
          · obtain ⟨g1, _⟩ := hok b _ y
            obtain ⟨g2, _⟩ := hok' b _ (un.frzs b o2 _ y)
            rw [e] at g1
            cases g1
            exact g2
  cases hk : (K w.params).lookup a with
  | some ob =>
    have e := KIn a ob hk
    rw [hobj] at e
    cases e
    refine core (fun _ => none) (fun _ => .inl rfl) (.inr ⟨_, vs.toArray, _, hk, rfl, rfl, rfl, by rw [List.size_toArray, lenV]; exact hl, by simpa using rv⟩) (fun b u z => nomatch z) (fun b z => absurd rfl z) fun z => absurd rfl z
  | none =>
    let H0 : Hp := fun b => if b = a then some (.frz { cls := .type "list", data := .seq vs.toArray } (.lst (ns.map V.int))) else none
    have h0a : H0 a = some (.frz { cls := .type "list", data := .seq vs.toArray } (.lst (ns.map V.int))) := if_pos rfl
    have h0n : ∀ b, b ≠ a → H0 b = none := fun b hb => if_neg hb
    have one : ∀ b, H0 b ≠ none → b = a := fun b z => by
      by_cases hb : b = a
      · exact hb
      · exact absurd (h0n b hb) z
    refine core H0 (fun b => ?_) (.inl (.inr ⟨_, h0a⟩)) (fun b u z => ?_) one fun _ => hk
    · by_cases hb : b = a
      · subst hb
        exact .inr ⟨_, _, h0a⟩
      · exact .inl (h0n b hb)
    · obtain rfl : b = a := one b (by rw [z]; simp)
      rw [h0a] at z
      cases z
      exact ⟨hobj, by rw [List.length_map]; exact hl, vs, _, rv, hobj⟩
end Mn
namespace Mn
open PySem PySem.Spec PyProof.Rows L2
section
variable {X : Cx} {Er : ER} {a : Expr} {fa : FE} {pos pos' : Pos} {j : Nat}
theorem st_isN (ha : SE X Er a fa) : ST X Er (.Compare a [.Is] [.Constant .none j pos'] pos) (dTrue (dIsN fa)) := by
  obtain ⟨te, p, q⟩ := ha.ex
  refine ⟨_, pt_cmp (pc_isN p) rfl, fun τ H ρ σ S Q T h => q τ H ρ σ S _ T ((link (true_sat h)).mono (fun d S1 h1 => ?_) fun _ _ _ q => q)⟩
  intro v H' ρ' t hr dv
  show ∃ c, V.bl (decide (v = .non)) = V.bl c ∧ Q c H'
  rw [non_iff dv]
  exact h1 _ H' ρ' t hr (.bl _)
end
theorem SSs.nox {X : Cx} {Er : ER} {st : List Stmt} {f : FS} (h : SSs X.nox Er st f) : SSs X Er st f := by
  obtain ⟨t, p, q⟩ := h.ex
  exact ⟨t, p.nox, q⟩
end Mn
set_option Elab.async false
set_option linter.all false
set_option maxRecDepth 100000
set_option maxHeartbeats 4000000
/-! MnK: enumerate over a list or a tuple; comparisons in a chain; truth. -/
namespace Mn
open PySem PySem.Spec PyProof.Rows L2
theorem meets_enum1 {v : Value} {o : Obj} {Z : Heap → Prop} (B : Begins v o Z) :
    Meets (Builtin.«enumerate.__new__» ⟨[.type "enumerate", v], []⟩) (fun _ R s => Z s.heap ∧
      R (.ok (.ret (.ref (s.heap.push o).objs.size))) { s with heap := (s.heap.push o).push { cls := .type "enumerate", data := .fields #[.none, .bool false, .ref s.heap.objs.size, rawInt 0, .none, .none] } }) :=
  .of_wp fun prog w A R s h => by
    obtain ⟨hp, g, d, tk, os⟩ := s
    obtain ⟨h1, h⟩ := h
    have hsub := sub_enumerate
    have q1 : ∀ {A' : Around} {E : Value → Shared → Prop} {Q : Value → Shared → Prop}, Q (.ref hp.objs.size) ⟨hp.push o, g, d, tk, os⟩ →
        wpAny (model prog w) A' (pyIter v) Q E ⟨hp, g, d, tk, os⟩ := fun q => B.iter prog w _ _ ⟨hp, g, d, tk, os⟩ _ h1 q
    wp_walk using q1
    refine wpAny_stack_any fun st => wpAny_pure ?_
    split
    · rename_i c _ _ _ _ _
      cases (c == Value.type "enumerate") <;> (wp_walk using q1; exact ⟨_, rfl, h⟩)
    · wp_walk using q1
      exact ⟨_, rfl, h⟩
section
variable {prog : Program} {w : World} {A : Around} {E : Value → Shared → Prop} {s : Shared}
theorem enum1_begins {v : Value} {o : Obj} {Z : Heap → Prop} {Q : Value → Shared → Prop} (B : Begins v o Z) (h1 : Z s.heap)
    (h : ∀ h', IsEnum h' (s.heap.objs.size + 1) s.heap.objs.size 0 .none → h'.get? s.heap.objs.size = some o → h'.objs.size = s.heap.objs.size + 2 →
      (∀ b o, s.heap.get? b = some o → h'.get? b = some o) → Q (.ref (s.heap.objs.size + 1)) { s with heap := h' }) :
    wpAny (model prog w) A (call (.type "enumerate") [v]) Q E s := by
  refine callType_new F.called_enumerate (by decide) (F.typeCall_enumerate_1 _) (F.newCall_enumerate_1 _) (fun obj => F.args_object_init_2 obj _) F.entry_enumerate_new (meets_enum1 B) ⟨h1, ?_⟩
  have hz : (s.heap.push o).objs.size = s.heap.objs.size + 1 := Heap.size_push ..
  have he0 := Heap.get?_push_size (s.heap.push o) (o := { cls := .type "enumerate", data := .fields #[.none, .bool false, .ref s.heap.objs.size, rawInt 0, .none, .none] }) rfl
  show _ ∧ _
  rw [hz] at he0 ⊢
  exact ⟨⟨_, he0, rfl⟩, h _ he0 (Heap.get?_push_of_some _ (Heap.get?_push_size _ B.free)) (by rw [Heap.size_push, hz]) fun b o x => Heap.get?_push_of_some _ (Heap.get?_push_of_some _ x)⟩
end
def IteX (k : Bool) (K : PySem.W.Frag) (a : Addr) : It where
  go := fun i H => ∃ (xs : List V) (x : V), SqX k K H a xs ∧ xs[i]? = some x
  yld := fun i H v H' => ∃ T x, v = .ref T ∧ H T = none ∧ H' = upd H T (.tup [.int (i : Nat), x]) ∧ ∀ xs, SqX k K H a xs → xs[i]? = some x
  stop := fun i H => ∃ xs : List V, SqX k K H a xs ∧ i = xs.length
theorem turn_enumX {P : Program} {w : World} {K : PySem.W.Frag} {elts : List Expr} {kk : Nat} {tpos : Pos} {k : Bool} (a e it : Addr) (hae : a ≠ it) (hea : e ≠ a) :
    Turn P w K (.Tuple elts kk tpos) (IteX k K a) [e, it] e (fun i h => (∃ old, IsEnum h e it ((i : Nat) : Int) old) ∧ HIt k h it a i ∧ e ≠ it) where
  mem := by simp
  obj := fun i h st b hb => by
    obtain ⟨⟨old, he⟩, hi, _⟩ := st
    have e' : b = e ∨ b = it := by simpa using hb
    rcases e' with rfl | rfl
    · exact ⟨_, he, fun v q => nomatch q⟩
    · exact hi.obj
  keep := fun i h h' st f => by
    obtain ⟨⟨old, he⟩, hi, hne⟩ := st
    exact ⟨⟨old, f e (by simp) _ he⟩, hi.at fun o q => f it (by simp) o q, hne⟩
  item := by
    intro X hP hw hK hc i pins s σ H E I hf st hg
    subst hP hw hK
    obtain ⟨⟨old, he⟩, hit, hne⟩ := st
    obtain ⟨xs, x, hq, hx⟩ := hg
    obtain ⟨its, rv, p, _⟩ := sqx_inv I hq
    obtain ⟨u, hu, ru⟩ := rv.get hx
    have hel : e < s.heap.objs.size := Heap.lt_size he
    have hil : it < s.heap.objs.size := by obtain ⟨_, q, _⟩ := hit.obj; exact Heap.lt_size q
    have l1 : i < its.toArray.size := by rw [List.size_toArray]; exact (List.getElem?_eq_some_iff.mp hu).1
    have d1 := drawsX (prog := X.prog) (w := X.w) (A := X.A.in1) k (I.ok.hd hc) it a hae its.toArray
    refine wpAny_pyNext_enum_itemD d1 he ⟨hit, p⟩ l1 hne (by simp [hne, hea]) fun x1 h' tk y1 ho st' hT hsz hk => ?_
    obtain rfl : u = x1 := Option.some.inj ((show its[i]? = some u from hu).symm.trans (by simpa using y1))
    refine ⟨_, rfl, wpAny_letOwnedTupleGo_enum (s := { s with heap := h', toks := tk + 1 }) ho fun h'' he' sb => ?_⟩
    have hT2 : h''.get? s.heap.objs.size = some { cls := .type "tuple", data := .seq #[.int i tk, u] } := (sb.2 _ (Nat.ne_of_gt hel)).trans hT
    have new : ObjOk X.prog X.w (upd H s.heap.objs.size (.tup [.int (i : Nat), x])) h'' s.heap.objs.size (.tup [.int (i : Nat), x]) :=
      ⟨by show 2 ≤ sizeLine; decide, [.int i tk, u], .cons ⟨_, rfl⟩ (.cons ru .nil), ⟨_, hT2, rfl, _, rfl⟩⟩
    have I1 : Inv X pins σ (upd H s.heap.objs.size (.tup [.int (i : Nat), x])) { s with heap := h'', toks := tk + 1 } :=
      I.turnedNew (ch := [e, it]) (fun b ob hb q => (sb.2 b (fun z => hb (by simp [z]))).trans (hk b ob (fun z => hb (by simp [z])) (fun z => hb (by simp [z])) q)) hf (Nat.le_refl _) new
    refine ⟨.ref s.heap.objs.size, _, I1, rfl, ⟨_, x, rfl, I.hok.fresh (Nat.le_refl _), rfl, fun ys hy => by rw [sqx_inj I hy hq]; exact hx⟩, ⟨⟨u, ?_⟩, st'.1.at fun o q => (sb.2 it (Ne.symm hne)).trans q, hne⟩, fun b hb => ?_⟩
    · rw [show ((i + 1 : Nat) : Int) = (i : Int) + 1 by omega]
      exact he'
    · have e' : b = e ∨ b = it := by simpa using hb
      have hb' : b < s.heap.objs.size := by rcases e' with rfl | rfl <;> assumption
      rw [upd_ne (Nat.ne_of_lt hb')]
      exact (hf b hb).1
  done := by
    intro X hP hw hK hc i pins s σ H E I hf st hg
    subst hP hw hK
    obtain ⟨⟨old, he⟩, hit, hne⟩ := st
    obtain ⟨xs, hq, hx⟩ := hg
    obtain ⟨its, rv, p, _⟩ := sqx_inv I hq
    obtain ⟨f0, f1, f2, f3, f4, f5⟩ := hf it (by simp)
    have hl := rv.length
    have d1 := drawsX (prog := X.prog) (w := X.w) (A := X.A.in1) k (I.ok.hd hc) it a hae its.toArray
    have hi : i = its.toArray.size := by rw [List.size_toArray]; omega
    refine wpAny_pyNext_enum_endD d1 he (by rw [← hi]; exact ⟨hit, p⟩) fun h' eb => ⟨rfl, I.turned (t' := s.toks) (fun b o hb q => eb b o hb q) f0 f1 f3 f4 f5⟩
  self := fun A i s Q E st h => let ⟨⟨_, he⟩, _⟩ := st; wpAny_pyIter_enum he h
def iEnumX (k : Bool) (K : PySem.W.Frag) (ta : TA) : TI := fun σ H R => ta σ H fun vs H1 => ∃ a xs, vs = [.ref a] ∧ SqX k K H1 a xs ∧ R (IteX k K a) H1
theorem pi_enumX {X : Cx} {e : Expr} {ta : TA} {p pos tpos : Pos} {elts : List Expr} {kk : Nat} (k : Bool) (hg : Gl X "enumerate") (hm : X.mg "enumerate" = none) (ha : PA X [e] ta) (hs : starEach [e] X.env = [(false, eval e X.env)] := by rfl) :
    PI X (.Tuple elts kk tpos) (.Call (.Name "enumerate" p) [e] [] pos) (iEnumX k X.K ta) := by
  constructor
  intro pins s σ H R I h
  refine Call_ (ld_blt I hg hm boot_enumerate (PyProof.Rows.callWith_type1 (thn (ha.run pos pins s σ H _ I h) ?_) hs rfl))
  rintro us s1 ⟨vs, H1, I1, r1, a, xs, rfl, hq, q⟩
  obtain ⟨u, rfl, ru⟩ := r1.one
  cases ru
  obtain ⟨its, rv, p', la⟩ := sqx_inv I1 hq
  refine enum1_begins (beginsX k a its.toArray) p' fun h' he g1 hsz hk => wpAny_pyIter_enum he ?_
  have I2 : Inv X pins σ H1 { s1 with heap := h' } := I1.kept (t' := s1.toks) hk
  refine ⟨s1.heap.objs.size + 1, [s1.heap.objs.size + 1, s1.heap.objs.size], _, _, H1, rfl, I2, turn_enumX a (s1.heap.objs.size + 1) s1.heap.objs.size (Nat.ne_of_lt la) (Nat.ne_of_gt (Nat.lt_succ_of_lt la)), ⟨⟨.none, he⟩, hit_new g1, Nat.succ_ne_self _⟩, fun b hb => ?_, q⟩
  have hle : s1.heap.objs.size ≤ b := by
    have e' : b = s1.heap.objs.size + 1 ∨ b = s1.heap.objs.size := by simpa using hb
    rcases e' with z | z <;> rw [z] <;> first | exact Nat.le_add_right _ _ | exact Nat.le_refl _
  exact I1.fpOk hle (I1.hok.fresh hle)
theorem walkE {K : PySem.W.Frag} {k : Bool} {a : Addr} {n : Nat} : Walk (IteX k K a) n (fun H => ∃ vs, SqX k K H a vs ∧ vs.length = n)
    (fun i H v H' => ∃ T x, v = .ref T ∧ H T = none ∧ H' = upd H T (.tup [.int (i : Nat), x]) ∧ ∀ xs, SqX k K H a xs → xs[i]? = some x) :=
  ⟨fun i _ hi ⟨vs, q, hl⟩ => ⟨vs, vs[i]'(by omega), q, by simp [hl, hi]⟩, fun _ ⟨vs, q, hl⟩ => ⟨vs, q, hl.symm⟩, fun _ _ _ _ _ _ y => y⟩
section
variable {X : Cx} {Er : ER} {K : PySem.W.Frag} {H H1 : Hp} {ρ ρ1 : List Addr} {σ : Sg} {S S1 : Bxs} {τ : L2.St}
/-- pairs of a place and an item -/
def placed (xs : List Dt) : List (Dt × Dt) := (List.range xs.length).zipWith (fun (i : Nat) x => (Dt.int (i : Int), x)) xs
theorem placed_length (xs : List Dt) : (placed xs).length = xs.length := by
  unfold placed
  rw [List.length_zipWith, List.length_range, Nat.min_self]
theorem placed_get {xs : List Dt} {i : Nat} {p : Dt × Dt} (h : (placed xs)[i]? = some p) : ∃ x, xs[i]? = some x ∧ p = (.int (i : Int), x) := by
  unfold placed at h
  rw [List.getElem?_zipWith_eq_some] at h
  obtain ⟨j, x, h1, h2, rfl⟩ := h
  have hj : i < xs.length := (List.getElem?_eq_some_iff.mp h2).1
  rw [List.getElem?_range hj] at h1
  cases h1
  exact ⟨x, h2, rfl⟩
def srcEnum (f : FA) : Src (Dt × Dt) := fun σ S => (f σ S).bind fun ds S1 => match ds with
  | [d] => match seqOf S1 d with
    | some xs => .ok (placed xs, fun S' => seqOf S' d = some xs) S1
    | none => .no
  | _ => .no
theorem PI.or2 {tg iter : Expr} {w : Bool → TI} (h : ∀ a, PI X tg iter (w a)) : PI X tg iter (fun σ H R => ∃ a, w a σ H R) :=
  ⟨fun pins s σ H R I ⟨a, q⟩ => (h a).run pins s σ H R I q⟩
theorem si_enum {elts : List Expr} {kk : Nat} {tpos : Pos} {a : Expr} {fa : FA} {p pos : Pos} (hg : Gl X "enumerate") (hm : X.mg "enumerate" = none) (ha : SA X Er [a] fa) (hs : starEach [a] X.env = [(false, eval a X.env)] := by rfl) :
    SI X Er itP (.Tuple elts kk tpos) (.Call (.Name "enumerate" p) [a] [] pos) (srcEnum fa) := by
  obtain ⟨ta, pa, qa⟩ := ha.ex
  refine ⟨_, PI.or2 fun k => pi_enumX k hg hm pa hs, fun τ H ρ σ S R T h => ?_⟩
  have h := link h
  cases e : fa σ S with
  | no => rw [e] at h; exact h.elim
  | ex c ds s' =>
    rw [e] at h
    exact ⟨true, qa τ H ρ σ S _ T (by rw [e]; exact h)⟩
  | ok ds S1 =>
    rw [e] at h
    rcases ds with _ | ⟨d, _ | ⟨d2, dr⟩⟩
    · exact h.elim
    · cases e1 : seqOf S1 d with
      | none => simp only [Rs.Sat, e1] at h
      | some xs =>
        have h : KI X.K H ρ itP R (placed xs, fun S' => seqOf S' d = some xs) S1 := by simpa only [Rs.Sat, e1] using h
        refine ⟨d.isT, qa τ H ρ σ S _ T ?_⟩
        rw [e]
        intro vs H1 ρ1 t1 hr1 dvs
        obtain ⟨v, rfl, dv⟩ := dvs1 dvs
        obtain ⟨a, us, rfl, hs1, hd1⟩ := sqx_of hr1 dv e1
        refine ⟨a, us, rfl, hs1, h H1 ρ1 _ _ _ t1 hr1 (by rw [placed_length]; exact walkE (n := xs.length)) (fun H' ρ' S' t hr' st => ?_) fun i x y H' H'' ρ' S' t hr' st hi hy => ?_⟩
        · obtain ⟨a', us', ea, q1, q2⟩ := sqx_of hr' (dv.to t) st
          cases ea
          exact ⟨us', q1, q2.length.symm⟩
        · obtain ⟨U, x1, h1, h2, h3, h4⟩ := hy
          obtain ⟨a', us', ea, q1, q2⟩ := sqx_of hr' (dv.to t) st
          cases ea
          obtain ⟨z, hz, rfl⟩ := placed_get hi
          obtain ⟨v1, g1, g2⟩ := q2.get hz
          rw [h4 us' q1] at g1
          cases g1
          exact ⟨U, _, _, h1, h2, h3, .int _, g2⟩
    · exact h.elim
/-! ### a < b < c -/
def dChain (g g' : G2) (a b c : FE) : FE := fun σ S => (a σ S).bind fun x S1 => (b σ S1).bind fun y S2 => (g x y S2).bind fun z S3 => match z with
  | .bl true => (c σ S3).bind fun w S4 => g' y w S4
  | .bl false => .ok (.bl false) S3
  | _ => .no
theorem chain_sat {fa fb fc : FE} {g g' : G2} {ta tb tc : TE} {r r' : R2} (ha : ∀ τ H ρ σ S Q, Ty X.K H ρ σ S τ → (fa σ S).Sat (KO X.K H ρ Q) (KX Er H ρ) → ta τ H Q) (hb : ∀ τ H ρ σ S Q, Ty X.K H ρ σ S τ → (fb σ S).Sat (KO X.K H ρ Q) (KX Er H ρ) → tb τ H Q)
    (hc : ∀ τ H ρ σ S Q, Ty X.K H ρ σ S τ → (fc σ S).Sat (KO X.K H ρ Q) (KX Er H ρ) → tc τ H Q) (hr : RO X.K r g) (hcalm : Calm2 g) (hr' : RO X.K r' g') (hcalm' : Calm2 g') {Q : VK} (T : Ty X.K H ρ σ S τ) (h : (dChain g g' fa fb fc σ S).Sat (KO X.K H ρ Q) (KX Er H ρ)) : tChain r r' ta tb tc τ H Q := by
  refine ha τ H ρ σ S _ T ((link h).mono (fun x S1 h1 => ?_) fun _ _ _ q => q)
  intro xv H1 ρ1 t1 hr1 dx
  refine hb τ H1 ρ1 σ S1 _ (T.to t1 hr1) ((link h1).mono (fun y S2 h2 => ?_) fun _ _ _ q => q.to t1)
  intro yv H2 ρ2 t2 hr2 dy
  refine hr H2 ρ2 S2 x y xv yv _ hr2 (dx.to t2) dy (sat_calm (hcalm x y S2) ((link h2).mono (fun z S3 h3 => ?_) fun _ _ _ q => q))
  intro zv H3 ρ3 t3 hr3 dz
  cases dz <;> first | exact h3.elim | skip
  rename_i b
  refine ⟨b, rfl, ?_⟩
  have t13 := (t1.trans t2).trans t3
  cases b with
  | true =>
    rw [if_pos rfl]
    refine hc τ H3 ρ3 σ S3 _ (T.to t13 hr3) ((link h3).mono (fun w S4 h4 => ?_) fun _ _ _ q => q.to t13)
    intro wv H4 ρ4 t4 hr4 dw
    exact hr' H4 ρ4 S4 y w yv wv Q hr4 (dy.to (t3.trans t4)) dw (sat_calm (hcalm' y w S4) (Rs.Sat.toO (t13.trans t4) h4))
  | false =>
    rw [if_neg Bool.false_ne_true]
    exact h3 _ H3 ρ3 t13 hr3 (.bl _)
theorem st_chain {a b c : Expr} {op op' : CmpOp} {pos : Pos} {fa fb fc : FE} {g g' : G2} {r r' : R2} (ho : OpR X (compareOp op) r) (hr : RO X.K r g) (hg : Calm2 g) (ho' : OpR X (compareOp op') r') (hr' : RO X.K r' g') (hg' : Calm2 g') (ha : SE X Er a fa) (hb : SE X Er b fb) (hc : SE X Er c fc)
    (hm : lastMarks [op, op'] [b, c] = false := by with_unfolding_all rfl) : ST X Er (.Compare a [op, op'] [b, c] pos) (dTrue (dChain g g' fa fb fc)) := by
  obtain ⟨ta, pa, qa⟩ := ha.ex
  obtain ⟨tb, pb, qb⟩ := hb.ex
  obtain ⟨tc, pc, qc⟩ := hc.ex
  exact ⟨_, pt_chain ho ho' pa pb pc hm, fun τ H ρ σ S Q T h => chain_sat qa qb qc hr hg hr' hg' T (true_sat h)⟩
end
end Mn
set_option Elab.async false
set_option linter.all false
set_option maxRecDepth 100000
set_option maxHeartbeats 4000000
/-! MnL: sorted by a def's keys. -/
namespace Mn
open PySem PySem.Spec PyProof.Rows L2
section
variable {X : Cx} {Er : ER} {K : PySem.W.Frag} {H H1 : Hp} {ρ ρ1 : List Addr} {σ : Sg} {S S1 : Bxs} {τ : L2.St}
/-- the keys that a def makes, one by one -/
def keysF (F : FN) : List Dt → Bxs → Rs (List Int)
  | [], S => .ok [] S
  | x :: xs, S => match F [x] S with
    | .ok (.int i) S1 => (keysF F xs S1).bind fun is S2 => .ok (i :: is) S2
    | _ => .no
def keyLe (b : Bool) (p q : Dt × Int) : Bool := match b with
  | true => decide (q.2 ≤ p.2)
  | false => decide (p.2 ≤ q.2)
def byKeys (b : Bool) (xs : List Dt) (ks : List Int) : List Dt := ((xs.zip ks).mergeSort (keyLe b)).map (·.1)
def sortKG (F : FN) (b : Bool) : GC := fun ds S => match ds with
  | [d] => match seqOf S d with
    | some xs => (keysF F xs S).bind fun ks S1 => newL (byKeys b xs ks) S1
    | none => .no
  | _ => .no
/-! ### the heap's side -/
theorem sat_ok {α : Type} {r : Rs α} {P : α → Bxs → Prop} (h : r.Sat P noX) : ∃ a s, r = .ok a s ∧ P a s := by
  cases r with
  | ok a s => exact ⟨a, s, rfl, h⟩
  | ex c ds s => exact h.elim
  | no => exact h.elim
end
end Mn
set_option Elab.async false
set_option linter.all false
set_option maxRecDepth 100000
set_option maxHeartbeats 4000000
/-! MnM: min; xs.extend(ys). -/
namespace Mn
open PySem PySem.Spec PyProof.Rows L2
section
variable {X : Cx} {Er : ER} {K : PySem.W.Frag} {H H1 : Hp} {ρ ρ1 : List Addr} {σ : Sg} {S S1 : Bxs} {τ : L2.St}
def minI (ns : List Int) : Int := -(maxI (ns.map fun i => -i))
theorem minI_of {ns : List Int} {m : Int} (h : m ∈ ns) (hm : ∀ y, y ∈ ns → m ≤ y) : minI ns = m := by
  unfold minI
  rw [maxI_of (m := -m) (List.mem_map.mpr ⟨m, h, rfl⟩) fun y hy => by
    obtain ⟨z, hz, rfl⟩ := List.mem_map.mp hy
    have := hm z hz
    omega]
  omega
def minG : GC := fun ds S => match ds with
  | [.int i, .int j] => .ok (.int (if j < i then j else i)) S
  | [d] => match seqOf S d with
    | some xs => match intsOf xs with
      | some ns => if ns ≠ [] then .ok (.int (minI ns)) S else .no
      | none => .no
    | none => .no
  | _ => .no
theorem minG_calm : CalmC minG := by
  intro ds S c es S'
  unfold minG
  split
  · exact calm_ok _ _ _ _ _
  · split
    · split
      · exact calm_ite (calm_ok _ _) _ _ _
      · exact calm_no _ _ _
    · exact calm_no _ _ _
  · exact calm_no _ _ _
def rMinA (K : PySem.W.Frag) : List V → Hp → VK → Prop := fun xs H Q => (∃ i j, xs = [.int i, .int j] ∧ Q (.int (if j < i then j else i)) H) ∨ (rMin K xs H Q ∨ rMinT K xs H Q)
theorem call_minA (hc : X.calm = true) : CallR X (.builtin "min") (rMinA X.K) := (call_min2 hc).or ((cr_min hc).or (cr_minT hc))
theorem rc_min : RCo K (rMinA K) minG := by
  intro H ρ S ds vs Q hr dvs h
  unfold minG at h
  split at h
  · obtain ⟨v, w, rfl, dv, dw⟩ := dvs2 dvs
    cases dv
    cases dw
    exact .inl ⟨_, _, rfl, ko_here hr h (.int _)⟩
  · rename_i d
    obtain ⟨v, rfl, dv⟩ := dvs1 dvs
    cases e : seqOf S d with
    | none => rw [e] at h; exact h.elim
    | some xs =>
      rw [e] at h
      simp only at h
      cases e2 : intsOf xs with
      | none => rw [e2] at h; exact h.elim
      | some ns =>
        rw [e2] at h
        obtain ⟨hne, h⟩ := ite_sat h
        obtain ⟨a, ws, rfl, hs, hd⟩ := seq_of hr dv e
        obtain rfl := ints_v hd e2
        have hl : 0 < ns.length := List.length_pos_iff.mpr hne
        rcases hs with hs | hs
        · exact .inr (.inl ⟨a, ns, rfl, hs, hl, fun m h1 h2 => by rw [← minI_of h1 h2]; exact ko_here hr h (.int _)⟩)
        · exact .inr (.inr ⟨a, ns, rfl, hs, hl, fun m h1 h2 => by rw [← minI_of h1 h2]; exact ko_here hr h (.int _)⟩)
  · exact h.elim
end
end Mn
set_option Elab.async false
set_option linter.all false
set_option maxRecDepth 100000
set_option maxHeartbeats 4000000
/-! MnN: isinstance with a built-in type by its name. -/
namespace Mn
open PySem PySem.Spec PyProof.Rows L2
section
variable {X : Cx} {Er : ER} {K : PySem.W.Frag} {H H1 : Hp} {ρ ρ1 : List Addr} {σ : Sg} {S S1 : Bxs} {τ : L2.St}
def tyN (S : Bxs) : Dt → Option String
  | .non => some "NoneType"
  | .bl _ => some "bool"
  | .int _ => some "int"
  | .str _ => some "str"
  | .tup _ => some "tuple"
  | .box n => if (S.seq n).isSome = true then some "list" else if (S.dk n).isSome = true then some "dict" else none
theorem ty_of {d : Dt} {v : V} {t : String} (hr : HR K H ρ S) (dv : DV K H ρ d v) (h : tyN S d = some t) : TyX K H v (.type t) := by
  cases dv with
  | non => cases h; exact .base .non
  | bl b => cases h; exact .base (.bl b)
  | int i => cases h; exact .base (.int i)
  | str x => cases h; exact .base (.str x)
  | tup ht hd =>
    cases h
    rcases ht with ⟨o, h1, _⟩ | ⟨o, its, n, h1, p, _⟩
    · exact .fTuple h1
    · exact .kTuple h1 p.1
  | @box n a ha =>
    have h : (if (S.seq n).isSome = true then some "list" else if (S.dk n).isSome = true then some "dict" else none) = some t := h
    cases e : S.seq n with
    | none =>
      rw [e] at h
      cases e2 : S.dk n with
      | none => rw [e2] at h; cases h
      | some kvs =>
        rw [e2] at h
        cases h
        obtain ⟨a', ws, h1, h2, _⟩ := hr.dk _ _ (dk_get e2)
        rw [ha] at h1; cases h1
        exact .base (.dK h2)
    | some xs =>
      rw [e] at h
      cases h
      obtain ⟨vs, h1, _⟩ := hr.rd ha e
      rcases h1 with h1 | ⟨o, its, k, h1, c, _⟩
      · rcases h1 with h1 | ⟨o, h1⟩
        · exact .base (.lst h1)
        · exact .base (.frz h1)
      · exact .kList h1 c
def isiD (T : String) (S : Bxs) (d : Dt) : Option Bool := match tyN S d with
  | some t => kitB t T
  | none => none
def dIsi (T : String) (f : FE) : FE := fun σ S => (f σ S).bind fun d S1 => match isiD T S1 d with
  | some b => .ok (.bl b) S1
  | none => .no
theorem se_isi {e : Expr} {fa : FE} {x : Str} {T : String} {p q pos : Pos} (hg : Gl X "isinstance") (hm : X.mg "isinstance" = none) (hgx : Gl X x) (hmx : X.mg x = none) (hv : bootBuiltins x = some (.type T)) (ha : SE X Er e fa) (hn : x ≠ "__name__" := by decide) (hd : (x == ("__debug__" : Str)) = false := by decide)
    (he : starEach (e :: [.Name x q]) X.env = (false, eval e X.env) :: starEach [.Name x q] X.env := by rfl) (hs : starEach [.Name x q] X.env = (false, eval (.Name x q) X.env) :: starEach [] X.env := by rfl) (hpl : (backTo pos (starEach [.Name x q] X.env)).any (·.1) = false := by rfl) :
    SE X Er (.Call (.Name "isinstance" p) [e, .Name x q] [] pos) (dIsi T fa) := by
  obtain ⟨te, pe, qe⟩ := ha.ex
  refine ⟨_, pe_callB call_isi hg hm (by decide +kernel) (pa_cons pe (pa_cons (pe_bltn hgx hmx hv (v := .ty T) rfl hn hd) pa_nil hs) he) (by decide) (by decide) he hpl, fun τ H ρ σ S Q T0 h => qe τ H ρ σ S _ T0 ((link h).mono (fun d S1 h1 => ?_) fun _ _ _ q => q)⟩
  intro v H1 ρ1 t1 hr1 dv
  show rIsi X.K [v, .ty T] H1 Q
  unfold isiD at h1
  cases e1 : tyN S1 d with
  | none => rw [e1] at h1; exact h1.elim
  | some t =>
    rw [e1] at h1
    simp only at h1
    cases e2 : kitB t T with
    | none => rw [e2] at h1; exact h1.elim
    | some b =>
      rw [e2] at h1
      exact ⟨v, .ty T, _, _, b, rfl, .ty T, ty_of hr1 dv e1, kit_ty e2, h1 _ H1 ρ1 t1 hr1 (.bl b)⟩
end
end Mn
set_option Elab.async false
set_option linter.all false
set_option maxRecDepth 100000
set_option maxHeartbeats 4000000
/-! MnS: list(zip(xs, ys)) of two lists; list(range(..)). -/
namespace Mn
open PySem PySem.Spec PyProof.Rows L2
theorem zip_no_len : typeLookup (.type "zip") "__len__" = pure none := by rw [typeLookup_type, builtinLookup_eq_fast]; kernel_rfl
theorem zip_no_hint : typeLookup (.type "zip") "__length_hint__" = pure none := by rw [typeLookup_type, builtinLookup_eq_fast]; kernel_rfl
/-- the zip as it stands: nothing given out, or a tuple held -/
def ZAt (h : Heap) (z TI TO i1 i2 : Addr) : Prop := (IsZip h z TI TO .none ∧ ∃ x y, IsPair h TO x y) ∨ ∃ T f oT, IsZipHeld h z TI TO T f ∧ h.get? T = some oT ∧ T ≠ z ∧ T ≠ i1 ∧ T ≠ i2
theorem push_seq (acc : List Value) (c : Nat) (v : Value) : ∃ c', Obj.mapSeq (·.push v) { cls := .type "list", data := .seq acc.toArray c } = { cls := .type "list", data := .seq (acc ++ [v]).toArray c' } := ⟨_, by simp [Obj.mapSeq]; rfl⟩
/-- new pairs are tracked -/
inductive PrsAt (H : Hp) : List Addr → List V → List V → Prop
  | nil : PrsAt H [] [] []
  | snoc {ts : List Addr} {xs ys : List V} {T : Addr} {o : Obj} {x y : V} : PrsAt H ts xs ys → H T = some (.frz o (.tup [x, y])) → PT0 o → PrsAt H (ts ++ [T]) (xs ++ [x]) (ys ++ [y])
theorem PrsAt.mono {H H' : Hp} (k : ∀ a o u, H a = some (.frz o u) → H' a = some (.frz o u)) {ts : List Addr} {xs ys : List V} (h : PrsAt H ts xs ys) : PrsAt H' ts xs ys := by
  induction h with
  | nil => exact .nil
  | snoc _ a b ih => exact .snoc ih (k _ _ _ a) b
theorem PrsAt.len {H : Hp} {ts : List Addr} {xs ys : List V} (h : PrsAt H ts xs ys) : ts.length = xs.length := by
  induction h with
  | nil => rfl
  | snoc _ _ _ ih => simp [ih]
section
variable {X : Cx} {pins : List (Addr × Obj)} {σ : L2.St} {A : Around}
structure ZCells (X : Cx) (pins : List (Addr × Obj)) (H : Hp) (h : Heap) (z TI TO i1 i2 S : Addr) : Prop where
  fz : FpOk X pins H z
  fO : FpOk X pins H TO
  f1 : FpOk X pins H i1
  f2 : FpOk X pins H i2
  fI : H TI = none
  Sz : S ≠ z
  SI : S ≠ TI
  SO : S ≠ TO
  S1 : S ≠ i1
  S2 : S ≠ i2
theorem zl_loop {R : Result → Shared → Prop} {z TI TO i1 i2 l1 l2 S : Addr} {vs ws : List V} {us1 us2 : List Value} {res : Value} (hh : A.in1.handled = none) (D : ZipApart z TI TO i1 i2 l1 l2)
    (r1 : Vals vs us1) (r2 : Vals ws us2) (hz1 : vs.length < sizeLine) :
    ∀ (k i : Nat) (s : Shared) (H : Hp) (ts : List Addr) (acc : List Value) (c : Nat), min vs.length ws.length - i = k → i ≤ min vs.length ws.length → Inv X pins σ H s → ZAt s.heap z TI TO i1 i2 → TO < s.heap.objs.size → IsPair s.heap TI (.ref i1) (.ref i2) → s.heap.IsListIter i1 l1 i → s.heap.IsListIter i2 l2 i →
      s.heap.IsList l1 us1.toArray → s.heap.IsList l2 us2.toArray → l1 ≠ S → l2 ≠ S → ZCells X pins H s.heap z TI TO i1 i2 S → H S = some (.lst (ts.map V.ref)) → s.heap.get? S = some { cls := .type "list", data := .seq acc.toArray c } → Vals (ts.map V.ref) acc →
      PrsAt H ts (vs.take i) (ws.take i) →
      (∀ s' H' ts', Inv X pins σ H' s' → (∀ a u, a ≠ S → H a = some u → H' a = some u) → H' S = some (.lst (ts'.map V.ref)) → PrsAt H' ts' (vs.take (min vs.length ws.length)) (ws.take (min vs.length ws.length)) → s'.os = s.os → R (.ok (.ret res)) s') →
      codeAny (model X.prog X.w) A (.builtin "list.extend.loop" ⟨[.ref S, .ref z, res], []⟩) R s := by
  have lv := r1.length
  have lw := r2.length
  intro k
  induction k with
  | zero =>
    intro i s H ts acc c hk hi I hzz hTO0 hTI h1 h2 hl1 hl2 n1 n2 Z hS hSl ra P hR
    have hin : i = min vs.length ws.length := by omega
    refine codeAny_builtin F.entry_extend_loop ?_
    rw [Around.under_plainId F.plain_extend_loop _]
    show wpAny _ A.in1 (pyNext (.ref z) >>= _) _ _ s
    have hend : us1.toArray[i]? = none ∨ us2.toArray[i]? = none := by
      rcases Nat.le_total vs.length ws.length with q | q
      · left; simp; omega
      · right; simp; omega
    refine wpAny_bind ?_
    rcases hzz with ⟨hz0, x, y, hTO⟩ | ⟨T, f, oT, hz0, hT, hTz, hT1, hT2⟩
    · refine wpAny_pyNext_zip_end hh D hz0 hTI hTO h1 h2 hl1 hl2 hend fun h' hk' => wpAny_pure ?_
      refine hR _ H ts (I.turnedL (t' := s.toks) (ch := [z, TO, i1, i2]) (fun b o hb e => ?_) fun b hb => ?_) (fun a u _ e => e) hS (by rw [← hin]; exact P) rfl
      · simp only [List.mem_cons, List.not_mem_nil, or_false, not_or] at hb
        exact hk' b o hb.1 hb.2.1 hb.2.2.1 hb.2.2.2 e
      · simp only [List.mem_cons, List.not_mem_nil, or_false] at hb
        rcases hb with rfl | rfl | rfl | rfl
        · exact Z.fz
        · exact Z.fO
        · exact Z.f1
        · exact Z.f2
    · refine wpAny_pyNext_zip_end_held hh D hz0 hT hTI h1 h2 hl1 hl2 hend fun h' hk' => wpAny_pure ?_
      refine hR _ H ts (I.turnedL (t' := s.toks) (ch := [z, i1, i2]) (fun b o hb e => ?_) fun b hb => ?_) (fun a u _ e => e) hS (by rw [← hin]; exact P) rfl
      · simp only [List.mem_cons, List.not_mem_nil, or_false, not_or] at hb
        exact hk' b o hb.1 hb.2.1 hb.2.2 e
      · simp only [List.mem_cons, List.not_mem_nil, or_false] at hb
        rcases hb with rfl | rfl | rfl
        · exact Z.fz
        · exact Z.f1
        · exact Z.f2
  | succ k ih =>
    intro i s H ts acc c hk hi I hzz hTO0 hTI h1 h2 hl1 hl2 n1 n2 Z hS hSl ra P hR
    have hlt : i < min vs.length ws.length := by omega
    have hv : vs[i]? = some vs[i] := List.getElem?_eq_getElem (by omega)
    have hw : ws[i]? = some ws[i] := List.getElem?_eq_getElem (by omega)
    obtain ⟨u1, e1, q1⟩ := r1.get hv
    obtain ⟨u2, e2, q2⟩ := r2.get hw
    refine codeAny_builtin F.entry_extend_loop ?_
    rw [Around.under_plainId F.plain_extend_loop _]
    show wpAny _ A.in1 (pyNext (.ref z) >>= _) _ _ s
    -- what follows a pair that was given out
    have rest : ∀ h' : Heap, ZAt h' z TI TO i1 i2 → h'.IsListIter i1 l1 (i + 1) → h'.IsListIter i2 l2 (i + 1) → IsPair h' s.heap.objs.size u1 u2 → h'.objs.size = s.heap.objs.size + 1 →
        (∀ b o, b ∉ [z, TO, i1, i2] → s.heap.get? b = some o → h'.get? b = some o) →
        wpAny (model X.prog X.w) A.in1 (updateSeq S (·.push (.ref s.heap.objs.size)) >>= fun _ => again (.builtin "list.extend.loop" ⟨[.ref S, .ref z, res], []⟩))
          (fun fin s' => match fin with | .done f => R (.ok f) s' | .again c' => c'.quiet = true ∧ codeAny (model X.prog X.w) A c' R s') (fun e s' => R (.error e) s') { s with heap := h' } := by
      intro h' hz' g1 g2 hp hsz kp
      have hSn : S ∉ [z, TO, i1, i2] := by
        simp only [List.mem_cons, List.not_mem_nil, or_false, not_or]
        exact ⟨Z.Sz, Z.SO, Z.S1, Z.S2⟩
      have hfp : ∀ b ∈ [z, TO, i1, i2], FpOk X pins H b := fun b hb => by
        simp only [List.mem_cons, List.not_mem_nil, or_false] at hb
        rcases hb with rfl | rfl | rfl | rfl
        · exact Z.fz
        · exact Z.fO
        · exact Z.f1
        · exact Z.f2
      have fresh : H s.heap.objs.size = none := I.hok.fresh (Nat.le_refl _)
      have I1 : Inv X pins σ (upd H s.heap.objs.size (.frz { cls := .type "tuple", data := .seq #[u1, u2] } (.tup [vs[i], ws[i]]))) { s with heap := h', toks := s.toks } :=
        I.turnedNew (t' := s.toks) (ch := [z, TO, i1, i2]) kp hfp (Nat.le_refl _) ⟨hp, by show 2 ≤ sizeLine; decide, [u1, u2], .cons q1 (.cons q2 .nil), ⟨_, hp, rfl, _, rfl⟩⟩
      have hSlt : S < s.heap.objs.size := Heap.lt_size hSl
      have hS1 : (upd H s.heap.objs.size (.frz { cls := .type "tuple", data := .seq #[u1, u2] } (.tup [vs[i], ws[i]]))) S = some (.lst (ts.map V.ref)) := by rw [upd_ne (Nat.ne_of_lt hSlt)]; exact hS
      have hSl1 : h'.get? S = some { cls := .type "list", data := .seq acc.toArray c } := kp S _ hSn hSl
      have hal : acc.length = i := by
        have a1 := ra.length
        have a2 := P.len
        rw [List.length_map] at a1
        rw [List.length_take] at a2
        omega
      refine wpAny_bind (wpAny_updateSeq (s := { s with heap := h' }) hSl1 rfl ?_ (by rw [List.size_toArray]; omega) (by show (acc.toArray.push _).size ≤ sizeLine + 1; rw [Array.size_push, List.size_toArray]; omega))
      have ra' : Vals ((ts ++ [s.heap.objs.size]).map V.ref) (acc ++ [.ref s.heap.objs.size]) := by
        rw [List.map_append]
        exact ra.append (.cons rfl .nil)
      obtain ⟨c', hc'⟩ := push_seq acc c (.ref s.heap.objs.size)
      have I2 := I1.lstUpd (f := Obj.mapSeq (·.push (.ref s.heap.objs.size))) (n' := c') hS1 hSl1 hc' ra' (by rw [ra'.length, List.length_append]; simp; omega) s.toks
      have hTS : s.heap.objs.size ≠ S := Nat.ne_of_gt hSlt
      have keepH : ∀ a u, a ≠ S → H a = some u → (upd (upd H s.heap.objs.size (.frz { cls := .type "tuple", data := .seq #[u1, u2] } (.tup [vs[i], ws[i]]))) S (.lst ((ts ++ [s.heap.objs.size]).map V.ref))) a = some u := fun a u ha e => by
        rw [upd_ne ha, upd_ne (ne_of_none e fresh)]; exact e
      have keepn : ∀ a, a ≠ S → a ≠ s.heap.objs.size → H a = none → (upd (upd H s.heap.objs.size (.frz { cls := .type "tuple", data := .seq #[u1, u2] } (.tup [vs[i], ws[i]]))) S (.lst ((ts ++ [s.heap.objs.size]).map V.ref))) a = none := fun a ha hb e => by
        rw [upd_ne ha, upd_ne hb]; exact e
      have fpk : ∀ a, a ≠ S → a < s.heap.objs.size → FpOk X pins H a → FpOk X pins (upd (upd H s.heap.objs.size (.frz { cls := .type "tuple", data := .seq #[u1, u2] } (.tup [vs[i], ws[i]]))) S (.lst ((ts ++ [s.heap.objs.size]).map V.ref))) a := fun a ha hb f =>
        ⟨keepn a ha (Nat.ne_of_lt hb) f.1, f.2⟩
      have oth : ∀ b o, b ≠ S → h'.get? b = some o → (h'.update S (Obj.mapSeq (·.push (.ref s.heap.objs.size)))).get? b = some o := fun b o hb e => (Heap.get?_update_other _ _ (Ne.symm hb)).trans e
      have lz : z < s.heap.objs.size := by rcases hzz with ⟨q, _⟩ | ⟨_, _, _, q, _⟩ <;> exact Heap.lt_size q
      have l1' : i1 < s.heap.objs.size := by obtain ⟨_, q, _⟩ := h1; exact Heap.lt_size q
      have l2' : i2 < s.heap.objs.size := by obtain ⟨_, q, _⟩ := h2; exact Heap.lt_size q
      have lTO : H TO = none := Z.fO.1
      refine wpAny_pure ⟨plainId_quiet F.plain_extend_loop _, ih (i + 1) _ _ (ts ++ [s.heap.objs.size]) (acc ++ [.ref s.heap.objs.size]) c' (by omega) hlt I2 ?_ (by show TO < (h'.update S _).objs.size; rw [Heap.size_update, hsz]; exact Nat.lt_succ_of_lt hTO0) ?_ ?_ ?_ ?_ ?_ n1 n2 ?_ upd_same ?_ ra' ?_ fun s' H' ts' I' kH hS' P' os => hR s' H' ts' I' (fun a u ha e => kH a u ha (keepH a u ha e)) hS' P' os⟩
      · rcases hz' with ⟨q, x, y, q'⟩ | ⟨T, f, oT, q, q', q''⟩
        · exact .inl ⟨oth _ _ Z.Sz.symm q, x, y, oth _ _ Z.SO.symm q'⟩
        · by_cases hT : T = S
          · subst hT
            exact .inr ⟨T, f, _, oth _ _ Z.Sz.symm q, Heap.get?_update_self _ hSl1 (by rw [hc']; rfl), q''⟩
          · exact .inr ⟨T, f, oT, oth _ _ Z.Sz.symm q, oth _ _ hT q', q''⟩
      · exact oth _ _ Z.SI.symm (kp _ _ (by
          simp only [List.mem_cons, List.not_mem_nil, or_false, not_or]
          exact ⟨D.TIz, D.TITO, D.TIi1, D.TIi2⟩) hTI)
      · exact g1.at fun o e => oth _ _ Z.S1.symm e
      · exact g2.at fun o e => oth _ _ Z.S2.symm e
      · exact hl1.at fun o e => oth _ _ n1 (kp _ _ (by
          simp only [List.mem_cons, List.not_mem_nil, or_false, not_or]
          exact ⟨D.l1z, D.l1TO, D.l1i1, D.l1i2⟩) e)
      · exact hl2.at fun o e => oth _ _ n2 (kp _ _ (by
          simp only [List.mem_cons, List.not_mem_nil, or_false, not_or]
          exact ⟨D.l2z, D.l2TO, D.l2i1, D.l2i2⟩) e)
      · refine ⟨fpk _ Z.Sz.symm lz Z.fz, ?_, fpk _ Z.S1.symm l1' Z.f1, fpk _ Z.S2.symm l2' Z.f2, ?_, Z.Sz, Z.SI, Z.SO, Z.S1, Z.S2⟩
        · exact fpk _ Z.SO.symm hTO0 Z.fO
        · exact keepn _ Z.SI.symm (Nat.ne_of_lt (Heap.lt_size hTI)) Z.fI
      · exact (Heap.get?_update_self _ hSl1 (by rw [hc']; rfl)).trans (congrArg some hc')
      · rw [List.take_add_one, List.take_add_one, hv, hw]
        refine .snoc (P.mono fun a o w e => ?_) (by rw [upd_ne hTS, upd_same]) ⟨rfl, rfl⟩
        have ha : a ≠ S := fun q => by rw [q, hS] at e; cases e
        exact keepH a _ ha e
    refine wpAny_bind ?_
    rcases hzz with ⟨hz0, x, y, hTO⟩ | ⟨T, f, oT, hz0, hT, hTz, hT1, hT2⟩
    · refine wpAny_pyNext_zip_item D hz0 hTI hTO h1 h2 hl1 hl2 (by simpa using e1) (by simpa using e2) fun h' a1 a2 a3 a4 a5 a6 a7 => ?_
      exact rest h' (.inr ⟨s.heap.objs.size, false, _, a1, a5, Nat.ne_of_gt (Heap.lt_size hz0), by obtain ⟨_, q, _⟩ := h1; exact Nat.ne_of_gt (Heap.lt_size q), by obtain ⟨_, q, _⟩ := h2; exact Nat.ne_of_gt (Heap.lt_size q)⟩) a3 a4 a5 a6 fun b o hb e => by
        simp only [List.mem_cons, List.not_mem_nil, or_false, not_or] at hb
        exact a7 b o hb.1 hb.2.1 hb.2.2.1 hb.2.2.2 e
    · refine wpAny_pyNext_zip_item_held D hz0 hT hTI h1 h2 hl1 hl2 (by simpa using e1) (by simpa using e2) fun h' a1 a3 a4 a5 a6 a7 => ?_
      exact rest h' (.inr ⟨T, true, oT, a1, a7 T oT hTz hT1 hT2 hT, hTz, hT1, hT2⟩) a3 a4 a5 a6 fun b o hb e => by
        simp only [List.mem_cons, List.not_mem_nil, or_false, not_or] at hb
        exact a7 b o hb.1 hb.2.2.1 hb.2.2.2 e
/-- list(zip) of two lists, at the call of list -/
theorem call_list_zip {z TI TO i1 i2 l1 l2 : Addr} {vs ws : List V} {us1 us2 : List Value} {s : Shared} {H : Hp} {Q : VK} (hh : X.A.handled = none) (D : ZipApart z TI TO i1 i2 l1 l2)
    (r1 : Vals vs us1) (r2 : Vals ws us2) (hz1 : vs.length < sizeLine) (I : Inv X pins σ H s) (hz : IsZip s.heap z TI TO .none) (hTO : ∃ x y, IsPair s.heap TO x y) (hTI : IsPair s.heap TI (.ref i1) (.ref i2)) (h1 : s.heap.IsListIter i1 l1 0) (h2 : s.heap.IsListIter i2 l2 0)
    (hl1 : s.heap.IsList l1 us1.toArray) (hl2 : s.heap.IsList l2 us2.toArray) (fz : FpOk X pins H z) (fO : FpOk X pins H TO) (f1 : FpOk X pins H i1) (f2 : FpOk X pins H i2) (fI : H TI = none)
    (hQ : ∀ S H' ts, H S = none → (∀ a u, H a = some u → H' a = some u) → H' S = some (.lst (ts.map V.ref)) → PrsAt H' ts (vs.take (min vs.length ws.length)) (ws.take (min vs.length ws.length)) → Q (.ref S) H') :
    wpAny (model X.prog X.w) X.A (call (.type "list") [.ref z]) (EP X pins σ Q) X.xe s := by
  refine callType_codes (Q₁ := fun obj s₁ => obj = .ref s.heap.objs.size ∧ s₁ = { s with heap := s.heap.push { cls := .type "list", data := .seq #[] } }) F.called_list (F.typeCall_list_1 _) F.entry_list_init
    (code_list_new _ ⟨rfl, rfl⟩) fun obj s₁ h₁ => ?_
  obtain ⟨rfl, rfl⟩ := h₁
  have hS : (s.heap.push { cls := .type "list", data := .seq #[] }).get? s.heap.objs.size = some { cls := .type "list", data := .seq #[] } := Heap.get?_push_size _ rfl
  refine ⟨⟨_, hS, rfl⟩, F.args_list_init_2 _ _, ?_⟩
  have lt : ∀ {b o}, s.heap.get? b = some o → b < s.heap.objs.size := fun e => Heap.lt_size e
  have lz := lt hz
  have lTI := lt hTI
  have lTO : TO < s.heap.objs.size := by obtain ⟨x, y, q⟩ := hTO; exact lt q
  have li1 : i1 < s.heap.objs.size := by obtain ⟨_, q, _⟩ := h1; exact lt q
  have li2 : i2 < s.heap.objs.size := by obtain ⟨_, q, _⟩ := h2; exact lt q
  have ll1 : l1 < s.heap.objs.size := by obtain ⟨_, q, _⟩ := hl1; exact lt q
  have ll2 : l2 < s.heap.objs.size := by obtain ⟨_, q, _⟩ := hl2; exact lt q
  generalize hSS : s.heap.objs.size = S at hS lz lTI lTO li1 li2 ll1 ll2
  have fresh : H S = none := I.hok.fresh (Nat.le_of_eq hSS)
  show wpAny _ X.A.in1.in1 (do let old ← Builtin.List.listItems (.ref S); Builtin.List.listUpdate (.ref S) (fun _ => #[]); letGo old.toList.reverse; Builtin.List.listExtendWith (.ref S) (.ref z) .none) _ _ _
  refine wpAny_bind ?_
  unfold Builtin.List.listItems
  refine wpAny_bind (wpAny_seqItems hS rfl (wpAny_pure ?_))
  show wpAny _ _ (updateSeq S (fun _ => #[]) >>= fun _ => letGo (#[] : Array Value).toList.reverse >>= fun _ => Builtin.List.listExtendWith (.ref S) (.ref z) .none) _ _ _
  refine wpAny_bind (wpAny_updateSeq hS rfl ?_)
  have hS₂ := Heap.get?_update_self (Obj.mapSeq (fun _ => (#[] : Array Value))) hS rfl
  refine wpAny_bind (wpAny_letGo ?_)
  have ot1 : ∀ b o, s.heap.get? b = some o → ((s.heap.push { cls := .type "list", data := .seq #[] }).update S (Obj.mapSeq (fun _ => (#[] : Array Value)))).get? b = some o :=
    fun b o e => (Heap.get?_update_other _ _ (Ne.symm (Nat.ne_of_lt (by rw [← hSS]; exact lt e)))).trans (Heap.get?_push_of_some _ e)
  generalize hg1 : (s.heap.push { cls := .type "list", data := .seq #[] }).update S (Obj.mapSeq (fun _ => (#[] : Array Value))) = g1 at hS₂ ot1
  have hSz : S ≠ z := Nat.ne_of_gt lz
  show wpAny _ _ (Builtin.List.listExtendWith (.ref S) (.ref z) .none) _ _ { s with heap := g1 }
  unfold Builtin.List.listExtendWith
  have hTz : ∀ t, ({ s with heap := g1, toks := t } : Shared).TypeIs (.ref z) "zip" := fun t => ⟨_, ot1 _ _ hz, rfl⟩
  refine wpAny_bind (wpAny_typeOf (hTz _) ?_)
  have e1 : Builtin.List.listSameRef (.ref S) (.ref z) = false := by simp [Builtin.List.listSameRef, hSz]
  have e2 : (Value.type "zip" == Value.type "list") = false := by decide
  have e3 : (Value.type "zip" == Value.type "tuple") = false := by decide
  simp only [e1, e2, e3, Bool.or_false, Bool.false_eq_true, if_false]
  refine wpAny_bind (wpAny_pyIter_zip (ot1 _ _ hz) ?_)
  refine wpAny_bind (wpAny_holding ?_)
  unfold Builtin.List.listLengthHint
  refine wpAny_bind (wpAny_specialOf (hTz _) zip_no_len ?_)
  show wpAny _ _ (specialOf (Value.ref z) (Str.ofString "__length_hint__") >>= _) _ _ _
  refine wpAny_bind (wpAny_specialOf (hTz _) zip_no_hint ?_)
  refine wpAny_pure ?_
  show wpAny _ _ (rule "list.extend.makes-room" >>= fun _ => Builtin.List.listTouch (.ref S) >>= fun _ => again (.builtin "list.extend.loop" ⟨[.ref S, .ref z, .none], []⟩)) _ _ _
  refine wpAny_bind (wpAny_rule ?_)
  refine wpAny_bind ?_
  show wpAny _ _ (updateSeq S (·.push .none) >>= fun _ => updateSeq S (·.pop)) _ _ _
  refine wpAny_bind (wpAny_updateSeq hS₂ rfl ?_)
  have hS₃ := Heap.get?_update_self (Obj.mapSeq (·.push Value.none)) hS₂ rfl
  refine wpAny_updateSeq (hz := by seq_fits) hS₃ rfl ?_
  have hS₄ := Heap.get?_update_self (Obj.mapSeq (·.pop)) hS₃ rfl
  have ot2 : ∀ b o, s.heap.get? b = some o → ((g1.update S (Obj.mapSeq (·.push Value.none))).update S (Obj.mapSeq (·.pop))).get? b = some o :=
    fun b o e => (Heap.get?_update_other _ _ (Ne.symm (Nat.ne_of_lt (by rw [← hSS]; exact lt e)))).trans ((Heap.get?_update_other _ _ (Ne.symm (Nat.ne_of_lt (by rw [← hSS]; exact lt e)))).trans (ot1 b o e))
  have sz2 : ((g1.update S (Obj.mapSeq (·.push Value.none))).update S (Obj.mapSeq (·.pop))).objs.size = S + 1 := by
    rw [Heap.size_update, Heap.size_update, ← hg1, Heap.size_update, Heap.size_push, hSS]
  obtain ⟨c₄, hc₄⟩ : ∃ c, ((g1.update S (Obj.mapSeq (·.push Value.none))).update S (Obj.mapSeq (·.pop))).get? S = some { cls := .type "list", data := .seq ([] : List Value).toArray c } := ⟨_, hS₄⟩
  generalize ((g1.update S (Obj.mapSeq (·.push Value.none))).update S (Obj.mapSeq (·.pop))) = g2 at ot2 sz2 hc₄
  have I2 : Inv X pins σ (upd H S (.lst [])) { s with heap := g2, toks := s.toks } := I.laid (t' := s.toks) ot2 (Nat.le_of_eq hSS) ⟨Nat.zero_le _, [], c₄, .nil, hc₄⟩
  have fpk : ∀ a, a < S → FpOk X pins H a → FpOk X pins (upd H S (.lst [])) a := fun a ha f => ⟨by rw [upd_ne (Nat.ne_of_lt ha)]; exact f.1, f.2⟩
  refine wpAny_pure ⟨plainId_quiet F.plain_extend_loop _, ?_⟩
  refine zl_loop (A := X.A.in1) hh D r1 r2 hz1 _ 0 _ _ [] [] c₄ rfl (Nat.zero_le _) I2 (.inl ⟨ot2 _ _ hz, ?_⟩) (by show TO < g2.objs.size; rw [sz2]; exact Nat.lt_succ_of_lt lTO) (ot2 _ _ hTI) (h1.at fun o e => ot2 _ _ e) (h2.at fun o e => ot2 _ _ e) (hl1.at fun o e => ot2 _ _ e) (hl2.at fun o e => ot2 _ _ e)
    (Nat.ne_of_lt ll1) (Nat.ne_of_lt ll2) ⟨fpk _ lz fz, fpk _ lTO fO, fpk _ li1 f1, fpk _ li2 f2, by rw [upd_ne (Nat.ne_of_lt lTI)]; exact fI, hSz, Nat.ne_of_gt lTI, Nat.ne_of_gt lTO, Nat.ne_of_gt li1, Nat.ne_of_gt li2⟩ upd_same hc₄ .nil (by rw [List.take_zero, List.take_zero]; exact .nil) fun s' H' ts I' kH hS' P os => ?_
  · obtain ⟨x, y, q⟩ := hTO
    exact ⟨x, y, ot2 _ _ q⟩
  · refine ⟨rfl, .ref S, H', I', rfl, hQ S H' ts fresh (fun a u e => kH a u (ne_of_none e fresh) (by rw [upd_ne (ne_of_none e fresh)]; exact e)) hS' P⟩
end
/-! ### the rules -/
section
variable {X : Cx} {Er : ER} {K : PySem.W.Frag} {H H1 : Hp} {ρ ρ1 : List Addr} {σ : Sg} {S S1 : Bxs} {τ : L2.St}
def tListZip (K : PySem.W.Frag) (ta : TA) : TE := fun σ H Q => ta σ H fun us H1 => ∃ a b vs ws, us = [.ref a, .ref b] ∧ SqL K H1 a vs ∧ SqL K H1 b ws ∧ vs.length < sizeLine ∧
  ∀ p H' ts, H1 p = none → (∀ a u, H1 a = some u → H' a = some u) → H' p = some (.lst (ts.map V.ref)) → PrsAt H' ts (vs.take (min vs.length ws.length)) (ws.take (min vs.length ws.length)) → Q (.ref p) H'
theorem pe_listZip {e e2 : Expr} {ta : TA} {p p2 pos pos2 : Pos} (hc : X.calm = true) (hgl : Gl X "list") (hml : X.mg "list" = none) (hg : Gl X "zip") (hm : X.mg "zip" = none) (ha : PA X [e, e2] ta)
    (hs : starEach [e, e2] X.env = (false, eval e X.env) :: starEach [e2] X.env := by rfl) (hpl : (backTo pos2 (starEach [e2] X.env)).any (·.1) = false := by rfl)
    (na : starEach [.Call (.Name "zip" p2) [e, e2] [] pos2] X.env = (false, eval (.Call (.Name "zip" p2) [e, e2] [] pos2) X.env) :: starEach [] X.env := by rfl) :
    PE X (.Call (.Name "list" p) [.Call (.Name "zip" p2) [e, e2] [] pos2] [] pos) (tListZip X.K ta) := by
  refine ⟨fun pins s σ H Q I h => ?_⟩
  refine Call_ (ld_blt I hgl hml boot_list (PyProof.Rows.callWith_type1 (args_cons (Call_ (ld_blt I hg hm PyProof.Rows.boot_zip (PyProof.Rows.callWith_type1 (thn (ha.run pos2 pins s σ H _ I h) ?_) hs hpl))) na) na))
  rintro us s1 ⟨vs, H1, I1, r1, a, b, xs, ys, rfl, hqx, hqy, hz, q⟩
  obtain ⟨u1, u2, rfl, ra, rb⟩ := r1.two
  cases ra
  cases rb
  obtain ⟨its, rv, p1, la⟩ := sqx_inv (k := false) I1 hqx
  obtain ⟨its2, rv2, p2, lb⟩ := sqx_inv (k := false) I1 hqy
  refine zip_begins2 (beginsX false a its.toArray) (beginsX false b its2.toArray) p1 p2 fun h' hz' hTI hTO g1 g2 hsz hk => ?_
  have I2 : Inv X pins σ H1 { s1 with heap := h' } := I1.kept (t' := s1.toks) hk
  have fp : ∀ c, s1.heap.objs.size ≤ c → FpOk X pins H1 c := fun c hle => I1.fpOk hle (I1.hok.fresh hle)
  refine args_nil (call_list_zip (I1.ok.hd hc) (z := s1.heap.objs.size + 4) (TI := s1.heap.objs.size + 2) (TO := s1.heap.objs.size + 3) (i1 := s1.heap.objs.size) (i2 := s1.heap.objs.size + 1) (l1 := a) (l2 := b) ?_ rv rv2 hz I2 hz' ⟨_, _, hTO⟩ hTI (hit_new (k := false) g1) (hit_new (k := false) g2)
    (p1.at fun o e => hk _ _ e) (p2.at fun o e => hk _ _ e) (fp _ (by omega)) (fp _ (by omega)) (fp _ (by omega)) (fp _ (by omega)) (I1.hok.fresh (by omega)) fun S H' ts q1 q2 q3 q4 => q S H' ts q1 q2 q3 q4)
  have la' : @LT.lt Nat _ a s1.heap.objs.size := la
  have lb' : @LT.lt Nat _ b s1.heap.objs.size := lb
  constructor <;> (show ¬ (@Eq Nat _ _)) <;> omega
theorem snoc_split {α : Type} {xs : List α} {n : Nat} {d : α} (h : xs.length = n + 1) (e : xs[n]? = some d) : xs = xs.take n ++ [d] := by
  have := List.take_add_one (l := xs) (i := n)
  rw [List.take_of_length_le (by omega), e] at this
  exact this
theorem prs_dv : ∀ {H : Hp} {ts : List Addr} {vs ws : List V} {xs ys : List Dt}, PrsAt H ts vs ws → DVs K H ρ xs vs → DVs K H ρ ys ws → DVs K H ρ ((xs.zip ys).map fun p => Dt.tup [p.1, p.2]) (ts.map V.ref) := by
  intro H ts vs ws xs ys h
  induction h generalizing xs ys with
  | nil =>
    intro hx hy
    cases hx
    exact .nil
  | snoc p hT po ih =>
    rename_i ts vs ws T o x y
    intro hx hy
    have lx := hx.length
    have ly := hy.length
    rw [List.length_append] at lx ly
    have l1 := p.len
    have l2 : ts.length = ws.length := by
      have : ∀ {ts : List Addr} {vs ws : List V}, PrsAt H ts vs ws → ts.length = ws.length := fun q => by
        induction q with
        | nil => rfl
        | snoc _ _ _ ih => simp [ih]
      exact this p
    obtain ⟨d, hd1, hd2⟩ := hx.get' (i := vs.length) (v := x) (by simp)
    obtain ⟨e, he1, he2⟩ := hy.get' (i := ws.length) (v := y) (by simp)
    have cx : xs = xs.take vs.length ++ [d] := snoc_split lx hd1
    have cy : ys = ys.take ws.length ++ [e] := snoc_split ly he1
    have dx : DVs K H ρ (xs.take vs.length) vs := by
      have := hx.take vs.length
      rwa [List.take_left] at this
    have dy : DVs K H ρ (ys.take ws.length) ws := by
      have := hy.take ws.length
      rwa [List.take_left] at this
    rw [cx, cy, List.zip_append (by rw [dx.length, dy.length, ← l1, l2]), List.map_append, List.map_append]
    exact (ih dx dy).app (.cons (.tup (.inl ⟨o, hT, po⟩) (.cons hd2 (.cons he2 .nil))) .nil)
def dListZip (f : FA) : FE := fun σ S => (f σ S).bind fun ds S1 => match ds with
  | [.box m, .box n] => match S1.seq m, S1.seq n with
    | some xs, some ys => if xs.length < LIM then newL ((xs.zip ys).map fun p => Dt.tup [p.1, p.2]) S1 else .no
    | _, _ => .no
  | _ => .no
theorem zip_take {α β : Type} : ∀ (xs : List α) (ys : List β), (xs.take (min xs.length ys.length)).zip (ys.take (min xs.length ys.length)) = xs.zip ys
  | [], ys => by simp
  | _ :: _, [] => by simp
  | x :: xs, y :: ys => by
    have : min (x :: xs).length (y :: ys).length = min xs.length ys.length + 1 := by simp only [List.length_cons]; omega
    rw [this, List.take_succ_cons, List.take_succ_cons, List.zip_cons_cons, List.zip_cons_cons, zip_take xs ys]
theorem se_listZip {e e2 : Expr} {fa : FA} {p p2 pos pos2 : Pos} (hc : X.calm = true) (hgl : Gl X "list") (hml : X.mg "list" = none) (hg : Gl X "zip") (hm : X.mg "zip" = none) (ha : SA X Er [e, e2] fa)
    (hs : starEach [e, e2] X.env = (false, eval e X.env) :: starEach [e2] X.env := by rfl) (hpl : (backTo pos2 (starEach [e2] X.env)).any (·.1) = false := by rfl)
    (na : starEach [.Call (.Name "zip" p2) [e, e2] [] pos2] X.env = (false, eval (.Call (.Name "zip" p2) [e, e2] [] pos2) X.env) :: starEach [] X.env := by rfl) :
    SE X Er (.Call (.Name "list" p) [.Call (.Name "zip" p2) [e, e2] [] pos2] [] pos) (dListZip fa) := by
  obtain ⟨ta, pa, qa⟩ := ha.ex
  refine ⟨_, pe_listZip hc hgl hml hg hm pa hs hpl na, fun τ H ρ σ S Q T h => qa τ H ρ σ S _ T ((link h).mono (fun ds S1 h1 => ?_) fun _ _ _ q => q)⟩
  intro vs H1 ρ1 t1 hr1 dvs
  split at h1
  · rename_i m n
    cases dvs with
    | cons d1 r =>
    cases r with
    | cons d2 r =>
    cases r
    cases d1
    rename_i a ha1
    cases d2
    rename_i b hb1
    cases e1 : S1.seq m with
    | none => rw [e1] at h1; exact h1.elim
    | some xs =>
      cases e2 : S1.seq n with
      | none => rw [e1, e2] at h1; exact h1.elim
      | some ys =>
        rw [e1, e2] at h1
        obtain ⟨c, h1⟩ := ite_sat h1
        obtain ⟨hl, h1⟩ := newL_ok h1
        obtain ⟨us, s1, q1⟩ := hr1.rd ha1 e1
        obtain ⟨ws, s2, q2⟩ := hr1.rd hb1 e2
        have z1 := q1.length
        have z2 := q2.length
        refine ⟨a, b, us, ws, rfl, s1, s2, by rw [← z1]; exact lim_lt c, fun p H' ts hp kp hS P => ?_⟩
        have ex : Ext H1 H' := .of kp
        have pre : ρ1 <+: ρ1 ++ [p] := List.prefix_append _ _
        have dz := prs_dv P ((q1.mono ex pre).take _) ((q2.mono ex pre).take _)
        rw [← z1, ← z2, zip_take] at dz
        have hr' := hr1.grown (b := .lst ((xs.zip ys).map fun p => Dt.tup [p.1, p.2])) kp hp ⟨_, hS, dz⟩
        refine h1 _ H' (ρ1 ++ [p]) (t1.trans ⟨ex, pre⟩) hr' (.box ?_)
        rw [← hr1.len, List.getElem?_append_right (Nat.le_refl _), Nat.sub_self]; rfl
  · exact h1.elim
def dListR2 (f g : FE) : FE := fun σ S => (f σ S).bind fun d S1 => (g σ S1).bind fun e S2 => match d, e with
  | .int i, .int j => if inR i ∧ inR j ∧ (j - i).toNat ≤ 100000 then newL (rgD i (j - i).toNat) S2 else .no
  | _, _ => .no
theorem rg_dvs (lo : Int) : ∀ n : Nat, DVs K H ρ (rgD lo n) ((List.range n).map fun i => V.int (lo + (i : Nat))) := by
  have : ∀ l : List Nat, DVs K H ρ (l.map fun (i : Nat) => Dt.int (lo + (i : Int))) (l.map fun i => V.int (lo + (i : Nat))) := fun l => by
    induction l with
    | nil => exact .nil
    | cons a l ih => exact .cons (.int _) ih
  exact fun n => this _
theorem se_listR2 {a b : Expr} {fa fb : FE} {p p2 pos pos2 : Pos} (hc : X.calm = true) (hgl : Gl X "list") (hml : X.mg "list" = none) (hg : Gl X "range") (hm : X.mg "range" = none) (ha : SE X Er a fa) (hb : SE X Er b fb)
    (na : starEach [.Call (.Name "range" p2) [a, b] [] pos2] X.env = (false, eval (.Call (.Name "range" p2) [a, b] [] pos2) X.env) :: starEach [] X.env := by rfl) (na2 : starEach [a, b] X.env = (false, eval a X.env) :: starEach [b] X.env := by rfl)
    (nb : starEach [b] X.env = (false, eval b X.env) :: starEach [] X.env := by rfl) (hp : (backTo pos2 (starEach [b] X.env)).any (·.1) = false := by rfl) :
    SE X Er (.Call (.Name "list" p) [.Call (.Name "range" p2) [a, b] [] pos2] [] pos) (dListR2 fa fb) := by
  obtain ⟨ta, pa, qa⟩ := ha.ex
  obtain ⟨tb, pb, qb⟩ := hb.ex
  refine ⟨_, pe_listRg hc hgl hml (prg_2 hg hm pa pb na2 nb hp) na, fun τ H ρ σ S Q T h => qa τ H ρ σ S _ T ((link h).mono (fun d S1 h1 => ?_) fun _ _ _ q => q)⟩
  intro v H1 ρ1 t1 hr1 dv
  refine qb τ H1 ρ1 σ S1 _ (T.to t1 hr1) ((link h1).mono (fun e S2 h2 => ?_) fun _ _ _ q => q.to t1)
  intro w H2 ρ2 t2 hr2 dw
  split at h2
  · rename_i i j
    cases dv.to t2
    cases dw
    obtain ⟨c, h2⟩ := ite_sat h2
    obtain ⟨hl, h2⟩ := newL_ok h2
    exact ⟨i, j, rfl, rfl, ⟨c.1.1, c.1.2, c.2.1.1, c.2.1.2, by have := c.2.2; omega⟩, fun q hq => new_lst hr2 (vs := rgV i j) (rg_dvs i _) hq fun v H' ρ' t' => h2 v H' ρ' ((t1.trans t2).trans t')⟩
  · exact h2.elim
/-- {} -/
def dNewD : FE := fun _ S => .ok (.box S.length) (S ++ [.dk []])
theorem se_newD {pos : Pos} : SE X Er (.Dict [] [] pos) dNewD := by
  refine ⟨_, pe_dnewK, fun τ H ρ σ S Q T h p hp => ?_⟩
  have hr' := T.hr.newB (b := .dk []) (o := .dK []) hp ⟨[], upd_same, .nil⟩
  refine h _ _ (ρ ++ [p]) ⟨Ext.new hp, List.prefix_append _ _⟩ hr' (.box ?_)
  rw [← T.hr.len, List.getElem?_append_right (Nat.le_refl _), Nat.sub_self]; rfl
end
end Mn
set_option Elab.async false
set_option linter.all false
set_option maxRecDepth 100000
set_option maxHeartbeats 4000000
/-! MnX: raise, try, on plain data. -/
namespace Mn
open PySem PySem.Spec PyProof.Rows L2
/-- one except clause: the class that it names, the slot of its own name, what its suite reads -/
structure Clause where
  cls : Value
  slot : Option Nat
  ts : Addr → Value → Option Addr → TS
def goneE (D : Ends) (i : Nat) : Ends := { nx := fun τ H => D.nx (τ.set i none) H, rt := D.rt, bk := fun τ H => D.bk (τ.set i none) H, ct := fun τ H => D.ct (τ.set i none) H }
/-- what clauses ask of an exception that one of them meets -/
def wishC (K : PySem.W.Frag) (D : Ends) : List Clause → WX
  | [] => fun _ _ _ _ => False
  | c :: r => fun cls d τ H => ∃ b, PySem.W.exmOne K cls c.cls = some b ∧ (b = false → wishC K D r cls d τ H) ∧ (b = true → ∀ a, H a = none → match c.slot with
    | none => c.ts a cls d D τ H
    | some i => c.ts a cls d (goneE D i) (τ.set i (some (.ref a))) H)
/-- a suite's reading, for whatever exception is held -/
def SuiteOk (X : Cx) (b : List Stmt) (ts : Addr → Value → Option Addr → TS) : Prop :=
  ∀ (a : Addr) (o : Obj) (cls : Value) (d : Option Addr) (pn : List (Addr × Obj)), Zc cls d o → (∃ vs, o.data = .fields vs) → PSs (X.suite a ((a, o) :: pn)) b (ts a cls d)
inductive ClOk (X : Cx) : ExceptHandler → Clause → Prop
  | only {x : Str} {c : Value} {ts : Addr → Value → Option Addr → TS} {b : Stmt} {r : List Stmt} {p1 p2 : Pos} (hc : Names X x c) (hs : SuiteOk X (b :: r) ts) : ClOk X (.ExceptHandler (some (.Name x p1)) none (b :: r) p2) ⟨c, none, ts⟩
  | named {x n : Str} {i : Nat} {c : Value} {ts : Addr → Value → Option Addr → TS} {b : Stmt} {r : List Stmt} {p1 p2 : Pos} (hc : Names X x c) (hN : X.N.Nodup) (hi : X.N[i]? = some n) (hn : X.env.kindOf n = some .local) (hs : SuiteOk X (b :: r) ts) :
      ClOk X (.ExceptHandler (some (.Name x p1)) (some n) (b :: r) p2) ⟨c, some i, ts⟩
inductive ClsOk (X : Cx) : List ExceptHandler → List Clause → Prop
  | nil : ClsOk X [] []
  | cons {h : ExceptHandler} {c : Clause} {hs : List ExceptHandler} {cs : List Clause} : ClOk X h c → ClsOk X hs cs → ClsOk X (h :: hs) (c :: cs)
section
variable {X : Cx} {body : List Stmt} {h0 : ExceptHandler} {hr : List ExceptHandler} {cl : List Clause} {pos : Pos} {tb : WX → TS}
/-- an exception that has landed where X stands, its ground B -/
structure Down (X : Cx) (pins : List (Addr × Obj)) (a : Addr) (B : Heap) (cls : Value) (d : Option Addr) (τ : L2.St) (H : Hp) (s : Shared) : Prop where
  inv : Inv X pins τ H s
  fly : HandSPX.FlyingZ B (X.env :: X.outer) a (Zc cls d) s.heap
  na : H a = none
  nl : a ≠ X.env.locals
  nf : a ∉ X.fs
  go : ∀ h', HandSPX.FlyingZ B (X.env :: X.outer) a (Zc cls d) h' → s.heap.UpToSlots h' → Inv X pins τ H { s with heap := h' }
/-- the clauses, one behind the other -/
theorem clauses_ok {pins : List (Addr × Obj)} {D : Ends} {a : Addr} {B : Heap} {cls : Value} {d : Option Addr} {τ : L2.St} {H : Hp} {s : Shared} (G : Down X pins a B cls d τ H s) :
    ∀ {hs : List ExceptHandler} {cs : List Clause}, ClsOk X hs cs → wishC X.K D cs cls d τ H → wpAny (model X.prog X.w) X.A (handleBy (.ref a) X.env hs) (SP X pins D) X.xe s := by
  intro hs cs hk
  induction hk with
  | nil => exact fun w => w.elim
  | @cons h c hs cs hc hr ih =>
    rintro ⟨b, hb, no, yes⟩
    have ok := G.inv.ok
    obtain ⟨o3, v3, e3, z3, q3⟩ := G.fly.there
    have S3 := G.inv.suite e3 q3 G.na G.nl G.nf
    have ty : PySem.W.Looks (model X.prog X.w) s.heap (typeOf (.ref a)) cls := fun _ _ _ _ k q => wpAny_typeOf_ref (k _ _ e3) (by rw [z3.1]; exact q)
    have meets := PySem.W.exm_one (M := model X.prog X.w) G.inv.kIn ty hb
    have name : ∀ {x : Str} {v : Value} {p1 : Pos} {Q E : Value → Shared → Prop}, Names X x v → Q v s → wpAny (model X.prog X.w) (X.A.mark (some (.ref a))) (eval (.Name x p1) X.env) Q E s := fun {x v p1 Q E} hv q => by
      obtain ⟨g, hdb, m | ⟨m, bt, nn⟩⟩ := hv
      · exact ld_glob (X := X.suite a ((a, o3) :: (X.pn ++ pins))) S3 g m q hdb
      · exact ld_blt (X := X.suite a ((a, o3) :: (X.pn ++ pins))) S3 g m bt q nn hdb
    cases hc with
    | only hv hsu =>
      refine wpAny_handleBy_cons (codeAny_handlers_test (name hv (meets.here ?_))) (by intro z; cases z)
      cases b with
      | false => exact ih (no rfl)
      | true =>
        refine codeAny_handlers_suite (HandSPX.lands_againZ G.fly fun h4 f4 u4 => ?_)
        have J := G.go h4 f4 u4
        obtain ⟨o4, v4, e4, z4, q4⟩ := f4.there
        have S4 := J.suite e4 q4 G.na G.nl G.nf
        refine wpAny_mono ((hsu a o4 cls d (X.pn ++ pins) z4 ⟨_, q4⟩).run [] _ _ H _ S4 (yes rfl a G.na)) (fun f s6 hsp => ?_) fun _ _ z => z.elim
        cases f with
        | next => obtain ⟨τ6, H6, J6, k6⟩ := hsp; exact ⟨τ6, H6, J6.unsuite ok, k6⟩
        | brk => obtain ⟨τ6, H6, J6, k6⟩ := hsp; exact ⟨τ6, H6, J6.unsuite ok, k6⟩
        | cont => obtain ⟨τ6, H6, J6, k6⟩ := hsp; exact ⟨τ6, H6, J6.unsuite ok, k6⟩
        | ret u => obtain ⟨v, τ6, H6, J6, r6, k6⟩ := hsp; exact ⟨v, τ6, H6, J6.unsuite ok, r6, k6⟩
    | @named x n i v ts b₀ r p1 p2 hv hN hi hn hsu =>
      refine wpAny_handleBy_cons (codeAny_handlers_test (name hv (meets.here ?_))) (by intro z; cases z)
      cases b with
      | false => exact ih (no rfl)
      | true =>
        refine codeAny_handlers_suite_as (HandSPX.lands_againZ G.fly fun h4 f4 u4 => ?_)
        have J := G.go h4 f4 u4
        obtain ⟨o4, v4, e4, z4, q4⟩ := f4.there
        have S4 := J.suite e4 q4 G.na G.nl G.nf
        refine store_ok (X := X.suite a ((a, o4) :: (X.pn ++ pins))) (v := .ref a) S4 hN hi (.inl hn) rfl (fun s5 S5 => ?_) (.inr hn)
        refine wpAny_mono ((hsu a o4 cls d (X.pn ++ pins) z4 ⟨_, q4⟩).run [] s5 _ H _ S5 (yes rfl a G.na)) (fun f s6 hsp => ?_) fun _ _ z => z.elim
        have off : ∀ {τ6 : L2.St} {H6 : Hp} {Q : Shared → Prop}, Inv (X.suite a ((a, o4) :: (X.pn ++ pins))) [] τ6 H6 s6 → (∀ s7, Inv X pins (τ6.set i none) H6 s7 → Q s7) →
          wpAny (model X.prog X.w) X.A (do bindName X.env n .none; unbindBehindTheSuite X.env n p2) (fun _ s7 => Q s7) X.xe s6 := fun J6 k => gone_ok (J6.unsuite ok) hN hi hn k
        cases f with
        | next => obtain ⟨τ6, H6, J6, k6⟩ := hsp; exact off J6 fun s7 J7 => ⟨_, _, J7, k6⟩
        | brk => obtain ⟨τ6, H6, J6, k6⟩ := hsp; exact off J6 fun s7 J7 => ⟨_, _, J7, k6⟩
        | cont => obtain ⟨τ6, H6, J6, k6⟩ := hsp; exact off J6 fun s7 J7 => ⟨_, _, J7, k6⟩
        | ret u => obtain ⟨v, τ6, H6, J6, r6, k6⟩ := hsp; exact off J6 fun s7 J7 => ⟨v, _, _, J7, r6, k6⟩
/-- try: body, then clauses of which one meets whatever the body raises -/
theorem ps_tryC (hst : X.stack = X.env :: X.outer) (hfr : X.env.frame = some X.env.locals)
    (hb : ∀ (W : WX) (pn : List (Addr × Obj)) (xe : Value → Shared → Prop), Takes (X.tr pn xe) W → PassesOwn (model X.prog X.w) X.A X.env xe → PSs (X.tr pn xe) body (tb W))
    (hc : ClsOk X (h0 :: hr) cl) : PS X (.Try body (h0 :: hr) [] [] pos) (fun D τ H => tb (wishC X.K D cl) D τ H) := by
  constructor
  intro pins s τ H D I w
  have ok := I.ok
  have fr : X.A.frames = some (X.env :: X.outer) := by rw [ok.frames, hst]
  refine wpAny_Try_except (wpAny_mono ((hb (wishC X.K D cl) (X.pn ++ pins) (fun e s1 => wpAny (model X.prog X.w) X.A (noteFrame e X.env) (fun _ s2 => wpAny (model X.prog X.w) X.A (setFlight e none) (fun _ s3 => wpAny (model X.prog X.w) X.A (handleBy e X.env (h0 :: hr)) (SP X pins D) X.xe s3) X.xe s2) X.xe s1)
    (fun u s1 x => ?_) PassesOwn.looking).run [] s τ H D (I.toTry _) w) (fun f s1 hsp => ?_) fun e s1 z => z)
  · obtain ⟨a, B, sI, ps', τ1, H1, cls, d, rfl, J0, nb, up, sky, na, os, ag, w1⟩ := x
    have J : Inv X pins τ1 H1 sI := J0.ofTry ok
    rw [show (X.tr (X.pn ++ pins) _).stack = X.stack from rfl, hst] at sky
    show wpAny (model X.prog X.w) X.A (noteFrame (.ref a) X.env) _ _ _
    refine Sky.land Zc.steady fr hfr sky fun h3 f3 u3 => ?_
    obtain ⟨o3, v3, e3, z3, q3⟩ := f3.there
    have off : a ∉ frs (X.env :: X.outer) := fun hm => by
      obtain ⟨_, o', e', k'⟩ := f3.2.2.1.mem hm
      rw [e3] at e'; cases e'
      exact k' _ q3
    refine clauses_ok (s := { s1 with heap := h3 }) ⟨J.landed nb f3.1 (up.trans u3) os ag, f3, na, fun z => off (List.mem_filterMap.mpr ⟨X.env, List.mem_cons_self, by rw [hfr, z]⟩), fun hm => ?_, fun h4 f4 u4 => J.landed nb f4.1 ((up.trans u3).trans u4) os ag⟩ hc w1
    obtain ⟨e, he, q⟩ := List.mem_filterMap.mp hm
    exact off (List.mem_filterMap.mpr ⟨e, List.mem_cons_of_mem _ he, q⟩)
  · cases f with
    | next => obtain ⟨τ1, H1, J1, k1⟩ := hsp; exact wpAny_execs_nil ⟨τ1, H1, J1.ofTry ok, k1⟩
    | brk => obtain ⟨τ1, H1, J1, k1⟩ := hsp; exact ⟨τ1, H1, J1.ofTry ok, k1⟩
    | cont => obtain ⟨τ1, H1, J1, k1⟩ := hsp; exact ⟨τ1, H1, J1.ofTry ok, k1⟩
    | ret u => obtain ⟨v, τ1, H1, J1, r1, k1⟩ := hsp; exact ⟨v, τ1, H1, J1.ofTry ok, r1, k1⟩
end
/-! ### the classes; an exception's fields -/
/-- the classes by number: where each stands, its fields -/
abbrev CT := Nat → Option (Addr × List Str)
/-- 18 is the base of all others -/
def subC (c k : Nat) : Bool := c == k || k == 18
def FldR (K : PySem.W.Frag) (H : Hp) (ρ : List Addr) (ns : List Str) (fs : List (Str × V)) (es : List Dt) : Prop := ∀ (j : Nat) f d, ns[j]? = some f → es[j]? = some d → ∃ v, fs.lookup f = some v ∧ DV K H ρ d v
/-- an exception of the class c with these fields, its dict at dd -/
def ExR (K : PySem.W.Frag) (ct : CT) (H : Hp) (ρ : List Addr) (c : Nat) (es : List Dt) (C dd : Addr) : Prop := ∃ ns fs, ct c = some (C, ns) ∧ H dd = some (.xd fs) ∧ FldR K H ρ ns fs es
def eoX (K : PySem.W.Frag) (ct : CT) (E : XK) : ER := fun c es S H ρ => ∀ C dd, HR K H ρ S → ExR K ct H ρ c es C dd → E (.ref C) (some dd) H
/-- a method of a class's text -/
def methS (st : Stmt) (j : Nat) : Stmt := match st with
  | .ClassDef _ _ _ b _ _ _ _ _ _ _ => b.getD j (.Pass ⟨0, 0, 0, 0⟩)
  | _ => .Pass ⟨0, 0, 0, 0⟩
/-- what __init__ of such a class does -/
def spI (C : Addr) (ns : List Str) : Sp := fun vs H Q _ => ∃ a ws, vs = .ref a :: ws ∧ ws.length = ns.length ∧ H a = some (exo a C none) ∧
  ∀ d fs H', H d = none → d ≠ a → H' a = some (exo a C (some d)) → H' d = some (exd d fs) → (∀ b, b ≠ a → b ≠ d → H' b = H b) → (∀ (j : Nat) f w, ns[j]? = some f → ws[j]? = some w → fs.lookup f = some w) → Q .non H'
theorem init_pure1 {K : PySem.W.Frag} {C : Addr} {f : Str} {vs : List V} {H : Hp} {Q : VK} {E : XK} (T : OexC K C) (hno : PySem.W.findIn K (.ref C) f = some none) (h : spI C [f] vs H Q E) :
    tOst K f (tVar 0) (tVar 1) { nx := fun _ H' => Q .non H', rt := Q } (L2.start ["self", f] vs) H := by
  obtain ⟨a, ws, rfl, hl, ha, k⟩ := h
  match ws, hl with
  | [y], _ =>
    refine ⟨y, rfl, .ref a, rfl, a, C, rfl, T, hno, .inl ⟨ha, fun dx n ne => k dx [(f, y)] _ n ne upd_same ?_ (fun b h1 h2 => ?_) fun j g w hg hw => ?_⟩⟩
    · rw [upd_ne ne]; exact upd_same
    · rw [upd_ne h1, upd_ne h2]
    · cases j with
      | zero => simp at hg hw; subst hg; subst hw; simp [List.lookup]
      | succ j => simp at hg
section
variable {X : Cx} {ct : CT} {E : XK} {H H1 : Hp} {ρ ρ1 : List Addr} {σ : Sg} {S S1 : Bxs} {τ : L2.St}
def sRaise (c : Nat) (fa : FA) : FS := fun σ S => (fa σ S).bind fun ds S1 => .ex c ds S1
theorem ss_raise (n c : Nat) {C fI : Addr} {ns : List Str} {fd : FuncData} {ps : List Str} {x : Str} {e : Expr} {es : List Expr} {fa : FA} {k : Nat} {p pos pos2 : Pos} (hc : X.calm = true) (tk : Takes X (fun cls d _ H => E cls d H)) (T : OexC X.K C)
    (iC : PySem.W.findIn X.K (.ref C) "__init__" = some (some (.ref fI))) (tI : PySem.W.typeIn X.K (.ref fI) = some (.type "function")) (FI : FnOk X.prog X.w X.K X.mg X.base CX0 k fI fd ps (spI C ns)) (hr : Room (k + 1) X.A) (hb : Binds X.K fd ps [])
    (hg : Gl X x) (hm : X.mg x = some (.ref C)) (hct : ct c = some (C, ns)) (ha : SA X (eoX X.K ct E) (e :: es) fa) (hn : ∀ σ S ds S', fa σ S = .ok ds S' → ds.length = n) (hl : ns.length = n) (h1 : n ≤ 1000)
    (hdb : (x == ("__debug__" : Str)) = false := by decide) (he : starEach (e :: es) X.env = (false, eval e X.env) :: starEach es X.env := by rfl) (hpl : (backTo pos (starEach es X.env)).any (·.1) = false := by rfl) :
    SS X (eoX X.K ct E) (.Raise (some (.Call (.Name x p) (e :: es) [] pos)) none pos2) (sRaise c fa) := by
  obtain ⟨ta, pa, qa⟩ := ha.ex
  refine ⟨_, ps_raise hc tk (pmk_oex T iC tI FI hr hb .nil pass0 hg hm pa hdb he hpl), fun τ H ρ σ S D Ty h => ?_⟩
  have h := link h
  have h' : (fa σ S).Sat (fun ds S1 => ds.length = n ∧ KX (eoX X.K ct E) H ρ c ds S1) (KX (eoX X.K ct E) H ρ) := by
    cases e0 : fa σ S with
    | ok ds S1 => rw [e0] at h; exact ⟨hn σ S ds S1 e0, h⟩
    | ex c ds S1 => rw [e0] at h; exact h
    | no => rw [e0] at h; exact h
  refine qa τ H ρ σ S _ Ty (h'.mono (fun ds S1 q => ?_) fun _ _ _ q => q)
  obtain ⟨q1, q2⟩ := q
  intro vs H1 ρ1 t1 hr1 dvs
  have vl : vs.length = n := by rw [← dvs.length]; exact q1
  refine ⟨by rw [vl]; exact h1, fun a hna => ⟨a, vs ++ [], rfl, by rw [List.append_nil, vl, hl], upd_same, fun d fs H' hd hda ea ed hk hf => ⟨rfl, d, fs, ea, ed, ?_, ?_⟩⟩⟩
  · rw [upd_ne hda] at hd; exact hd
  · have hd1 : H1 d = none := by rw [upd_ne hda] at hd; exact hd
    have eq : upd (L2.del H' a) d (.xd fs) = upd H1 d (.xd fs) := by
      funext b
      by_cases hbd : b = d
      · rw [hbd, upd_same, upd_same]
      · rw [upd_ne hbd, upd_ne hbd]
        by_cases hba : b = a
        · rw [hba, L2.del_same, hna]
        · rw [L2.del_ne hba, hk b hba hbd, upd_ne hba]
    show E (.ref C) (some d) (upd (L2.del H' a) d (.xd fs))
    rw [eq]
    refine q2 _ ρ1 (t1.trans ⟨Ext.new hd1, List.prefix_refl _⟩) C d (hr1.tup hd1) ⟨ns, fs, hct, upd_same, fun j f x hj hx => ?_⟩
    obtain ⟨v, hv, dv⟩ := dvs.get hx
    exact ⟨v, hf j f v hj (by rw [List.append_nil]; exact hv), dv.mono (Ext.new hd1) (List.prefix_refl _)⟩
/-! ### calls -/
def quietF (F : FN) : FN := fun ds S => (F ds S).quiet
theorem FnD.quiet {P : Program} {w : World} {K : PySem.W.Frag} {mg : Str → Option Value} {base : Heap} {CX : CXT} {eo : XK → ER} {k : Nat} {f : Addr} {fd : FuncData} {ps : List Str} {F : FN} (Er : ER) (h : FnD P w K mg base CX eo k f fd ps F) :
    FnD P w K mg base CX (fun _ => Er) k f fd ps (quietF F) := ⟨fun A outer s H args us vs ρ S ds Q E hg hr e0 b r hl hR dvs hs => h.run A outer s H args us vs ρ S ds Q E hg hr e0 b r hl hR dvs (quiet_sat hs)⟩
/-! ### a try -/
def enc (σ : Sg) : Dt := .tup (σ.map fun o => match o with | none => .non | some d => .tup [d])
def dec : Dt → Sg
  | .tup xs => xs.map fun d => match d with | .tup [x] => some x | _ => none
  | _ => []
theorem dec_enc (σ : Sg) : dec (enc σ) = σ := by
  show (σ.map _).map _ = σ
  rw [List.map_map]
  conv => rhs; rw [← List.map_id σ]
  apply List.map_congr_left
  intro o _
  cases o <;> rfl
/-- a call in a try's body: the slots go with what is raised -/
def dCallT (F : FN) (fa : FA) : FE := fun σ S => (fa σ S).bind fun ds S1 => match F ds S1 with
  | .ok d S2 => .ok d S2
  | .ex c es S2 => .ex c (enc σ :: es) S2
  | .no => .no
/-- what is wished within a try's body -/
def ErT (K : PySem.W.Frag) (ct : CT) (W : WX) : ER := fun c es S H ρ => match es with
  | [] => False
  | e :: es => ∀ C dd τ, Ty K H ρ (dec e) S τ → ExR K ct H ρ c es C dd → W (.ref C) (some dd) τ H
abbrev Hds := List (Nat × (List Dt → FS))
def pickH : Hds → Nat → List Dt → FS
  | [], _, _ => fun _ _ => .no
  | (k, h) :: r, c, es => if subC c k = true then h es else pickH r c es
def sTry (b : FS) (hs : Hds) : FS := fun σ S => match b σ S with
  | .ok r S1 => .ok r S1
  | .ex c (e :: es) S1 => (pickH hs c es (dec e) S1).quiet
  | _ => .no
theorem se_callT {W : WX} {k : Nat} {f : Addr} {fd : FuncData} {ps : List Str} {F : FN} {x : Str} {p pos : Pos} {e : Expr} {es : List Expr} {fa : FA} (n : Nat) (FD : FnD X.prog X.w X.K X.mg X.base (L2.CX X.prog X.w) (eoX X.K ct) k f fd ps F) (tk : Takes X W) (hgd : X.A.guards = some []) (hr : Room k X.A) (hg : Gl X x) (hm : X.mg x = some (.ref f))
    (hk : PySem.W.keepIn X.K (.ref f) = true) (hb : Binds X.K fd ps []) (ha : SA X (ErT X.K ct W) (e :: es) fa) (hn : ∀ σ S ds S', fa σ S = .ok ds S' → ds.length = n) (hps : ps.length = n)
    (hdb : (x == ("__debug__" : Str)) = false := by decide) (he : starEach (e :: es) X.env = (false, eval e X.env) :: starEach es X.env := by rfl) (hpl : (backTo pos (starEach es X.env)).any (·.1) = false := by rfl) :
    SE X (ErT X.K ct W) (.Call (.Name x p) (e :: es) [] pos) (dCallT F fa) := by
  obtain ⟨ta, pa, qa⟩ := ha.ex
  refine SE.ofCan ⟨fun pins s τ H Q I ⟨ρ, σ, S, T, h⟩ => ?_⟩
  refine wpAny_Call_Name_kw (ld_glob I hg hm ?_ hdb)
  have h := link h
  have h' : (fa σ S).Sat (fun ds S1 => ds.length = n ∧ (match F ds S1 with
      | .ok d S2 => Rs.ok d S2
      | .ex c es S2 => .ex c (enc σ :: es) S2
      | .no => .no).Sat (KO X.K H ρ Q) (KX (ErT X.K ct W) H ρ)) (KX (ErT X.K ct W) H ρ) := by
    cases e0 : fa σ S with
    | ok ds S1 => rw [e0] at h; exact ⟨hn σ S ds S1 e0, h⟩
    | ex c ds S1 => rw [e0] at h; exact h
    | no => rw [e0] at h; exact h
  refine PySem.W.callWith_K (h₀ := X.base) I.ok.mod.kin hk (thn (pa.run pos pins s τ H (fun vs H1 => ∃ ρ1 S1 ds, To H H1 ρ ρ1 ∧ HR X.K H1 ρ1 S1 ∧ DVs X.K H1 ρ1 ds vs ∧ ds.length = n ∧ (F ds S1).Sat (KO X.K H1 ρ1 Q) (KX (eoX X.K ct (WE W τ)) H1 ρ1)) I ?_) ?_) he hpl
  · refine qa τ H ρ σ S _ T (h'.mono (fun ds S1 q vs H1 ρ1 t1 hr1 dvs => ⟨ρ1, S1, ds, t1, hr1, dvs, q.1, ?_⟩) fun _ _ _ q => q)
    obtain ⟨_, q⟩ := q
    cases e1 : F ds S1 with
    | ok d S2 =>
      rw [e1] at q
      exact fun v H' ρ' t' => q v H' ρ' (t1.trans t')
    | ex c es S2 =>
      rw [e1] at q
      intro H' ρ' t' C dd hR hx
      have := q H' ρ' (t1.trans t')
      exact this C dd τ ⟨hR, by rw [dec_enc]; exact T.sl.to (t1.trans t')⟩ hx
    | no => rw [e1] at q; exact q.elim
  · rintro us s1 ⟨vs, H1, I1, r, ρ1, S1, ds, t1, hr1, dvs, hl, q⟩
    refine ⟨I1.kIn, ?_⟩
    have hlu : (us ++ []).length = ps.length := by rw [List.append_nil, ← r.length, ← dvs.length, hl, hps]
    refine wpAny_call (codeAny_mono (FD.run X.A X.stack s1 H1 ⟨us, []⟩ (us ++ []) vs ρ1 S1 ds Q (WE W τ) hgd hr I1.env0 (hb s1 us I1.kIn hlu) (by rw [List.append_nil]; exact r) (hl.trans hps.symm) hr1 dvs q) fun rr s' hq => ?_)
    cases rr with
    | error e => exact passAt tk τ pins H1 s1 e s' I1 hq
    | ok fl =>
      cases fl with
      | ret u => exact I1.after hq
      | next => exact False.elim hq
      | brk => exact False.elim hq
      | cont => exact False.elim hq
def canSs (K : PySem.W.Frag) (Er : ER) (f : FS) : TS := fun D τ H => ∃ ρ σ S, Ty K H ρ σ S τ ∧ (f σ S).Sat (KF K H ρ D) (KX Er H ρ)
theorem SSs.can {Er : ER} {st : List Stmt} {f : FS} (h : SSs X Er st f) : PSs X st (canSs X.K Er f) := by
  obtain ⟨t, p, q⟩ := h.ex
  exact ⟨fun pins s τ H D I ⟨ρ, σ, S, T, w⟩ => p.run pins s τ H D I (q τ H ρ σ S D T w)⟩
structure HsD (X : Cx) (ct : CT) (hs : List ExceptHandler) (pl : Hds) : Prop where
  ex : ∃ cl, ClsOk X hs cl ∧ ∀ D H ρ c es C dd σ S τ, ExR X.K ct H ρ c es C dd → Ty X.K H ρ σ S τ → (pickH pl c es σ S).Sat (KF X.K H ρ D) (KX noEr H ρ) → wishC X.K D cl (.ref C) (some dd) τ H
theorem hd_nil : HsD X ct [] [] := ⟨[], .nil, fun D H ρ c es C dd σ S τ _ _ h => h.elim⟩
theorem hd_only (k : Nat) {x : Str} {Ck : Addr} {b : Stmt} {r : List Stmt} {hs : List ExceptHandler} {pl : Hds} {f : FS} {p1 p2 : Pos} (hc : Names X x (.ref Ck)) (hx : ∀ c C ns, ct c = some (C, ns) → PySem.W.exmOne X.K (.ref C) (.ref Ck) = some (subC c k))
    (hb : ∀ a pn, SSs (X.suite a pn) noEr (b :: r) f) (rest : HsD X ct hs pl) : HsD X ct (.ExceptHandler (some (.Name x p1)) none (b :: r) p2 :: hs) ((k, fun _ => f) :: pl) := by
  obtain ⟨cl, h1, h2⟩ := rest.ex
  refine ⟨⟨.ref Ck, none, fun _ _ _ => canSs X.K noEr f⟩ :: cl, .cons (.only hc fun a o cls d pn _ _ => (hb a _).can) h1, fun D H ρ c es C dd σ S τ hx2 T h => ?_⟩
  obtain ⟨ns, fs, e1, e2, e3⟩ := id hx2
  refine ⟨_, hx c C ns e1, fun hq => ?_, fun hq a _ => ⟨ρ, σ, S, T, ?_⟩⟩
  · rw [show pickH ((k, fun _ => f) :: pl) c es = (if subC c k = true then f else pickH pl c es) from rfl, if_neg (by rw [hq]; decide)] at h
    exact h2 D H ρ c es C dd σ S τ hx2 T h
  · rw [show pickH ((k, fun _ => f) :: pl) c es = (if subC c k = true then f else pickH pl c es) from rfl, if_pos hq] at h
    exact h
/-- return z, e.f -/
def hRet (i : Nat) (z : Str) (j : Nat) : List Dt → FS := fun es σ S => match es[j]? with
  | some d => if i < σ.length then .ok (.rt (.tup [.str z, d]), σ) S else .no
  | none => .no
theorem hd_ret (k i j : Nat) {x n fld z : Str} {Ck : Addr} {ns : List Str} {hs : List ExceptHandler} {pl : Hds} {q1 q2 : Nat} {p1 p2 p3 p4 p5 p6 p7 : Pos} (hc : Names X x (.ref Ck)) (hx : ∀ c C ns, ct c = some (C, ns) → PySem.W.exmOne X.K (.ref C) (.ref Ck) = some (subC c k))
    (hk : ∀ c, subC c k = true → c = k) (hck : ct k = some (Ck, ns)) (hj : ns[j]? = some fld) (XF : XfC X.K Ck) (hno : PySem.W.findIn X.K (.ref Ck) fld = some none) (hN : X.N.Nodup) (hi : X.N[i]? = some n) (hn : X.env.kindOf n = some .local) (hv : Vis X.env.scope n) (hd : (n == ("__debug__" : Str)) = false) (hcd : (n == ("__classdict__" : Str)) = false)
    (hab : attributeBase (.Name n p4) fld X.env (eval (.Name n p4) X.env) = eval (.Name n p4) X.env)
    (rest : HsD X ct hs pl) : HsD X ct (.ExceptHandler (some (.Name x p1)) (some n) [.Return (some (.Tuple [.Constant (.str z) q1 p3, .Attribute (.Name n p4) fld p5] q2 p6)) p7] p2 :: hs) ((k, hRet i z j) :: pl) := by
  obtain ⟨cl, h1, h2⟩ := rest.ex
  refine ⟨⟨.ref Ck, some i, fun a cls d => tRet (tTupZ (tCons (tC (.str z)) (tCons (tXf a cls d Ck fld (tVar i)) tNil)))⟩ :: cl,
    .cons (.named hc hN hi hn fun a o cls d pn hz hf => pss_one (ps_ret (pe_tupZ (pa_cons pe_str (pa_cons (pe_xf XF hno hz hf (pe_var hi hv hd hcd) hab) pa_nil))))) h1, fun D H ρ c es C dd σ S τ hx2 T h => ?_⟩
  obtain ⟨ms, fs, e1, e2, e3⟩ := id hx2
  refine ⟨_, hx c C ms e1, fun hq => ?_, fun hq a _ => ?_⟩
  · rw [show pickH ((k, hRet i z j) :: pl) c es = (if subC c k = true then hRet i z j es else pickH pl c es) from rfl, if_neg (by rw [hq]; decide)] at h
    exact h2 D H ρ c es C dd σ S τ hx2 T h
  · rw [show pickH ((k, hRet i z j) :: pl) c es = (if subC c k = true then hRet i z j es else pickH pl c es) from rfl, if_pos hq] at h
    have hck2 := hk c hq
    subst hck2
    rw [hck] at e1
    cases e1
    unfold hRet at h
    cases ej : es[j]? with
    | none => rw [ej] at h; exact h.elim
    | some d =>
      rw [ej] at h
      by_cases hil : i < σ.length
      · have h : (if i < σ.length then Rs.ok (Fl.rt (.tup [.str z, d]), σ) S else .no).Sat (KF X.K H ρ D) (KX noEr H ρ) := h
        rw [if_pos hil] at h
        obtain ⟨v, hv1, dv⟩ := e3 j fld d hj ej
        have hlt : i < τ.length := by rw [← T.sl.len]; exact hil
        refine ⟨.ref a, by rw [List.getElem?_set_self hlt], rfl, rfl, dd, fs, v, rfl, e2, hv1, ?_⟩
        refine ⟨Nat.le_of_ble_eq_true (by rfl), ?_⟩
        exact new_tup T.hr (.cons (.str z) (.cons dv .nil)) h
      · have h : (if i < σ.length then Rs.ok (Fl.rt (.tup [.str z, d]), σ) S else .no).Sat (KF X.K H ρ D) (KX noEr H ρ) := h
        rw [if_neg hil] at h
        exact h.elim
theorem ss_try {Er : ER} {body : List Stmt} {h0 : ExceptHandler} {hs : List ExceptHandler} {pl : Hds} {fb : FS} {pos : Pos} (hst : X.stack = X.env :: X.outer) (hfr : X.env.frame = some X.env.locals)
    (hb : ∀ (W : WX) (pn : List (Addr × Obj)) (xe : Value → Shared → Prop), Takes (X.tr pn xe) W → PassesOwn (model X.prog X.w) X.A X.env xe → SSs (X.tr pn xe) (ErT X.K ct W) body fb)
    (hh : HsD X ct (h0 :: hs) pl) : SS X Er (.Try body (h0 :: hs) [] [] pos) (sTry fb pl) := by
  obtain ⟨cl, h1, h2⟩ := hh.ex
  refine ⟨_, ps_tryC (tb := fun W => canSs X.K (ErT X.K ct W) fb) hst hfr (fun W pn xe tk po => (hb W pn xe tk po).can) h1, fun τ H ρ σ S D T h => ⟨ρ, σ, S, T, ?_⟩⟩
  unfold sTry at h
  cases e0 : fb σ S with
  | ok r S1 => rw [e0] at h; exact h
  | no => rw [e0] at h; exact h.elim
  | ex c es S1 =>
    rw [e0] at h
    cases es with
    | nil => exact h.elim
    | cons e es =>
      intro H' ρ' t' C dd τ' T' hx
      exact h2 D H' ρ' c es C dd (dec e) S1 τ' hx T' (Rs.Sat.toF t' (quiet_sat h))
end
/-! ### is True, is not True -/
def isBG (neg : Bool) : G2 := fun x y S => match x, y with
  | .bl a, .bl b => .ok (.bl (if neg then !decide (a = b) else decide (a = b))) S
  | _, _ => .no
/-! ### the table -/
def ctL (l : List (Nat × Addr × List Str)) : CT := fun c => l.lookup c
theorem ctL_mem {l : List (Nat × Addr × List Str)} {c : Nat} {C : Addr} {ns : List Str} (h : ctL l c = some (C, ns)) : (c, C, ns) ∈ l := by
  unfold ctL at h
  induction l with
  | nil => cases h
  | cons x l ih =>
    obtain ⟨k, D, ms⟩ := x
    by_cases e : c = k
    · subst e
      simp [List.lookup] at h
      rw [h.1, h.2]; exact List.mem_cons_self
    · have : (c == k) = false := by simpa using e
      simp [List.lookup, this] at h
      exact List.mem_cons_of_mem _ (ih h)
theorem ctL_all {l : List (Nat × Addr × List Str)} {P : Nat → Addr → Prop} (h : ∀ x ∈ l, P x.1 x.2.1) : ∀ c C ns, ctL l c = some (C, ns) → P c C := fun c C ns e => h _ (ctL_mem e)
/-- an exception of the class at S, held against the class at T -/
theorem exm_of {K : PySem.W.Frag} {S T : Addr} {b : Bool} (h1 : PySem.W.subIn K (.ref T) (.type "BaseException") = some true) (h2 : PySem.W.isClsIn K T = true) (h3 : PySem.W.typeIn K (.ref T) = some (.type "type")) (h4 : PySem.W.subIn K (.ref S) (.ref T) = some b) :
    PySem.W.exmOne K (.ref S) (.ref T) = some b := by
  have e1 : (PySem.W.subIn K (.ref T) (.type "BaseException") == some true) = true := by rw [h1] <;> rfl
  have e2 : ((PySem.W.clsIn K T).isSome && PySem.W.typeIn K (.ref T) == some (.type "type")) = true := by
    rw [show (PySem.W.clsIn K T).isSome = true from h2, h3] <;> rfl
  show (if (PySem.W.subIn K (.ref T) (.type "BaseException") == some true) = true then (if ((PySem.W.clsIn K T).isSome && PySem.W.typeIn K (.ref T) == some (.type "type")) = true then PySem.W.subIn K (.ref S) (.ref T) else none) else none) = some b
  rw [if_pos e1, if_pos e2]
  exact h4
/-! ### tuple(range(n)) -/
section
variable {X : Cx} {Er : ER}
def dTupR1 (f : FE) : FE := fun σ S => (f σ S).bind fun d S1 => match d with
  | .int j => if j ≤ 100000 ∧ -(2 ^ 62) ≤ j then .ok (.tup (rgD 0 j.toNat)) S1 else .no
  | _ => .no
end
/-! ### texts walked, compared -/
section
variable {X : Cx} {Er : ER} {K : PySem.W.Frag}
def srcStr (f : FE) : Src Dt := fun σ S => (f σ S).bind fun d S1 => match d with
  | .str x => .ok (x.cps.toList.map fun c => Dt.str ⟨#[c]⟩, fun _ => True) S1
  | _ => .no
theorem si_str {tg iter : Expr} {f : FE} (h : SE X Er iter f) : SI X Er itS tg iter (srcStr f) := by
  obtain ⟨te, p, q⟩ := h.ex
  refine ⟨_, pi_str p, fun τ H ρ σ S R T h => q τ H ρ σ S _ T ((link h).mono (fun d S1 h1 => ?_) fun _ _ _ q => q)⟩
  intro v H1 ρ1 t1 hr1 dv
  cases dv <;> first | exact h1.elim | skip
  rename_i x
  have h1 : KI X.K H ρ itS R (x.cps.toList.map fun c => Dt.str ⟨#[c]⟩, fun _ => True) S1 := h1
  refine ⟨x, rfl, h1 H1 ρ1 (Its x) (fun _ => True) (fun i H v H' => H' = H ∧ ∃ c, x.cps[i]? = some c ∧ v = .str ⟨#[c]⟩) t1 hr1 ⟨fun i _ hi _ => (show i < x.cps.size by simpa using hi), fun _ _ => (show x.cps.size ≤ _ by simp), fun _ _ _ _ _ _ y => y⟩ (fun _ _ _ _ _ _ => trivial) fun i a y H' H'' ρ' S' _ _ _ hi hy => ?_⟩
  obtain ⟨e1, c, hc, e2⟩ := hy
  rw [List.getElem?_map, Array.getElem?_toList, hc] at hi
  cases hi
  subst e2
  exact ⟨e1, .str _⟩
def leSG : G2 := fun x y S => match x, y with
  | .str i, .str j => .ok (.bl (!decide (j.cps.toList < i.cps.toList))) S
  | _, _ => .no
end
/-! ### truth of values -/
def truD (S : Bxs) : Dt → Option Bool
  | .non => some false
  | .bl b => some b
  | .int i => some (i != 0)
  | d => (seqOf S d).map fun xs => !xs.isEmpty
section
variable {X : Cx} {Er : ER} {K : PySem.W.Frag} {H : Hp} {ρ : List Addr} {S : Bxs}
def dTru (f : FE) : FB := fun σ S => (f σ S).bind fun d S1 => match truD S1 d with
  | some b => .ok b S1
  | none => .no
def dNotT (f : FE) : FE := fun σ S => (f σ S).bind fun d S1 => match truD S1 d with
  | some b => .ok (.bl (!b)) S1
  | none => .no
end
end Mn
set_option Elab.async false
set_option linter.all false
set_option maxRecDepth 100000
set_option maxHeartbeats 4000000
/-! Mn3: zip of three lists or tuples. -/
namespace Mn
open PySem PySem.Spec PyProof.Rows L2
end Mn
set_option Elab.async false
set_option linter.all false
set_option maxRecDepth 100000
set_option maxHeartbeats 4000000
/-! Mn4: xs.extend(list or tuple), xs.count(int), t[::-1]. -/
namespace Mn
open PySem PySem.Spec PyProof.Rows L2
/-! ### t[::-1] -/
/-! ### a call of a def that may raise, where it does not -/
end Mn
set_option Elab.async false
set_option linter.all false
set_option maxRecDepth 100000
set_option maxHeartbeats 4000000
/-! MnP: reasoning on the plain programs: rules of weakest premises. -/
namespace Mn
open PySem PySem.Spec PyProof.Rows L2
/-- Sat, closed up -/
structure Rs.Wp {α : Type} (r : Rs α) (P : α → Bxs → Prop) (E : Nat → List Dt → Bxs → Prop) : Prop where
  sat : r.Sat P E
theorem Rs.Wp.mono {α : Type} {r : Rs α} {P P' : α → Bxs → Prop} {E E' : Nat → List Dt → Bxs → Prop} (h : r.Wp P E) (hp : ∀ a s, P a s → P' a s) (he : ∀ c ds s, E c ds s → E' c ds s) : r.Wp P' E' := ⟨h.sat.mono hp he⟩
theorem sat_mk {α : Type} {a : α} {s : Bxs} {P : α → Bxs → Prop} {E : Nat → List Dt → Bxs → Prop} (h : P a s) : (Rs.ok a s).Wp P E := ⟨h⟩
section
variable {α β : Type} {σ : Sg} {S : Bxs} {E : Nat → List Dt → Bxs → Prop}
theorem w_bind {r : Rs α} {k : α → Bxs → Rs β} {P : β → Bxs → Prop} (h : r.Wp (fun a s => (k a s).Wp P E) E) : (r.bind k).Wp P E := ⟨Rs.sat_bind.mpr (h.sat.mono (fun _ _ q => q.sat) fun _ _ _ q => q)⟩
theorem w_bindP {r : Rs α} {k : α → Bxs → Rs β} {P : β → Bxs → Prop} (h : r.Wp (fun a s => (k a s).Sat P E) E) : (r.bind k).Wp P E := ⟨Rs.sat_bind.mpr h.sat⟩
theorem w_var {i : Nat} {d : Dt} {P : Dt → Bxs → Prop} (e : σ[i]? = some (some d)) (h : P d S) : (dVar i σ S).Wp P E := by unfold dVar; rw [e]; exact ⟨h⟩
theorem w_c {d : Dt} {P : Dt → Bxs → Prop} (h : P d S) : (dC d σ S).Wp P E := ⟨h⟩
theorem w_bin {g : G2} {a b : FE} {P : Dt → Bxs → Prop} (h : (a σ S).Wp (fun x S1 => (b σ S1).Wp (fun y S2 => (g x y S2).Wp P E) E) E) : (dBin g a b σ S).Wp P E := w_bind (h.mono (fun _ _ q => w_bind q) fun _ _ _ q => q)
theorem w_true {f : FE} {P : Bool → Bxs → Prop} (h : (f σ S).Wp (fun d S1 => ∃ b, d = .bl b ∧ P b S1) E) : (dTrue f σ S).Wp P E := w_bind (h.mono (fun d S1 ⟨b, e, q⟩ => by subst e; exact ⟨q⟩) fun _ _ _ q => q)
theorem w_isN {a : FE} {P : Dt → Bxs → Prop} (h : (a σ S).Wp (fun d S1 => P (.bl d.isN) S1) E) : (dIsN a σ S).Wp P E := w_bindP h
theorem w_notN {a : FE} {P : Dt → Bxs → Prop} (h : (a σ S).Wp (fun d S1 => P (.bl (!d.isN)) S1) E) : (dNotN a σ S).Wp P E := w_bindP h
theorem w_cond {c : Bool} {a b : Rs α} {P : α → Bxs → Prop} (h1 : c = true → a.Wp P E) (h2 : c = false → b.Wp P E) : (if c = true then a else b).Wp P E := by
  cases c with
  | true => rw [if_pos rfl]; exact h1 rfl
  | false => rw [if_neg Bool.false_ne_true]; exact h2 rfl
theorem w_and {a b : FB} {P : Bool → Bxs → Prop} (h : (a σ S).Wp (fun c S1 => (c = true → (b σ S1).Wp P E) ∧ (c = false → P false S1)) E) : (dAnd a b σ S).Wp P E := w_bind (h.mono (fun c S1 q => w_cond q.1 (fun z => ⟨q.2 z⟩)) fun _ _ _ q => q)
theorem w_or {a b : FB} {P : Bool → Bxs → Prop} (h : (a σ S).Wp (fun c S1 => (c = true → P true S1) ∧ (c = false → (b σ S1).Wp P E)) E) : (dOr a b σ S).Wp P E := w_bind (h.mono (fun c S1 q => w_cond (fun z => ⟨q.1 z⟩) q.2) fun _ _ _ q => q)
theorem w_not {a : FB} {P : Bool → Bxs → Prop} (h : (a σ S).Wp (fun c S1 => P (!c) S1) E) : (dNot a σ S).Wp P E := w_bindP h
theorem w_andV {a b : FE} {P : Dt → Bxs → Prop} (h : (a σ S).Wp (fun d S1 => ∃ c, d = .bl c ∧ (c = true → (b σ S1).Wp P E) ∧ (c = false → P (.bl false) S1)) E) : (dAndV a b σ S).Wp P E :=
  w_bind (h.mono (fun d S1 ⟨c, e, q1, q2⟩ => by subst e; cases c <;> first | exact q1 rfl | exact ⟨q2 rfl⟩) fun _ _ _ q => q)
theorem w_ifE {c : FB} {a b : FE} {P : Dt → Bxs → Prop} (h : (c σ S).Wp (fun k S1 => (k = true → (a σ S1).Wp P E) ∧ (k = false → (b σ S1).Wp P E)) E) : (dIf c a b σ S).Wp P E := w_bind (h.mono (fun c S1 q => w_cond q.1 q.2) fun _ _ _ q => q)
theorem w_neg {a : FE} {P : Dt → Bxs → Prop} (h : (a σ S).Wp (fun d S1 => ∃ i, d = .int i ∧ P (.int (-i)) S1) E) : (dNeg a σ S).Wp P E := w_bind (h.mono (fun d S1 ⟨b, e, q⟩ => by subst e; exact ⟨q⟩) fun _ _ _ q => q)
theorem w_nil {P : List Dt → Bxs → Prop} (h : P [] S) : (aNil σ S).Wp P E := ⟨h⟩
theorem w_consA {a : FE} {r : FA} {P : List Dt → Bxs → Prop} (h : (a σ S).Wp (fun d S1 => (r σ S1).Wp (fun ds S2 => P (d :: ds) S2) E) E) : (aCons a r σ S).Wp P E := w_bind (h.mono (fun _ _ q => w_bindP q) fun _ _ _ q => q)
theorem w_tup {a : FA} {P : Dt → Bxs → Prop} (h : (a σ S).Wp (fun ds S1 => ds.length ≤ LIM ∧ P (.tup ds) S1) E) : (dTup a σ S).Wp P E := w_bind (h.mono (fun _ _ q => by rw [if_pos q.1]; exact ⟨q.2⟩) fun _ _ _ q => q)
theorem w_newL {ds : List Dt} {P : Dt → Bxs → Prop} (hl : ds.length ≤ LIM) (h : P (.box S.length) (S ++ [.lst ds])) : (newL ds S).Wp P E := by unfold newL; rw [if_pos hl]; exact ⟨h⟩
theorem w_lst {a : FA} {P : Dt → Bxs → Prop} (h : (a σ S).Wp (fun ds S1 => (newL ds S1).Wp P E) E) : (dLst a σ S).Wp P E := w_bind h
theorem w_call {g : GC} {a : FA} {P : Dt → Bxs → Prop} (h : (a σ S).Wp (fun ds S1 => (g ds S1).Wp P E) E) : (dCall g a σ S).Wp P E := w_bind h
theorem w_sl {f : FE} {lo hi : FO} {P : Dt → Bxs → Prop} (h : (f σ S).Wp (fun d S1 => (lo σ S1).Wp (fun l S2 => (hi σ S2).Wp (fun u S3 => (slG l u d S3).Wp P E) E) E) E) : (dSl f lo hi σ S).Wp P E :=
  w_bind (h.mono (fun _ _ q => w_bind (q.mono (fun _ _ q => w_bind q) fun _ _ _ q => q)) fun _ _ _ q => q)
theorem w_oN {P : Option Int → Bxs → Prop} (h : P none S) : (oNone σ S).Wp P E := ⟨h⟩
theorem w_oS {f : FE} {P : Option Int → Bxs → Prop} (h : (f σ S).Wp (fun d S1 => ∃ i, d = .int i ∧ P (some i) S1) E) : (oSome f σ S).Wp P E := w_bind (h.mono (fun d S1 ⟨b, e, q⟩ => by subst e; exact ⟨q⟩) fun _ _ _ q => q)
theorem w_meth {T : String} {g : GM} {o : FE} {a : FA} {P : Dt → Bxs → Prop} (h : (o σ S).Wp (fun d S1 => tyD T d S1 ∧ (a σ S1).Wp (fun ds S2 => (g d ds S2).Wp P E) E) E) : (dMeth T g o a σ S).Wp P E :=
  w_bind (h.mono (fun d S1 q => by rw [if_pos q.1]; exact w_bind q.2) fun _ _ _ q => q)
/-! statements -/
theorem w_sNil {P : Fl × Sg → Bxs → Prop} (h : P (.nx, σ) S) : (sNil σ S).Wp P E := ⟨h⟩
theorem w_cons {f g : FS} {P : Fl × Sg → Bxs → Prop} (h : (f σ S).Wp (fun r S1 => (r.1 = .nx → (g r.2 S1).Wp P E) ∧ (r.1 ≠ .nx → P r S1)) E) : (sCons f g σ S).Wp P E :=
  w_bind (h.mono (fun r S1 q => by
    obtain ⟨fl, σ1⟩ := r
    cases fl <;> first | exact q.1 rfl | exact ⟨q.2 (fun z => nomatch z)⟩) fun _ _ _ q => q)
theorem w_set {i : Nat} {f : FE} {P : Fl × Sg → Bxs → Prop} (h : (f σ S).Wp (fun d S1 => P (.nx, σ.set i (some d)) S1) E) : (sSet i f σ S).Wp P E := w_bindP h
theorem w_asg {f : FE} {g : FT} {P : Fl × Sg → Bxs → Prop} (h : (f σ S).Wp (fun d S1 => (g d σ S1).Wp (fun σ1 S2 => P (.nx, σ1) S2) E) E) : (sAsg f g σ S).Wp P E := w_bind (h.mono (fun _ _ q => w_bindP q) fun _ _ _ q => q)
theorem w_par2 {i j : Nat} {a : FA} {P : Fl × Sg → Bxs → Prop} (h : (a σ S).Wp (fun ds S1 => ∃ d e, ds = [d, e] ∧ P (.nx, (σ.set i (some d)).set j (some e)) S1) E) : (sPar2 i j a σ S).Wp P E := w_bind (h.mono (fun _ _ ⟨d, e, z, q⟩ => by subst z; exact ⟨q⟩) fun _ _ _ q => q)
theorem w_par3 {i j l : Nat} {a : FA} {P : Fl × Sg → Bxs → Prop} (h : (a σ S).Wp (fun ds S1 => ∃ d e f, ds = [d, e, f] ∧ P (.nx, ((σ.set i (some d)).set j (some e)).set l (some f)) S1) E) : (sPar3 i j l a σ S).Wp P E := w_bind (h.mono (fun _ _ ⟨d, e, f, z, q⟩ => by subst z; exact ⟨q⟩) fun _ _ _ q => q)
theorem w_if {c : FB} {a b : FS} {P : Fl × Sg → Bxs → Prop} (h : (c σ S).Wp (fun k S1 => (k = true → (a σ S1).Wp P E) ∧ (k = false → (b σ S1).Wp P E)) E) : (sIf c a b σ S).Wp P E := w_bind (h.mono (fun c S1 q => w_cond q.1 q.2) fun _ _ _ q => q)
theorem w_ret {f : FE} {P : Fl × Sg → Bxs → Prop} (h : (f σ S).Wp (fun d S1 => P (.rt d, σ) S1) E) : (sRet f σ S).Wp P E := w_bindP h
theorem w_expr {f : FE} {P : Fl × Sg → Bxs → Prop} (h : (f σ S).Wp (fun _ S1 => P (.nx, σ) S1) E) : (sExpr f σ S).Wp P E := w_bindP h
theorem w_augS {o i f : FE} {g : G2} {P : Fl × Sg → Bxs → Prop} (h : (o σ S).Wp (fun a S1 => (i σ S1).Wp (fun b S2 => (getG a b S2).Wp (fun d S3 => (f σ S3).Wp (fun e S4 => (g d e S4).Wp (fun z S5 => (setG a b z S5).Wp (fun _ S6 => P (.nx, σ) S6) E) E) E) E) E) E) : (sAugS o i g f σ S).Wp P E :=
  w_bind (h.mono (fun _ _ q => w_bind (q.mono (fun _ _ q => w_bind (q.mono (fun _ _ q => w_bind (q.mono (fun _ _ q => w_bind (q.mono (fun _ _ q => w_bindP q) fun _ _ _ q => q)) fun _ _ _ q => q)) fun _ _ _ q => q)) fun _ _ _ q => q)) fun _ _ _ q => q)
theorem w_tName {i : Nat} {d : Dt} {P : Sg → Bxs → Prop} (h : P (σ.set i (some d)) S) : (tName i d σ S).Wp P E := ⟨h⟩
theorem w_tSub {o i : FE} {d : Dt} {P : Sg → Bxs → Prop} (h : (o σ S).Wp (fun a S1 => (i σ S1).Wp (fun b S2 => (setG a b d S2).Wp (fun _ S3 => P σ S3) E) E) E) : (tSubG o i d σ S).Wp P E :=
  w_bind (h.mono (fun _ _ q => w_bind (q.mono (fun _ _ q => w_bindP q) fun _ _ _ q => q)) fun _ _ _ q => q)
theorem w_body {n : Nat} {f : FS} {ds : List Dt} {P : Dt → Bxs → Prop} (h : (f (startD n ds) S).Wp (fun r S1 => (∃ d, r.1 = .rt d ∧ P d S1) ∨ (r.1 = .nx ∧ P .non S1)) E) : (bodyF n f ds S).Wp P E :=
  w_bind (h.mono (fun r S1 q => by
    obtain ⟨fl, σ1⟩ := r
    rcases q with ⟨d, e, q⟩ | ⟨e, q⟩
    · cases e; exact ⟨q⟩
    · cases e; exact ⟨q⟩) fun _ _ _ q => q)
/-! leaves -/
theorem w_add {i j : Int} {P : Dt → Bxs → Prop} (h : P (.int (i + j)) S) : (addG (.int i) (.int j) S).Wp P E := ⟨h⟩
theorem w_sub {i j : Int} {P : Dt → Bxs → Prop} (h : P (.int (i - j)) S) : (subG (.int i) (.int j) S).Wp P E := ⟨h⟩
theorem w_addI {i j : Int} {P : Dt → Bxs → Prop} (h : P (.int (i + j)) S) : (addI (.int i) (.int j) S).Wp P E := ⟨h⟩
theorem w_subI {i j : Int} {P : Dt → Bxs → Prop} (h : P (.int (i - j)) S) : (subI (.int i) (.int j) S).Wp P E := ⟨h⟩
theorem w_mul {i j : Int} {P : Dt → Bxs → Prop} (c : mulOk i j) (h : P (.int (i * j)) S) : (mulG (.int i) (.int j) S).Wp P E := by
  show (if mulOk i j then Rs.ok (Dt.int (i * j)) S else .no).Wp P E
  rw [if_pos c]; exact ⟨h⟩
theorem w_fdiv {i j : Int} {P : Dt → Bxs → Prop} (c : divOk j) (h : P (.int (i / j)) S) : (fdivG (.int i) (.int j) S).Wp P E := by
  show (if divOk j then Rs.ok (Dt.int (i / j)) S else .no).Wp P E
  rw [if_pos c]; exact ⟨h⟩
theorem w_mod {i j : Int} {P : Dt → Bxs → Prop} (c : 0 < j) (h : P (.int (i % j)) S) : (modG (.int i) (.int j) S).Wp P E := by
  show (if 0 < j then Rs.ok (Dt.int (i % j)) S else .no).Wp P E
  rw [if_pos c]; exact ⟨h⟩
theorem w_pow {i j : Int} {P : Dt → Bxs → Prop} (c : powOk i j) (h : P (.int (i ^ j.toNat)) S) : (powG (.int i) (.int j) S).Wp P E := by
  show (if powOk i j then Rs.ok (Dt.int (i ^ j.toNat)) S else .no).Wp P E
  rw [if_pos c]; exact ⟨h⟩
theorem w_cmp {p : Int → Int → Bool} {i j : Int} {P : Dt → Bxs → Prop} (h : P (.bl (p i j)) S) : (cmpG p (.int i) (.int j) S).Wp P E := ⟨h⟩
theorem w_int {i : Int} {P : Dt → Bxs → Prop} (h : P (.int i) S) : (intG [.int i] S).Wp P E := ⟨h⟩
theorem w_abs {i : Int} {P : Dt → Bxs → Prop} (h : P (.int (if i < 0 then -i else i)) S) : (absG [.int i] S).Wp P E := ⟨h⟩
theorem w_max2 {i j : Int} {P : Dt → Bxs → Prop} (h : P (.int (if j > i then j else i)) S) : (maxG [.int i, .int j] S).Wp P E := ⟨h⟩
theorem w_eqI {i j : Int} {P : Dt → Bxs → Prop} (h : P (.bl (decide (i = j))) S) : (eqG false (.int i) (.int j) S).Wp P E := by
  have e : eqG false (.int i) (.int j) S = .ok (.bl (decide (i = j))) S := by
    unfold eqG pdo DEEP pd
    simp only [PyData.eqv, SeqAt.shaped]
    rfl
  rw [e]; exact ⟨h⟩
theorem seq_lst {n : Nat} {xs : List Dt} (e : S[n]? = some (.lst xs)) : S.seq n = some xs := by unfold Bxs.seq; rw [e]
theorem lst_of {n : Nat} {xs : List Dt} (e : S[n]? = some (.lst xs)) : S.lst n = some xs := by unfold Bxs.lst; rw [e]
theorem dk_seq {n : Nat} {xs : List Dt} (e : S.seq n = some xs) : dkO S (.box n) = none := by
  unfold Bxs.seq at e
  show S.dkR n = none
  unfold Bxs.dkR
  cases q : S[n]? with
  | none => rfl
  | some b =>
    rw [q] at e
    cases b <;> first | rfl | cases e
theorem dkw_seq {n : Nat} {xs : List Dt} (e : S.seq n = some xs) : dkW S (.box n) = none := by
  unfold Bxs.seq at e
  show S.dk n = none
  unfold Bxs.dk
  cases q : S[n]? with
  | none => rfl
  | some b =>
    rw [q] at e
    cases b <;> first | rfl | cases e
theorem w_ixB {n : Nat} {xs : List Dt} {i : Int} {d : Dt} {P : Dt → Bxs → Prop} (e : S.seq n = some xs) (a : atI xs i = some d) (h : P d S) : (ixG (.box n) (.int i) S).Wp P E := by
  have z : ixG (.box n) (.int i) S = .ok d S := by
    show ixG0 (.box n) (.int i) S = .ok d S
    unfold ixG0
    rw [dk_seq e]
    show (match seqOf S (.box n) with
      | some xs => match atI xs i with
        | some d => Rs.ok d S
        | none => .no
      | none => .no) = _
    rw [show seqOf S (.box n) = some xs from e]
    show (match atI xs i with
        | some d => Rs.ok d S
        | none => .no) = _
    rw [a]
  rw [z]; exact ⟨h⟩
theorem w_ixT {xs : List Dt} {i : Int} {d : Dt} {P : Dt → Bxs → Prop} (a : atI xs i = some d) (h : P d S) : (ixG (.tup xs) (.int i) S).Wp P E := by
  have z : ixG (.tup xs) (.int i) S = .ok d S := by
    show (match atI xs i with
        | some d => Rs.ok d S
        | none => .no) = _
    rw [a]
  rw [z]; exact ⟨h⟩
theorem w_slB {n : Nat} {lo hi : Option Int} {xs : List Dt} {P : Dt → Bxs → Prop} (e : S.seq n = some xs) (h : (newL (cutD xs lo hi) S).Wp P E) : (slG lo hi (.box n) S).Wp P E := by
  show (match S.seq n with
    | some xs => newL (cutD xs lo hi) S
    | none => .no).Wp P E
  rw [e]; exact h
theorem w_slT {lo hi : Option Int} {xs : List Dt} {P : Dt → Bxs → Prop} (h : P (.tup (cutD xs lo hi)) S) : (slG lo hi (.tup xs) S).Wp P E := ⟨h⟩
theorem w_addL {m n : Nat} {xs ys : List Dt} {P : Dt → Bxs → Prop} (e1 : S.lst m = some xs) (e2 : S.lst n = some ys) (h : (newL (xs ++ ys) S).Wp P E) : (addG (.box m) (.box n) S).Wp P E := by
  show (match S.lst m, S.lst n with
    | some xs, some ys => newL (xs ++ ys) S
    | _, _ => .no).Wp P E
  rw [e1, e2]; exact h
theorem w_mulL {n : Nat} {k : Int} {xs : List Dt} {P : Dt → Bxs → Prop} (e : S.lst n = some xs) (c : -1000 ≤ k ∧ k ≤ 1000 ∧ xs.length ≤ 100) (h : (newL (List.replicate k.toNat xs).flatten S).Wp P E) : (mulG (.box n) (.int k) S).Wp P E := by
  show (match S.lst n with
    | some xs => if -1000 ≤ k ∧ k ≤ 1000 ∧ xs.length ≤ 100 then newL (List.replicate k.toNat xs).flatten S else .no
    | none => .no).Wp P E
  rw [e]
  show (if -1000 ≤ k ∧ k ≤ 1000 ∧ xs.length ≤ 100 then newL (List.replicate k.toNat xs).flatten S else .no).Wp P E
  rw [if_pos c]; exact h
theorem seq_of_lst {n : Nat} {xs : List Dt} (e : S.lst n = some xs) : S.seq n = some xs := by
  have := lst_get e
  unfold Bxs.seq; rw [this]
theorem w_setG {n : Nat} {k : Int} {j : Nat} {xs : List Dt} {d : Dt} {P : Unit → Bxs → Prop} (e : S.lst n = some xs) (c : ixN xs.length k = some j) (h : P () (S.set n (.lst (xs.set j d)))) : (setG (.box n) (.int k) d S).Wp P E := by
  show (setG0 (.box n) (.int k) d S).Wp P E
  unfold setG0
  rw [dkw_seq (seq_of_lst e)]
  show (match S.lst n with
    | some xs => match ixN xs.length k with
      | some j => Rs.ok () (S.set n (.lst (xs.set j d)))
      | none => .no
    | none => .no).Wp P E
  rw [e]
  show (match ixN xs.length k with
      | some j => Rs.ok () (S.set n (.lst (xs.set j d)))
      | none => .no).Wp P E
  rw [c]; exact ⟨h⟩
theorem w_getG {n : Nat} {k : Int} {xs : List Dt} {d : Dt} {P : Dt → Bxs → Prop} (e : S.lst n = some xs) (c : 0 ≤ k ∧ k < 2 ^ 63) (a : xs[k.toNat]? = some d) (h : P d S) : (getG (.box n) (.int k) S).Wp P E := by
  show (getG0 (.box n) (.int k) S).Wp P E
  unfold getG0
  rw [dk_seq (seq_of_lst e)]
  show (match S.lst n with
    | some xs => if 0 ≤ k ∧ k < 2 ^ 63 then match xs[k.toNat]? with
      | some d => Rs.ok d S
      | none => .no else .no
    | none => .no).Wp P E
  rw [e]
  show (if 0 ≤ k ∧ k < 2 ^ 63 then match xs[k.toNat]? with
      | some d => Rs.ok d S
      | none => .no else .no).Wp P E
  rw [if_pos c, a]; exact ⟨h⟩
theorem w_lenB {n : Nat} {xs : List Dt} {P : Dt → Bxs → Prop} (e : S.seq n = some xs) (h : P (.int (xs.length : Int)) S) : (lenG [.box n] S).Wp P E := by
  show (match S.seq n with
    | some xs => Rs.ok (Dt.int (xs.length : Int)) S
    | none => .no).Wp P E
  rw [e]; exact ⟨h⟩
theorem w_lenT {xs : List Dt} {P : Dt → Bxs → Prop} (h : P (.int (xs.length : Int)) S) : (lenG [.tup xs] S).Wp P E := ⟨h⟩
theorem w_append {n : Nat} {xs : List Dt} {d : Dt} {P : Dt → Bxs → Prop} (e : S.lst n = some xs) (c : xs.length < LIM) (h : P .non (S.set n (.lst (xs ++ [d])))) : (appendG (.box n) [d] S).Wp P E := by
  show (match S.lst n with
    | some xs => if xs.length < LIM then Rs.ok Dt.non (S.set n (.lst (xs ++ [d]))) else .no
    | none => .no).Wp P E
  rw [e]
  show (if xs.length < LIM then Rs.ok Dt.non (S.set n (.lst (xs ++ [d]))) else .no).Wp P E
  rw [if_pos c]; exact ⟨h⟩
theorem w_insert {n : Nat} {i : Int} {xs : List Dt} {d : Dt} {P : Dt → Bxs → Prop} (e : S.lst n = some xs) (c : xs.length < LIM ∧ 0 ≤ i ∧ i < 2 ^ 63) (h : P .non (S.set n (.lst (xs.take i.toNat ++ [d] ++ xs.drop i.toNat)))) : (insertG (.box n) [.int i, d] S).Wp P E := by
  show (match S.lst n with
    | some xs => if xs.length < LIM ∧ 0 ≤ i ∧ i < 2 ^ 63 then Rs.ok Dt.non (S.set n (.lst (xs.take i.toNat ++ [d] ++ xs.drop i.toNat))) else .no
    | none => .no).Wp P E
  rw [e]
  show (if xs.length < LIM ∧ 0 ≤ i ∧ i < 2 ^ 63 then Rs.ok Dt.non (S.set n (.lst (xs.take i.toNat ++ [d] ++ xs.drop i.toNat))) else .no).Wp P E
  rw [if_pos c]; exact ⟨h⟩
end
theorem divOk_small {j : Int} (h : 0 < j) (h1 : j < 2 ^ 64) : divOk j := ⟨h, by
  have : j.natAbs < 2 ^ 64 := by omega
  have h2 : j.natAbs.log2 < 64 := (Nat.log2_lt (by omega)).mpr this
  omega⟩
structure BagAt (S : Bxs) (b c : Nat) (h x i : Int) (ns : List Int) : Prop where
  at_ : S[b]? = some (.lst [.int h, .int x, .int i, .box c])
  cells : S[c]? = some (.lst (ns.map Dt.int))
  ne : c ≠ b
  h0 : 0 ≤ h
  x0 : 0 ≤ x
  x1 : x < 2147483647
  i0 : 0 ≤ i
  pos : ∀ n ∈ ns, 0 ≤ n
  len : ns.length ≤ 63
def Bag (S : Bxs) (b c : Nat) : Prop := ∃ h x i ns, BagAt S b c h x i ns
theorem get_pre {S S' : Bxs} (p : S <+: S') {n : Nat} {x : MBox} (h : S[n]? = some x) : S'[n]? = some x := pre_get p h
theorem BagAt.pre {S S' : Bxs} {b c : Nat} {h x i : Int} {ns : List Int} (B : BagAt S b c h x i ns) (p : S <+: S') : BagAt S' b c h x i ns := ⟨get_pre p B.at_, get_pre p B.cells, B.ne, B.h0, B.x0, B.x1, B.i0, B.pos, B.len⟩
theorem get_lt {S : Bxs} {n : Nat} {x : MBox} (h : S[n]? = some x) : n < S.length := (List.getElem?_eq_some_iff.mp h).1
theorem BagAt.set {S : Bxs} {b c : Nat} {h x i h' x' i' : Int} {ns : List Int} (B : BagAt S b c h x i ns) (h0 : 0 ≤ h') (x0 : 0 ≤ x') (x1 : x' < 2147483647) (i0 : 0 ≤ i') : BagAt (S.set b (.lst [.int h', .int x', .int i', .box c])) b c h' x' i' ns :=
  ⟨by rw [List.getElem?_set_self (get_lt B.at_)], by rw [List.getElem?_set_ne B.ne.symm]; exact B.cells, B.ne, h0, x0, x1, i0, B.pos, B.len⟩
/-- all but the bag stays -/
structure Fr (b : Nat) (S S' : Bxs) : Prop where
  len : S.length ≤ S'.length
  get : ∀ n, n < S.length → n ≠ b → S'[n]? = S[n]?
theorem Fr.refl (b : Nat) (S : Bxs) : Fr b S S := ⟨Nat.le_refl _, fun _ _ _ => rfl⟩
theorem Fr.trans {b : Nat} {S S1 S2 : Bxs} (h : Fr b S S1) (k : Fr b S1 S2) : Fr b S S2 := ⟨Nat.le_trans h.len k.len, fun n hn hb => (k.get n (Nat.lt_of_lt_of_le hn h.len) hb).trans (h.get n hn hb)⟩
theorem Fr.pre {b : Nat} {S S' : Bxs} (p : S <+: S') : Fr b S S' := by
  obtain ⟨t, rfl⟩ := p
  exact ⟨by simp, fun n hn _ => List.getElem?_append_left hn⟩
theorem Fr.set {b : Nat} {S : Bxs} {x : MBox} : Fr b S (S.set b x) := ⟨by simp, fun n _ hb => List.getElem?_set_ne hb.symm⟩
/-- a box of one's own is changed -/
theorem Fr.own {b n : Nat} {S S1 : Bxs} {x : MBox} (h : Fr b S S1) (hn : S.length ≤ n) : Fr b S (S1.set n x) := ⟨by rw [List.length_set]; exact h.len, fun k hk hb => by rw [List.getElem?_set_ne (Nat.ne_of_gt (Nat.lt_of_lt_of_le hk hn))]; exact h.get k hk hb⟩
theorem Fr.at_ {b n : Nat} {S S' : Bxs} {x : MBox} (h : Fr b S S') (e : S[n]? = some x) (hb : n ≠ b) : S'[n]? = some x := (h.get n (get_lt e) hb).trans e
theorem get_last {S : Bxs} {x : MBox} : (S ++ [x])[S.length]? = some x := by simp
theorem Rs.Wp.ok {α : Type} {r : Rs α} {P : α → Bxs → Prop} (h : r.Wp P noX) : ∃ a s, r = .ok a s ∧ P a s := sat_ok h.sat
theorem Rs.Wp.of {α : Type} {r : Rs α} {a : α} {s : Bxs} {P : α → Bxs → Prop} {E : Nat → List Dt → Bxs → Prop} (e : r = .ok a s) (h : P a s) : r.Wp P E := by rw [e]; exact ⟨h⟩
section
variable {α : Type} {σ : Sg} {S : Bxs} {E : Nat → List Dt → Bxs → Prop}
theorem w_loop {st : Bxs → Prop} {g : α → Sg → Bxs → Rs Sg} {body : FS} {P : Fl × Sg → Bxs → Prop} (I : Nat → Sg → Bxs → Prop) {xs : List α} (hst : ∀ i σ S, I i σ S → st S)
    (step : ∀ i x σ S, xs[i]? = some x → I i σ S → (g x σ S).Wp (fun σ1 S1 => (body σ1 S1).Wp (fun r S2 => (r.1 = .nx ∧ I (i + 1) r.2 S2) ∨ ∃ d, r.1 = .rt d ∧ P (.rt d, r.2) S2) E) E)
    (fin : ∀ σ S, I xs.length σ S → P (.nx, σ) S) (h0 : I 0 σ S) : (loopF st g body xs σ S).Wp P E := by
  have go : ∀ (k : Nat) (ys : List α) (σ : Sg) (S : Bxs), k + ys.length = xs.length → ys = xs.drop k → I k σ S → (loopF st g body ys σ S).Wp P E := by
    intro k ys
    induction ys generalizing k with
    | nil =>
      intro σ S hk he hI
      unfold loopF
      rw [if_pos (hst _ _ _ hI)]
      have : k = xs.length := by simpa using hk
      subst this
      exact ⟨fin _ _ hI⟩
    | cons y ys ih =>
      intro σ S hk he hI
      unfold loopF
      rw [if_pos (hst _ _ _ hI)]
      have hkl : k < xs.length := by rw [List.length_cons] at hk; omega
      have hd := List.drop_eq_getElem_cons hkl
      rw [← he] at hd
      injection hd with e1 e2
      have hx : xs[k]? = some y := by rw [List.getElem?_eq_getElem hkl, e1]
      refine w_bind ((step k y σ S hx hI).mono (fun σ1 S1 h1 => w_bind (h1.mono (fun r S2 h2 => ?_) fun _ _ _ q => q)) fun _ _ _ q => q)
      obtain ⟨fl, σ2⟩ := r
      rcases h2 with ⟨e, hI2⟩ | ⟨d, e, hP⟩
      · cases e
        exact ih (k + 1) σ2 S2 (by rw [List.length_cons] at hk; omega) e2 hI2
      · cases e
        exact ⟨hP⟩
  exact go 0 xs σ S (by simp) rfl h0
theorem w_for {src : Src α} {g : α → Sg → Bxs → Rs Sg} {body : FS} {P : Fl × Sg → Bxs → Prop} (h : (src σ S).Wp (fun r S1 => (loopF r.2 g body r.1 σ S1).Wp P E) E) : (sFor src g body σ S).Wp P E := w_bind h
theorem w_srcSeq {f : FE} {P : List Dt × (Bxs → Prop) → Bxs → Prop} (h : (f σ S).Wp (fun d S1 => ∃ xs, seqOf S1 d = some xs ∧ P (xs, fun S' => seqOf S' d = some xs) S1) E) : (srcSeq f σ S).Wp P E :=
  w_bind (h.mono (fun d S1 ⟨xs, e, q⟩ => by rw [e]; exact ⟨q⟩) fun _ _ _ q => q)
theorem w_srcR1 {f : FA} {P : List Dt × (Bxs → Prop) → Bxs → Prop} (h : (f σ S).Wp (fun ds S1 => ∃ j, ds = [.int j] ∧ inR j ∧ P (rgD 0 j.toNat, fun _ => True) S1) E) : (srcR1 f σ S).Wp P E :=
  w_bind (h.mono (fun d S1 ⟨j, e, c, q⟩ => by subst e; show (if inR j then Rs.ok (rgD 0 j.toNat, fun _ => True) S1 else .no).Wp P E; rw [if_pos c]; exact ⟨q⟩) fun _ _ _ q => q)
theorem w_srcZip {f : FA} {P : List (Dt × Dt) × (Bxs → Prop) → Bxs → Prop} (h : (f σ S).Wp (fun ds S1 => ∃ d e xs ys, ds = [d, e] ∧ seqOf S1 d = some xs ∧ seqOf S1 e = some ys ∧ P (xs.zip ys, fun S' => seqOf S' d = some xs ∧ seqOf S' e = some ys) S1) E) : (srcZip f σ S).Wp P E :=
  w_bind (h.mono (fun ds S1 ⟨d, e, xs, ys, z, e1, e2, q⟩ => by
    subst z
    show (match seqOf S1 d, seqOf S1 e with
    | some xs, some ys => Rs.ok (xs.zip ys, fun S' => seqOf S' d = some xs ∧ seqOf S' e = some ys) S1
    | _, _ => .no).Wp P E
    rw [e1, e2]; exact ⟨q⟩) fun _ _ _ q => q)
theorem quiet_of {r : Rs α} {P : α → Bxs → Prop} (h : r.Wp P noX) : r.quiet.Wp P E := by
  cases r with
  | ok a s => exact ⟨h.sat⟩
  | ex c ds s => exact h.sat.elim
  | no => exact h.sat.elim
theorem w_lc {src : Src α} {g : α → Sg → Bxs → Rs Sg} {tt : FB} {te : FE} {vs : List Nat} {P : Dt → Bxs → Prop}
    (h : (src σ S).Wp (fun r S1 => ∃ I : Nat → List Dt → Bxs → Prop, (∀ i acc S, I i acc S → r.2 S) ∧
      (∀ i x acc S, r.1[i]? = some x → S[S1.length]? = some (.lst acc) → I i acc S → (g x (wipeD σ vs) S).Wp (fun σ1 S2 => (tt σ1 S2).Wp (fun b S3 => (b = true → (te σ1 S3).Wp (fun d S4 => S4[S1.length]? = some (.lst acc) ∧ acc.length < LIM ∧ I (i + 1) (acc ++ [d]) (S4.set S1.length (.lst (acc ++ [d])))) noX) ∧
        (b = false → S3[S1.length]? = some (.lst acc) ∧ I (i + 1) acc S3)) noX) noX) ∧
      I 0 [] (S1 ++ [.lst []]) ∧ ∀ acc S, S[S1.length]? = some (.lst acc) → I r.1.length acc S → P (.box S1.length) S) E) : (dLc src g tt te vs σ S).Wp P E := by
  refine w_bind (h.mono (fun r S1 h1 => ?_) fun _ _ _ q => q)
  obtain ⟨xs, st⟩ := r
  obtain ⟨I, hst, step, h0, fin⟩ := h1
  refine w_bind (quiet_of ?_)
  have go : ∀ (k : Nat) (ys : List α) (acc : List Dt) (S : Bxs), k + ys.length = xs.length → ys = xs.drop k → S[S1.length]? = some (.lst acc) → I k acc S → (lcF st g tt te (wipeD σ vs) S1.length ys S).Wp (fun _ S2 => P (.box S1.length) S2) noX := by
    intro k ys
    induction ys generalizing k with
    | nil =>
      intro acc S hk he hn hI
      unfold lcF
      rw [if_pos (hst _ _ _ hI)]
      have : k = xs.length := by simpa using hk
      subst this
      exact ⟨fin _ _ hn hI⟩
    | cons y ys ih =>
      intro acc S hk he hn hI
      unfold lcF
      rw [if_pos (hst _ _ _ hI)]
      have hkl : k < xs.length := by rw [List.length_cons] at hk; omega
      have hd := List.drop_eq_getElem_cons hkl
      rw [← he] at hd
      injection hd with e1 e2
      have hx : xs[k]? = some y := by rw [List.getElem?_eq_getElem hkl, e1]
      refine w_bind ((step k y acc S hx hn hI).mono (fun σ1 S2 h1 => w_bind (h1.mono (fun b S3 h2 => w_cond (fun hb => w_bind ((h2.1 hb).mono (fun d S4 h3 => ?_) fun _ _ _ q => q)) fun hb => ?_) fun _ _ _ q => q)) fun _ _ _ q => q)
      · obtain ⟨hn4, hl, hI2⟩ := h3
        rw [lst_of hn4]
        show (if acc.length < LIM then lcF st g tt te (wipeD σ vs) S1.length ys (S4.set S1.length (.lst (acc ++ [d]))) else .no).Wp _ _
        rw [if_pos hl]
        exact ih (k + 1) _ _ (by rw [List.length_cons] at hk; omega) e2 (List.getElem?_set_self (get_lt hn4)) hI2
      · obtain ⟨hn3, hI2⟩ := h2.2 hb
        exact ih (k + 1) acc S3 (by rw [List.length_cons] at hk; omega) e2 hn3 hI2
  exact (go 0 xs [] _ (by simp) rfl get_last h0).mono (fun _ _ q => ⟨q⟩) fun _ _ _ q => q
/-- items that change nothing -/
theorem w_lcMap {src : Src α} {g : α → Sg → Bxs → Rs Sg} {te : FE} {vs : List Nat} {P : Dt → Bxs → Prop}
    (h : (src σ S).Wp (fun r S1 => ∃ f : α → Dt, r.1.length < LIM ∧ (∀ acc, r.2 (S1 ++ [.lst acc])) ∧
      (∀ x acc, x ∈ r.1 → (g x (wipeD σ vs) (S1 ++ [.lst acc])).Wp (fun σ1 S2 => S2 = S1 ++ [.lst acc] ∧ (te σ1 (S1 ++ [.lst acc])).Wp (fun d S4 => d = f x ∧ S4 = S1 ++ [.lst acc]) noX) noX) ∧
      P (.box S1.length) (S1 ++ [.lst (r.1.map f)])) E) : (dLc src g bYes te vs σ S).Wp P E := by
  refine w_lc (h.mono (fun r S1 ⟨f, hl, hst, step, fin⟩ => ?_) fun _ _ _ q => q)
  refine ⟨fun i acc S => acc = (r.1.take i).map f ∧ S = S1 ++ [.lst acc], fun i acc S ⟨_, e⟩ => by rw [e]; exact hst _, fun i x acc S hx hn ⟨ea, eS⟩ => ?_, ⟨by simp, rfl⟩, fun acc S hn ⟨ea, eS⟩ => ?_⟩
  · subst eS
    refine (step x acc (List.mem_of_getElem? hx)).mono (fun σ1 S2 ⟨e2, q⟩ => ?_) fun _ _ _ q => q
    subst e2
    refine ⟨fun _ => q.mono (fun d S4 ⟨ed, e4⟩ => ?_) fun _ _ _ q => q, fun z => nomatch z⟩
    subst e4
    have hil : i < r.1.length := (List.getElem?_eq_some_iff.mp hx).1
    refine ⟨get_last, ?_, ?_, ?_⟩
    · rw [ea, List.length_map, List.length_take]; omega
    · rw [ed, ea, List.take_add_one, hx]; simp
    · rw [List.set_append_right _ _ (Nat.le_refl _)]; simp
  · rw [List.take_length] at ea
    rw [eS, ea]; exact fin
end
theorem Bag.lt {S : Bxs} {b c : Nat} (B : Bag S b c) : b < S.length ∧ c < S.length := let ⟨_, _, _, _, B⟩ := B; ⟨get_lt B.at_, get_lt B.cells⟩
theorem Bag.pre {S S' : Bxs} {b c : Nat} (B : Bag S b c) (p : S <+: S') : Bag S' b c := let ⟨h, x, i, ns, B⟩ := B; ⟨h, x, i, ns, B.pre p⟩
theorem Bag.own {S : Bxs} {b c n : Nat} {x : MBox} (B : Bag S b c) (hb : n ≠ b) (hc : n ≠ c) : Bag (S.set n x) b c := by
  obtain ⟨h, y, i, ns, B⟩ := B
  exact ⟨h, y, i, ns, by rw [List.getElem?_set_ne hb]; exact B.at_, by rw [List.getElem?_set_ne hc]; exact B.cells, B.ne, B.h0, B.x0, B.x1, B.i0, B.pos, B.len⟩
theorem Bag.app {S : Bxs} {b c : Nat} {x : MBox} (B : Bag S b c) : Bag (S ++ [x]) b c := B.pre (List.prefix_append _ _)
theorem Fr.app {b : Nat} {S S1 : Bxs} {x : MBox} (h : Fr b S S1) : Fr b S (S1 ++ [x]) := h.trans (Fr.pre (List.prefix_append _ _))
theorem Fr.seq {b n : Nat} {S S' : Bxs} {xs : List Dt} (h : Fr b S S') (e : S.seq n = some xs) (hb : n ≠ b) : S'.seq n = some xs := by
  have hl : n < S.length := by
    unfold Bxs.seq at e
    cases z : S[n]? with
    | none => rw [z] at e; cases e
    | some x => exact get_lt z
  unfold Bxs.seq at e ⊢
  rw [h.get n hl hb]; exact e
theorem seq_lt {n : Nat} {S : Bxs} {xs : List Dt} (e : S.seq n = some xs) : n < S.length := by
  unfold Bxs.seq at e
  cases z : S[n]? with
  | none => rw [z] at e; cases e
  | some x => exact get_lt z
theorem ins_perm {α : Type} (xs : List α) (i : Nat) (d : α) : (xs.take i ++ [d] ++ xs.drop i).Perm (xs ++ [d]) := by
  have h : (xs.take i ++ [d] ++ xs.drop i).Perm (xs.take i ++ xs.drop i ++ [d]) := by
    rw [List.append_assoc, List.append_assoc]
    exact List.Perm.append_left _ List.perm_append_comm
  rwa [List.take_append_drop] at h
theorem ixN_mk {n : Nat} {i : Int} (h0 : 0 ≤ i) (h1 : i < n) : ixN n i = some i.toNat := by unfold ixN; rw [if_pos h0, if_pos h1]
theorem w_idx {S : Bxs} {E : Nat → List Dt → Bxs → Prop} {n : Nat} {xs : List Dt} {i : Int} {P : Dt → Bxs → Prop} (e : S.seq n = some xs) (h0 : 0 ≤ i) (h1 : i < xs.length) (h : ∀ d, xs[i.toNat]? = some d → P d S) : (ixG (.box n) (.int i) S).Wp P E := by
  have hl : i.toNat < xs.length := by omega
  have e2 : xs[i.toNat]? = some xs[i.toNat] := List.getElem?_eq_getElem hl
  refine w_ixB e (d := xs[i.toNat]) ?_ (h _ e2)
  unfold atI; rw [ixN_mk h0 h1]; exact e2
theorem w_idxT {S : Bxs} {E : Nat → List Dt → Bxs → Prop} {xs : List Dt} {i : Int} {P : Dt → Bxs → Prop} (h0 : 0 ≤ i) (h1 : i < xs.length) (h : ∀ d, xs[i.toNat]? = some d → P d S) : (ixG (.tup xs) (.int i) S).Wp P E := by
  have hl : i.toNat < xs.length := by omega
  have e2 : xs[i.toNat]? = some xs[i.toNat] := List.getElem?_eq_getElem hl
  refine w_ixT (d := xs[i.toNat]) ?_ (h _ e2)
  unfold atI; rw [ixN_mk h0 h1]; exact e2
theorem ty_list {S : Bxs} {n : Nat} {xs : List Dt} (e : S[n]? = some (.lst xs)) : tyD "list" (.box n) S := .inl ⟨rfl, by rw [seq_lst e]; rfl⟩
section
variable {S : Bxs} {E : Nat → List Dt → Bxs → Prop}
theorem w_listT {xs : List Dt} {P : Dt → Bxs → Prop} (h : (newL xs S).Wp P E) : (listG [.tup xs] S).Wp P E := h
theorem w_seqB {n : Nat} {xs : List Dt} (e : S[n]? = some (.lst xs)) : seqOf S (.box n) = some xs := seq_lst e
end
theorem zeros (k : Nat) : (List.replicate k [Dt.int 0]).flatten = (List.replicate k (0 : Int)).map Dt.int := by
  induction k with
  | zero => rfl
  | succ k ih => rw [List.replicate_succ, List.flatten_cons, ih, List.replicate_succ]; rfl
section
variable {S : Bxs} {E : Nat → List Dt → Bxs → Prop}
theorem w_tupB {n : Nat} {xs : List Dt} {P : Dt → Bxs → Prop} (e : S.seq n = some xs) (h : P (.tup xs) S) : (tupleG [.box n] S).Wp P E := by
  show (match S.seq n with
    | some xs => Rs.ok (Dt.tup xs) S
    | none => .no).Wp P E
  rw [e]; exact ⟨h⟩
end
/-- a list of ints in a box -/
def IL (S : Bxs) (n : Nat) (is : List Int) : Prop := S[n]? = some (.lst (is.map Dt.int))
theorem IL.seq {S : Bxs} {n : Nat} {is : List Int} (h : IL S n is) : S.seq n = some (is.map Dt.int) := seq_lst h
theorem IL.fr {S S' : Bxs} {b n : Nat} {is : List Int} (h : IL S n is) (F : Fr b S S') (hb : n ≠ b) : IL S' n is := F.at_ h hb
theorem IL.set {S : Bxs} {n : Nat} {is js : List Int} {xs : List Dt} (h : IL S n js) (e : xs = is.map Dt.int) : IL (S.set n (.lst xs)) n is := by
  subst e; exact List.getElem?_set_self (get_lt h)
theorem IL.skip {S : Bxs} {n m : Nat} {is : List Int} {x : MBox} (h : IL S n is) (hn : m ≠ n) : IL (S.set m x) n is := by unfold IL; rw [List.getElem?_set_ne hn]; exact h
theorem IL.pre {S S' : Bxs} {n : Nat} {is : List Int} (h : IL S n is) (p : S <+: S') : IL S' n is := get_pre p h
section
variable {σ : Sg} {S : Bxs} {E : Nat → List Dt → Bxs → Prop}
theorem w_pair {g : FTs} {a : Dt × Dt} {P : Sg → Bxs → Prop} (h : (g [a.1, a.2] σ S).Wp P E) : (tPairG g a σ S).Wp P E := h
theorem w_tNil {P : Sg → Bxs → Prop} (h : P σ S) : (tNilG [] σ S).Wp P E := ⟨h⟩
theorem w_tCons {g : FT} {r : FTs} {d : Dt} {ds : List Dt} {P : Sg → Bxs → Prop} (h : (g d σ S).Wp (fun σ1 S1 => (r ds σ1 S1).Wp P E) E) : (tConsG g r (d :: ds) σ S).Wp P E := w_bind h
theorem w_tTup {g : FTs} {n : Nat} {ds : List Dt} {P : Sg → Bxs → Prop} (hn : ds.length = n) (h : (g ds σ S).Wp P E) : (tTupG n g (.tup ds) σ S).Wp P E := by
  show (if ds.length = n then g ds σ S else .no).Wp P E
  rw [if_pos hn]; exact h
end
theorem c_nx {σ : Sg} {A B : Prop} (h : A) : ((Fl.nx, σ).1 = Fl.nx → A) ∧ ((Fl.nx, σ).1 ≠ Fl.nx → B) := ⟨fun _ => h, fun z => absurd rfl z⟩
theorem c_rt {d : Dt} {σ : Sg} {A B : Prop} (h : B) : ((Fl.rt d, σ).1 = Fl.nx → A) ∧ ((Fl.rt d, σ).1 ≠ Fl.nx → B) := ⟨(fun z => nomatch z), fun _ => h⟩
end Mn
local macro_rules | `(tactic| and_intros) => `(tactic| repeat (first | (first
  | with_reducible refine Mn.w_cons ?_ | with_reducible refine Mn.w_set ?_ | with_reducible refine Mn.w_asg ?_ | with_reducible refine Mn.w_par2 ?_ | with_reducible refine Mn.w_par3 ?_ | with_reducible refine Mn.w_if ?_ | with_reducible refine Mn.w_ret ?_ | with_reducible refine Mn.w_expr ?_ | with_reducible refine Mn.w_augS ?_ | with_reducible refine Mn.w_sNil ?_
  | with_reducible refine Mn.w_bin ?_ | (with_reducible refine Mn.w_var (by with_unfolding_all rfl) ?_) | with_reducible refine Mn.w_c ?_ | with_reducible refine Mn.w_true ?_ | with_reducible refine Mn.w_isN ?_ | with_reducible refine Mn.w_notN ?_ | with_reducible refine Mn.w_and ?_ | with_reducible refine Mn.w_or ?_ | with_reducible refine Mn.w_not ?_ | with_reducible refine Mn.w_andV ?_ | with_reducible refine Mn.w_ifE ?_ | with_reducible refine Mn.w_neg ?_
  | with_reducible refine Mn.w_nil ?_ | with_reducible refine Mn.w_consA ?_ | with_reducible refine Mn.w_tup ?_ | with_reducible refine Mn.w_lst ?_ | with_reducible refine Mn.w_call ?_ | with_reducible refine Mn.w_sl ?_ | with_reducible refine Mn.w_oN ?_ | with_reducible refine Mn.w_oS ?_ | with_reducible refine Mn.w_meth ?_ | with_reducible refine Mn.w_tName ?_ | with_reducible refine Mn.w_tSub ?_ | with_reducible refine Mn.w_for ?_ | with_reducible refine Mn.w_pair ?_ | with_reducible refine Mn.w_tNil ?_ | with_reducible refine Mn.w_tCons ?_ | ((with_reducible refine Mn.w_tTup ?_ ?_); rfl) | with_reducible refine Mn.w_srcSeq ?_ | with_reducible refine Mn.w_srcR1 ?_ | with_reducible refine Mn.w_srcZip ?_
  | with_reducible refine Mn.w_add ?_ | with_reducible refine Mn.w_sub ?_ | with_reducible refine Mn.w_addI ?_ | with_reducible refine Mn.w_subI ?_ | with_reducible refine Mn.w_cmp ?_ | with_reducible refine Mn.w_int ?_ | with_reducible refine Mn.w_abs ?_ | with_reducible refine Mn.w_max2 ?_ | with_reducible refine Mn.w_eqI ?_ | with_reducible refine Mn.w_slT ?_ | with_reducible refine Mn.w_lenT ?_
  | ((with_reducible refine Mn.w_mul ?_ ?_); first | exact Mn.mulOk.small2 (by decide) (by decide) | exact Mn.mulOk.small (by decide) (by decide))
  | ((with_reducible refine Mn.w_mod ?_ ?_); first | decide | assumption | omega)
  | ((with_reducible refine Mn.w_pow ?_ ?_); exact ⟨by decide, by decide, by decide⟩)
  | ((with_reducible refine Mn.w_fdiv ?_ ?_); exact Mn.divOk_small (by first | decide | assumption | omega) (by first | decide | assumption | omega))
  | (with_reducible refine Mn.w_ixB (Mn.seq_lst (by assumption)) (by with_unfolding_all rfl) ?_)
  | ((with_reducible refine Mn.w_newL ?_ ?_); exact Nat.le_of_ble_eq_true (by rfl))
  | (with_reducible refine Mn.w_ixT (by with_unfolding_all rfl) ?_)) | with_reducible refine Exists.intro _ (And.intro rfl ?_) | with_reducible refine Exists.intro _ (Exists.intro _ (And.intro rfl ?_)) | with_reducible refine Exists.intro _ (Exists.intro _ (Exists.intro _ (And.intro rfl ?_))) | ((with_reducible refine Mn.c_nx ?_); try simp only [List.set_cons_zero, List.set_cons_succ]) | ((with_reducible refine Mn.c_rt ?_); try simp only [List.set_cons_zero, List.set_cons_succ])))
set_option Elab.async false
set_option linter.all false
set_option maxRecDepth 100000
set_option maxHeartbeats 4000000
/-! MnQ: plain data: what it reads as, how long its text is. -/
namespace Mn
open PySem PySem.Spec PyProof.Rows L2
theorem ok_string (s : String) : PyData.strOk (Str.ofString s) = true := by
  unfold PyData.strOk
  rw [Str.ofString_eq_toList]
  rw [Array.all_eq_true]
  intro i hi
  simp at hi ⊢
  have := (s.toList[i]).valid
  have h2 : s.toList[i].toNat < 0x110000 := by
    have h3 : s.toList[i].toNat.isValidChar := this
    rcases h3 with h3 | h3
    · omega
    · exact h3.2
  exact h2
theorem ok_app {x y : Str} (hx : PyData.strOk x = true) (hy : PyData.strOk y = true) : PyData.strOk (x ++ y) = true := by
  show (x.cps ++ y.cps).all (· < 0x110000) = true
  rw [Array.all_append]
  unfold PyData.strOk at hx hy
  rw [hx, hy]; rfl
theorem ok_from : ∀ (ts : List Str) (k : Nat) (acc : Str), PyData.strOk acc = true → (∀ t ∈ ts, PyData.strOk t = true) → PyData.strOk (textFrom k acc ts) = true
  | [], _, _, h, _ => h
  | t :: ts, k, acc, h, ht => ok_from ts (k + 1) _ (ok_app (ok_app h (ok_string _)) (ht t List.mem_cons_self)) fun u hu => ht u (List.mem_cons_of_mem _ hu)
theorem ok_join (sep : Str) (hs : PyData.strOk sep = true) : ∀ (ts : List Str), (∀ t ∈ ts, PyData.strOk t = true) → PyData.strOk (Str.join sep ts) = true
  | [], _ => by unfold Str.join Str.empty PyData.strOk; simp
  | [t], h => h t List.mem_cons_self
  | t :: u :: ts, h => ok_app (ok_app (h t List.mem_cons_self) hs) (ok_join sep hs (u :: ts) fun v hv => h v (List.mem_cons_of_mem _ hv))
theorem ok_list {ts : List Str} (h : ∀ t ∈ ts, PyData.strOk t = true) : PyData.strOk (listText ts) = true := ok_app (ok_from ts 0 _ (ok_string _) h) (ok_string _)
theorem ok_tuple {ts : List Str} (h : ∀ t ∈ ts, PyData.strOk t = true) : PyData.strOk (tupleText ts) = true := ok_app (ok_app (ok_string _) (ok_join _ (ok_string _) ts h)) (ok_string _)
mutual
inductive Pl (S : Bxs) : Nat → Dt → PyData → Nat → Prop
  | non {n w : Nat} : 4 ≤ w → Pl S (n + 1) .non .none w
  | bl {n w : Nat} (b : Bool) : 5 ≤ w → Pl S (n + 1) (.bl b) (.bool b) w
  | int {n w : Nat} {i : Int} : i.natAbs.log2 < 1920 → (PyData.shown (.int i)).length ≤ w → Pl S (n + 1) (.int i) (.int i) w
  | str {n w : Nat} {x : Str} : PyData.strOk x = true → PyData.strOk (PyData.shown (.str x)) = true → (PyData.shown (.str x)).length ≤ w → Pl S (n + 1) (.str x) (.str x) w
  | tup {n w w' : Nat} {xs : List Dt} {ps : List PyData} : Pls S n xs ps w → w + 3 ≤ w' → Pl S (n + 1) (.tup xs) (.tuple ps) w'
  | box {n w w' m : Nat} {xs : List Dt} {ps : List PyData} : S.seq m = some xs → Pls S n xs ps w → w + 3 ≤ w' → Pl S (n + 1) (.box m) (.list ps) w'
inductive Pls (S : Bxs) : Nat → List Dt → List PyData → Nat → Prop
  | nil {n : Nat} : Pls S n [] [] 0
  | cons {n w w' : Nat} {d : Dt} {p : PyData} {ds : List Dt} {ps : List PyData} : Pl S n d p w → Pls S n ds ps w' → Pls S n (d :: ds) (p :: ps) (w + 2 + w')
end
structure PF (p : PyData) (n w : Nat) : Prop where
  lay : p.canLay0 = true
  show_ : p.showable = true
  dict : p.hasDict = false
  deep : p.depth ≤ n
  len : p.shown.length ≤ w
  eqv : p.eqv p = true
  ok : PyData.strOk p.shown = true
structure PFs (ps : List PyData) (n w : Nat) : Prop where
  lay : PyData.canLayAll0 ps = true
  show_ : PyData.showableAll ps = true
  dict : PyData.hasDictAll ps = false
  deep : PyData.depthAll ps ≤ n
  len : ((PyData.shownAll ps).map (·.length)).sum + 2 * (PyData.shownAll ps).length ≤ w
  eqv : PyData.eqvAll ps ps = true
  ok : ∀ t ∈ PyData.shownAll ps, PyData.strOk t = true
mutual
theorem Pl.pd {S : Bxs} : ∀ {n w : Nat} {d : Dt} {p : PyData}, Pl S n d p w → pd S n d = some p
  | _, _, _, _, .non _ => rfl
  | _, _, _, _, .bl b _ => rfl
  | _, _, _, _, .int _ _ => rfl
  | _, _, _, _, .str _ _ _ => rfl
  | _, _, _, _, .tup h _ => by unfold Mn.pd; rw [Pls.pd h]; rfl
  | _, _, _, _, .box e h _ => by unfold Mn.pd; rw [e]; show (optAll _).map _ = _; rw [Pls.pd h]; rfl
theorem Pls.pd {S : Bxs} : ∀ {n w : Nat} {d : List Dt} {p : List PyData}, Pls S n d p w → optAll (d.map (Mn.pd S n)) = some p
  | _, _, _, _, .nil => rfl
  | _, _, _, _, .cons h t => by rw [List.map_cons, Pl.pd h]; unfold optAll; rw [Pls.pd t]; rfl
end
mutual
theorem Pl.pf {S : Bxs} : ∀ {n w : Nat} {d : Dt} {p : PyData}, Pl S n d p w → PF p n w
  | _, _, _, _, .non hw => ⟨by simp [PyData.canLay0], by simp [PyData.showable], by simp [PyData.hasDict], by simp [PyData.depth], by simp only [PyData.shown]; exact Nat.le_trans (by decide) hw, by simp [PyData.eqv], by simp only [PyData.shown]; exact ok_string _⟩
  | _, _, _, _, .bl b hw => ⟨by simp [PyData.canLay0], by simp [PyData.showable], by simp [PyData.hasDict], by simp [PyData.depth], by simp only [PyData.shown]; cases b <;> exact Nat.le_trans (by decide) hw, by simp [PyData.eqv], by simp only [PyData.shown]; cases b <;> exact ok_string _⟩
  | _, _, _, _, .int a b => ⟨by simp [PyData.canLay0], by simp [PyData.showable]; exact a, by simp [PyData.hasDict], by simp [PyData.depth], b, by simp [PyData.eqv], by simp only [PyData.shown]; exact ok_string _⟩
  | _, _, _, _, .str a b c => ⟨by simp [PyData.canLay0]; exact a, by simp [PyData.showable], by simp [PyData.hasDict], by simp [PyData.depth], c, by simp [PyData.eqv], b⟩
  | _, _, _, _, .tup h hw => by
    have q := Pls.pf h
    refine ⟨by simp only [PyData.canLay0]; exact q.lay, by simp only [PyData.showable]; exact q.show_, by simp only [PyData.hasDict]; exact q.dict, by simp only [PyData.depth]; exact Nat.succ_le_succ q.deep, ?_, by simp only [PyData.eqv]; exact q.eqv, by simp only [PyData.shown]; exact ok_tuple q.ok⟩
    simp only [PyData.shown]
    refine Nat.le_trans (tupleText_len_le _) ?_
    have := q.len
    omega
  | _, _, _, _, .box _ h hw => by
    have q := Pls.pf h
    refine ⟨by simp only [PyData.canLay0]; exact q.lay, by simp only [PyData.showable]; exact q.show_, by simp only [PyData.hasDict]; exact q.dict, by simp only [PyData.depth]; exact Nat.succ_le_succ q.deep, ?_, by simp only [PyData.eqv]; exact q.eqv, by simp only [PyData.shown]; exact ok_list q.ok⟩
    simp only [PyData.shown]
    refine Nat.le_trans (listText_len_le _) ?_
    have := q.len
    omega
theorem Pls.pf {S : Bxs} : ∀ {n w : Nat} {d : List Dt} {p : List PyData}, Pls S n d p w → PFs p n w
  | _, _, _, _, .nil => ⟨by simp [PyData.canLayAll0], by simp [PyData.showableAll], by simp [PyData.hasDictAll], by simp [PyData.depthAll], by simp [PyData.shownAll], by simp [PyData.eqvAll], by simp [PyData.shownAll]⟩
  | _, _, _, _, .cons h t => by
    have a := Pl.pf h
    have q := Pls.pf t
    refine ⟨by simp only [PyData.canLayAll0, a.lay, q.lay]; rfl, by simp only [PyData.showableAll, a.show_, q.show_]; rfl, by simp only [PyData.hasDictAll, a.dict, q.dict]; rfl, ?_, ?_, by simp only [PyData.eqvAll, a.eqv, q.eqv]; rfl, fun u hu => ?_⟩
    · simp only [PyData.depthAll]
      have := a.deep
      have := q.deep
      omega
    · simp only [PyData.shownAll, List.map_cons, List.sum_cons, List.length_cons]
      have := a.len
      have := q.len
      omega
    · simp only [PyData.shownAll, List.mem_cons] at hu
      rcases hu with rfl | hu
      · exact a.ok
      · exact q.ok u hu
end
theorem Pl.mono {S : Bxs} {n w w' : Nat} {d : Dt} {p : PyData} (h : Pl S n d p w) (hw : w ≤ w') : Pl S n d p w' := by
  cases h with
  | non h => exact .non (Nat.le_trans h hw)
  | bl b h => exact .bl b (Nat.le_trans h hw)
  | int a b => exact .int a (Nat.le_trans b hw)
  | str a b c => exact .str a b (Nat.le_trans c hw)
  | tup h k => exact .tup h (Nat.le_trans k hw)
  | box e h k => exact .box e h (Nat.le_trans k hw)
/-- the text of an int -/
theorem int_len {i : Int} (k : Nat) (hk : 1 ≤ k) (h : i.natAbs < 10 ^ k) : (PyData.shown (.int i)).length ≤ k + 1 := by
  simp only [PyData.shown]
  have go : ∀ m : Nat, m < 10 ^ k → (Str.ofString (toString m)).length ≤ k := fun m hm => by
    rw [ofString_len]
    show (Nat.repr m).length ≤ k
    have := digitsCore_len_pow 10 (by decide) k (m + 1) m [] hk hm
    have e : (Nat.repr m).length = (Nat.toDigits 10 m).length := by unfold Nat.repr; simp
    rw [e]
    unfold Nat.toDigits
    simpa using this
  cases i with
  | ofNat m =>
    have := go m h
    exact Nat.le_trans this (Nat.le_succ _)
  | negSucc m =>
    have hz : Int.negSucc m < 0 := Int.negSucc_lt_zero m
    show (Str.ofString (toString (Int.negSucc m))).length ≤ _
    rw [len_text_neg hz]
    have e : (0 : Int) - Int.negSucc m = Int.ofNat (m + 1) := by
      rw [Int.negSucc_eq]; show _ = ((m + 1 : Nat) : Int); omega
    rw [e]
    have := go (m + 1) h
    show 1 + (Str.ofString (toString (m + 1))).length ≤ _
    omega
theorem Pl.mkInt {S : Bxs} {n : Nat} {i : Int} (k : Nat) (hk : 1 ≤ k) (hk2 : k ≤ 500) (h : i.natAbs < 10 ^ k) : Pl S (n + 1) (.int i) (.int i) (k + 1) := by
  refine .int ?_ (int_len k hk h)
  by_cases h0 : i.natAbs = 0
  · rw [h0]; decide
  · refine (Nat.log2_lt h0).mpr ?_
    refine Nat.lt_of_lt_of_le h ?_
    refine Nat.le_trans (Nat.pow_le_pow_right (by decide) hk2) ?_
    decide +kernel
section
variable {S : Bxs} {E : Nat → List Dt → Bxs → Prop}
theorem w_repr {d : Dt} {p : PyData} {w : Nat} {P : Dt → Bxs → Prop} (h : Pl S 60 d p w) (hw : w ≤ 1000000) (q : P (.str p.shown) S) : (reprG [d] S).Wp P E := by
  have e : reprG [d] S = .ok (.str p.shown) S := by
    show (match pdo S d with
    | some p => if showOk p = true then Rs.ok (Dt.str p.shown) S else .no
    | none => .no) = _
    have e1 : pdo S d = some p := h.pd
    rw [e1]
    have f := h.pf
    have hs : showOk p = true := by
      unfold showOk
      rw [f.show_, f.dict]
      have := f.deep
      have := f.len
      have l : strLim = 1000000 := rfl
      simp
      exact ⟨by omega, by omega⟩
    show (if showOk p = true then Rs.ok (Dt.str p.shown) S else .no) = _
    rw [if_pos hs]
  rw [e]; exact sat_mk q
theorem shaped_pl {d : Dt} {p : PyData} {w : Nat} (h : Pl S 60 d p w) : SeqAt.shaped p = true := by
  have f := h.pf
  unfold SeqAt.shaped
  rw [f.lay]
  have := f.deep
  simp
  omega
theorem w_eq {neg : Bool} {x y : Dt} {p q : PyData} {w w' : Nat} {P : Dt → Bxs → Prop} (hx : Pl S 60 x p w) (hy : Pl S 60 y q w') (h : P (.bl (if neg then !PyData.eqv p q else PyData.eqv p q)) S) : (eqG neg x y S).Wp P E := by
  have e : eqG neg x y S = .ok (.bl (if neg then !PyData.eqv p q else PyData.eqv p q)) S := by
    have e1 : pdo S x = some p := hx.pd
    have e2 : pdo S y = some q := hy.pd
    unfold eqG
    rw [e1, e2]
    show (if SeqAt.shaped p = true ∧ SeqAt.shaped q = true then _ else _) = _
    rw [if_pos ⟨shaped_pl hx, shaped_pl hy⟩]
  rw [e]; exact sat_mk h
end
mutual
theorem Pl.pre {S S' : Bxs} (q : S <+: S') : ∀ {n w : Nat} {d : Dt} {p : PyData}, Pl S n d p w → Pl S' n d p w
  | _, _, _, _, .non h => .non h
  | _, _, _, _, .bl b h => .bl b h
  | _, _, _, _, .int a b => .int a b
  | _, _, _, _, .str a b c => .str a b c
  | _, _, _, _, .tup h k => .tup (Pls.pre q h) k
  | _, _, _, _, .box (m := m) e h k => .box (by
      obtain ⟨t, rfl⟩ := q
      have hl := seq_lt e
      unfold Bxs.seq at e ⊢
      rw [List.getElem?_append_left hl]; exact e) (Pls.pre q h) k
theorem Pls.pre {S S' : Bxs} (q : S <+: S') : ∀ {n w : Nat} {d : List Dt} {p : List PyData}, Pls S n d p w → Pls S' n d p w
  | _, _, _, _, .nil => .nil
  | _, _, _, _, .cons h t => .cons (Pl.pre q h) (Pls.pre q t)
end
end Mn
set_option Elab.async false
set_option linter.all false
set_option maxRecDepth 100000
set_option maxHeartbeats 4000000
/-! MnY: rules of weakest premises for what raises. -/
namespace Mn
open PySem PySem.Spec PyProof.Rows L2
section
variable {σ : Sg} {S : Bxs} {E : Nat → List Dt → Bxs → Prop}
theorem w_raise {c : Nat} {fa : FA} {P : Fl × Sg → Bxs → Prop} (h : (fa σ S).Wp (fun ds S1 => E c ds S1) E) : (sRaise c fa σ S).Wp P E := ⟨Rs.sat_bind.mpr (h.sat.mono (fun _ _ q => q) fun _ _ _ q => q)⟩
theorem w_callT {F : FN} {fa : FA} {P : Dt → Bxs → Prop} (h : (fa σ S).Wp (fun ds S1 => (F ds S1).Wp P (fun c es S2 => E c (enc σ :: es) S2)) E) : (dCallT F fa σ S).Wp P E := by
  refine w_bind (h.mono (fun ds S1 q => ?_) fun _ _ _ q => q)
  cases e : F ds S1 with
  | ok d S2 => rw [e] at q; exact ⟨q.sat⟩
  | ex c es S2 => rw [e] at q; exact ⟨q.sat⟩
  | no => rw [e] at q; exact q.sat.elim
theorem w_try {b : FS} {hs : Hds} {P : Fl × Sg → Bxs → Prop} (h : (b σ S).Wp P (fun c es S1 => ∃ e r, es = e :: r ∧ (pickH hs c r (dec e) S1).Wp P noX)) : (sTry b hs σ S).Wp P E := by
  unfold sTry
  cases e : b σ S with
  | ok r S1 => rw [e] at h; exact ⟨h.sat⟩
  | no => rw [e] at h; exact h.sat.elim
  | ex c es S1 =>
    rw [e] at h
    obtain ⟨x, r, rfl, q⟩ := (show ∃ x r, es = x :: r ∧ (pickH hs c r (dec x) S1).Wp P noX from h.sat)
    exact quiet_of q
end
end Mn
set_option Elab.async false
set_option linter.all false
set_option maxRecDepth 100000
set_option maxHeartbeats 4000000
/-! MnU: while; methods without arguments, pop; sorted of data; displays and comprehensions of dicts; get. -/
namespace Mn
open PySem PySem.Spec PyProof.Rows L2
end Mn
set_option Elab.async false
set_option linter.all false
set_option maxRecDepth 100000
set_option maxHeartbeats 4000000
/-! MnV: sorted at the data; sorted(dict); displays and comprehensions of dicts; get. -/
namespace Mn
open PySem PySem.Spec PyProof.Rows L2
section
variable {X : Cx} {Er : ER} {K : PySem.W.Frag} {H H1 : Hp} {ρ ρ1 : List Addr} {σ : Sg} {S S1 : Bxs} {τ : L2.St}
/-! ### {k: v, ..} -/
def fPairs : List (FE × FE) → Sg → Bxs → Rs (List (Dt × Dt))
  | [], _, S => .ok [] S
  | (fk, fv) :: r, σ, S => (fk σ S).bind fun k S1 => (fv σ S1).bind fun v S2 => (fPairs r σ S2).bind fun ps S3 => .ok ((k, v) :: ps) S3
inductive DPP (K : PySem.W.Frag) (H : Hp) (ρ : List Addr) : List (Dt × Dt) → List (V × V) → Prop
  | nil : DPP K H ρ [] []
  | cons {k v : Dt} {x y : V} {ds : List (Dt × Dt)} {vs : List (V × V)} : DV K H ρ k x → DV K H ρ v y → DPP K H ρ ds vs → DPP K H ρ ((k, v) :: ds) ((x, y) :: vs)
structure SPs (X : Cx) (Er : ER) (pos : Pos) (keys : List (Option Expr)) (values : List Expr) (fs : List (FE × FE)) : Prop where
  ex : ∃ trs, PPs X pos keys values trs ∧ ∀ τ H ρ σ S (Q : List (V × V) → Hp → Prop), Ty X.K H ρ σ S τ → (fPairs fs σ S).Sat (fun ps S' => ∀ vs H' ρ', To H H' ρ ρ' → HR X.K H' ρ' S' → DPP X.K H' ρ' ps vs → Q vs H') (KX Er H ρ) → tPairs trs τ H Q
theorem sps_nil {pos : Pos} : SPs X Er pos [] [] [] := ⟨_, pps_nil, fun τ H ρ σ S Q T h => h [] H ρ (To.refl _ _) T.hr .nil⟩
theorem sps_cons {pos : Pos} {k v : Expr} {ks : List (Option Expr)} {vs : List Expr} {fk fv : FE} {fs : List (FE × FE)} (hk : SE X Er k fk) (hv : SE X Er v fv) (hr : SPs X Er pos ks vs fs) : SPs X Er pos (some k :: ks) (v :: vs) ((fk, fv) :: fs) := by
  obtain ⟨tk, pk, qk⟩ := hk.ex
  obtain ⟨tv, pv, qv⟩ := hv.ex
  obtain ⟨tr, pr, qr⟩ := hr.ex
  refine ⟨_, pps_cons pk pv pr, fun τ H ρ σ S Q T h => qk τ H ρ σ S _ T ((link h).mono (fun d S1 h1 => ?_) fun _ _ _ q => q)⟩
  intro x H1 ρ1 t1 hr1 dx
  refine qv τ H1 ρ1 σ S1 _ (T.to t1 hr1) ((link h1).mono (fun e S2 h2 => ?_) fun _ _ _ q => q.to t1)
  intro y H2 ρ2 t2 hr2 dy
  refine qr τ H2 ρ2 σ S2 _ ((T.to t1 hr1).to t2 hr2) ((link h2).mono (fun ps S3 h3 => ?_) fun _ _ _ q => (q.to t1).to t2)
  intro vs H3 ρ3 t3 hr3 dp
  exact h3 _ H3 ρ3 ((t1.trans t2).trans t3) hr3 (.cons ((dx.to t2).to t3) (dy.to t3) dp)
/-- the keys of the pairs, all -/
def keysD : List (Dt × Dt) → Option (List (Key × Dt))
  | [] => some []
  | (k, v) :: r => match keyOf k, keysD r with
    | some k, some r => some ((k, v) :: r)
    | _, _ => none
def mergeD (kvs more : List (Key × Dt)) : List (Key × Dt) := more.foldl (fun acc kv => putD acc kv.1 kv.2) kvs
theorem dps_merge : ∀ {more : List (Key × Dt)} {ms : List (Key × V)} {kvs : List (Key × Dt)} {ws : List (Key × V)}, DPs K H ρ more ms → DPs K H ρ kvs ws → DPs K H ρ (mergeD kvs more) (mergeK ws ms)
  | _, _, _, _, .nil, h => h
  | _, _, kvs, ws, .cons (k := k) (d := d) (v := v) (ds := ds) (vs := vs) hd t, h => by
    show DPs K H ρ (mergeD (putD kvs k d) ds) (mergeK (putK ws k v) vs)
    exact dps_merge t (dps_put (k := k) hd h)
theorem keysD_dpp : ∀ {ps : List (Dt × Dt)} {vs : List (V × V)} {kvs : List (Key × Dt)}, DPP K H ρ ps vs → keysD ps = some kvs → ∃ ws : List (Key × V), vs = ws.map (fun kv => (kV kv.1, kv.2)) ∧ DPs K H ρ kvs ws
  | _, _, _, .nil, h => by cases h; exact ⟨[], rfl, .nil⟩
  | _, _, _, .cons (ds := ds) hk hv t, h => by
    unfold keysD at h
    split at h
    · rename_i k r e1 e2
      cases h
      obtain ⟨ws, rfl, q⟩ := keysD_dpp t e2
      exact ⟨(k, _) :: ws, by rw [List.map_cons, key_dv hk e1], .cons hv q⟩
    · cases h
/-- a new dict; it stands empty while its pairs are made -/
def dDisp (fs : List (FE × FE)) : FE := fun σ S => (fPairs fs σ (S ++ [.dk []])).bind fun ps S1 => match keysD ps, S1.dk S.length with
  | some kvs, some [] => if kvs.length ≤ 15 then .ok (.box S.length) (S1.set S.length (.dk (mergeD [] kvs))) else .no
  | _, _ => .no
theorem se_disp {pos : Pos} {keys : List (Option Expr)} {values : List Expr} {fs : List (FE × FE)} (h : SPs X Er pos keys values fs) (hall : keys.all (·.isSome) = true := by rfl) (hl : keys.length = values.length := by rfl) (h0 : keys ≠ [] := by simp) (h15 : keys.length ≤ 15 := by decide) :
    SE X Er (.Dict keys values pos) (dDisp fs) := by
  obtain ⟨trs, pp, qp⟩ := h.ex
  refine ⟨_, pe_disp pp hall hl h0 h15, fun τ H ρ σ S Q T h => ?_⟩
  intro p hp
  have hr' := T.hr.newB (b := .dk []) (o := .dK []) hp ⟨[], upd_same, .nil⟩
  have t0 : To H (upd H p (.dK [])) ρ (ρ ++ [p]) := ⟨Ext.new hp, List.prefix_append _ _⟩
  have hpr : (ρ ++ [p])[S.length]? = some p := by rw [← T.hr.len, List.getElem?_append_right (Nat.le_refl _), Nat.sub_self]; rfl
  refine qp τ _ (ρ ++ [p]) σ _ _ (T.to t0 hr') ((link h).mono (fun ps S1 h1 => ?_) fun _ _ _ q => q.to t0)
  intro vs H1 ρ1 t1 hr1 dp
  split at h1
  · rename_i kvs ek ed
    obtain ⟨c, h1⟩ := ite_sat h1
    obtain ⟨ws, rfl, dw⟩ := keysD_dpp dp ek
    obtain ⟨a, ws0, g1, g2, g3⟩ := hr1.dk _ _ (dk_get ed)
    rw [pre_get t1.pre hpr] at g1
    cases g1
    cases g3
    have tu : To H1 (upd H1 p (.dK (mergeK [] ws))) ρ1 ρ1 := ⟨Ext.setD g2, List.prefix_refl _⟩
    refine ⟨g2, ws, rfl, by rw [← dw.length]; exact c, ?_⟩
    exact h1 _ _ ρ1 ((t0.trans t1).trans tu) (hr1.setD (dk_get ed) (pre_get t1.pre hpr) g2 (dps_merge dw .nil)) (.box (pre_get t1.pre hpr))
  · exact h1.elim
/-! ### {k: v for ..} -/
end
end Mn
set_option Elab.async false
set_option linter.all false
set_option maxRecDepth 100000
set_option maxHeartbeats 4000000
/-! MnW: or, and by truth; repr of an empty dict. -/
namespace Mn
open PySem PySem.Spec PyProof.Rows L2
section
variable {X : Cx} {Er : ER} {K : PySem.W.Frag} {H H1 : Hp} {ρ ρ1 : List Addr} {σ : Sg} {S S1 : Bxs} {τ : L2.St}
/-- repr, of an empty dict too -/
def reprE : GC := fun ds S => match ds with
  | [.box n] => match S.dk n with
    | some [] => .ok (.str (PyData.dict []).shown) S
    | _ => reprG ds S
  | _ => reprG ds S
end
end Mn
set_option Elab.async false
set_option linter.all false
set_option maxRecDepth 100000
set_option maxHeartbeats 4000000
/-! MnR: gcd; get; walks over a dict. -/
namespace Mn
open PySem PySem.Spec PyProof.Rows L2
end Mn
set_option Elab.async false
set_option linter.all false
set_option maxRecDepth 100000
set_option maxHeartbeats 4000000
/-! MnO: len(set(xs)); xs.index(x), whole numbers; min of a dict. -/
namespace Mn
open PySem PySem.Spec PyProof.Rows L2
end Mn
set_option Elab.async false
set_option linter.all false
set_option maxRecDepth 100000
set_option maxHeartbeats 4000000
/-! MnO2: dict(list of pairs). -/
namespace Mn
open PySem PySem.Spec PyProof.Rows L2
section
variable {X : Cx} {Er : ER} {K : PySem.W.Frag} {H H1 : Hp} {ρ ρ1 : List Addr} {σ : Sg} {S S1 : Bxs} {τ : L2.St}
def pairsD : List Dt → Option (List (Key × Dt))
  | [] => some []
  | .tup [k, v] :: r => match keyOf k, pairsD r with
    | some k, some r => some ((k, v) :: r)
    | _, _ => none
  | _ => none
noncomputable def dictPG : GC := fun ds S => match ds with
  | [.box n] => match S.seq n with
    | some xs => match pairsD xs with
      | some kvs => .ok (.box S.length) (S ++ [.dk (mergeD [] kvs)])
      | none => .no
    | none => .no
  | _ => .no
theorem dictPG_calm : CalmC dictPG := by
  intro ds S c es S'
  unfold dictPG
  split
  · split
    · split
      · exact calm_ok _ _ _ _ _
      · exact calm_no _ _ _
    · exact calm_no _ _ _
  · exact calm_no _ _ _
def rDictP (K : PySem.W.Frag) : List V → Hp → VK → Prop := fun xs H Q => ∃ (a : Addr) (ps : List Addr) (kvs : List (Key × V)), xs = [.ref a] ∧ SqL K H a (ps.map V.ref) ∧ Paired (fun p kv => SqT K H p [kV kv.1, kv.2]) ps kvs ∧
    ∀ p, H p = none → Q (.ref p) (upd H p (.dK (mergeK [] kvs)))
theorem pairs_v : ∀ {xs : List Dt} {us : List V} {kvs : List (Key × Dt)}, DVs K H ρ xs us → pairsD xs = some kvs → ∃ (ps : List Addr) (ws : List (Key × V)), us = ps.map V.ref ∧ Paired (fun p kv => SqT K H p [kV kv.1, kv.2]) ps ws ∧ DPs K H ρ kvs ws
  | [], _, _, .nil, h => by cases h; exact ⟨[], [], rfl, .nil, .nil⟩
  | x :: xs, _, kvs, .cons hx hs, h => by
    unfold pairsD at h
    split at h
    · rename_i e; cases e
    · rename_i k v r e
      cases e
      split at h
      · rename_i k' r' e1 e2
        cases h
        obtain ⟨ps, ws, rfl, hp, hd⟩ := pairs_v hs e2
        cases hx with
        | tup ht hd2 =>
          cases hd2 with
          | cons d1 t1 =>
            cases t1 with
            | cons d2 t2 =>
              cases t2
              have ek := key_dv d1 e1
              subst ek
              exact ⟨_ :: ps, (k', _) :: ws, rfl, .cons ht.sqt hp, .cons d2 hd⟩
      · cases h
    · cases h
theorem rc_dictP : RCo K (rDictP K) dictPG := by
  intro H ρ S ds vs Q hr dvs h
  unfold dictPG at h
  split at h
  · obtain ⟨v, rfl, dv⟩ := dvs1 dvs
    cases dv with
    | box ha =>
      split at h
      · rename_i xs e
        split at h
        · rename_i kvs e2
          obtain ⟨us, h1, h2⟩ := hr.rd ha e
          obtain ⟨ps, ws, rfl, hp, hd⟩ := pairs_v h2 e2
          refine ⟨_, ps, ws, rfl, h1, hp, fun p hpn => ?_⟩
          have hm := dps_merge hd (DPs.nil (K := K) (H := H) (ρ := ρ))
          refine h _ _ (ρ ++ [p]) ⟨Ext.new hpn, List.prefix_append _ _⟩ (hr.newB (b := .dk (mergeD [] kvs)) hpn ⟨_, upd_same, hm.mono (Ext.new hpn) (List.prefix_append _ _)⟩) (.box ?_)
          rw [← hr.len, List.getElem?_append_right (Nat.le_refl _), Nat.sub_self]; rfl
        · exact h.elim
      · exact h.elim
  · exact h.elim
end
end Mn
set_option Elab.async false
set_option linter.all false
set_option maxRecDepth 100000
set_option maxHeartbeats 4000000
/-! MnZr: list(zip(range(n), xs)). -/
namespace Mn
open PySem PySem.Spec PyProof.Rows L2
/-! ### the rule -/
end Mn
set_option Elab.async false
set_option linter.all false
set_option maxRecDepth 100000
set_option maxHeartbeats 4000000
/-! MnLam: g(lambda: ..), where g is: try: return (z, a()) and clauses. -/
namespace Mn
open PySem PySem.Spec PyProof.Rows L2
open LamX (CodeO TabS Tabs ExtN TabB LamS lamCx lamEnv lam_start2 lam_make2 run_ofS lamS_by)
/-! ### the tables -/
/-! ### the call -/
/-! ### the law's own call, tables beside the script -/
end Mn
set_option Elab.async false
set_option linter.all false
set_option maxRecDepth 100000
set_option maxHeartbeats 4000000
/-! MnLc2: comprehensions of two walks, x *= y, divmod, reversed(list). -/
namespace Mn
open PySem PySem.Spec PyProof.Rows L2
section
variable {X : Cx} {Er : ER} {K : PySem.W.Frag} {H H1 : Hp} {ρ ρ1 : List Addr} {σ : Sg} {S S1 : Bxs} {τ : L2.St}
/-! x *= y -/
instance (i j : Int) : Decidable (CMul i j) := by unfold CMul; infer_instance
/-! divmod -/
instance (i j : Int) : Decidable (CDiv i j) := by unfold CDiv; infer_instance
/-! reversed(list) -/
/-! two walks -/
def canI {α : Type} (K : PySem.W.Frag) (Er : ER) (it : IRel α) (src : Src α) : TI := fun τ H R => ∃ ρ σ S, Ty K H ρ σ S τ ∧ (src σ S).Sat (KI K H ρ it R) (KX Er H ρ)
theorem SI.can {α : Type} {it : IRel α} {tg iter : Expr} {src : Src α} (h : SI X Er it tg iter src) : PI X tg iter (canI X.K Er it src) := by
  obtain ⟨wi, p, q⟩ := h.ex
  exact ⟨fun pins s σ H R I ⟨ρ, σ', S, T, hs⟩ => p.run pins s σ H R I (q _ _ _ _ _ _ T hs)⟩
end
end Mn
set_option Elab.async false
set_option linter.all false
set_option maxRecDepth 100000
set_option maxHeartbeats 4000000
/-! MnDl: len of a dict with tuples of ints as keys. -/
namespace Mn
open PySem PySem.Spec PyProof.Rows L2
end Mn
set_option Elab.async false
set_option linter.all false
set_option maxRecDepth 100000
set_option maxHeartbeats 4000000
/-! MnEq: x == y for lists and tuples whose parts are the same boxes. -/
namespace Mn
open PySem PySem.Spec PyProof.Rows L2
section
variable {X : Cx} {Er : ER} {K : PySem.W.Frag} {H H1 : Hp} {ρ ρ1 : List Addr} {σ : Sg} {S S1 : Bxs} {τ : L2.St}
def okV : V → Prop
  | .byt _ => False
  | .flt _ => False
  | .ty _ => False
  | _ => True
/-- the same shape, down to the same things -/
def ES (K : PySem.W.Frag) (H : Hp) : Nat → V → V → Prop
  | 0, x, y => x = y ∧ okV x
  | n + 1, x, y => (x = y ∧ okV x) ∨ (∃ a b xs ys, x = .ref a ∧ y = .ref b ∧ SqL K H a xs ∧ SqL K H b ys ∧ Paired (ES K H n) xs ys) ∨ (∃ a b xs ys, x = .ref a ∧ y = .ref b ∧ SqT K H a xs ∧ SqT K H b ys ∧ Paired (ES K H n) xs ys)
theorem paired_len {α β : Type} {F : α → β → Prop} : ∀ {xs : List α} {ys : List β}, Paired F xs ys → xs.length = ys.length
  | _, _, .nil => rfl
  | _, _, .cons _ t => congrArg (· + 1) (paired_len t)
theorem paired_get {α β : Type} {F : α → β → Prop} : ∀ {xs : List α} {ys : List β}, Paired F xs ys → ∀ {i : Nat} {x : α} {y : β}, xs[i]? = some x → ys[i]? = some y → F x y
  | _, _, .nil, _, _, _, h, _ => by cases h
  | _, _, .cons a t, 0, _, _, h1, h2 => by cases h1; cases h2; exact a
  | _, _, .cons a t, i + 1, _, _, h1, h2 => paired_get t h1 h2
theorem leaf_tree {P : Program} {w : World} {s : Shared} {n : Nat} {x : V} {v u : Value} (h : okV x) (r1 : RelV x v) (r2 : RelV x u) : PySem.W.EqTree P w s n v u true := by
  cases x with
  | non => cases r1; cases r2; exact .same
  | bl b => cases r1; cases r2; exact .same
  | int i =>
    obtain ⟨t, rfl⟩ := r1
    obtain ⟨t', rfl⟩ := r2
    have e : (i == i) = true := by simp
    exact e ▸ PySem.W.EqTree.leaf fun A _ => SeqAt.EqAt.int_int i t i t'
  | str z =>
    obtain ⟨t, rfl⟩ := r1
    obtain ⟨t', rfl⟩ := r2
    have e : (z == z) = true := by simp
    exact e ▸ PySem.W.EqTree.leaf fun A _ => SeqAt.EqAt.str_str z t z t'
  | ref a => cases r1; cases r2; exact .same
  | byt b => exact h.elim
  | flt b => exact h.elim
  | ty b => exact h.elim
theorem es_tree {pins : List (Addr × Obj)} {s : Shared} (I : Inv X pins τ H s) : ∀ (n : Nat) {x y : V} {v u : Value}, ES X.K H n x y → RelV x v → RelV y u → PySem.W.EqTree X.prog X.w s n v u true
  | 0, x, y, v, u, ⟨e, h⟩, r1, r2 => by subst e; exact leaf_tree h r1 r2
  | n + 1, x, y, v, u, h, r1, r2 => by
    rcases h with ⟨e, h⟩ | ⟨a, b, xs, ys, rfl, rfl, h1, h2, hp⟩ | ⟨a, b, xs, ys, rfl, rfl, h1, h2, hp⟩
    · subst e; exact leaf_tree h r1 r2
    · cases r1; cases r2
      by_cases e : a = b
      · subst e; exact .same
      · obtain ⟨its, rv, p, hz⟩ := I.list h1
        obtain ⟨its2, rv2, p2, hz2⟩ := I.list h2
        have hl := paired_len hp
        have l1 := rv.length
        have l2 := rv2.length
        have t := PySem.W.EqTree.lists (n := n) (prog := X.prog) (w := X.w) (e := fun _ => true) e p.isList p2.isList (by simp only [List.size_toArray]; omega) fun j g1 g2 => by
          simp only [List.size_toArray] at g1 g2
          have hx : xs[j]? = some (xs[j]'(by omega)) := List.getElem?_eq_getElem _
          have hy : ys[j]? = some (ys[j]'(by omega)) := List.getElem?_eq_getElem _
          obtain ⟨w1, e1, q1⟩ := rv.get hx
          obtain ⟨w2, e2, q2⟩ := rv2.get hy
          have f1 : its.toArray[j] = w1 := by
            obtain ⟨_, e⟩ := List.getElem?_eq_some_iff.mp e1
            simpa using e
          have f2 : its2.toArray[j] = w2 := by
            obtain ⟨_, e⟩ := List.getElem?_eq_some_iff.mp e2
            simpa using e
          rw [f1, f2]
          exact es_tree I n (paired_get hp hx hy) q1 q2
        have ee : ((List.range its.toArray.size).all fun _ => true) = true := by simp
        rw [ee] at t
        exact t
    · cases r1; cases r2
      by_cases e : a = b
      · subst e; exact .same
      · obtain ⟨its, rv, p, hz⟩ := I.tuple h1
        obtain ⟨its2, rv2, p2, hz2⟩ := I.tuple h2
        have hl := paired_len hp
        have l1 := rv.length
        have l2 := rv2.length
        have t := PySem.W.EqTree.tuples (n := n) (prog := X.prog) (w := X.w) (e := fun _ => true) e p p2 fun j g1 g2 => by
          simp only [List.size_toArray] at g1 g2
          have hx : xs[j]? = some (xs[j]'(by omega)) := List.getElem?_eq_getElem _
          have hy : ys[j]? = some (ys[j]'(by omega)) := List.getElem?_eq_getElem _
          obtain ⟨w1, e1, q1⟩ := rv.get hx
          obtain ⟨w2, e2, q2⟩ := rv2.get hy
          have f1 : its.toArray[j] = w1 := by
            obtain ⟨_, e⟩ := List.getElem?_eq_some_iff.mp e1
            simpa using e
          have f2 : its2.toArray[j] = w2 := by
            obtain ⟨_, e⟩ := List.getElem?_eq_some_iff.mp e2
            simpa using e
          rw [f1, f2]
          exact es_tree I n (paired_get hp hx hy) q1 q2
        have ee : (((List.range (min its.toArray.size its2.toArray.size)).all fun _ => true) && its.toArray.size == its2.toArray.size) = true := by simp; omega
        rw [ee] at t
        exact t
def rEqS (K : PySem.W.Frag) : R2 := fun x y H Q => ∃ a b xs ys, x = .ref a ∧ y = .ref b ∧ SqL K H a xs ∧ SqL K H b ys ∧ Paired (ES K H 50) xs ys ∧ Q (.bl true) H
theorem op_eqS (hu : X.A.units + 64 < cLine) : OpR X (compareOp .Eq) (rEqS X.K) := by
  intro pins s σ H x y v u Q I rx ry h
  obtain ⟨a, b, xs, ys, rfl, rfl, h1, h2, hp, q⟩ := h
  cases rx; cases ry
  obtain ⟨its, rv, p, hz⟩ := I.list h1
  obtain ⟨its2, rv2, p2, hz2⟩ := I.list h2
  have hl := paired_len hp
  have l1 := rv.length
  have l2 := rv2.length
  refine PySem.W.eq_listsT (n := 50) (e := fun _ => true) p.isList p2.isList (by simp only [List.size_toArray]; omega) (fun j g1 g2 => ?_) (by omega) ⟨.bl true, H, I, ?_, q⟩
  · simp only [List.size_toArray] at g1 g2
    have hx : xs[j]? = some (xs[j]'(by omega)) := List.getElem?_eq_getElem _
    have hy : ys[j]? = some (ys[j]'(by omega)) := List.getElem?_eq_getElem _
    obtain ⟨w1, e1, q1⟩ := rv.get hx
    obtain ⟨w2, e2, q2⟩ := rv2.get hy
    have f1 : its.toArray[j] = w1 := by
      obtain ⟨_, e⟩ := List.getElem?_eq_some_iff.mp e1
      simpa using e
    have f2 : its2.toArray[j] = w2 := by
      obtain ⟨_, e⟩ := List.getElem?_eq_some_iff.mp e2
      simpa using e
    rw [f1, f2]
    exact es_tree I 50 (paired_get hp hx hy) q1 q2
  · show Value.bool _ = Value.bool true
    congr 1
    simp
def sameL : Dt → Dt → Bool
  | .non, .non => true
  | .bl a, .bl b => a == b
  | .int a, .int b => a == b
  | .str a, .str b => a == b
  | .box i, .box j => i == j
  | _, _ => false
def kidsD (S : Bxs) : Dt → Dt → Option (List Dt × List Dt × Bool)
  | .tup xs, .tup ys => some (xs, ys, true)
  | .box i, .box j => match S.seq i, S.seq j with
    | some xs, some ys => some (xs, ys, false)
    | _, _ => none
  | _, _ => none
def sameD (S : Bxs) : Nat → Dt → Dt → Bool
  | 0, x, y => sameL x y
  | n + 1, x, y => sameL x y || (match kidsD S x y with
    | some (xs, ys, _) => xs.length == ys.length && (xs.zip ys).all fun p => sameD S n p.1 p.2
    | none => false)
theorem sameL_eq {x y : Dt} {v u : V} (h : sameL x y = true) (dx : DV K H ρ x v) (dy : DV K H ρ y u) : v = u ∧ okV v := by
  cases dx <;> cases dy <;> first | (cases h; done) | skip
  · exact ⟨rfl, trivial⟩
  · exact ⟨by rw [eq_of_beq h], trivial⟩
  · exact ⟨by rw [eq_of_beq h], trivial⟩
  · exact ⟨by rw [eq_of_beq h], trivial⟩
  · rename_i n a ha m b hb
    have e := eq_of_beq (show (n == m) = true from h)
    subst e
    rw [ha] at hb; cases hb
    exact ⟨rfl, trivial⟩
theorem es_pairs {n : Nat} (ih : ∀ {x y : Dt} {v u : V}, sameD S n x y = true → DV K H ρ x v → DV K H ρ y u → ES K H n v u) : ∀ {xs ys : List Dt} {vs us : List V}, DVs K H ρ xs vs → DVs K H ρ ys us → xs.length = ys.length → ((xs.zip ys).all fun p => sameD S n p.1 p.2) = true → Paired (ES K H n) vs us
  | [], [], _, _, .nil, .nil, _, _ => .nil
  | x :: xs, y :: ys, _, _, .cons d ds, .cons e es, hl, h => by
    rw [List.zip_cons_cons, List.all_cons, Bool.and_eq_true] at h
    exact .cons (ih h.1 d e) (es_pairs ih ds es (Nat.succ.inj hl) h.2)
  | [], _ :: _, _, _, _, _, hl, _ => nomatch hl
  | _ :: _, [], _, _, _, _, hl, _ => nomatch hl
theorem same_es (hr : HR K H ρ S) : ∀ (n : Nat) {x y : Dt} {v u : V}, sameD S n x y = true → DV K H ρ x v → DV K H ρ y u → ES K H n v u
  | 0, x, y, v, u, h, dx, dy => sameL_eq h dx dy
  | n + 1, x, y, v, u, h, dx, dy => by
    unfold sameD at h
    rcases Bool.or_eq_true_iff.mp h with h | h
    · exact .inl (sameL_eq h dx dy)
    · right
      cases dx with
      | @tup a xs vs ha hv =>
        cases dy with
        | @tup b ys us hb hu =>
          have h : (xs.length == ys.length && (xs.zip ys).all fun p => sameD S n p.1 p.2) = true := h
          rw [Bool.and_eq_true] at h
          exact .inr ⟨a, b, vs, us, rfl, rfl, ha.sqt, hb.sqt, es_pairs (same_es hr n) hv hu (eq_of_beq h.1) h.2⟩
        | _ => cases h
      | @box i a ha =>
        cases dy with
        | @box j b hb =>
          have hk : ∀ r, kidsD S (.box i) (.box j) = some r → S.seq i = some r.1 ∧ S.seq j = some r.2.1 := by
            intro r e
            have e : (match S.seq i, S.seq j with
              | some xs, some ys => some (xs, ys, false)
              | _, _ => none) = some r := e
            cases e1 : S.seq i with
            | none => rw [e1] at e; cases e
            | some xs =>
              cases e2 : S.seq j with
              | none => rw [e1, e2] at e; cases e
              | some ys => rw [e1, e2] at e; cases e; exact ⟨rfl, rfl⟩
          cases ek : kidsD S (.box i) (.box j) with
          | none => rw [ek] at h; cases h
          | some r =>
            obtain ⟨xs, ys, bb⟩ := r
            obtain ⟨e1, e2⟩ := hk _ ek
            rw [ek] at h
            have h : (xs.length == ys.length && (xs.zip ys).all fun p => sameD S n p.1 p.2) = true := h
            rw [Bool.and_eq_true] at h
            obtain ⟨vs, h1, h2⟩ := hr.rd ha e1
            obtain ⟨us, h3, h4⟩ := hr.rd hb e2
            exact .inl ⟨a, b, vs, us, rfl, rfl, h1, h3, es_pairs (same_es hr n) h2 h4 (eq_of_beq h.1) h.2⟩
        | _ => cases h
      | _ => cases dy <;> cases h
/-- x == y: data, else two lists that hold the same things -/
def eqE : G2 := fun x y S => match eqG false x y S with
  | .ok d S' => .ok d S'
  | _ => match x, y with
    | .box i, .box j => match S.seq i, S.seq j with
      | some xs, some ys => if xs.length = ys.length ∧ ((xs.zip ys).all fun p => sameD S 50 p.1 p.2) = true then .ok (.bl true) S else .no
      | _, _ => .no
    | _, _ => .no
theorem eqE_calm : Calm2 eqE := by
  intro x y S
  unfold eqE
  split
  · exact calm_ok _ _
  · split
    · split
      · split
        · exact calm_ok _ _
        · exact calm_no
      · exact calm_no
    · exact calm_no
theorem ro_eqE : RO K (fun x y H Q => rEqN K false x y H Q ∨ rEqS K x y H Q) eqE := by
  intro H ρ S x y xv yv Q hr dx dy h
  unfold eqE at h
  cases e : eqG false x y S with
  | ok d S' =>
    rw [e] at h
    exact .inl (ro_eq H ρ S x y xv yv Q hr dx dy (by rw [e]; exact h))
  | ex c es S' => exact absurd e (eqG_calm false x y S c es S')
  | no =>
    rw [e] at h
    right
    cases dx <;> first | exact h.elim | skip
    cases dy <;> first | exact h.elim | skip
    rename_i i a ha j b hb
    have h : (match S.seq i, S.seq j with
      | some xs, some ys => if xs.length = ys.length ∧ ((xs.zip ys).all fun p => sameD S 50 p.1 p.2) = true then Rs.ok (Dt.bl true) S else .no
      | _, _ => .no).Sat (KO K H ρ Q) noX := h
    cases e1 : S.seq i with
    | none => rw [e1] at h; exact h.elim
    | some xs =>
      cases e2 : S.seq j with
      | none => rw [e1, e2] at h; exact h.elim
      | some ys =>
        rw [e1, e2] at h
        obtain ⟨⟨c1, c2⟩, h⟩ := ite_sat h
        obtain ⟨vs, h1, h2⟩ := hr.rd ha e1
        obtain ⟨us, h3, h4⟩ := hr.rd hb e2
        exact ⟨a, b, vs, us, rfl, rfl, h1, h3, es_pairs (same_es hr 50) h2 h4 c1 c2, ko_here hr h (.bl true)⟩
end
end Mn
set_option Elab.async false
set_option linter.all false
set_option maxRecDepth 100000
set_option maxHeartbeats 4000000
/-! MnRe: repr of lists and tuples with an empty dict within. -/
namespace Mn
open PySem PySem.Spec PyProof.Rows L2
section
variable {X : Cx} {Er : ER} {K : PySem.W.Frag} {H H1 : Hp} {ρ ρ1 : List Addr} {σ : Sg} {S S1 : Bxs} {τ : L2.St} {pins : List (Addr × Obj)} {s : Shared}
mutual
inductive DpE (K : PySem.W.Frag) (H : Hp) : V → PyData → Prop
  | flat {v : V} {d : PyData} : Dp K H v d → d.hasDict = false → DpE K H v d
  | emp {a : Addr} : H a = some (.dK []) → DpE K H (.ref a) (.dict [])
  | lst {a : Addr} {xs : List V} {ds : List PyData} : SqL K H a xs → DpEs K H xs ds → DpE K H (.ref a) (.list ds)
  | tup {a : Addr} {xs : List V} {ds : List PyData} : SqT K H a xs → DpEs K H xs ds → DpE K H (.ref a) (.tuple ds)
inductive DpEs (K : PySem.W.Frag) (H : Hp) : List V → List PyData → Prop
  | nil : DpEs K H [] []
  | cons {v : V} {vs : List V} {d : PyData} {ds : List PyData} : DpE K H v d → DpEs K H vs ds → DpEs K H (v :: vs) (d :: ds)
end
/-- what is known of a value that is shown -/
def Shn (P : Program) (w : World) (h : Heap) (u : Value) (d : PyData) : Prop := ∃ as bs, Reads h u d as ∧ ReadAtMost h d.depth bs ∧ ReprK P w bs h d.depth u d.shown
def Shns (P : Program) (w : World) (h : Heap) (us : List Value) (ds : List PyData) : Prop := ∃ as bs, ReadsAll h us ds as ∧ ReadAtMost h (PyData.depthAll ds) bs ∧ ReprAllK P w bs h (PyData.depthAll ds) us (PyData.shownAll ds)
mutual
theorem DpE.shn (I : Inv X pins τ H s) : ∀ {v : V} {d : PyData} {u : Value}, DpE X.K H v d → RelV v u → d.showable = true → d.shown.length ≤ sizeLine → Shn X.prog X.w s.heap u d
  | v, d, u, .flat hd hn, r, hs, hz => by
    obtain ⟨as, hr⟩ := Dp.reads I d v u hd r
    obtain ⟨bs, hb, hk⟩ := ReprK.of_reads (prog := X.prog) (w := X.w) hr hs (fun z => by rw [hn] at z; cases z) hz
    exact ⟨as, bs, hr, hb, hk⟩
  | _, _, u, .emp (a := a) e, r, hs, hz => by
    cases r
    obtain ⟨z, hd, vs, rel, dd⟩ := dk_of I.hok e
    cases rel
    obtain ⟨o, es, ep, h1, h2, h3, h4⟩ := dd
    have hes : es.toList = [] := by
      obtain ⟨_, hp, _⟩ := h4
      cases e : es.toList with
      | nil => rfl
      | cons b l => rw [e] at hp; cases hp
    have hr : Reads s.heap (.ref a) (.dict []) (a :: [] ++ []) := .dict h1 h2.1 h3 (by rw [hes]; exact .nil) (by rw [hes]; exact .nil)
    obtain ⟨bs, hb, hk⟩ := ReprK.of_reads (prog := X.prog) (w := X.w) hr hs (fun _ hm => by
      simp at hm
      rw [← hm] at hd
      simp at hd) hz
    exact ⟨_, bs, hr, hb, hk⟩
  | _, _, u, .lst (a := a) (ds := ds) hq hd, r, hs, hz => by
    cases r
    obtain ⟨its, rv, ⟨o, n, ho, hc, _, hdt⟩, _⟩ := I.list hq
    have hz' : (listText (PyData.shownAll ds)).length ≤ sizeLine := by simpa only [PyData.shown] using hz
    obtain ⟨as, bs, h1, h2, h3⟩ := DpEs.shn I hd rv (by simpa [PyData.showable] using hs) (fun t ht => Nat.le_trans (listText_mem_le ht) hz')
    have hr : Reads s.heap (.ref a) (.list ds) (a :: as) := .list ho hc hdt h1
    have hna : a ∉ bs := not_mem_of_deeper hr (by simp only [PyData.depth]; omega) h2
    refine ⟨_, a :: bs, hr, ReadAtMost.cons hr (by simp only [PyData.depth]; omega) h2, ?_⟩
    simp only [PyData.depth, PyData.shown]
    cases its with
    | nil =>
      cases h1
      simp only [PyData.shownAll, listText_nil]
      exact ReprK.listEmpty ho hc hdt
    | cons x l => exact ReprK.list ho hc hdt hna (by simpa using h3.length_eq) (fun i y e => h3.item i y (by simpa using e))
  | _, _, u, .tup (a := a) (ds := ds) hq hd, r, hs, hz => by
    cases r
    obtain ⟨its, rv, ⟨o, ho, hc, n, hdt⟩, _⟩ := I.tuple hq
    have hz' : (tupleText (PyData.shownAll ds)).length ≤ sizeLine := by simpa only [PyData.shown] using hz
    obtain ⟨as, bs, h1, h2, h3⟩ := DpEs.shn I hd rv (by simpa [PyData.showable] using hs) (fun t ht => Nat.le_trans (tupleText_mem_le ht) hz')
    have hr : Reads s.heap (.ref a) (.tuple ds) as := .tuple ho hc hdt h1
    have hna : a ∉ bs := not_mem_of_deeper hr (by simp only [PyData.depth]; omega) h2
    refine ⟨_, a :: bs, hr, ReadAtMost.cons hr (by simp only [PyData.depth]; omega) h2, ?_⟩
    simp only [PyData.depth, PyData.shown]
    exact ReprK.tuple ho hc hdt hna h3
theorem DpEs.shn (I : Inv X pins τ H s) : ∀ {vs : List V} {ds : List PyData} {us : List Value}, DpEs X.K H vs ds → Vals vs us → PyData.showableAll ds = true → (∀ t ∈ PyData.shownAll ds, t.length ≤ sizeLine) → Shns X.prog X.w s.heap us ds
  | _, _, _, .nil, .nil, _, _ => ⟨[], [], .nil, (fun _ h => (nomatch h)), by simp only [PyData.shownAll]; exact .nil⟩
  | _, _, _, .cons (d := d) (ds := ds) h hs', .cons r rs, hs, hz => by
    have hs2 : d.showable = true ∧ PyData.showableAll ds = true := by simpa [PyData.showableAll] using hs
    obtain ⟨as, bs, a1, a2, a3⟩ := DpE.shn I h r hs2.1 (hz _ (by simp only [PyData.shownAll]; exact List.mem_cons_self ..))
    obtain ⟨as', bs', b1, b2, b3⟩ := DpEs.shn I hs' rs hs2.2 (fun t ht => hz t (by simp only [PyData.shownAll]; exact List.mem_cons_of_mem _ ht))
    refine ⟨_, bs ++ bs', .cons a1 b1, ?_, ?_⟩
    · simp only [PyData.depthAll]
      exact (a2.mono (Nat.le_max_left _ _)).append (b2.mono (Nat.le_max_right _ _))
    · simp only [PyData.depthAll, PyData.shownAll]
      exact .cons ((a3.more fun b hb => List.mem_append_left _ hb).level_le (Nat.le_max_left _ _)) (b3.more_le (fun b hb => List.mem_append_right _ hb) (Nat.le_max_right _ _))
end
def rReprD (K : PySem.W.Frag) : List V → Hp → VK → Prop := fun vs H Q => ∃ (a : Addr) (x : V) (xs : List V) (d : PyData) (ds : List PyData), vs = [.ref a] ∧ SqL K H a (x :: xs) ∧ DpEs K H (x :: xs) (d :: ds) ∧ PyData.showableAll (d :: ds) = true ∧ PyData.depthAll (d :: ds) ≤ 60 ∧ (PyData.shown (.list (d :: ds))).length ≤ strLim ∧ Q (.str (PyData.shown (.list (d :: ds)))) H
theorem call_reprD (hg : X.A.guards = some []) (hu : X.A.units + 64 < cLine) : CallR X (.builtin "repr") (rReprD X.K) := by
  rintro pins s σ H xs us Q I r ⟨a, x, xs', d, ds, rfl, hq, hd, hs, hdp, hz, q⟩
  obtain ⟨u, rfl, rv⟩ := vals1 r
  cases rv
  obtain ⟨its, rv, ⟨o, n, ho, hc, _, hdt⟩, _⟩ := I.list hq
  have hsz : (PyData.shown (.list (d :: ds))).length ≤ sizeLine := Nat.le_trans hz (by decide)
  have hz' : (listText (PyData.shownAll (d :: ds))).length ≤ sizeLine := by simpa only [PyData.shown] using hsz
  obtain ⟨as, bs, h1, h2, h3⟩ := DpEs.shn I hd rv hs (fun t ht => Nat.le_trans (listText_mem_le ht) hz')
  have hr : Reads s.heap (.ref a) (.list (d :: ds)) (a :: as) := .list ho hc hdt h1
  have hna : a ∉ bs := not_mem_of_deeper hr (by simp only [PyData.depth]; omega) h2
  cases rv with
  | cons r0 rs =>
    rename_i y ys
    refine call_repr_slot (by omega) ⟨o, ho, hc⟩ F.slot_list_repr.toG ?_
    refine call_list_reprK ho hc hdt hna (by simpa using h3.length_eq) (fun i y e => h3.item i y (by simpa using e)) hg (fun b _ => Clear.nil b) (by show X.A.units + 1 + _ < cLine; omega) (fun _ _ e => e) (fun h' u tk hk => ⟨_, _, rfl, ?_⟩) hz'
    refine ⟨.str _, H, I.kept (t' := tk) hk, ⟨_, rfl⟩, ?_⟩
    have q' := q
    simp only [PyData.shown] at q'
    exact q'
/-- data, an empty dict within -/
def pdE (S : Bxs) : Nat → Dt → Option PyData
  | 0, _ => none
  | _ + 1, .non => some .none
  | _ + 1, .bl b => some (.bool b)
  | _ + 1, .int i => some (.int i)
  | _ + 1, .str x => some (.str x)
  | n + 1, .tup xs => (optAll (xs.map (pdE S n))).map .tuple
  | n + 1, .box m => match S.seq m with
    | some xs => (optAll (xs.map (pdE S n))).map .list
    | none => match S[m]? with
      | some (.dk []) => some (.dict [])
      | _ => none
theorem dpes_of {n : Nat} (ih : ∀ (d : Dt) (v : V) (p : PyData), DV K H ρ d v → pdE S n d = some p → DpE K H v p) : ∀ (ds : List Dt) (vs : List V) (ps : List PyData), DVs K H ρ ds vs → optAll (ds.map (pdE S n)) = some ps → DpEs K H vs ps
  | [], _, _, .nil, h => by cases h; exact .nil
  | x :: xs, _, ps, .cons hx hs, h => by
    rw [List.map_cons] at h
    cases e : pdE S n x with
    | none => rw [e] at h; cases h
    | some p =>
      rw [e] at h
      unfold optAll at h
      cases e2 : optAll (xs.map (pdE S n)) with
      | none => rw [e2] at h; cases h
      | some qs =>
        rw [e2] at h
        cases h
        exact .cons (ih x _ p hx e) (dpes_of ih xs _ qs hs e2)
theorem dpe_of (hr : HR K H ρ S) : ∀ (n : Nat) (d : Dt) (v : V) (p : PyData), DV K H ρ d v → pdE S n d = some p → DpE K H v p
  | 0, _, _, _, _, h => by unfold pdE at h; cases h
  | n + 1, .non, _, _, .non, h => by unfold pdE at h; cases h; exact .flat .non rfl
  | n + 1, .bl b, _, _, .bl _, h => by unfold pdE at h; cases h; exact .flat (.bl b) rfl
  | n + 1, .int i, _, _, .int _, h => by unfold pdE at h; cases h; exact .flat (.int i) rfl
  | n + 1, .str x, _, _, .str _, h => by unfold pdE at h; cases h; exact .flat (.str x) rfl
  | n + 1, .tup xs, _, p, .tup ht hd, h => by
    unfold pdE at h
    cases e : optAll (xs.map (pdE S n)) with
    | none => rw [e] at h; cases h
    | some ps =>
      rw [e] at h
      cases h
      exact .tup ht.sqt (dpes_of (dpe_of hr n) xs _ ps hd e)
  | n + 1, .box m, _, p, .box ha, h => by
    unfold pdE at h
    cases e : S.seq m with
    | none =>
      rw [e] at h
      simp only at h
      split at h
      · rename_i e3
        cases h
        obtain ⟨a', ws, h1, h2, h3⟩ := hr.dk m _ e3
        rw [ha] at h1; cases h1
        cases h3
        exact .emp h2
      · cases h
    | some xs =>
      rw [e] at h
      simp only at h
      cases e2 : optAll (xs.map (pdE S n)) with
      | none => rw [e2] at h; cases h
      | some ps =>
        rw [e2] at h
        cases h
        obtain ⟨vs, h1, h2⟩ := hr.rd ha e
        exact .lst h1 (dpes_of (dpe_of hr n) xs vs ps h2 e2)
/-- repr, of a list with an empty dict within too -/
def reprD : GC := fun ds S => match reprG ds S with
  | .ok d S' => .ok d S'
  | _ => match ds with
    | [.box n] => match S.seq n with
      | some (x :: xs) => match optAll ((x :: xs).map (pdE S 60)) with
        | some (d :: ps) => if PyData.showableAll (d :: ps) = true ∧ PyData.depthAll (d :: ps) ≤ 60 ∧ (PyData.shown (.list (d :: ps))).length ≤ strLim then .ok (.str (PyData.shown (.list (d :: ps)))) S else .no
        | _ => .no
      | _ => .no
    | _ => .no
theorem reprD_calm : CalmC reprD := by
  intro ds S c es S'
  unfold reprD
  split
  · exact calm_ok _ _ _ _ _
  · split
    · split
      · split
        · split
          · exact calm_ok _ _ _ _ _
          · exact calm_no _ _ _
        · exact calm_no _ _ _
      · exact calm_no _ _ _
    · exact calm_no _ _ _
theorem rc_reprD : RCo K (fun vs H Q => rRepr K vs H Q ∨ rReprD K vs H Q) reprD := by
  intro H ρ S ds vs Q hr dvs h
  unfold reprD at h
  cases e : reprG ds S with
  | ok d S' =>
    rw [e] at h
    exact .inl (rc_repr H ρ S ds vs Q hr dvs (by rw [e]; exact h))
  | ex c es S' => exact absurd e (reprG_calm ds S c es S')
  | no =>
    rw [e] at h
    right
    simp only at h
    split at h
    · rename_i n
      obtain ⟨v, rfl, dv⟩ := dvs1 dvs
      cases dv with
      | box ha =>
        split at h
        · rename_i x xs e1
          split at h
          · rename_i d ps e2
            obtain ⟨⟨c1, c2, c3⟩, h⟩ := ite_sat h
            obtain ⟨ws, h1, h2⟩ := hr.rd ha e1
            have h3 := dpes_of (dpe_of hr 60) _ _ _ h2 e2
            cases h3 with
            | cons g gs => exact ⟨_, _, _, d, ps, rfl, h1, .cons g gs, c1, c2, c3, ko_here hr h (.str _)⟩
          · exact h.elim
        · exact h.elim
    · exact h.elim
end
end Mn
set_option Elab.async false
set_option linter.all false
set_option maxRecDepth 100000
set_option maxHeartbeats 4000000
/-! MnDs: a text is no dict. -/
namespace Mn
open PySem PySem.Spec PyProof.Rows L2
theorem dict_declines_str (l : Addr) (es : Array DictEntry) (n : Nat) (dd : Option Addr) (sl : Array (Option Value)) (b : Str) (u : Tok) :
    Meets (Builtin.«dict.__eq__» ⟨[.ref l, .str b u], []⟩) (fun _ R s => s.heap.get? l = some { cls := .type "dict", dict := dd, data := .dict es n, slots := sl } ∧ R (.ok (.ret .notImplemented)) s) :=
  .of_wp fun prog w A R s h => by obtain ⟨hp, g, d, tk, os⟩ := s; obtain ⟨hl, h⟩ := h; have f1 := F.sub_str_dict; wp_walk using wpAny_loadPart' hl; exact ⟨_, rfl, h⟩
theorem str_declines_dict (b : Str) (u : Tok) (l : Addr) (es : Array DictEntry) (n : Nat) (dd : Option Addr) (sl : Array (Option Value)) :
    Meets (Builtin.«str.__eq__» ⟨[.str b u, .ref l], []⟩) (fun _ R s => s.heap.get? l = some { cls := .type "dict", dict := dd, data := .dict es n, slots := sl } ∧ R (.ok (.ret .notImplemented)) s) :=
  .of_wp fun prog w A R s h => by obtain ⟨hp, g, d, tk, os⟩ := s; obtain ⟨hl, h⟩ := h; wp_walk using wpAny_loadPart' hl, wpAny_load hl; exact ⟨_, rfl, h⟩
theorem rc_str_dict {A : Around} {s : Shared} {l : Addr} {o : Obj} {es : Array DictEntry} {n : Nat} (b : Str) (u : Tok) (ho : s.heap.get? l = some o) (hx : o.ExactDict) (hd : o.data = .dict es n) (hu : A.units < cLine) : SeqAt.RcAt A s (.str b u) (.ref l) false := fun prog w E Q h => by
  obtain ⟨cls, dd, data, sl⟩ := o
  obtain ⟨hc, _, _⟩ := hx
  simp only at hc hd
  subst hc hd
  exact SeqAt.rc_eq_decline_or (k := false) (typeIs_str s b u) ⟨_, ho, rfl⟩ (by decide) F.sub_dict_str F.slot_str_eq F.slot_dict_eq_refl
    (fun _ hq => call_meets F.slot_str_eq (typeIs_str s b u) F.entry_str_eq (F.args_str_eq_2 _ _) (str_declines_dict b u l es n dd sl) ⟨ho, hq⟩)
    (fun _ hq => call_meets F.slot_dict_eq_refl ⟨_, ho, rfl⟩ F.entry_dict_eq (F.args_dict_eq_2 _ _) (dict_declines_str l es n dd sl b u) ⟨ho, hq⟩)
    (fun _ hq => wpAny_of_eq (rfl : isSame (.str b u) (.ref l) = pure false) hq) (.inr hu) h
theorem eq_str_dict {A : Around} {s : Shared} {l : Addr} {o : Obj} {es : Array DictEntry} {n : Nat} (b : Str) (u : Tok) (ho : s.heap.get? l = some o) (hx : o.ExactDict) (hd : o.data = .dict es n) (hu : A.units < cLine) : SeqAt.EqAt A s (.str b u) (.ref l) false := fun prog w E Q h => by
  unfold eqBool
  refine wpAny_holding ?_
  refine wpAny_ite_split (fun hab => absurd (eq_of_beq hab) nofun) (fun _ => ?_)
  exact wpAny_bind (rc_str_dict b u ho hx hd hu prog w E _ (wpAny_truthy_bool h))
section
variable {X : Cx} {Er : ER} {K : PySem.W.Frag} {H H1 : Hp} {ρ ρ1 : List Addr} {σ : Sg} {S S1 : Bxs} {τ : L2.St} {pins : List (Addr × Obj)} {s : Shared}
theorem vals_str : ∀ {zs : List Str} {us : List Value}, Vals (zs.map V.str) us → ∀ u ∈ us, ∃ z t, u = .str z t
  | [], _, .nil, _, h => nomatch h
  | z :: zs, _, .cons r rs, u, h => by
    rcases List.mem_cons.mp h with e | h
    · obtain ⟨t, e2⟩ := r
      exact ⟨z, t, by rw [e, e2]⟩
    · exact vals_str rs u h
/-- no list, no tuple, no dict is among texts -/
def rNinS (K : PySem.W.Frag) : R2 := fun x y H Q => ∃ (a b : Addr) (zs : List Str), x = .ref a ∧ y = .ref b ∧ SqT K H b (zs.map V.str) ∧ ((∃ xs, SqL K H a xs) ∨ (∃ xs, SqT K H a xs) ∨ H a = some (.dK [])) ∧ Q (.bl true) H
theorem op_ninS (hu : X.A.units + 8 < cLine) : OpR X (compareOp .NotIn) (rNinS X.K) := by
  intro pins s σ H x y v u Q I rx ry h
  obtain ⟨a, b, zs, rfl, rfl, hq, ha, q⟩ := h
  cases rx; cases ry
  obtain ⟨its, r, pl, hz⟩ := I.tuple hq
  have hu1 : X.A.in1.units < cLine := by show X.A.units + 1 < cLine; omega
  refine SeqAt.notIn_tupleAt (fun _ => false) pl (fun w hw => ?_) ⟨.bl _, H, I, rfl, ?_⟩
  · obtain ⟨z, t, rfl⟩ := vals_str r w (by simpa using hw)
    rcases ha with ⟨xs, ha⟩ | ⟨xs, ha⟩ | ha
    · obtain ⟨its2, r2, p2, _⟩ := I.list ha
      exact SeqAt.EqAt.str_list z t p2.isList hu1
    · obtain ⟨its2, r2, p2, _⟩ := I.tuple ha
      exact SeqAt.EqAt.str_tuple z t p2 hu1
    · obtain ⟨_, hd, vs, rel, dd⟩ := dk_of I.hok ha
      obtain ⟨o, es, ep, h1, h2, h3, h4⟩ := dd
      exact eq_str_dict z t h1 h2 h3 hu1
  · have e : (!its.toArray.any fun _ => false) = true := by simp
    rw [e]; exact q
/-! as programs -/
def strsD : List Dt → Option (List Str)
  | [] => some []
  | .str z :: r => (strsD r).map (z :: ·)
  | _ :: _ => none
theorem strsD_v : ∀ {ds : List Dt} {vs : List V} {zs : List Str}, DVs K H ρ ds vs → strsD ds = some zs → vs = zs.map V.str
  | [], _, _, .nil, e => by cases e; rfl
  | d :: ds, _, zs, .cons h t, e => by
    cases h <;> first | (cases e; done) | skip
    rename_i z
    have e : (strsD ds).map (z :: ·) = some zs := e
    cases e2 : strsD ds with
    | none => rw [e2] at e; cases e
    | some l =>
      rw [e2] at e
      cases e
      rw [strsD_v t e2]; rfl
def bigD (S : Bxs) : Dt → Bool
  | .tup _ => true
  | .box n => (S.seq n).isSome || (match S[n]? with | some (.dk []) => true | _ => false)
  | _ => false
/-- x not in y: else a list, a tuple, an empty dict, which is not among texts -/
def ninE : G2 := fun x y S => match inG true x y S with
  | .ok d S' => .ok d S'
  | _ => match y with
    | .tup ds => match strsD ds with
      | some _ => if bigD S x = true then .ok (.bl true) S else .no
      | none => .no
    | _ => .no
theorem ninE_calm : Calm2 ninE := by
  intro x y S
  unfold ninE
  split
  · exact calm_ok _ _
  · split
    · split
      · split
        · exact calm_ok _ _
        · exact calm_no
      · exact calm_no
    · exact calm_no
theorem ro_ninE : RO K (fun x y H Q => rInA K true x y H Q ∨ rNinS K x y H Q) ninE := by
  intro H ρ S x y xv yv Q hr dx dy h
  unfold ninE at h
  cases e : inG true x y S with
  | ok d S' =>
    rw [e] at h
    exact .inl (ro_in H ρ S x y xv yv Q hr dx dy (by rw [e]; exact h))
  | ex c es S' => exact absurd e (inG_calm true x y S c es S')
  | no =>
    rw [e] at h
    right
    cases dy with
    | @tup b ds vs ht hd =>
      simp only at h
      cases e2 : strsD ds with
      | none => rw [e2] at h; exact h.elim
      | some zs =>
        rw [e2] at h
        obtain ⟨c, hk⟩ := ite_sat h
        clear h
        have hv := strsD_v hd e2
        subst hv
        cases dx with
        | @tup a es ws ha hws => exact ⟨a, b, zs, rfl, rfl, ht.sqt, .inr (.inl ⟨_, ha.sqt⟩), ko_here hr hk (.bl true)⟩
        | @box n a ha =>
          refine ⟨a, b, zs, rfl, rfl, ht.sqt, ?_, ko_here hr hk (.bl true)⟩
          have c : ((S.seq n).isSome || (match S[n]? with | some (.dk []) => true | _ => false)) = true := c
          cases e3 : S.seq n with
          | some xs =>
            obtain ⟨ws, h1, _⟩ := hr.rd ha e3
            exact .inl ⟨ws, h1⟩
          | none =>
            rw [e3, Option.isSome_none, Bool.false_or] at c
            split at c
            · rename_i e4
              obtain ⟨a', ws, h1, h2, h3⟩ := hr.dk n _ e4
              rw [ha] at h1; cases h1
              cases h3
              exact .inr (.inr h2)
            · cases c
        | _ => cases c
    | _ => exact h.elim
theorem op_eqE (hu : X.A.units + 128 < cLine) : OpR X (compareOp .Eq) (fun x y H Q => rEqN X.K false x y H Q ∨ rEqS X.K x y H Q) := (op_eqN hu).or (op_eqS (by omega))
theorem op_ninE (hu : X.A.units + 128 < cLine) : OpR X (compareOp .NotIn) (fun x y H Q => rInA X.K true x y H Q ∨ rNinS X.K x y H Q) := (op_ninA hu).or (op_ninS (by omega))
theorem call_reprDE (hg : X.A.guards = some []) (hu : X.A.units + 64 < cLine) : CallR X (.builtin "repr") (fun vs H Q => rRepr X.K vs H Q ∨ rReprD X.K vs H Q) := (call_repr hg hu).or (call_reprD hg hu)
end
end Mn
set_option Elab.async false
set_option linter.all false
set_option maxRecDepth 100000
set_option maxHeartbeats 4000000
/-! MnMs: 'z' * 7. -/
namespace Mn
open PySem PySem.Spec PyProof.Rows L2
section
variable {X : Cx} {Er : ER} {K : PySem.W.Frag} {H H1 : Hp} {ρ ρ1 : List Addr} {σ : Sg} {S S1 : Bxs} {τ : L2.St}
def smallMul (z : Str) (n : Int) : Prop := z.length ≤ 100 ∧ 1 ≤ n ∧ n ≤ 100
instance (z : Str) (n : Int) : Decidable (smallMul z n) := by unfold smallMul; infer_instance
theorem smallMul.ok {z : Str} {n : Int} (h : smallMul z n) : PySem.MulOk z n := by
  obtain ⟨h1, h2, h3⟩ := h
  refine ⟨?_, fun _ _ hh => ?_, fun _ _ => ?_⟩
  · simp; omega
  · have : (1000 : Int) ≤ (2 ^ 63 - 1) / n := Int.le_ediv_of_mul_le (by omega) (by omega)
    omega
  · have h4 : n.toNat ≤ 100 := by omega
    have h5 : z.length * n.toNat ≤ 100 * 100 := Nat.mul_le_mul h1 h4
    unfold PySem.Builtin.Str.tooLong
    simp
    have : 10000 ≤ PySem.sizeLine := by rw [sizeLine_eq]; decide
    omega
end
end Mn
set_option Elab.async false
set_option linter.all false
set_option maxRecDepth 100000
set_option maxHeartbeats 4000000
/-! MnFn: defs as values, a handler that compares the field of what was raised. -/
namespace Mn
open PySem PySem.Spec PyProof.Rows L2
section
variable {X : Cx} {Er : ER} {K : PySem.W.Frag} {H H1 : Hp} {ρ ρ1 : List Addr} {σ : Sg} {S S1 : Bxs} {τ : L2.St} {ct : CT}
/-- the def x, which stands in box n -/
def dFn (n : Nat) (x : Str) : FE := fun _ S => match S[n]? with
  | some (.fnc y) => if y = x then .ok (.box n) S else .no
  | _ => .no
theorem se_fn {x : Str} {f : Addr} {pos : Pos} (n : Nat) (hg : Gl X x) (hm : X.mg x = some (.ref f)) (hn : PySem.W.nsIn X.K mainGlobals x = some (some (.ref f))) (hd : (x == ("__debug__" : Str)) = false := by decide) : SE X Er (.Name x pos) (dFn n x) :=
  ⟨_, pe_glob (v := .ref f) hg hm rfl hd, fun τ H ρ σ S Q T h => by
    unfold dFn at h
    split at h
    · rename_i y e
      obtain ⟨c, h⟩ := ite_sat h
      obtain ⟨a, h1, h2⟩ := T.hr.at_ n _ e
      subst c
      have h2 : PySem.W.nsIn X.K mainGlobals y = some (some (.ref a)) := h2
      rw [hn] at h2
      cases h2
      exact (show KO X.K H ρ Q (.box n) S by rw [if_pos rfl] at h; exact h) _ H ρ (To.refl _ _) T.hr (.box h1)
    · exact h.elim⟩
/-- a call, in a try's body, of the def that a slot holds -/
def dCallTV (i : Nat) (L : List (Str × FN)) (fa : FA) : FE := fun σ S => match σ[i]? with
  | some (some (.box n)) => match S[n]? with
    | some (.fnc x) => match L.lookup x with
      | some F => dCallT F fa σ S
      | none => .no
    | _ => .no
  | _ => .no
theorem se_callTV {W : WX} {k i : Nat} {ps : List Str} {L : List (Str × FN)} {x : Str} {p pos : Pos} {e : Expr} {es : List Expr} {fa : FA} (n : Nat)
    (FD : ∀ y F, L.lookup y = some F → ∃ f fd, PySem.W.nsIn X.K mainGlobals y = some (some (.ref f)) ∧ FnD X.prog X.w X.K X.mg X.base (L2.CX X.prog X.w) (eoX X.K ct) k f fd ps F ∧ PySem.W.keepIn X.K (.ref f) = true ∧ Binds X.K fd ps [])
    (tk : Takes X W) (hgd : X.A.guards = some []) (hr : Room k X.A) (ha : SA X (ErT X.K ct W) (e :: es) fa) (hn : ∀ σ S ds S', fa σ S = .ok ds S' → ds.length = n) (hps : ps.length = n)
    (hN : X.N[i]? = some x := by rfl) (hv : Vis X.env.scope x := by first | exact Or.inl rfl | exact Or.inr (Or.inl rfl) | exact Or.inr (Or.inr rfl)) (hdb : (x == ("__debug__" : Str)) = false := by decide) (hcd : (x == ("__classdict__" : Str)) = false := by decide)
    (he : starEach (e :: es) X.env = (false, eval e X.env) :: starEach es X.env := by rfl) (hpl : (backTo pos (starEach es X.env)).any (·.1) = false := by rfl) :
    SE X (ErT X.K ct W) (.Call (.Name x p) (e :: es) [] pos) (dCallTV i L fa) := by
  obtain ⟨ta, pa, qa⟩ := ha.ex
  refine SE.ofCan ⟨fun pins s τ H Q I ⟨ρ, σ, S, T, h⟩ => ?_⟩
  unfold dCallTV at h
  split at h
  · rename_i m em
    split at h
    · rename_i y ey
      split at h
      · rename_i F eF
        obtain ⟨f, fd, hns, FD, hk, hb⟩ := FD y F eF
        obtain ⟨v, hv1, hv2⟩ := T.sl.at_ i _ em
        obtain ⟨a, ha1, ha2⟩ := T.hr.at_ m _ ey
        have ha2 : PySem.W.nsIn X.K mainGlobals y = some (some (.ref a)) := ha2
        rw [hns] at ha2
        cases ha2
        cases hv2 with
        | box hv2 =>
          rw [ha1] at hv2
          cases hv2
          refine wpAny_Call_Name_kw (thn ((pe_var (pos := p) hN hv hdb hcd).run pins s τ H (fun v H1 => v = .ref f ∧ H1 = H) I ⟨.ref f, hv1, rfl, rfl⟩) fun u s0 ⟨v, H0, I0, rv0, ev, eH⟩ => ?_)
          subst ev
          rw [eH] at I0
          obtain rfl : u = Value.ref f := rv0
          have h := link h
          have h' : (fa σ S).Sat (fun ds S1 => ds.length = n ∧ (match F ds S1 with
              | .ok d S2 => Rs.ok d S2
              | .ex c es S2 => .ex c (enc σ :: es) S2
              | .no => .no).Sat (KO X.K H ρ Q) (KX (ErT X.K ct W) H ρ)) (KX (ErT X.K ct W) H ρ) := by
            cases e0 : fa σ S with
            | ok ds S1 => rw [e0] at h; exact ⟨hn σ S ds S1 e0, h⟩
            | ex c ds S1 => rw [e0] at h; exact h
            | no => rw [e0] at h; exact h
          refine PySem.W.callWith_K (h₀ := X.base) I0.ok.mod.kin hk (thn (pa.run pos pins s0 τ H (fun vs H1 => ∃ ρ1 S1 ds, To H H1 ρ ρ1 ∧ HR X.K H1 ρ1 S1 ∧ DVs X.K H1 ρ1 ds vs ∧ ds.length = n ∧ (F ds S1).Sat (KO X.K H1 ρ1 Q) (KX (eoX X.K ct (WE W τ)) H1 ρ1)) I0 ?_) ?_) he hpl
          · refine qa τ H ρ σ S _ T (h'.mono (fun ds S1 q vs H1 ρ1 t1 hr1 dvs => ⟨ρ1, S1, ds, t1, hr1, dvs, q.1, ?_⟩) fun _ _ _ q => q)
            obtain ⟨_, q⟩ := q
            cases e1 : F ds S1 with
            | ok d S2 =>
              rw [e1] at q
              exact fun v H' ρ' t' => q v H' ρ' (t1.trans t')
            | ex c es S2 =>
              rw [e1] at q
              intro H' ρ' t' C dd hR hx
              have := q H' ρ' (t1.trans t')
              exact this C dd τ ⟨hR, by rw [dec_enc]; exact T.sl.to (t1.trans t')⟩ hx
            | no => rw [e1] at q; exact q.elim
          · rintro us s1 ⟨vs, H1, I1, r, ρ1, S1, ds, t1, hr1, dvs, hl, q⟩
            refine ⟨I1.kIn, ?_⟩
            have hlu : (us ++ []).length = ps.length := by rw [List.append_nil, ← r.length, ← dvs.length, hl, hps]
            refine wpAny_call (codeAny_mono (FD.run X.A X.stack s1 H1 ⟨us, []⟩ (us ++ []) vs ρ1 S1 ds Q (WE W τ) hgd hr I1.env0 (hb s1 us I1.kIn hlu) (by rw [List.append_nil]; exact r) (hl.trans hps.symm) hr1 dvs q) fun rr s' hq => ?_)
            cases rr with
            | error e => exact passAt tk τ pins H1 s1 e s' I1 hq
            | ok fl =>
              cases fl with
              | ret u => exact I1.after hq
              | next => exact False.elim hq
              | brk => exact False.elim hq
              | cont => exact False.elim hq
      · exact h.elim
    · exact h.elim
  · exact h.elim
/-! ### defs called while an exception is held -/
theorem u128H {k : Nat} {A : Around} (r : L2H.RoomH k A) : A.units + 128 < cLine := by have := r.un; omega
theorem u64H {k : Nat} {A : Around} (r : L2H.RoomH k A) : A.units + 64 < cLine := by have := r.un; omega
structure FnDH (P : Program) (w : World) (K : PySem.W.Frag) (mg : Str → Option Value) (base : Heap) (k : Nat) (f : Addr) (fd : FuncData) (ps : List Str) (F : FN) : Prop where
  run : ∀ (A : Around) (outer : List Env) (s : Shared) (H : Hp) (args : Args) (us : List Value) (vs : List V) (ρ : List Addr) (S : Bxs) (ds : List Dt) (Q : VK) (p : Addr × Obj), A.guards = some [] → L2H.RoomH k A → L2H.PinOk outer H s p → Env0 P w K mg base A outer s H →
    BindsTo s fd args (ps.zip us) → Vals vs us → ds.length = ps.length → HR K H ρ S → DVs K H ρ ds vs → (F ds S).Sat (KO K H ρ Q) (KX noEr H ρ) → codeAny (model P w) A (.call (.ref f) args) (CR L2.CX0 outer P w H s Q C8.E0) s
theorem fnDH_of {P : Program} {w : World} {K : PySem.W.Frag} {mg : Str → Option Value} {base : Heap} {k : Nat} {x qual : Str} {st : Stmt} {f : Addr} {fd : FuncData} {N ps : List Str} {fb : FS} (F : Fun K x qual st f fd) (S0 : FnScope N ps (defScope st))
    (hbody : ∀ cdv : Value, fd.code = cdv → ∀ (A : Around) (outer : List Env) (s : Shared) (H : Hp) (E : XK) (p : Addr × Obj), L2H.RoomH k (A.deeper (envOfC qual (defScope st) s.heap.objs.size f cdv)) → A.guards = some [] →
      SSs (L2H.cxH L2.CX0 P w K mg base N qual (defScope st) f cdv A outer s H E p) noEr (defBody st) fb) : FnDH P w K mg base (k + 1) f fd ps (bodyF N.length fb) := by
  obtain ⟨oc, od, kV, doc, pm, an, cdv, ct, osl, rfl, lk, hcd⟩ := F.ex
  constructor
  intro A outer s H args us vs ρ S ds Q p hgd hr hpin e0 hb r hl hR dvs hs
  have hlv : vs.length = ps.length := by rw [← dvs.length]; exact hl
  have inK : K.In s.heap := e0.mod.kin.keeps fun b o e => (e0.bs b o e).1
  have lim : s.heap.NoLimit := e0.mod.nolimit.keeps fun b o e => (e0.bs b o e).1
  have kinds : ∀ y ∈ ps.zip us, (defScope st).names.lookup y.1 = some .local ∨ ((defScope st).names.lookup y.1 = some .cell ∧ ((cellsFrom (s.heap.objs.size + 1) (defScope st).names []).lookup y.1).isSome = true) := by
    rintro ⟨n, v⟩ hy
    rcases S0.par n (List.of_mem_zip hy).1 with q | q
    · exact .inl q
    · exact .inr ⟨q, PySem.W.cellsFrom_some _ _ _ (.inl q)⟩
  refine codeAny_call_function hr.depth (inK _ _ lk) rfl S0.co S0.gen rfl (PySem.W.codeRec_of inK hcd) (hb _ _ _ _ ?_)
  refine wpAny_newFunctionEnv_cells S0.kind kinds fun env he s1 x1 => ?_
  subst he
  refine ⟨lim.keeps x1.toInCall.keep, codeAny_func ?_⟩
  obtain ⟨t, pt, qt⟩ := (hbody cdv rfl A outer s H C8.E0 p (hr.deeper _) hgd).ex
  have I : Inv (L2H.cxH L2.CX0 P w K mg base N qual (defScope st) f cdv A outer s H C8.E0 p) [] (L2.start N vs) H s1 := L2H.inv_startH S0 hpin e0 hlv r x1
  have T : Ty K H ρ (startD N.length ds) S (L2.start N vs) := ⟨hR, sl_start dvs⟩
  have go : t { nx := fun _ H' => Q .non H', rt := Q } (L2.start N vs) H := by
    refine qt _ H ρ (startD N.length ds) S _ T ((link hs).mono (fun r S1 h1 => ?_) fun _ _ _ q => q)
    obtain ⟨fl, σ1⟩ := r
    cases fl with
    | nx => exact fun τ' H' ρ' t' T' => h1 _ H' ρ' t' T'.hr .non
    | rt d => exact h1
    | bk => exact h1.elim
    | ct => exact h1.elim
  refine wpAny_mono (pt.run [] s1 (L2.start N vs) H _ I go) (fun fl s' hf => ?_) fun e s' he => he
  cases fl with
  | ret u =>
    obtain ⟨v, σ', H', J, rv, q⟩ := hf
    exact ⟨v, H', J.os, J.bare, J.base, J.hok, rv, q⟩
  | next =>
    obtain ⟨σ', H', J, q⟩ := hf
    exact ⟨V.non, H', J.os, J.bare, J.base, J.hok, rfl, q⟩
  | brk =>
    obtain ⟨_, _, _, q⟩ := hf
    exact False.elim q
  | cont =>
    obtain ⟨_, _, _, q⟩ := hf
    exact False.elim q
/-! ### return xs == [] and g(e.f, y) -/
theorem pe_callF {k : Nat} {f : Addr} {fd : FuncData} {ps : List Str} {F : FN} {x : Str} {p pos : Pos} {e : Expr} {es : List Expr} {ta : TA} (FD : FnDH X.prog X.w X.K X.mg X.base k f fd ps F) (hgd : X.A.guards = some []) (hr : L2H.RoomH k X.A) (hot : ∃ p, p ∈ X.pn) (hg : Gl X x) (hm : X.mg x = some (.ref f))
    (hk : PySem.W.keepIn X.K (.ref f) = true) (hb : Binds X.K fd ps []) (ha : PA X (e :: es) ta)
    (hdb : (x == ("__debug__" : Str)) = false := by decide) (he : starEach (e :: es) X.env = (false, eval e X.env) :: starEach es X.env := by rfl) (hpl : (backTo pos (starEach es X.env)).any (·.1) = false := by rfl) :
    PE X (.Call (.Name x p) (e :: es) [] pos) (fun τ H Q => ta τ H fun vs H1 => ∃ ρ1 S1 ds, HR X.K H1 ρ1 S1 ∧ DVs X.K H1 ρ1 ds vs ∧ ds.length = ps.length ∧ (F ds S1).Sat (KO X.K H1 ρ1 Q) (KX noEr H1 ρ1)) := by
  refine ⟨fun pins s τ H Q I h => ?_⟩
  refine wpAny_Call_Name_kw (ld_glob I hg hm ?_ hdb)
  refine PySem.W.callWith_K (h₀ := X.base) I.ok.mod.kin hk (thn (ha.run pos pins s τ H _ I h) ?_) he hpl
  rintro us s1 ⟨vs, H1, I1, r, ρ1, S1, ds, hr1, dvs, hl, q⟩
  refine ⟨I1.kIn, ?_⟩
  obtain ⟨p, hp⟩ := hot
  have hlu : (us ++ []).length = ps.length := by rw [List.append_nil, ← r.length, ← dvs.length, hl]
  have P1 := I1.pin p (List.mem_append_left _ hp)
  have hpin : L2H.PinOk X.stack H1 s1 p := ⟨P1.1, P1.2.1, fun hm => (List.mem_cons.mp (I1.stkSub p.1 hm)).elim P1.2.2.1 P1.2.2.2.1, P1.2.2.2.2⟩
  refine wpAny_call (codeAny_mono (FD.run X.A X.stack s1 H1 ⟨us, []⟩ (us ++ []) vs ρ1 S1 ds Q p hgd hr hpin I1.env0 (hb s1 us I1.kIn hlu) (by rw [List.append_nil]; exact r) hl hr1 dvs q) fun rr s' hq => ?_)
  cases rr with
  | error e => exact (show False from hq).elim
  | ok fl =>
    cases fl with
    | ret u => exact I1.after hq
    | next => exact False.elim hq
    | brk => exact False.elim hq
    | cont => exact False.elim hq
def hAnd (i iq j im : Nat) (F : FN) : List Dt → FS := fun es σ S => match es[j]?, σ[iq]?, σ[im]? with
  | some d, some (some (.box q)), some (some dm) => if i < σ.length ∧ i ≠ iq ∧ i ≠ im then (match eqG false (.box q) (.box S.length) (S ++ [.lst []]) with
    | .ok (.bl true) _ => (match F [d, dm] (S ++ [.lst []]) with
      | .ok r S' => .ok (.rt r, σ) S'
      | _ => .no)
    | .ok (.bl false) _ => .ok (.rt (.bl false), σ) (S ++ [.lst []])
    | _ => .no) else .no
  | _, _, _ => .no
theorem hd_and (k i iq j im : Nat) {x n fld xq xm g : Str} {Ck f : Addr} {ns : List Str} {hs : List ExceptHandler} {pl : Hds} {fd : FuncData} {ps : List Str} {F : FN} {kk : Nat} {p1 p2 p4 p5 p6 p7 p8 p9 p10 p11 p12 p13 : Pos} (hc : Names X x (.ref Ck)) (hx : ∀ c C ns, ct c = some (C, ns) → PySem.W.exmOne X.K (.ref C) (.ref Ck) = some (subC c k))
    (hk : ∀ c, subC c k = true → c = k) (hck : ct k = some (Ck, ns)) (hj : ns[j]? = some fld) (XF : XfC X.K Ck) (hno : PySem.W.findIn X.K (.ref Ck) fld = some none) (hN : X.N.Nodup) (hi : X.N[i]? = some n) (hn : X.env.kindOf n = some .local) (hv : Vis X.env.scope n) (hd : (n == ("__debug__" : Str)) = false) (hcd : (n == ("__classdict__" : Str)) = false)
    (hab : attributeBase (.Name n p8) fld X.env (eval (.Name n p8) X.env) = eval (.Name n p8) X.env)
    (hq : X.N[iq]? = some xq) (hvq : Vis X.env.scope xq) (hqd : (xq == ("__debug__" : Str)) = false) (hqc : (xq == ("__classdict__" : Str)) = false)
    (hm : X.N[im]? = some xm) (hvm : Vis X.env.scope xm) (hmd : (xm == ("__debug__" : Str)) = false) (hmc : (xm == ("__classdict__" : Str)) = false)
    (FD : FnDH X.prog X.w X.K X.mg X.base kk f fd ps F) (hgd : X.A.guards = some []) (hr : Room kk X.A) (hg : Gl X g) (hmg : X.mg g = some (.ref f)) (hkk : PySem.W.keepIn X.K (.ref f) = true) (hb : Binds X.K fd ps []) (hps : ps.length = 2) (hgn : (g == ("__debug__" : Str)) = false)
    (hu : X.A.units + 128 < cLine)
    (rest : HsD X ct hs pl) : HsD X ct (.ExceptHandler (some (.Name x p1)) (some n) [.Return (some (.BoolOp .And [.Compare (.Name xq p4) [.Eq] [.List [] p5] p6, .Call (.Name g p7) [.Attribute (.Name n p8) fld p9, .Name xm p10] [] p11] p12)) p13] p2 :: hs) ((k, hAnd i iq j im F) :: pl) := by
  obtain ⟨cl, h1, h2⟩ := rest.ex
  refine ⟨⟨.ref Ck, some i, fun a cls d => tRet (tAndV (tOp (rEqN X.K false) (tVar iq) (tLst tNil)) (fun τ H Q => tCons (tXf a cls d Ck fld (tVar i)) (tCons (tVar im) tNil) τ H fun vs H1 => ∃ ρ1 S1 ds, HR X.K H1 ρ1 S1 ∧ DVs X.K H1 ρ1 ds vs ∧ ds.length = ps.length ∧ (F ds S1).Sat (KO X.K H1 ρ1 Q) (KX noEr H1 ρ1)))⟩ :: cl,
    .cons (.named hc hN hi hn fun a o cls d pn hz hf => pss_one (ps_ret (pe_and (pe_cmpR (op_eqN hu) (pe_var hq hvq hqd hqc) (pe_lst pa_nil) rfl) (pe_one (pe_callF FD hgd ⟨hr.dp, hr.un⟩ ⟨(a, o), List.mem_cons_self⟩ hg hmg hkk hb (pa_cons (pe_xf XF hno hz hf (pe_var hi hv hd hcd) hab) (pa_cons (pe_var hm hvm hmd hmc) pa_nil)) hgn))))) h1, fun D H ρ c es C dd σ S τ hx2 T h => ?_⟩
  obtain ⟨ms, fs, e1, e2, e3⟩ := id hx2
  refine ⟨_, hx c C ms e1, fun hq => ?_, fun hq a _ => ?_⟩
  · rw [show pickH ((k, hAnd i iq j im F) :: pl) c es = (if subC c k = true then hAnd i iq j im F es else pickH pl c es) from rfl, if_neg (by rw [hq]; decide)] at h
    exact h2 D H ρ c es C dd σ S τ hx2 T h
  · rw [show pickH ((k, hAnd i iq j im F) :: pl) c es = (if subC c k = true then hAnd i iq j im F es else pickH pl c es) from rfl, if_pos hq] at h
    have hck2 := hk c hq
    subst hck2
    rw [hck] at e1
    cases e1
    unfold hAnd at h
    split at h
    · rename_i d q dm ej eq em
      by_cases hil : i < σ.length ∧ i ≠ iq ∧ i ≠ im
      · rw [if_pos hil] at h
        obtain ⟨hil, ni, nm⟩ := hil
        obtain ⟨v, hv1, dv⟩ := e3 j fld d hj ej
        obtain ⟨vq, hq1, hq2⟩ := T.sl.at_ iq _ eq
        obtain ⟨vm, hm1, hm2⟩ := T.sl.at_ im _ em
        have hlt : i < τ.length := by rw [← T.sl.len]; exact hil
        refine ⟨vq, by rw [List.getElem?_set_ne ni]; exact hq1, by decide, fun p hp => ?_⟩
        have hr2 := T.hr.new (xs := []) hp .nil
        have te : Ext H (upd H p (.lst [])) := Ext.new hp
        have px : ρ <+: ρ ++ [p] := List.prefix_append _ _
        have hpr : (ρ ++ [p])[S.length]? = some p := by rw [← T.hr.len, List.getElem?_append_right (Nat.le_refl _), Nat.sub_self]; rfl
        have fin : ∀ b S3, eqG false (.box q) (.box S.length) (S ++ [.lst []]) = .ok (.bl b) S3 → ∀ QQ : V → Hp → Prop, QQ (.bl b) (upd H p (.lst [])) → rEqN X.K false vq (.ref p) (upd H p (.lst [])) QQ := by
          intro b S3 eb QQ hQ
          unfold eqG at eb
          cases q1 : pdo (S ++ [.lst []]) (.box q) with
          | none => rw [q1] at eb; cases eb
          | some u =>
            cases q2 : pdo (S ++ [.lst []]) (.box S.length) with
            | none => rw [q1, q2] at eb; cases eb
            | some u2 =>
              rw [q1, q2] at eb
              simp only at eb
              split at eb
              · rename_i cc
                cases eb
                exact ⟨u, u2, dp_of hr2 _ _ _ _ (hq2.mono te px) q1, dp_of hr2 _ _ _ _ (.box hpr) q2, cc.1, cc.2, hQ⟩
              · cases eb
        split at h
        · rename_i S3 eb
          refine fin true S3 eb _ ⟨true, rfl, ?_⟩
          rw [if_pos rfl]
          refine ⟨.ref a, by rw [List.getElem?_set_self hlt], rfl, rfl, dd, fs, v, rfl, ?_, hv1, ?_⟩
          · rw [upd_ne (ne_of_none e2 hp)]; exact e2
          · refine ⟨vm, by rw [List.getElem?_set_ne nm]; exact hm1, ?_⟩
            refine ⟨ρ ++ [p], S ++ [.lst []], [d, dm], hr2, .cons (dv.mono te px) (.cons (hm2.mono te px) .nil), by rw [hps]; rfl, ?_⟩
            cases ef : F [d, dm] (S ++ [.lst []]) with
            | ok r S' =>
              rw [ef] at h
              exact fun v H' ρ' t' => h v H' ρ' ((⟨te, px⟩ : To H _ ρ _).trans t')
            | ex c es S' => rw [ef] at h; exact h.elim
            | no => rw [ef] at h; exact h.elim
        · rename_i S3 eb
          refine fin false S3 eb _ ⟨false, rfl, ?_⟩
          rw [if_neg Bool.false_ne_true]
          exact h _ _ _ ⟨te, px⟩ hr2 (.bl false)
        · exact h.elim
      · rw [if_neg hil] at h
        exact h.elim
    · exact h.elim
end
end Mn
set_option Elab.async false
set_option linter.all false
set_option maxRecDepth 100000
set_option maxHeartbeats 4000000
/-! MnFo: dicts as odd values: ==, repr, not in; {None: None}. -/
namespace Mn
open PySem PySem.Spec PyProof.Rows L2
section
variable {X : Cx} {Er : ER} {K : PySem.W.Frag} {H H1 : Hp} {ρ ρ1 : List Addr} {σ : Sg} {S S1 : Bxs} {τ : L2.St} {pins : List (Addr × Obj)} {s : Shared}
/-! ### {None: None} -/
theorem nd_entry {P : Program} {w : World} {h : Heap} {a : Addr} (d : h.DictOf (leafKind P w) a [(Leaf.none, Value.none)]) : ∃ o es ep, h.get? a = some o ∧ o.ExactDict ∧ o.data = .dict es ep ∧ es.toList.map (·.key) = [Value.none] ∧ es.toList.map (·.val) = [Value.none] := by
  obtain ⟨o, es, ep, h1, h2, h3, h4, h5, h6⟩ := d
  refine ⟨o, es, ep, h1, h2, h3, ?_⟩
  cases e : es.toList with
  | nil => rw [e] at h5; cases h5
  | cons b l =>
    rw [e] at h5
    cases h5 with
    | cons hk hv hp =>
      cases hp
      have hk : Leaf.isOf Leaf.none b.key = true := hk
      have q : b.key = Value.none := by
        cases eb : b.key with
        | none => rfl
        | _ => rw [eb] at hk; cases hk
      exact ⟨by rw [List.map_cons, q]; rfl, by rw [List.map_cons, hv]; rfl⟩
theorem nd_all {P P' : Program} {w w' : World} {h : Heap} {a : Addr} (d : h.DictOf (leafKind P w) a [(Leaf.none, Value.none)]) : h.DictOf (leafKind P' w') a [(Leaf.none, Value.none)] := by
  obtain ⟨o, es, ep, h1, h2, h3, h4, h5, h6⟩ := d
  refine ⟨o, es, ep, h1, h2, h3, fun e he => ?_, ?_, h6⟩
  · obtain ⟨k, k1, k2⟩ := h4 e he
    cases k with
    | none => exact ⟨.none, k1, k2⟩
    | num i => exact ⟨.num i, k1, k2⟩
    | text x =>
      exfalso
      have he : e ∈ es.toList := Array.mem_def.mp he
      generalize es.toList = l at h5 he
      cases h5 with
      | cons hk hv hp =>
        cases hp
        rw [List.mem_singleton] at he
        subst he
        have q : Leaf.text x = Leaf.none := (leafKind P w).inj _ _ _ k1 hk
        cases q
  · generalize es.toList = l at h5
    cases h5 with
    | cons hk hv hp => cases hp; exact .cons hk hv .nil
def tNd : TE := fun _ H Q => ∀ p, H p = none → Q (.ref p) (upd H p (NdO p))
theorem pe_nd {j1 j2 : Nat} {p1 p2 pos : Pos} : PE X (.Dict [some (.Constant .none j1 p1)] [.Constant .none j2 p2] pos) tNd := by
  refine ⟨fun pins s σ H Q I q => ?_⟩
  have hn := I.hok.fresh (Nat.le_refl s.heap.objs.size)
  refine wpAny_Dict_walk (knd := leafKind X.prog X.w) rfl rfl (by simp) (by simp) ?_
  refine pairTrees_cons_walk (wpAny_Constant_none (wpAny_Constant_none (pairTrees_nil_walk ?_)))
  refine ⟨[(Leaf.none, Value.none)], ⟨rfl, rfl, trivial⟩, Heap.DictOf.new s.heap, fun h' dd hs => ?_⟩
  have dd : h'.DictOf (leafKind X.prog X.w) s.heap.objs.size [(Leaf.none, Value.none)] := dd
  have ne : (s.heap.objs.size == sysModules) = false := beq_eq_false_iff_ne.mpr (Ne.symm (Nat.ne_of_lt I.big))
  have keep : ∀ b u, s.heap.get? b = some u → h'.get? b = some u := fun b u e => (hs.2 b (Nat.ne_of_lt (Heap.lt_size e))).trans (Heap.get?_push_of_some _ e)
  refine ⟨.ref s.heap.objs.size, upd H s.heap.objs.size (NdO s.heap.objs.size), I.laid keep (Nat.le_refl _) ⟨⟨ne, fun P w => nd_all dd⟩, let ⟨o, _, _, ho, _⟩ := dd; ⟨o, ho⟩, fun h1 h2 ⟨_, d1⟩ hk => ⟨ne, fun P w => let ⟨o, es, ep, ho, r⟩ := d1 P w; ⟨o, es, ep, hk o ho, r⟩⟩⟩, rfl, q _ hn⟩
def dNd : FE := fun _ S => .ok (.box S.length) (S ++ [.nd])
theorem se_nd {j1 j2 : Nat} {p1 p2 pos : Pos} : SE X Er (.Dict [some (.Constant .none j1 p1)] [.Constant .none j2 p2] pos) dNd :=
  ⟨_, pe_nd, fun τ H ρ σ S Q T h p hp => h _ _ (ρ ++ [p]) ⟨Ext.new hp, List.prefix_append _ _⟩ (T.hr.newB (b := .nd) hp upd_same) (.box (by rw [← T.hr.len, List.getElem?_append_right (Nat.le_refl _), Nat.sub_self]; rfl))⟩
theorem HR.nd {n : Nat} (h : HR K H ρ S) (e : S[n]? = some MBox.nd) : ∃ a, ρ[n]? = some a ∧ H a = some (NdO a) := h.at_ n _ e
theorem nd_of {P : Program} {w : World} {h : Heap} {a : Addr} (ok : HOk P w H h) (e : H a = some (NdO a)) : (a == sysModules) = false ∧ h.DictOf (leafKind P w) a [(Leaf.none, Value.none)] := by
  obtain ⟨⟨z, d⟩, _⟩ := ok a _ e
  exact ⟨z, d P w⟩
/-! ### a text and a dict, a dict and itself -/
/-- a dict -/
def DcV (H : Hp) (a : Addr) : Prop := (∃ ws, H a = some (.dK ws)) ∨ H a = some (NdO a)
theorem dcv_at (I : Inv X pins τ H s) {a : Addr} (h : DcV H a) : ∃ o es n, s.heap.get? a = some o ∧ o.ExactDict ∧ o.data = .dict es n := by
  rcases h with ⟨ws, h⟩ | h
  · obtain ⟨_, hd, vs, rel, o, es, ep, h1, h2, h3, _⟩ := dk_of I.hok h
    exact ⟨o, es, ep, h1, h2, h3⟩
  · obtain ⟨_, o, es, ep, h1, h2, h3, _⟩ := nd_of I.hok h
    exact ⟨o, es, ep, h1, h2, h3⟩
def rEqSD : R2 := fun x y H Q => ∃ z a, x = .str z ∧ y = .ref a ∧ DcV H a ∧ Q (.bl false) H
theorem op_eqSD (hu : X.A.units + 8 < cLine) : OpR X (compareOp .Eq) rEqSD := by
  rintro pins s σ H x y v u Q I rx ry ⟨z, a, rfl, rfl, hd, q⟩
  obtain ⟨t, rfl⟩ := rx
  cases ry
  obtain ⟨o, es, n, h1, h2, h3⟩ := dcv_at I hd
  exact rc_str_dict z t h1 h2 h3 (by omega) X.prog X.w X.xe _ ⟨.bl false, H, I, rfl, q⟩
theorem valueAt_self {κ : Type} [DecidableEq κ] : ∀ {ks : List (κ × Value)}, (ks.map (·.1)).Nodup → ∀ {k v}, (k, v) ∈ ks → valueAt ks k = some v
  | [], _, _, _, h => nomatch h
  | (k0, v0) :: r, nd, k, v, h => by
    rw [List.map_cons, List.nodup_cons] at nd
    unfold valueAt
    rcases List.mem_cons.mp h with e | h
    · cases e
      rw [List.find?_cons_of_pos (by simp)]; rfl
    · have ne : k0 ≠ k := fun e => nd.1 (List.mem_map.mpr ⟨(k, v), h, e.symm⟩)
      rw [List.find?_cons_of_neg (by simpa using ne)]
      exact valueAt_self nd.2 h
theorem eq_dictSelf {κ : Type} [DecidableEq κ] {P : Program} {w : World} {knd : KeyKind P w κ} {A : Around} {E : Value → Shared → Prop} {a : Addr} {ka : List (κ × Value)} {Q : Value → Shared → Prop} (ha : (a == sysModules) = false) (da : s.heap.DictOf knd a ka) (hu : A.units + 8 < cLine) (h : Q (.bool true) s) :
    wpAny (model P w) A (compareOp .Eq (.ref a) (.ref a)) Q E s := by
  have nd : (ka.map (·.1)).Nodup := let ⟨_, _, _, _, _, _, _, _, nd⟩ := da; nd
  refine PySem.W.eq_dictsT (n := 0) (e := fun _ => true) ha ha da da (fun k v y hm hv => ?_) (by omega) ?_
  · rw [valueAt_self nd hm] at hv
    cases hv
    exact .same
  · have e : (ka.length == ka.length && ka.all fun p => (valueAt ka p.1).isSome && true) = true := by
      rw [beq_self_eq_true, Bool.true_and, List.all_eq_true]
      rintro ⟨k, v⟩ hm
      rw [valueAt_self nd hm]; rfl
    rw [e]; exact h
def rEqDD : R2 := fun x y H Q => ∃ a, x = .ref a ∧ y = .ref a ∧ DcV H a ∧ Q (.bl true) H
theorem op_eqDD (hu : X.A.units + 8 < cLine) : OpR X (compareOp .Eq) rEqDD := by
  rintro pins s σ H x y v u Q I rx ry ⟨a, rfl, rfl, hd, q⟩
  cases rx; cases ry
  rcases hd with ⟨ws, hd⟩ | hd
  · obtain ⟨_, ns, vs, rel, dd⟩ := dk_of I.hok hd
    exact eq_dictSelf ns dd hu ⟨.bl true, H, I, rfl, q⟩
  · obtain ⟨ns, dd⟩ := nd_of I.hok hd
    exact eq_dictSelf ns dd hu ⟨.bl true, H, I, rfl, q⟩
def dcB (S : Bxs) (n : Nat) : Bool := match S[n]? with
  | some (.dk _) => true
  | some .nd => true
  | _ => false
theorem dcb_v {n : Nat} {a : Addr} (hr : HR K H ρ S) (ha : ρ[n]? = some a) (h : dcB S n = true) : DcV H a := by
  unfold dcB at h
  split at h
  · rename_i kvs e
    obtain ⟨a', ws, h1, h2, _⟩ := hr.dk n _ e
    rw [ha] at h1; cases h1
    exact .inl ⟨ws, h2⟩
  · rename_i e
    obtain ⟨a', h1, h2⟩ := hr.nd e
    rw [ha] at h1; cases h1
    exact .inr h2
  · cases h
/-- x == y: else a text and a dict, a dict and itself -/
def eqF : G2 := fun x y S => match eqE x y S with
  | .ok d S' => .ok d S'
  | _ => match x, y with
    | .str _, .box n => if dcB S n = true then .ok (.bl false) S else .no
    | .box m, .box n => if m = n ∧ dcB S n = true then .ok (.bl true) S else .no
    | _, _ => .no
theorem eqF_calm : Calm2 eqF := by
  intro x y S
  unfold eqF
  split
  · exact calm_ok _ _
  · split
    · split
      · exact calm_ok _ _
      · exact calm_no
    · split
      · exact calm_ok _ _
      · exact calm_no
    · exact calm_no
def rEqF (K : PySem.W.Frag) : R2 := fun x y H Q => (rEqN K false x y H Q ∨ rEqS K x y H Q) ∨ rEqSD x y H Q ∨ rEqDD x y H Q
theorem ro_eqF : RO K (rEqF K) eqF := by
  intro H ρ S x y xv yv Q hr dx dy h
  unfold eqF at h
  cases e : eqE x y S with
  | ok d S' =>
    rw [e] at h
    exact .inl (ro_eqE H ρ S x y xv yv Q hr dx dy (by rw [e]; exact h))
  | ex c es S' => exact absurd e (eqE_calm x y S c es S')
  | no =>
    rw [e] at h
    right
    cases dx with
    | str z =>
      cases dy with
      | @box n b hb =>
        obtain ⟨c, hk⟩ := ite_sat (show (if dcB S n = true then Rs.ok (Dt.bl false) S else .no).Sat (KO K H ρ Q) noX from h)
        exact .inl ⟨z, b, rfl, rfl, dcb_v hr hb c, ko_here hr hk (.bl false)⟩
      | _ => exact (show False from h).elim
    | @box m a ha =>
      cases dy with
      | @box n b hb =>
        obtain ⟨⟨c1, c2⟩, hk⟩ := ite_sat (show (if m = n ∧ dcB S n = true then Rs.ok (Dt.bl true) S else .no).Sat (KO K H ρ Q) noX from h)
        subst c1
        rw [ha] at hb
        cases hb
        exact .inr ⟨a, rfl, rfl, dcb_v hr ha c2, ko_here hr hk (.bl true)⟩
      | _ => exact (show False from h).elim
    | non => cases dy <;> exact (show False from h).elim
    | bl _ => cases dy <;> exact (show False from h).elim
    | int _ => cases dy <;> exact (show False from h).elim
    | tup _ _ => cases dy <;> exact (show False from h).elim
theorem op_eqF (hu : X.A.units + 128 < cLine) : OpR X (compareOp .Eq) (rEqF X.K) := (op_eqE hu).or ((op_eqSD (by omega)).or (op_eqDD (by omega)))
/-! ### not in -/
def rNinF (K : PySem.W.Frag) : R2 := fun x y H Q => ∃ (a b : Addr) (zs : List Str), x = .ref a ∧ y = .ref b ∧ SqT K H b (zs.map V.str) ∧ DcV H a ∧ Q (.bl true) H
theorem op_ninFd (hu : X.A.units + 8 < cLine) : OpR X (compareOp .NotIn) (rNinF X.K) := by
  intro pins s σ H x y v u Q I rx ry h
  obtain ⟨a, b, zs, rfl, rfl, hq, ha, q⟩ := h
  cases rx; cases ry
  obtain ⟨its, r, pl, hz⟩ := I.tuple hq
  have hu1 : X.A.in1.units < cLine := by show X.A.units + 1 < cLine; omega
  refine SeqAt.notIn_tupleAt (fun _ => false) pl (fun w hw => ?_) ⟨.bl _, H, I, rfl, ?_⟩
  · obtain ⟨z, t, rfl⟩ := vals_str r w (by simpa using hw)
    obtain ⟨o, es, n, h1, h2, h3⟩ := dcv_at I ha
    exact eq_str_dict z t h1 h2 h3 hu1
  · have e : (!its.toArray.any fun _ => false) = true := by simp
    rw [e]; exact q
/-- x not in y: else a dict, which is not among texts -/
def ninF : G2 := fun x y S => match ninE x y S with
  | .ok d S' => .ok d S'
  | _ => match x, y with
    | .box n, .tup ds => match strsD ds with
      | some _ => if dcB S n = true then .ok (.bl true) S else .no
      | none => .no
    | _, _ => .no
theorem ninF_calm : Calm2 ninF := by
  intro x y S
  unfold ninF
  split
  · exact calm_ok _ _
  · split
    · split
      · split
        · exact calm_ok _ _
        · exact calm_no
      · exact calm_no
    · exact calm_no
theorem ro_ninF : RO K (fun x y H Q => (rInA K true x y H Q ∨ rNinS K x y H Q) ∨ rNinF K x y H Q) ninF := by
  intro H ρ S x y xv yv Q hr dx dy h
  unfold ninF at h
  cases e : ninE x y S with
  | ok d S' =>
    rw [e] at h
    exact .inl (ro_ninE H ρ S x y xv yv Q hr dx dy (by rw [e]; exact h))
  | ex c es S' => exact absurd e (ninE_calm x y S c es S')
  | no =>
    rw [e] at h
    right
    cases dx with
    | @box n a ha =>
      cases dy with
      | @tup b ds vs ht hd =>
        simp only at h
        cases e2 : strsD ds with
        | none => rw [e2] at h; exact h.elim
        | some zs =>
          rw [e2] at h
          obtain ⟨c, hk⟩ := ite_sat h
          have hv := strsD_v hd e2
          subst hv
          exact ⟨a, b, zs, rfl, rfl, ht.sqt, dcb_v hr ha c, ko_here hr hk (.bl true)⟩
      | _ => exact (show False from h).elim
    | _ => cases dy <;> exact (show False from h).elim
theorem op_ninF (hu : X.A.units + 128 < cLine) : OpR X (compareOp .NotIn) (fun x y H Q => (rInA X.K true x y H Q ∨ rNinS X.K x y H Q) ∨ rNinF X.K x y H Q) := (op_ninE hu).or (op_ninFd (by omega))
/-! ### repr of a dict -/
mutual
def noL : PyData → Bool
  | .list _ => false
  | .dict _ => false
  | .tuple xs => noLs xs
  | _ => true
def noLs : List PyData → Bool
  | [] => true
  | x :: xs => noL x && noLs xs
end
mutual
theorem reads_nil {h : Heap} : ∀ {v : Value} {d : PyData} {as : List Addr}, Reads h v d as → noL d = true → as = []
  | _, _, _, .none, _ => rfl
  | _, _, _, .bool _, _ => rfl
  | _, _, _, .int _ _, _ => rfl
  | _, _, _, .str _ _, _ => rfl
  | _, _, _, .tuple _ _ _ h4, e => readsAll_nil h4 (by simpa only [noL] using e)
  | _, _, _, .list _ _ _ _, e => by simp only [noL] at e; cases e
  | _, _, _, .dict _ _ _ _ _, e => by simp only [noL] at e; cases e
theorem readsAll_nil {h : Heap} : ∀ {vs : List Value} {ds : List PyData} {as : List Addr}, ReadsAll h vs ds as → noLs ds = true → as = []
  | _, _, _, .nil, _ => rfl
  | _, _, _, .cons h1 h2, e => by
    simp only [noLs, Bool.and_eq_true] at e
    rw [reads_nil h1 e.1, readsAll_nil h2 e.2]; rfl
end
def keyP : Key → PyData
  | .inl i => .int i
  | .inr x => .str x
theorem key_reads {P : Program} {w : World} {h : Heap} {k : Key} {v : Value} (e : (mixKind P w).is k v = true) : Reads h v (keyP k) [] := by
  rcases keyIs_shape (show keyIs k v = true from e) with ⟨i, t, rfl, rfl⟩ | ⟨x, t, rfl, rfl⟩
  · exact .int i t
  · exact .str x t
theorem dk_reads (I : Inv X pins τ H s) : ∀ {es : List DictEntry} {vs : List (Key × Value)} {ws : List (Key × V)} {ps : List PyData}, Pairs (mixKind X.prog X.w) es vs → KV ws vs → DpAll X.K H (ws.map (·.2)) ps →
    ReadsAll s.heap (es.map (·.key)) (ws.map fun w => keyP w.1) [] ∧ ∃ bs, ReadsAll s.heap (es.map (·.val)) ps bs
  | _, _, _, _, .nil, kv, dp => by cases kv; cases dp; exact ⟨.nil, _, .nil⟩
  | _, _, (k, v) :: ws, _, .cons (e := e) (kv := kv0) h1 h2 h3, kv, dp => by
    cases kv with
    | cons q qs =>
      cases dp with
      | cons d ds =>
        obtain ⟨g1, bs, g2⟩ := dk_reads I h3 qs ds
        obtain ⟨q1, q2⟩ := q
        obtain ⟨as, g3⟩ := Dp.reads I _ _ _ d q2
        rw [List.map_cons, List.map_cons, List.map_cons]
        refine ⟨?_, as ++ bs, .cons (by rw [h2]; exact g3) g2⟩
        have q1 : k = kv0.1 := q1
        subst q1
        exact .cons (as := []) (key_reads h1) g1
abbrev dctP (ws : List Key) (ps : List PyData) : PyData := .dict ((ws.map keyP).zip ps)
theorem dpall_len {vs : List V} {ps : List PyData} (h : DpAll K H vs ps) : vs.length = ps.length := by
  induction ps generalizing vs with
  | nil => cases h; rfl
  | cons p ps ih => cases h with | cons _ t => rw [List.length_cons, List.length_cons, ih t]
def rReprF (K : PySem.W.Frag) : List V → Hp → VK → Prop := fun vs H Q => (∃ a, ∃ (ws : List (Key × V)) (ps : List PyData), vs = [.ref a] ∧ H a = some (.dK ws) ∧ DpAll K H (ws.map (·.2)) ps ∧ noLs ps = true ∧ (dctP (ws.map (·.1)) ps).showable = true ∧ (dctP (ws.map (·.1)) ps).depth ≤ 60 ∧ (dctP (ws.map (·.1)) ps).shown.length ≤ strLim ∧ Q (.str (dctP (ws.map (·.1)) ps).shown) H) ∨
  (∃ a, vs = [.ref a] ∧ H a = some (NdO a) ∧ Q (.str (PyData.dict [(.none, .none)]).shown) H)
theorem call_reprFd (hg : X.A.guards = some []) (hu : X.A.units + 64 < cLine) : CallR X (.builtin "repr") (rReprF X.K) := by
  rintro pins s σ H xs us Q I r (⟨a, ws, ps, rfl, ha, hd, hn, hs, hdp, hz, q⟩ | ⟨a, rfl, ha, q⟩)
  · obtain ⟨u, rfl, rv⟩ := vals1 r
    cases rv
    obtain ⟨z, lo, vs, rel, o, es, ep, h1, h2, h3, h4, h5, h6⟩ := dk_of I.hok ha
    obtain ⟨g1, bs, g2⟩ := dk_reads I h5 rel hd
    have hl := dpall_len hd
    rw [List.length_map] at hl
    have rd : Reads s.heap (.ref a) (dctP (ws.map (·.1)) ps) (a :: [] ++ bs) := Reads.dict h1 h2.1 h3 (by rw [List.map_fst_zip (by simp; omega), List.map_map]; exact g1) (by rw [List.map_snd_zip (by simp; omega)]; exact g2)
    have e2 := readsAll_nil g2 hn
    subst e2
    refine repr_of_reads' rd hs (fun _ hm => ?_) hg (by omega) (fun _ _ e => e) (fun h' u tk hk => ⟨.str _, H, I.kept (t' := tk) hk, ⟨_, rfl⟩, q⟩) (Nat.le_trans hz (by decide))
    simp at hm
    rw [hm] at lo
    simp at lo
  · obtain ⟨u, rfl, rv⟩ := vals1 r
    cases rv
    obtain ⟨lo, dd⟩ := nd_of I.hok ha
    obtain ⟨o, es, ep, h1, h2, h3, h4, h5⟩ := nd_entry dd
    have rd : Reads s.heap (.ref a) (.dict [(.none, .none)]) (a :: [] ++ []) := Reads.dict h1 h2.1 h3 (by rw [h4]; exact .cons .none .nil) (by rw [h5]; exact .cons .none .nil)
    have hdp : (PyData.dict [(.none, .none)]).depth ≤ 10 := by decide +kernel
    refine repr_of_reads' rd (by decide +kernel) (fun _ hm => ?_) hg (by omega) (fun _ _ e => e) (fun h' u tk hk => ⟨.str _, H, I.kept (t' := tk) hk, ⟨_, rfl⟩, q⟩) (by decide +kernel)
    simp at hm
    rw [hm] at lo
    simp at lo
/-- repr, of a dict too -/
def reprF : GC := fun ds S => match reprD ds S with
  | .ok d S' => .ok d S'
  | _ => match ds with
    | [.box n] => match S[n]? with
      | some (.dk kvs) => match optAll (kvs.map fun kv => pd S 60 kv.2) with
        | some ps => if noLs ps = true ∧ (dctP (kvs.map (·.1)) ps).showable = true ∧ (dctP (kvs.map (·.1)) ps).depth ≤ 60 ∧ (dctP (kvs.map (·.1)) ps).shown.length ≤ strLim then .ok (.str (dctP (kvs.map (·.1)) ps).shown) S else .no
        | none => .no
      | some .nd => .ok (.str (PyData.dict [(.none, .none)]).shown) S
      | _ => .no
    | _ => .no
theorem reprF_calm : CalmC reprF := by
  intro ds S c es S'
  unfold reprF
  split
  · exact calm_ok _ _ _ _ _
  · split
    · split
      · split
        · split
          · exact calm_ok _ _ _ _ _
          · exact calm_no _ _ _
        · exact calm_no _ _ _
      · exact calm_ok _ _ _ _ _
      · exact calm_no _ _ _
    · exact calm_no _ _ _
theorem dps_dvs : ∀ {kvs : List (Key × Dt)} {ws : List (Key × V)}, DPs K H ρ kvs ws → DVs K H ρ (kvs.map (·.2)) (ws.map (·.2)) ∧ kvs.map (·.1) = ws.map (·.1)
  | _, _, .nil => ⟨.nil, rfl⟩
  | _, _, .cons h t => by
    obtain ⟨a, b⟩ := dps_dvs t
    rw [List.map_cons, List.map_cons, List.map_cons, List.map_cons, b]
    exact ⟨.cons h a, rfl⟩
theorem rc_reprF : RCo K (fun vs H Q => (rRepr K vs H Q ∨ rReprD K vs H Q) ∨ rReprF K vs H Q) reprF := by
  intro H ρ S ds vs Q hr dvs h
  unfold reprF at h
  cases e : reprD ds S with
  | ok d S' =>
    rw [e] at h
    exact .inl (rc_reprD H ρ S ds vs Q hr dvs (by rw [e]; exact h))
  | ex c es S' => exact absurd e (reprD_calm ds S c es S')
  | no =>
    rw [e] at h
    right
    simp only at h
    split at h
    · rename_i n
      obtain ⟨v, rfl, dv⟩ := dvs1 dvs
      cases dv with
      | box ha =>
        split at h
        · rename_i kvs e1
          split at h
          · rename_i ps e2
            obtain ⟨⟨c0, c1, c2, c3⟩, h⟩ := ite_sat h
            obtain ⟨a', ws, h1, h2, h3⟩ := hr.dk _ _ e1
            rw [ha] at h1; cases h1
            obtain ⟨h4, h5⟩ := dps_dvs h3
            have h6 := dps_of (dp_of hr 60) _ _ _ h4 (by rw [List.map_map]; exact e2)
            refine .inl ⟨_, ws, ps, rfl, h2, h6, c0, ?_, ?_, ?_, ?_⟩
            · rw [← h5]; exact c1
            · rw [← h5]; exact c2
            · rw [← h5]; exact c3
            · rw [← h5]; exact ko_here hr h (.str _)
          · exact h.elim
        · rename_i e1
          obtain ⟨a', h1, h2⟩ := hr.nd e1
          rw [ha] at h1; cases h1
          exact .inr ⟨_, rfl, h2, ko_here hr h (.str _)⟩
        · exact h.elim
    · exact h.elim
theorem call_reprF (hg : X.A.guards = some []) (hu : X.A.units + 64 < cLine) : CallR X (.builtin "repr") (fun vs H Q => (rRepr X.K vs H Q ∨ rReprD X.K vs H Q) ∨ rReprF X.K vs H Q) := (call_reprDE hg hu).or (call_reprFd hg hu)
end
end Mn
set_option Elab.async false
set_option linter.all false
set_option maxRecDepth 100000
set_option maxHeartbeats 4000000
/-! MnFp: defs as values: the boxes at the law's own call. -/
namespace Mn
open PySem PySem.Spec PyProof.Rows L2
theorem HR.fns {K : PySem.W.Frag} {H : Hp} {ρ : List Addr} {S : Bxs} {ts : List (Str × Addr)} (h : HR K H ρ S) (ht : ∀ t ∈ ts, PySem.W.nsIn K mainGlobals t.1 = some (some (.ref t.2))) : HR K H (ρ ++ ts.map (·.2)) (S ++ ts.map fun t => MBox.fnc t.1) := by
  have pre : ρ <+: ρ ++ ts.map (·.2) := List.prefix_append _ _
  have old : ∀ (n : Nat) b, n < S.length → (S ++ ts.map fun t => MBox.fnc t.1)[n]? = some b → S[n]? = some b := fun n b hl e => by rw [List.getElem?_append_left hl] at e; exact e
  have mus : ∀ (n : Nat) b, (S ++ ts.map fun t => MBox.fnc t.1)[n]? = some b → b.mu = true → S[n]? = some b := fun n b e hb => by
    by_cases hl : n < S.length
    · exact old n b hl e
    · rw [List.getElem?_append_right (by omega), List.getElem?_map] at e
      cases e1 : ts[n - S.length]? with
      | none => rw [e1] at e; cases e
      | some t => rw [e1] at e; cases e; cases hb
  have reg : ∀ (n : Nat) x a, S[n]? = some x → (ρ ++ ts.map (·.2))[n]? = some a → ρ[n]? = some a := fun n x a e1 e2 => by
    rw [List.getElem?_append_left (by rw [h.len]; exact (List.getElem?_eq_some_iff.mp e1).1)] at e2; exact e2
  refine ⟨by simp [h.len], fun n b e => ?_, fun n m b c x h1 h2 hb hc h3 h4 => ?_⟩
  · by_cases hl : n < S.length
    · obtain ⟨a, h1, h2⟩ := h.at_ n b (old n b hl e)
      exact ⟨a, pre_get pre h1, h2.mono (Ext.refl H) pre fun _ => rfl⟩
    · rw [List.getElem?_append_right (by omega), List.getElem?_map] at e
      cases e1 : ts[n - S.length]? with
      | none => rw [e1] at e; cases e
      | some t =>
        rw [e1] at e
        cases e
        refine ⟨t.2, ?_, ht t (List.mem_of_getElem? e1)⟩
        rw [List.getElem?_append_right (by rw [h.len]; omega), List.getElem?_map, h.len, e1]; rfl
  · have q1 := mus n b h1 hb
    have q2 := mus m c h2 hc
    exact h.inj n m b c x q1 q2 hb hc (reg n _ _ q1 h3) (reg m _ _ q2 h4)
def withFns (fs : List Str) (F : FN) : FN := fun ds S => F ds (S ++ fs.map MBox.fnc)
theorem FnD.fns {P : Program} {w : World} {K : PySem.W.Frag} {mg : Str → Option Value} {base : Heap} {CX : CXT} {eo : XK → ER} {k : Nat} {f : Addr} {fd : FuncData} {ps : List Str} {F : FN} (h : FnD P w K mg base CX eo k f fd ps F) (ts : List (Str × Addr)) (ht : ∀ t ∈ ts, PySem.W.nsIn K mainGlobals t.1 = some (some (.ref t.2))) :
    FnD P w K mg base CX eo k f fd ps (withFns (ts.map (·.1)) F) := ⟨fun A outer s H args us vs ρ S ds Q E hg hr e0 b r hl hR dvs hs => by
  have t : To H H ρ (ρ ++ ts.map (·.2)) := ⟨Ext.refl H, List.prefix_append _ _⟩
  have hs : (F ds (S ++ (ts.map (·.1)).map MBox.fnc)).Sat (KO K H ρ Q) (KX (eo E) H ρ) := hs
  rw [List.map_map] at hs
  exact h.run A outer s H args us vs _ _ ds Q E hg hr e0 b r hl (hR.fns ht) (dvs.mono t.ext t.pre) (Rs.Sat.toO t hs)⟩
/-- the defs that a slot may hold -/
theorem fd_nil {P : Program} {w : World} {K : PySem.W.Frag} {mg : Str → Option Value} {base : Heap} {CX : CXT} {eo : XK → ER} {k : Nat} {ps : List Str} : ∀ y F, ([] : List (Str × FN)).lookup y = some F → ∃ f fd, PySem.W.nsIn K mainGlobals y = some (some (.ref f)) ∧ FnD P w K mg base CX eo k f fd ps F ∧ PySem.W.keepIn K (.ref f) = true ∧ Binds K fd ps [] := fun _ _ h => nomatch h
theorem fd_cons {P : Program} {w : World} {K : PySem.W.Frag} {mg : Str → Option Value} {base : Heap} {CX : CXT} {eo : XK → ER} {k : Nat} {ps : List Str} {x : Str} {F0 : FN} {L : List (Str × FN)} {f : Addr} {fd : FuncData} (h1 : PySem.W.nsIn K mainGlobals x = some (some (.ref f))) (h2 : FnD P w K mg base CX eo k f fd ps F0) (h3 : PySem.W.keepIn K (.ref f) = true) (h4 : Binds K fd ps [])
    (r : ∀ y F, L.lookup y = some F → ∃ f fd, PySem.W.nsIn K mainGlobals y = some (some (.ref f)) ∧ FnD P w K mg base CX eo k f fd ps F ∧ PySem.W.keepIn K (.ref f) = true ∧ Binds K fd ps []) : ∀ y F, ((x, F0) :: L).lookup y = some F → ∃ f fd, PySem.W.nsIn K mainGlobals y = some (some (.ref f)) ∧ FnD P w K mg base CX eo k f fd ps F ∧ PySem.W.keepIn K (.ref f) = true ∧ Binds K fd ps [] := fun y F h => by
  rw [List.lookup_cons] at h
  split at h
  · rename_i e
    have e := eq_of_beq e
    subst e
    cases h
    exact ⟨f, fd, h1, h2, h3, h4⟩
  · exact r y F h
end Mn
set_option Elab.async false
set_option linter.all false
set_option maxRecDepth 100000
set_option maxHeartbeats 4000000
/-! MnFq: a text in a text; len(set(..)) of texts that differ. -/
namespace Mn
open PySem PySem.Spec PyProof.Rows L2
section
variable {X : Cx} {Er : ER} {K : PySem.W.Frag} {H H1 : Hp} {ρ ρ1 : List Addr} {σ : Sg} {S S1 : Bxs} {τ : L2.St} {pins : List (Addr × Obj)}
def inTx (y x : Str) : Bool := !(Builtin.Str.occurrences x y 0 x.length 1).isEmpty
def rInS (neg : Bool) : R2 := fun a b H Q => ∃ y x, a = .str y ∧ b = .str x ∧ Q (.bl (if neg then !inTx y x else inTx y x)) H
theorem op_ninSt : OpR X (compareOp .NotIn) (rInS true) := by
  rintro pins s σ H a b v u Q I ra rb ⟨y, x, rfl, rfl, q⟩
  obtain ⟨t1, rfl⟩ := ra
  obtain ⟨t2, rfl⟩ := rb
  exact P.notIn_str ⟨.bl _, H, I, rfl, q⟩
def inSG (neg : Bool) : G2 := fun a b S => match a, b with
  | .str y, .str x => .ok (.bl (if neg then !inTx y x else inTx y x)) S
  | _, _ => .no
theorem inSG_calm (neg : Bool) : Calm2 (inSG neg) := by
  intro x y S
  unfold inSG
  split
  · exact calm_ok _ _
  · exact calm_no
theorem ro_inS {neg : Bool} : RO K (rInS neg) (inSG neg) := by
  intro H ρ S x y xv yv Q hr dx dy h
  cases dx with
  | str a =>
    cases dy with
    | str b => exact ⟨a, b, rfl, rfl, ko_here hr h (.bl _)⟩
    | _ => exact (show False from h).elim
  | non => cases dy <;> exact (show False from h).elim
  | bl _ => cases dy <;> exact (show False from h).elim
  | int _ => cases dy <;> exact (show False from h).elim
  | tup _ _ => cases dy <;> exact (show False from h).elim
  | box _ => cases dy <;> exact (show False from h).elim
end
/-! ### a set of texts -/
section
variable {pr : Program} {w : World} {A : Around} {R : Result → Shared → Prop} {it : Addr} {fp wr : List Addr} {G : Array GenState → Array GenState → Prop} {n : Nat} {Pv : Nat → Value → Prop} {St : Nat → Shared → Prop}
abbrev inZs (zs : List Str) (i : Nat) : Str → Bool := fun y => (zs.take i).any (· == y)
theorem grow_set {h : Heap} {D : Addr} {zs : List Str} {i : Nat} (nd : zs.Nodup) (hi : i < zs.length)
    (q : h.SetOf (PySem.strKind pr w) D (fun y => inZs zs i y || decide (y = zs.getD i Str.empty)) (if inZs zs i (zs.getD i Str.empty) then i else i + 1)) : h.SetOf (PySem.strKind pr w) D (inZs zs (i + 1)) (i + 1) := by
  have eg : zs.getD i Str.empty = zs[i] := by rw [List.getD_eq_getElem?_getD, List.getElem?_eq_getElem hi]; rfl
  rw [eg] at q
  have no : inZs zs i zs[i] = false := by
    refine List.any_eq_false.mpr fun y hy e => ?_
    have e := eq_of_beq e
    obtain ⟨j, hj⟩ := List.mem_iff_getElem?.mp hy
    rw [List.getElem?_take] at hj
    split at hj
    · rename_i hji
      obtain ⟨hl, e2⟩ := List.getElem?_eq_some_iff.mp hj
      exact absurd (e2.trans e) (List.pairwise_iff_getElem.mp nd j i hl hi hji)
    · cases hj
  rw [no] at q
  refine PyProof.Rows.SetOf_congr q (fun y => ?_) (by simp)
  show _ = (zs.take (i + 1)).any (· == y)
  rw [List.take_add_one, List.getElem?_eq_getElem hi, List.any_append]
  show (_ || decide (y = zs[i])) = (_ || ([zs[i]].any (· == y)))
  congr 1
  by_cases e : y = zs[i]
  · rw [e]; simp
  · have e3 : (zs[i] == y) = false := beq_eq_false_iff_ne.mpr fun e2 => e e2.symm
    simp [e, e3]
theorem turns_set (W : WalksS pr w A.in1 it fp wr G n Pv St) (D : Addr) (hD : D ∉ fp) (zs : List Str) (nd : zs.Nodup) (hz : zs.length = n) (hb : n + 1 < scanBound) (vals : ∀ i v, Pv i v → ∃ t, v = .str (zs.getD i Str.empty) t)
    (last : ∀ s', Moved (D :: wr) G s0 s' → s'.heap.SetOf (PySem.strKind pr w) D (inZs zs n) n → R (.ok (.ret .none)) s') :
    ∀ (m i : Nat) (s : Shared), n - i = m → i ≤ n → St i s → Moved (D :: wr) G s0 s → s.heap.SetOf (PySem.strKind pr w) D (inZs zs i) i → codeAny (model pr w) A (.builtin "set.update.loop" ⟨[.ref D, .ref it], []⟩) R s := by
  have hw : D ∉ wr := fun z => hD (W.sub _ z)
  have sub : ∀ b ∈ wr, b ∈ D :: wr := fun b z => List.mem_cons_of_mem _ z
  intro m
  induction m with
  | zero =>
    intro i s e1 e2 st mv q
    obtain rfl : i = n := by omega
    refine codeAny_builtin F.entry_set_update_loop ?_
    rw [Around.under_plainId F.plain_set_update_loop _]
    refine (show wpAny _ A.in1 (pyNext (.ref it) >>= _) _ _ s from wpAny_bind (W.done s _ _ st fun s' mv2 => ?_))
    obtain ⟨o, es, ep, tb, ho, rest⟩ := q
    exact (show wpAny _ A.in1 (ret Value.none) _ _ s' from wpAny_pure (last s' (Moved.trans W.gtrans mv (mv2.mono sub)) ⟨o, es, ep, tb, mv2.heap D _ hw ho, rest⟩))
  | succ m ih =>
    intro i s e1 e2 st mv q
    have lt : i < n := by omega
    refine codeAny_builtin F.entry_set_update_loop ?_
    rw [Around.under_plainId F.plain_set_update_loop _]
    refine (show wpAny _ A.in1 (pyNext (.ref it) >>= _) _ _ s from wpAny_bind (W.item i s _ _ lt st fun v s' pv st2 mv2 => ?_))
    obtain ⟨t, rfl⟩ := vals i v pv
    have q2 : s'.heap.SetOf (PySem.strKind pr w) D (inZs zs i) i := let ⟨o, es, ep, tb, ho, rest⟩ := q; ⟨o, es, ep, tb, mv2.heap D _ hw ho, rest⟩
    refine (show wpAny _ A.in1 (holding [Value.str (zs.getD i Str.empty) t] (setAdd D (.str (zs.getD i Str.empty) t)) >>= _) _ _ s' from wpAny_bind (wpAny_holding ?_))
    unfold setAdd
    refine wpAny_holding (wpAny_bind ((PySem.strKind pr w).pyHash (k := zs.getD i Str.empty) (strKind_is _ _ _ _) ?_))
    refine wpAny_setAddHashed_of (knd := PySem.strKind pr w) (s := { s' with toks := s'.toks + 1 }) (strKind_is _ _ _ _) rfl q2 (by omega) fun h' sb q3 => ?_
    have q4 := grow_set nd (by omega) q3
    refine wpAny_pure ⟨plainId_quiet F.plain_set_update_loop _, ih (i + 1) _ (by omega) lt (W.frame _ s' _ _ st2 (Nat.le_succ _) fun b z o e => ?_) ?_ q4⟩
    · rw [sb.2 b fun y : b = D => hD (y ▸ z)]; exact e
    · refine Moved.trans W.gtrans mv ((mv2.mono sub).then_heap (Nat.le_succ _) fun b o z e => ?_)
      rw [sb.2 b fun y : b = D => z (by rw [y]; exact List.mem_cons_self)]; exact e
end
section
variable {pr : Program} {w : World} {A : Around} {E : Value → Shared → Prop} {s : Shared}
abbrev newSet (led : Bool) : Obj := { cls := .type "set", dict := none, data := .set #[] 0 (.fresh 0 0 led) }
set_option maxHeartbeats 8000000 in
theorem set_of_texts {l : Addr} {items : Array Value} {zs : List Str} {Q : Value → Shared → Prop} (hh : A.handled = none) (hl : s.heap.IsTuple l items) (hi : PyProof.Rows.StrsAre items.toList zs) (nd : zs.Nodup) (hb : zs.length + 1 < scanBound)
    (h : ∀ (h' : Heap) (tk : Nat), h'.SetOf (PySem.strKind pr w) s.heap.objs.size (inZs zs zs.length) zs.length → (∀ b o, b < s.heap.objs.size → s.heap.get? b = some o → h'.get? b = some o) → Q (.ref s.heap.objs.size) { s with heap := h', toks := tk }) :
    wpAny (model pr w) A (call (.type "set") [.ref l]) Q E s := by
  have cs := PySem.F.called_set
  obtain ⟨c, tl, cs_mro⟩ := cs.mro
  have cs_made := cs.made; have cs_sub := cs.sub; have cs_nt := cs.notType; have cs_cc := cs.canCreate
  have cs_tc := PySem.F.typeCall_set_1 (.ref l)
  refine wpAny_call (codeAny_of_tree (show wpAny _ _ (callAny (.type "set") _) _ _ _ from wpAny_pure ⟨Code.quiet_builtin _ (by decide +kernel), codeAny_builtin PySem.F.entry_type_call ?_⟩))
  rw [Around.under_plain (weight_type_call_type "set" [.ref l] []) rfl]
  repeat (any_goals (first | assumption | wp_step))
  refine codeAny_mono (code_set_new_1 (.ref l) (E := E) (Q₁ := fun ob s1 => ∃ led, ob = .ref s.heap.objs.size ∧ s1 = { s with heap := s.heap.push (newSet led) }) fun led => ⟨led, rfl, rfl⟩) fun r s1 hr => ?_
  cases r with
  | error e => exact hr
  | ok fl =>
    cases fl <;> first | exact hr.elim | skip
    rename_i ob
    obtain ⟨led, rfl, rfl⟩ := hr
    have at1 : (s.heap.push (newSet led)).get? s.heap.objs.size = some (newSet led) := Heap.get?_push_size _ rfl
    have ty1 : Shared.TypeIs { s with heap := s.heap.push (newSet led) } (.ref s.heap.objs.size) "set" := ⟨_, at1, rfl⟩
    have il := cs.init.lookup
    have ib := cs.init.bind (.ref s.heap.objs.size)
    repeat (any_goals (first | assumption | wp_step))
    refine codeAny_mono (codeAny_call_builtin (R := wants (fun r s2 => r = .none ∧ ∃ h' tk, s2 = { s with heap := h', toks := tk } ∧ h'.SetOf (PySem.strKind pr w) s.heap.objs.size (inZs zs zs.length) zs.length ∧ (∀ b o, b < s.heap.objs.size → s.heap.get? b = some o → h'.get? b = some o)) E) cs.init.plain PySem.F.entry_set_init (check_set_init_1 ty1 ?_)) fun r2 s2 hr2 => ?_
    · obtain ⟨⟨oc, od, ot, os⟩, g1, g2, nl, g3⟩ := hl
      simp only at g2 g3
      subst g2 g3
      have at2 : (s.heap.push (newSet led)).get? l = some { cls := .type "tuple", dict := od, data := .seq items nl, slots := os } := Heap.get?_push_of_some _ g1
      have s_ts := PySem.F.sub_tuple_set; have s_tf := PySem.F.sub_tuple_frozenset
      have t_ne : (Value.type "tuple" == Value.type "dict") = false := by decide
      have tup1 : (s.heap.push (newSet led)).IsTuple l items := ⟨_, at2, rfl, nl, rfl⟩
      unfold Builtin.«set.__init__» noKeywords Builtin.Frozenset.updateFrom; generalize eP : pyIter = PI
      wp_walk
      subst eP
      refine wpAny_pyIter_tuple tup1 (wpAny_bind (wpAny_runValue ?_))
      have ls : l < s.heap.objs.size := Heap.lt_size g1
      have sz : (s.heap.push (newSet led)).objs.size = s.heap.objs.size + 1 := by rw [Heap.size_push]
      have ne1 : l ≠ (s.heap.push (newSet led)).objs.size := by rw [sz]; exact Nat.ne_of_lt (Nat.lt_succ_of_lt ls)
      have hz : zs.length = items.size := by rw [← StrsAre.len_eq hi, Array.length_toList]
      have at3 : ((s.heap.push (newSet led)).push { cls := .type "tuple_iterator", data := .fields #[.ref l, .int 0 0] }).get? s.heap.objs.size = some (newSet led) := Heap.get?_push_of_some _ at1
      have vals : ∀ (i : Nat) (v : Value), items[i]? = some v → ∃ t, v = .str (zs.getD i Str.empty) t := fun i v hv => SS.strs_at hi i v (by rw [Array.getElem?_toList, hv])
      refine turns_set (zs := zs) ((Walks.tuple (by simp [hh]) _ l ne1 items).toS) s.heap.objs.size ?out nd hz (by rw [← hz]; exact hb) vals ?last (items.size - 0) 0 _ (by omega) (Nat.zero_le _) ⟨⟨_, Heap.get?_push_size _ rfl, rfl, rfl⟩, tup1.push _⟩ (Moved.refl fun _ => rfl) ?first
      case out =>
        intro z
        rcases List.mem_cons.mp z with z | z
        · rw [sz] at z; exact absurd z (Nat.ne_of_lt (Nat.lt_succ_self _))
        · rw [List.mem_singleton] at z; exact absurd z (Nat.ne_of_gt ls)
      case first =>
        exact PyProof.Rows.SetOf_congr ((PyProof.Rows.setObjOf_fresh (knd := PySem.strKind pr w) led).setOf at3 (by omega)) (fun _ => rfl) rfl
      case last =>
        rintro ⟨h', g', d', tk', os'⟩ mv q
        have eg : g' = s.gens := mv.gens
        have ed : d' = s.drawn := mv.drawn
        have eo : os' = s.os := mv.os
        subst eg ed eo
        rw [← hz] at q
        refine (show wpAny _ _ _ _ _ _ from wpAny_pure (show wpAny _ _ (ret Value.none) _ _ _ from wpAny_pure ⟨rfl, h', tk', rfl, q, fun b o z e => ?_⟩))
        refine mv.heap b o (fun y => ?_) (Heap.get?_push_of_some _ (Heap.get?_push_of_some _ e))
        simp only [List.mem_cons, List.not_mem_nil, or_false, sz] at y
        rcases y with y | y
        · exact Nat.lt_irrefl _ (y ▸ z)
        · rw [y] at z; exact absurd z (Nat.not_lt.mpr (Nat.le_succ _))
    · cases r2 with
      | error e => exact hr2
      | ok fl2 =>
        cases fl2 <;> first | exact hr2.elim | skip
        obtain ⟨rfl, h', tk, rfl, q1, q2⟩ := hr2
        repeat (any_goals (first | assumption | wp_step))
        exact h _ _ q1 q2
end
end Mn
set_option Elab.async false
set_option linter.all false
set_option maxRecDepth 100000
set_option maxHeartbeats 4000000
/-! MnFr: len(set(..)) of a tuple of texts that differ, as a program. -/
namespace Mn
open PySem PySem.Spec PyProof.Rows L2
section
variable {X : Cx} {Er : ER} {K : PySem.W.Frag} {H H1 : Hp} {ρ ρ1 : List Addr} {σ : Sg} {S S1 : Bxs} {τ : L2.St}
def tLenSetS (K : PySem.W.Frag) (ta : TE) : TE := fun σ H Q => ta σ H fun x H1 => ∃ l, ∃ zs : List Str, x = .ref l ∧ SqT K H1 l (zs.map V.str) ∧ zs.Nodup ∧ zs.length ≤ 1000 ∧ Q (.int (zs.length : Nat)) H1
theorem pe_lenSetS {a : Expr} {ta : TE} {p p2 q pos : Pos} (hc : X.calm = true) (hg : Gl X "len") (hm : X.mg "len" = none) (hg2 : Gl X "set") (hm2 : X.mg "set" = none) (ha : PE X a ta)
    (na : starEach [a] X.env = (false, eval a X.env) :: starEach [] X.env := by rfl) : PE X (.Call (.Name "len" p) [.Call (.Name "set" p2) [a] [] q] [] pos) (tLenSetS X.K ta) := by
  refine ⟨fun pins s σ H Q I h => Call_ (ld_blt I hg hm boot_len (PyProof.Rows.callWith_builtin1 (PyProof.Rows.args_cons ?_ rfl) rfl rfl))⟩
  refine Call_ (ld_blt I hg2 hm2 boot_set (PyProof.Rows.callWith_type1 (PyProof.Rows.args_cons (thn (ha.run pins s σ H _ I h) fun v s1 ⟨x, H1, I1, r1, q1⟩ => PyProof.Rows.args_nil ?_) na) na rfl))
  obtain ⟨l, zs, rfl, hq, nd, h1, q1⟩ := q1
  cases r1
  obtain ⟨its, r, pl, hz⟩ := I1.tuple hq
  refine set_of_texts (I1.ok.hd hc) pl (by simpa using strsAre_of r) nd (Nat.lt_of_le_of_lt (Nat.succ_le_succ h1) (by decide)) fun h' tk hS hk => PyProof.Rows.args_nil ?_
  obtain ⟨o, es, ep, t, ho, hex, hd, _, _, _, hf, hn⟩ := hS
  have I2 : Inv X pins σ H1 { s1 with heap := h', toks := tk } := I1.kept fun b o e => hk b o (Heap.lt_size e) e
  exact call_len_set ho hex hd hf (by rw [hn] <;> omega) ⟨.int (zs.length : Nat), H1, I2.tok _, ⟨_, by rw [hn]⟩, q1⟩
def dLenSetS (f : FE) : FE := fun σ S => (f σ S).bind fun d S1 => match d with
  | .tup ds => match strsD ds with
    | some zs => if zs.Nodup ∧ zs.length ≤ 1000 then .ok (.int (zs.length : Nat)) S1 else .no
    | none => .no
  | _ => .no
theorem se_lenSetS {a : Expr} {f : FE} {p p2 q pos : Pos} (hc : X.calm = true) (hg : Gl X "len") (hm : X.mg "len" = none) (hg2 : Gl X "set") (hm2 : X.mg "set" = none) (ha : SE X Er a f)
    (na : starEach [a] X.env = (false, eval a X.env) :: starEach [] X.env := by rfl) : SE X Er (.Call (.Name "len" p) [.Call (.Name "set" p2) [a] [] q] [] pos) (dLenSetS f) := by
  obtain ⟨te, pe, q⟩ := ha.ex
  refine ⟨_, pe_lenSetS hc hg hm hg2 hm2 pe na, fun τ H ρ σ S Q T h => q τ H ρ σ S _ T ((link h).mono (fun d S1 h1 => ?_) fun _ _ _ q => q)⟩
  intro v H1 ρ1 t1 hr1 dv
  cases dv <;> first | exact h1.elim | skip
  rename_i a ds vs ht hd
  dsimp only at h1
  split at h1
  · rename_i zs e
    obtain ⟨⟨c1, c2⟩, h1⟩ := ite_sat h1
    have hv := strsD_v hd e
    subst hv
    exact ⟨a, zs, rfl, ht.sqt, c1, c2, ko_here hr1 (fun v H' ρ' t' => h1 v H' ρ' (t1.trans t')) (.int _)⟩
  · exact h1.elim
theorem w_lenSetS {f : FE} {E : Nat → List Dt → Bxs → Prop} {P : Dt → Bxs → Prop} (h : (f σ S).Wp (fun d S1 => ∃ zs : List Str, d = .tup (zs.map Dt.str) ∧ zs.Nodup ∧ zs.length ≤ 1000 ∧ P (.int (zs.length : Nat)) S1) E) : (dLenSetS f σ S).Wp P E := by
  refine w_bind (h.mono (fun d S1 ⟨zs, e, nd, hl, q⟩ => ?_) fun _ _ _ q => q)
  subst e
  have e2 : ∀ ws : List Str, strsD (ws.map Dt.str) = some ws := fun ws => by
    induction ws with
    | nil => rfl
    | cons z ws ih => show (strsD (ws.map Dt.str)).map (z :: ·) = _; rw [ih]; rfl
  show (match strsD (zs.map Dt.str) with
    | some zs => if zs.Nodup ∧ zs.length ≤ 1000 then Rs.ok (Dt.int (zs.length : Nat)) S1 else .no
    | none => .no).Wp P E
  rw [e2]
  dsimp only
  rw [if_pos ⟨nd, hl⟩]
  exact ⟨q⟩
end
end Mn
set_option Elab.async false
set_option linter.all false
set_option maxRecDepth 100000
set_option maxHeartbeats 4000000
namespace Lw
open PySem PySem.Spec PyProof.Rows L2 Mn
noncomputable def B__law_bag : FS :=
  sRet (dLst (aCons (dC (.int 0)) (aCons (dC (.int 1234567891)) (aCons (dC (.int 0)) (aCons (dLc (srcSeq (dSl (dVar 0) (oNone) (oSome (dC (.int 63))))) (tName 1) (bYes) (dCall absG (aCons (dVar 1) (aNil))) [1]) (aNil))))))
noncomputable def F__law_bag : FN := bodyF 2 B__law_bag
noncomputable def B__law_take : FS :=
  sCons (sIf (dTrue (dBin (eqG false) (dBin ixG (dVar 0) (dC (.int 0))) (dC (.int 0)))) (sCons (sSet 2 (dBin ixG (dBin addG (dSl (dBin ixG (dVar 0) (dC (.int 3))) (oSome (dBin ixG (dVar 0) (dC (.int 2)))) (oNone)) (dLst (aCons (dC (.int 0)) (aNil)))) (dC (.int 0)))) (sCons (sAugS (dVar 0) (dC (.int 2)) addI (dC (.int 1))) (sCons (sIf (dTrue (dBin geG (dVar 2) (dBin powG (dC (.int 10)) (dC (.int 18))))) (sAsg (dVar 2) (tSubG (dVar 0) (dC (.int 0)))) (sNil)) (sCons (sSet 3 (dBin addG (dBin addG (dBin mulG (dBin ixG (dVar 0) (dC (.int 1))) (dC (.int 48271))) (dBin modG (dCall intG (aCons (dVar 2) (aNil))) (dC (.int 2147483647)))) (dBin mulG (dC (.int 7919)) (dBin ixG (dVar 0) (dC (.int 2)))))) (sAsg (dBin modG (dCall intG (aCons (dVar 3) (aNil))) (dC (.int 2147483647))) (tSubG (dVar 0) (dC (.int 1)))))))) (sNil)) (sCons (sIf (dTrue (dBin gtG (dBin ixG (dVar 0) (dC (.int 0))) (dC (.int 0)))) (sCons (sSet 4 (dBin modG (dCall intG (aCons (dBin ixG (dVar 0) (dC (.int 0))) (aNil))) (dVar 1))) (sCons (sAsg (dBin fdivG (dCall intG (aCons (dBin ixG (dVar 0) (dC (.int 0))) (aNil))) (dVar 1)) (tSubG (dVar 0) (dC (.int 0)))) (sRet (dVar 4)))) (sNil)) (sCons (sSet 5 (dBin modG (dCall intG (aCons (dBin mulG (dBin addG (dBin ixG (dVar 0) (dC (.int 1))) (dC (.int 1))) (dC (.int 39373))) (aNil))) (dC (.int 1000000007)))) (sCons (sSet 6 (dBin modG (dCall intG (aCons (dBin mulG (dBin modG (dCall intG (aCons (dBin mulG (dVar 5) (dVar 5)) (aNil))) (dC (.int 998244353))) (dC (.int 30011))) (aNil))) (dC (.int 998244353)))) (sRet (dBin modG (dCall intG (aCons (dBin fdivG (dVar 6) (dC (.int 7))) (aNil))) (dVar 1))))))
noncomputable def F__law_take : FN := bodyF 7 B__law_take
noncomputable def B__law_one : FS :=
  sRet (dBin ixG (dVar 1) (dCall F__law_take (aCons (dVar 0) (aCons (dCall lenG (aCons (dVar 1) (aNil))) (aNil)))))
noncomputable def F__law_one : FN := bodyF 2 B__law_one
noncomputable def B__law_mixed : FS :=
  sCons (sSet 2 (dLst (aNil))) (sCons (sFor (srcSeq (dVar 1)) (tName 3) (sExpr (dMeth "list" insertG (dVar 2) (aCons (dCall F__law_take (aCons (dVar 0) (aCons (dBin addG (dCall lenG (aCons (dVar 2) (aNil))) (dC (.int 1))) (aNil)))) (aCons (dVar 3) (aNil)))))) (sRet (dVar 2)))
noncomputable def F__law_mixed : FN := bodyF 4 B__law_mixed
noncomputable def B__law_names : FS :=
  sCons (sSet 2 (dLst (aCons (dC (.str "a")) (aCons (dC (.str "b")) (aCons (dC (.str "c")) (aCons (dC (.str "d")) (aCons (dC (.str "ab")) (aCons (dC (.str "to")) (aCons (dC (.str "by")) (aCons (dC (.str "with")) (aCons (dC (.str "kinds")) (aCons (dC (.str "hands")) (aCons (dC (.str "recipe")) (aCons (dC (.str "run")) (aCons (dC (.str "places")) (aNil)))))))))))))))) (sRet (dSl (dCall F__law_mixed (aCons (dVar 0) (aCons (dBin addG (dVar 2) (dLst (aCons (dC (.str "arrow")) (aCons (dC (.str "gym")) (aCons (dC (.str "jvl")) (aCons (dC (.str "zzzzzz")) (aCons (dC (.str "x")) (aCons (dC (.str "fq")) (aNil))))))))) (aNil)))) (oNone) (oSome (dVar 1))))
noncomputable def F__law_names : FN := bodyF 3 B__law_names
noncomputable def B__law_recipe : FS :=
  sCons (sSet 4 (dCall F__law_take (aCons (dVar 0) (aCons (dVar 1) (aNil))))) (sCons (sPar3 5 6 7 (aCons (dLst (aCons (dC (.int 0)) (aCons (dC (.int 1)) (aCons (dC (.int 0)) (aCons (dBin addG (dC (.int 1)) (dCall F__law_take (aCons (dVar 0) (aCons (dVar 3) (aNil))))) (aNil)))))) (aCons (dBin mulG (dLst (aCons (dC (.int 0)) (aNil))) (dVar 1)) (aCons (dBin mulG (dLst (aCons (dC (.int 0)) (aNil))) (dVar 1)) (aNil))))) (sCons (sFor (srcR1 (aCons (dVar 1) (aNil))) (tName 8) (sIf (dTrue (dBin ltG (dVar 8) (dVar 4))) (sAsg (dCall F__law_one (aCons (dVar 0) (aCons (dVar 5) (aNil)))) (tSubG (dVar 6) (dVar 8))) (sIf (dAnd (dTrue (dBin gtG (dVar 8) (dVar 4))) (dTrue (dBin (eqG false) (dCall F__law_take (aCons (dVar 0) (aCons (dC (.int 2)) (aNil)))) (dC (.int 0))))) (sAsg (dCall F__law_one (aCons (dVar 0) (aCons (dVar 5) (aNil)))) (tSubG (dVar 7) (dVar 8))) (sNil)))) (sCons (sAsg (dCall F__law_one (aCons (dVar 0) (aCons (dLst (aCons (dC (.int 1)) (aCons (dC (.int 1)) (aCons (dC (.int 1)) (aCons (dC (.int 2)) (aCons (dBin addG (dC (.int 1)) (dCall F__law_take (aCons (dVar 0) (aCons (dVar 3) (aNil))))) (aNil))))))) (aNil)))) (tSubG (dVar 6) (dVar 4))) (sRet (dTup (aCons (dCall tupleG (aCons (dVar 6) (aNil))) (aCons (dCall tupleG (aCons (dVar 7) (aNil))) (aCons (dCall F__law_one (aCons (dVar 0) (aCons (dBin addG (dBin mulG (dCall listG (aCons (dVar 2) (aNil))) (dC (.int 2))) (dLst (aCons (dC .non) (aNil)))) (aNil)))) (aNil)))))))))
noncomputable def F__law_recipe : FN := bodyF 9 B__law_recipe
noncomputable def B__law_out : FS :=
  sCons (sSet 4 (dBin mulG (dLst (aCons (dC (.int 0)) (aNil))) (dVar 1))) (sCons (sAsg (dC (.int 1)) (tSubG (dVar 4) (dVar 2))) (sRet (dTup (aCons (dCall tupleG (aCons (dVar 4) (aNil))) (aCons (dBin mulG (dTup (aCons (dC (.int 0)) (aNil))) (dVar 1)) (aCons (dCall F__law_one (aCons (dVar 0) (aCons (dBin addG (dBin mulG (dCall listG (aCons (dVar 3) (aNil))) (dC (.int 3))) (dLst (aCons (dC .non) (aNil)))) (aNil)))) (aNil)))))))
noncomputable def F__law_out : FN := bodyF 5 B__law_out
noncomputable def B__law_works : FS :=
  sCons (sPar3 4 5 6 (aCons (dCall F__law_names (aCons (dVar 0) (aCons (dC (.int 8)) (aNil)))) (aCons (dBin addG (dC (.int 1)) (dCall F__law_take (aCons (dVar 0) (aCons (dVar 1) (aNil))))) (aCons (dCall F__law_take (aCons (dVar 0) (aCons (dBin addG (dVar 2) (dC (.int 1))) (aNil)))) (aNil))))) (sCons (sPar2 7 8 (aCons (dCall tupleG (aCons (dSl (dVar 4) (oSome (dVar 5)) (oSome (dBin addG (dVar 5) (dVar 6)))) (aNil))) (aCons (dLst (aNil)) (aNil)))) (sCons (sSet 9 (dCall F__law_one (aCons (dVar 0) (aCons (dLst (aCons (dC (.int 1)) (aCons (dC (.int 2)) (aCons (dC (.int 2)) (aCons (dC (.int 4)) (aNil)))))) (aNil))))) (sCons (sFor (srcR1 (aCons (dCall F__law_take (aCons (dVar 0) (aCons (dBin addG (dVar 3) (dC (.int 1))) (aNil)))) (aNil))) (tName 10) (sExpr (dMeth "list" appendG (dVar 8) (aCons (dCall F__law_recipe (aCons (dVar 0) (aCons (dVar 5) (aCons (dVar 7) (aCons (dVar 9) (aNil)))))) (aNil))))) (sCons (sFor (srcR1 (aCons (dVar 5) (aNil))) (tName 11) (sIf (dTrue (dBin gtG (dCall F__law_take (aCons (dVar 0) (aCons (dC (.int 4)) (aNil)))) (dC (.int 0)))) (sExpr (dMeth "list" appendG (dVar 8) (aCons (dCall F__law_out (aCons (dVar 0) (aCons (dVar 5) (aCons (dVar 11) (aCons (dVar 7) (aNil)))))) (aNil)))) (sNil))) (sCons (sIf (dAnd (dTrue (dBin (eqG true) (dVar 8) (dLst (aNil)))) (dTrue (dBin (eqG false) (dCall F__law_take (aCons (dVar 0) (aCons (dC (.int 6)) (aNil)))) (dC (.int 0))))) (sExpr (dMeth "list" appendG (dVar 8) (aCons (dCall F__law_one (aCons (dVar 0) (aCons (dVar 8) (aNil)))) (aNil)))) (sNil)) (sRet (dTup (aCons (dCall tupleG (aCons (dSl (dVar 4) (oNone) (oSome (dVar 5))) (aNil))) (aCons (dVar 7) (aCons (dCall tupleG (aCons (dSl (dCall F__law_mixed (aCons (dVar 0) (aCons (dVar 8) (aNil)))) (oNone) (oSome (dVar 3))) (aNil))) (aNil)))))))))))
noncomputable def F__law_works : FN := bodyF 12 B__law_works
noncomputable def B__law_last_taken : FS :=
  sRet (dCall maxG (aCons (dLc (srcR1 (aCons (dCall lenG (aCons (dBin ixG (dVar 0) (dC (.int 0))) (aNil))) (aNil))) (tName 1) (dTrue (dBin gtG (dBin ixG (dBin ixG (dVar 0) (dC (.int 0))) (dVar 1)) (dC (.int 0)))) (dVar 1) [1]) (aNil)))
noncomputable def F__law_last_taken : FN := bodyF 2 B__law_last_taken
noncomputable def B__law_worth : FS :=
  sRet (dCall sumG (aCons (dLc (srcZip (aCons (dVar 0) (aCons (dVar 1) (aNil)))) (tPairG (tConsG (tName 2) (tConsG (tName 3) (tNilG)))) (bYes) (dBin mulG (dVar 2) (dVar 3)) [2, 3]) (aNil)))
noncomputable def F__law_worth : FN := bodyF 4 B__law_worth
noncomputable def B__law_fair_tariff : FS :=
  sCons (sPar2 2 3 (aCons (dLc (srcSeq (dBin ixG (dVar 1) (dC (.int 0)))) (tName 8) (bYes) (dCall F__law_one (aCons (dVar 0) (aCons (dLst (aCons (dC (.int 0)) (aCons (dC (.int 1)) (aCons (dC (.int 2)) (aCons (dNeg (dC (.int 1))) (aCons (dC (.int 3)) (aCons (dBin subG (dCall F__law_take (aCons (dVar 0) (aCons (dC (.int 9)) (aNil)))) (dC (.int 4))) (aNil)))))))) (aNil)))) [8]) (aCons (dBin mulG (dLst (aCons (dC (.int 0)) (aNil))) (dCall lenG (aCons (dBin ixG (dVar 1) (dC (.int 1))) (aNil)))) (aNil)))) (sCons (sFor (srcSeq (dCall (sortKG F__law_last_taken true) (aCons (dBin ixG (dVar 1) (dC (.int 2))) (aNil)))) (tName 4) (sCons (sPar2 5 6 (aCons (dBin subG (dCall F__law_worth (aCons (dVar 2) (aCons (dBin ixG (dVar 4) (dC (.int 0))) (aNil)))) (dCall F__law_worth (aCons (dVar 2) (aCons (dBin ixG (dVar 4) (dC (.int 1))) (aNil))))) (aCons (dCall F__law_last_taken (aCons (dVar 4) (aNil))) (aNil)))) (sIf (dAnd (dTrue (dIsN (dBin ixG (dVar 4) (dC (.int 2))))) (dTrue (dBin gtG (dVar 5) (dC (.int 0))))) (sAugS (dVar 2) (dVar 6) subI (dNeg (dBin fdivG (dNeg (dVar 5)) (dBin ixG (dBin ixG (dVar 4) (dC (.int 0))) (dVar 6))))) (sIf (dTrue (dNotN (dBin ixG (dVar 4) (dC (.int 2))))) (sCons (sSet 7 (dMeth "tuple" tindexG (dBin ixG (dVar 1) (dC (.int 1))) (aCons (dBin ixG (dVar 4) (dC (.int 2))) (aNil)))) (sAsg (dCall maxG (aCons (dBin ixG (dVar 3) (dVar 7)) (aCons (dVar 5) (aNil)))) (tSubG (dVar 3) (dVar 7)))) (sNil))))) (sCons (sSet 3 (dLc (srcSeq (dVar 3)) (tName 9) (bYes) (dBin addG (dVar 9) (dCall F__law_one (aCons (dVar 0) (aCons (dLst (aCons (dC (.int 0)) (aCons (dC (.int 0)) (aCons (dC (.int 0)) (aCons (dC (.int 1)) (aNil)))))) (aNil))))) [9])) (sCons (sIf (dAnd (dTrue (dBin (eqG false) (dVar 2) (dBin mulG (dLst (aCons (dC (.int 0)) (aNil))) (dCall lenG (aCons (dVar 2) (aNil)))))) (dTrue (dBin (eqG false) (dCall maxG (aCons (dBin addG (dVar 3) (dLst (aCons (dC (.int 0)) (aNil)))) (aNil))) (dC (.int 0))))) (sAsg (dNeg (dC (.int 1))) (tSubG (dVar 2) (dC (.int 0)))) (sNil)) (sRet (dTup (aCons (dCall tupleG (aCons (dVar 2) (aNil))) (aCons (dCall tupleG (aCons (dVar 3) (aNil))) (aNil))))))))
noncomputable def F__law_fair_tariff : FN := bodyF 10 B__law_fair_tariff
noncomputable def B__law_turned : FS :=
  sCons (sPar2 2 3 (aCons (dCall listG (aCons (dBin ixG (dVar 1) (dC (.int 0))) (aNil))) (aCons (dCall listG (aCons (dBin ixG (dVar 1) (dC (.int 1))) (aNil))) (aNil)))) (sCons (sPar2 4 5 (aCons (dCall F__law_take (aCons (dVar 0) (aCons (dBin addG (dCall lenG (aCons (dVar 2) (aNil))) (dCall lenG (aCons (dVar 3) (aNil)))) (aNil)))) (aCons (dCall F__law_one (aCons (dVar 0) (aCons (dLst (aCons (dC (.int 1)) (aCons (dNeg (dC (.int 1))) (aNil)))) (aNil)))) (aNil)))) (sCons (sIf (dTrue (dBin ltG (dVar 4) (dCall lenG (aCons (dVar 2) (aNil))))) (sAugS (dVar 2) (dVar 4) addI (dVar 5)) (sAsg (dCall maxG (aCons (dC (.int 0)) (aCons (dBin addG (dBin ixG (dVar 3) (dBin subG (dVar 4) (dCall lenG (aCons (dVar 2) (aNil))))) (dVar 5)) (aNil)))) (tSubG (dVar 3) (dBin subG (dVar 4) (dCall lenG (aCons (dVar 2) (aNil))))))) (sCons (sIf (dAnd (dTrue (dBin (eqG false) (dVar 2) (dBin mulG (dLst (aCons (dC (.int 0)) (aNil))) (dCall lenG (aCons (dVar 2) (aNil)))))) (dTrue (dBin (eqG false) (dVar 3) (dBin mulG (dLst (aCons (dC (.int 0)) (aNil))) (dCall lenG (aCons (dVar 3) (aNil))))))) (sAsg (dC (.int 1)) (tSubG (dVar 2) (dC (.int 0)))) (sNil)) (sRet (dTup (aCons (dCall tupleG (aCons (dVar 2) (aNil))) (aCons (dCall tupleG (aCons (dVar 3) (aNil))) (aNil))))))))
noncomputable def F__law_turned : FN := bodyF 6 B__law_turned
noncomputable def B__law_times : FS :=
  sRet (dCall tupleG (aCons (dLc (srcSeq (dVar 0)) (tName 2) (bYes) (dBin mulG (dVar 2) (dVar 1)) [2]) (aNil)))
noncomputable def F__law_times : FN := bodyF 3 B__law_times
noncomputable def B_dot : FS :=
  sRet (dCall sumG (aCons (dLc (srcZip (aCons (dVar 0) (aCons (dVar 1) (aNil)))) (tPairG (tConsG (tName 2) (tConsG (tName 3) (tNilG)))) (bYes) (dBin mulG (dVar 2) (dVar 3)) [2, 3]) (aNil)))
noncomputable def F_dot : FN := bodyF 4 B_dot
noncomputable def B_worth : FS :=
  sRet (dCall F_dot (aCons (dBin ixG (dVar 0) (dC (.int 0))) (aCons (dVar 1) (aNil))))
noncomputable def F_worth : FN := bodyF 2 B_worth
noncomputable def B_pay : FS :=
  sRet (dCall F_dot (aCons (dBin ixG (dVar 0) (dC (.int 1))) (aCons (dVar 1) (aNil))))
noncomputable def F_pay : FN := bodyF 2 B_pay
noncomputable def B_used_up : FS :=
  sCons (sAsg (dVar 0) (tTupG 3 (tConsG (tName 1) (tConsG (tName 2) (tConsG (tName 3) (tNilG)))))) (sRet (dCall tupleG (aCons (dLc (srcZip (aCons (dVar 1) (aCons (dVar 2) (aNil)))) (tPairG (tConsG (tName 4) (tConsG (tName 5) (tNilG)))) (bYes) (dBin subG (dVar 4) (dVar 5)) [4, 5]) (aNil))))
noncomputable def F_used_up : FN := bodyF 6 B_used_up
noncomputable def B_wanted : FS :=
  sRet (dCall tupleG (aCons (dLc (srcSeq (dBin ixG (dVar 0) (dC (.int 1)))) (tName 2) (bYes) (dIf (dTrue (dBin (eqG false) (dVar 2) (dBin ixG (dVar 1) (dC (.int 2))))) (dC (.int 1)) (dC (.int 0))) [2]) (aNil)))
noncomputable def F_wanted : FN := bodyF 3 B_wanted
noncomputable def B__is_fair_for : FS :=
  sRet (dBin leG (dCall F_worth (aCons (dVar 1) (aCons (dCall F_used_up (aCons (dVar 2) (aNil))) (aNil)))) (dCall F_pay (aCons (dVar 1) (aCons (dCall F_wanted (aCons (dVar 0) (aCons (dVar 2) (aNil)))) (aNil)))))
noncomputable def F__is_fair_for : FN := bodyF 3 B__is_fair_for
noncomputable def B_is_fair : FS :=
  sRet (dCall (allG false) (aCons (dLc (srcSeq (dBin ixG (dVar 0) (dC (.int 2)))) (tName 2) (bYes) (dCall F__is_fair_for (aCons (dVar 0) (aCons (dVar 1) (aCons (dVar 2) (aNil))))) [2]) (aNil)))
noncomputable def F_is_fair : FN := bodyF 3 B_is_fair
noncomputable def B__law_alike : FS :=
  sRet (dAndV (dBin (eqG false) (dVar 0) (dVar 1)) (dBin (eqG false) (dCall reprG (aCons (dVar 0) (aNil))) (dCall reprG (aCons (dVar 1) (aNil)))))
noncomputable def F__law_alike : FN := bodyF 2 B__law_alike
noncomputable def B__law_is_fair : FS :=
  sCons (sFor (srcSeq (dBin ixG (dVar 0) (dC (.int 2)))) (tTupG 3 (tConsG (tName 2) (tConsG (tName 3) (tConsG (tName 4) (tNilG))))) (sCons (sSet 5 (dIf (dTrue (dIsN (dVar 4))) (dC (.int 0)) (dBin ixG (dBin ixG (dVar 1) (dC (.int 1))) (dMeth "tuple" tindexG (dBin ixG (dVar 0) (dC (.int 1))) (aCons (dVar 4) (aNil)))))) (sIf (dTrue (dBin gtG (dCall F__law_worth (aCons (dBin ixG (dVar 1) (dC (.int 0))) (aCons (dVar 2) (aNil)))) (dBin addG (dCall F__law_worth (aCons (dBin ixG (dVar 1) (dC (.int 0))) (aCons (dVar 3) (aNil)))) (dVar 5)))) (sRet (dC (.bl false))) (sNil)))) (sRet (dC (.bl true)))
noncomputable def F__law_is_fair : FN := bodyF 6 B__law_is_fair
noncomputable def B_law : FS :=
  sCons (sSet 1 (dCall F__law_bag (aCons (dVar 0) (aNil)))) (sCons (sFor (srcR1 (aCons (dC (.int 5)) (aNil))) (tName 2) (sCons (sSet 3 (dCall F__law_works (aCons (dVar 1) (aCons (dC (.int 5)) (aCons (dC (.int 3)) (aCons (dC (.int 8)) (aNil))))))) (sCons (sSet 4 (dCall F__law_fair_tariff (aCons (dVar 1) (aCons (dVar 3) (aNil))))) (sCons (sSet 5 (dLst (aCons (dVar 4) (aCons (dCall F__law_turned (aCons (dVar 1) (aCons (dVar 4) (aNil)))) (aCons (dCall F__law_turned (aCons (dVar 1) (aCons (dCall F__law_turned (aCons (dVar 1) (aCons (dVar 4) (aNil)))) (aNil)))) (aNil)))))) (sCons (sSet 6 (dCall F__law_one (aCons (dVar 1) (aCons (dLst (aCons (dC (.int 2)) (aCons (dC (.int 3)) (aCons (dBin powG (dC (.int 10)) (dC (.int 4))) (aNil))))) (aNil))))) (sCons (sExpr (dMeth "list" appendG (dVar 5) (aCons (dTup (aCons (dCall F__law_times (aCons (dBin ixG (dVar 4) (dC (.int 0))) (aCons (dVar 6) (aNil)))) (aCons (dCall F__law_times (aCons (dBin ixG (dVar 4) (dC (.int 1))) (aCons (dVar 6) (aNil)))) (aNil)))) (aNil)))) (sFor (srcSeq (dVar 5)) (tName 7) (sCons (sSet 8 (dCall F__law_one (aCons (dVar 1) (aCons (dLst (aCons (dLst (aCons (dC (.int 0)) (aCons (dC (.int 1)) (aCons (dC (.int 2)) (aNil))))) (aCons (dLst (aCons (dC (.int 9)) (aNil))) (aCons (dLst (aCons (dC (.int 0)) (aNil))) (aCons (dLst (aCons (dBin powG (dC (.int 10)) (dC (.int 9))) (aCons (dC (.int 0)) (aNil)))) (aNil)))))) (aNil))))) (sCons (sPar2 9 10 (aCons (dCall tupleG (aCons (dLc (srcSeq (dBin ixG (dVar 3) (dC (.int 0)))) (tName 13) (bYes) (dCall F__law_one (aCons (dVar 1) (aCons (dVar 8) (aNil)))) [13]) (aNil))) (aCons (dCall tupleG (aCons (dLc (srcSeq (dBin ixG (dVar 3) (dC (.int 1)))) (tName 14) (bYes) (dCall F__law_one (aCons (dVar 1) (aCons (dVar 8) (aNil)))) [14]) (aNil))) (aNil)))) (sCons (sSet 11 (dCall reprG (aCons (dLst (aCons (dVar 3) (aCons (dVar 7) (aCons (dVar 9) (aCons (dVar 10) (aNil)))))) (aNil)))) (sCons (sSet 12 (dLst (aCons (dCall F_is_fair (aCons (dVar 3) (aCons (dVar 7) (aNil)))) (aCons (dCall F_worth (aCons (dVar 7) (aCons (dVar 9) (aNil)))) (aCons (dCall F_pay (aCons (dVar 7) (aCons (dVar 10) (aNil)))) (aNil)))))) (sCons (sIf (dNot (dTrue (dCall F__law_alike (aCons (dVar 12) (aCons (dLst (aCons (dCall F__law_is_fair (aCons (dVar 3) (aCons (dVar 7) (aNil)))) (aCons (dCall F__law_worth (aCons (dBin ixG (dVar 7) (dC (.int 0))) (aCons (dVar 9) (aNil)))) (aCons (dCall F__law_worth (aCons (dBin ixG (dVar 7) (dC (.int 1))) (aCons (dVar 10) (aNil)))) (aNil))))) (aNil)))))) (sRet (dC (.bl false))) (sNil)) (sIf (dTrue (dBin (eqG true) (dCall reprG (aCons (dLst (aCons (dVar 3) (aCons (dVar 7) (aCons (dVar 9) (aCons (dVar 10) (aNil)))))) (aNil))) (dVar 11))) (sRet (dC (.bl false))) (sNil)))))))))))))) (sRet (dC (.bl true))))
noncomputable def F_law : FN := bodyF 15 B_law
noncomputable def B__law_links : FS :=
  sCons (sSet 3 (dBin addG (dLst (aCons (dC (.int 0)) (aNil))) (dCall F__law_mixed (aCons (dVar 0) (aCons (dListR2 (dC (.int 1)) (dVar 1)) (aNil)))))) (sCons (sSet 4 (dBin addG (dListZip (aCons (dVar 3) (aCons (dSl (dVar 3) (oSome (dC (.int 1))) (oNone)) (aNil)))) (dLst (aCons (dTup (aCons (dBin ixG (dVar 3) (dNeg (dC (.int 1)))) (aCons (dCall F__law_one (aCons (dVar 0) (aCons (dVar 3) (aNil)))) (aNil)))) (aNil))))) (sCons (sFor (srcR1 (aCons (dCall F__law_take (aCons (dVar 0) (aCons (dBin addG (dVar 2) (dC (.int 1))) (aNil)))) (aNil))) (tName 5) (sExpr (dMeth "list" appendG (dVar 4) (aCons (dTup (aCons (dCall F__law_take (aCons (dVar 0) (aCons (dVar 1) (aNil)))) (aCons (dCall F__law_take (aCons (dVar 0) (aCons (dVar 1) (aNil)))) (aNil)))) (aNil))))) (sRet (dCall F__law_mixed (aCons (dVar 0) (aCons (dVar 4) (aNil)))))))
noncomputable def F__law_links : FN := bodyF 6 B__law_links
noncomputable def B__law_any_sender : FS :=
  sCons (sPar2 4 5 (aCons (dBin addG (dC (.int 1)) (dCall F__law_take (aCons (dVar 0) (aCons (dVar 2) (aNil))))) (aCons (dLst (aNil)) (aNil)))) (sCons (sSet 6 (dCall F__law_links (aCons (dVar 0) (aCons (dVar 4) (aCons (dVar 3) (aNil)))))) (sCons (sFor (srcSeq (dSl (dVar 6) (oNone) (oSome (dCall F__law_one (aCons (dVar 0) (aCons (dLst (aCons (dCall lenG (aCons (dVar 6) (aNil))) (aCons (dCall lenG (aCons (dVar 6) (aNil))) (aCons (dCall F__law_take (aCons (dVar 0) (aCons (dBin addG (dCall lenG (aCons (dVar 6) (aNil))) (dC (.int 1))) (aNil)))) (aNil))))) (aNil))))))) (tTupG 2 (tConsG (tName 7) (tConsG (tName 8) (tNilG)))) (sCons (sSet 9 (dCall tupleG (aCons (dLc (srcSeq (dBin ixG (dVar 1) (dC (.int 0)))) (tName 10) (bYes) (dCall F__law_one (aCons (dVar 0) (aCons (dLst (aCons (dC (.int 0)) (aCons (dC (.int 0)) (aCons (dC (.int 1)) (aCons (dC (.int 0)) (aCons (dC (.int 2)) (aNil))))))) (aNil)))) [10]) (aNil)))) (sExpr (dMeth "list" appendG (dVar 5) (aCons (dTup (aCons (dVar 7) (aCons (dVar 8) (aCons (dVar 9) (aCons (dCall tupleG (aCons (dLc (srcSeq (dBin ixG (dVar 1) (dC (.int 1)))) (tName 11) (bYes) (dCall F__law_one (aCons (dVar 0) (aCons (dLst (aCons (dC (.int 0)) (aCons (dC (.int 1)) (aCons (dC (.int 0)) (aCons (dC (.int 2)) (aNil)))))) (aNil)))) [11]) (aNil))) (aNil)))))) (aNil)))))) (sRet (dTup (aCons (dVar 4) (aCons (dCall tupleG (aCons (dVar 5) (aNil))) (aNil)))))))
noncomputable def F__law_any_sender : FN := bodyF 12 B__law_any_sender
noncomputable def B_without_recipes : FS :=
  sCons (sAsg (dVar 0) (tTupG 3 (tConsG (tName 2) (tConsG (tName 3) (tConsG (tName 4) (tNilG)))))) (sRet (dTup (aCons (dVar 2) (aCons (dVar 3) (aCons (dCall tupleG (aCons (dLc (srcEnum (aCons (dVar 4) (aNil))) (tPairG (tConsG (tName 5) (tConsG (tName 6) (tNilG)))) (dTrue (dBin (inG true) (dVar 5) (dVar 1))) (dVar 6) [5, 6]) (aNil))) (aNil))))))
noncomputable def F_without_recipes : FN := bodyF 7 B_without_recipes
noncomputable def B__is_row : FS :=
  sRet (dAndV (dIsi "tuple" (dVar 0)) (dBin (eqG false) (dCall lenG (aCons (dVar 0) (aNil))) (dVar 1)))
noncomputable def F__is_row : FN := bodyF 2 B__is_row
noncomputable def B_is_integer : FS :=
  sRet (dAndV (dIsi "int" (dVar 0)) (dNotV (dIsi "bool" (dVar 0))))
noncomputable def F_is_integer : FN := bodyF 1 B_is_integer
noncomputable def B__is_count : FS :=
  sRet (dAndV (dCall F_is_integer (aCons (dVar 0) (aNil))) (dBin geG (dVar 0) (dC (.int 0))))
noncomputable def F__is_count : FN := bodyF 1 B__is_count
noncomputable def B_are_counts : FS :=
  sRet (dAndV (dCall F__is_row (aCons (dVar 0) (aCons (dVar 1) (aNil)))) (dCall (allG false) (aCons (dLc (srcSeq (dVar 0)) (tName 2) (bYes) (dCall F__is_count (aCons (dVar 2) (aNil))) [2]) (aNil))))
noncomputable def F_are_counts : FN := bodyF 3 B_are_counts
noncomputable def B_is_amounts : FS :=
  sRet (dCall F_are_counts (aCons (dVar 1) (aCons (dCall lenG (aCons (dBin ixG (dVar 0) (dC (.int 0))) (aNil))) (aNil))))
noncomputable def F_is_amounts : FN := bodyF 2 B_is_amounts
noncomputable def B__depth : FS :=
  sRet (dCall maxG (aCons (dLc (srcZip (aCons (dVar 0) (aCons (dVar 1) (aNil)))) (tPairG (tConsG (tName 2) (tConsG (tName 3) (tNilG)))) (dTrue (dBin gtG (dVar 2) (dC (.int 0)))) (dVar 3) [2, 3]) (aNil)))
noncomputable def F__depth : FN := bodyF 4 B__depth
noncomputable def B__kind_depths : FS :=
  sCons (sSet 1 (dBin mulG (dLst (aCons (dC (.int 0)) (aNil))) (dCall lenG (aCons (dBin ixG (dVar 0) (dC (.int 0))) (aNil))))) (sCons (sFor (srcR1 (aCons (dCall lenG (aCons (dVar 1) (aNil))) (aNil))) (tName 2) (sFor (srcSeq (dBin ixG (dVar 0) (dC (.int 2)))) (tTupG 3 (tConsG (tName 3) (tConsG (tName 4) (tConsG (tName 5) (tNilG))))) (sIf (dTrue (dBin gtG (dBin ixG (dVar 4) (dVar 2)) (dC (.int 0)))) (sAsg (dCall maxG (aCons (dBin ixG (dVar 1) (dVar 2)) (aCons (dBin addG (dC (.int 1)) (dCall F__depth (aCons (dVar 3) (aCons (dVar 1) (aNil))))) (aNil)))) (tSubG (dVar 1) (dVar 2))) (sNil)))) (sRet (dVar 1)))
noncomputable def F__kind_depths : FN := bodyF 6 B__kind_depths
noncomputable def B_levels : FS :=
  sCons (sSet 1 (dCall F__kind_depths (aCons (dVar 0) (aNil)))) (sRet (dLc (srcSeq (dBin ixG (dVar 0) (dC (.int 2)))) (tTupG 3 (tConsG (tName 2) (tConsG (tName 3) (tConsG (tName 3) (tNilG))))) (bYes) (dCall F__depth (aCons (dVar 2) (aCons (dVar 1) (aNil)))) [2, 3]))
noncomputable def F_levels : FN := bodyF 4 B_levels
noncomputable def B__law_levels : FS :=
  sCons (sSet 1 (dBin mulG (dLst (aCons (dC (.int 0)) (aNil))) (dCall lenG (aCons (dBin ixG (dVar 0) (dC (.int 2))) (aNil))))) (sCons (sFor (srcR1 (aCons (dCall lenG (aCons (dBin ixG (dVar 0) (dC (.int 2))) (aNil))) (aNil))) (tName 2) (sFor (srcEnum (aCons (dBin ixG (dVar 0) (dC (.int 2))) (aNil))) (tPairG (tConsG (tName 3) (tConsG (tName 4) (tNilG)))) (sCons (sSet 5 (dLc (srcR1 (aCons (dCall lenG (aCons (dVar 1) (aNil))) (aNil))) (tName 6) (dTrue (dBin (eqG true) (dLc (srcZip (aCons (dBin ixG (dBin ixG (dBin ixG (dVar 0) (dC (.int 2))) (dVar 6)) (dC (.int 1))) (aCons (dBin ixG (dVar 4) (dC (.int 0))) (aNil)))) (tPairG (tConsG (tName 7) (tConsG (tName 8) (tNilG)))) (dTrue (dBin gtG (dCall minG (aCons (dVar 7) (aCons (dVar 8) (aNil)))) (dC (.int 0)))) (dC (.int 1)) [7, 8]) (dLst (aNil)))) (dVar 6) [6])) (sAsg (dIf (dTrue (dBin (eqG true) (dVar 5) (dLst (aNil)))) (dBin addG (dC (.int 1)) (dCall maxG (aCons (dLc (srcSeq (dVar 5)) (tName 6) (bYes) (dBin ixG (dVar 1) (dVar 6)) [6]) (aNil)))) (dC (.int 0))) (tSubG (dVar 1) (dVar 3)))))) (sRet (dVar 1)))
noncomputable def F__law_levels : FN := bodyF 9 B__law_levels
noncomputable def B_with_recipe : FS :=
  sCons (sAsg (dVar 0) (tTupG 3 (tConsG (tName 2) (tConsG (tName 3) (tConsG (tName 4) (tNilG)))))) (sCons (sIf (dTrue (dBin geG (dCall lenG (aCons (dVar 4) (aNil))) (dC (.int 8)))) (sRaise 15 (aCons (dC (.int 8)) (aNil))) (sNil)) (sRet (dTup (aCons (dVar 2) (aCons (dVar 3) (aCons (dBin addG (dVar 4) (dTup (aCons (dVar 1) (aNil)))) (aNil)))))))
noncomputable def F_with_recipe : FN := bodyF 5 B_with_recipe
noncomputable def B__law_with : FS :=
  sTry (sRet (dTup (aCons (dC (.str "told")) (aCons (dCallT F_with_recipe (aCons (dVar 0) (aCons (dVar 1) (aNil)))) (aNil))))) [(15, hRet 2 "many" 0), (18, fun _ => sRet (dTup (aCons (dC (.str "another")) (aCons (dC .non) (aNil)))))]
noncomputable def F__law_with : FN := bodyF 3 B__law_with
noncomputable def B_is_name : FS :=
  sCons (sIf (dOr (dNot (dTrue (dIsi "str" (dVar 0)))) (dNot (dTrue (dChain leG leG (dC (.int 1)) (dCall lenG (aCons (dVar 0) (aNil))) (dC (.int 6)))))) (sRet (dC (.bl false))) (sNil)) (sRet (dCall (allG false) (aCons (dLc (srcStr (dVar 0)) (tName 1) (bYes) (dChain leSG leSG (dC (.str "a")) (dVar 1) (dC (.str "z"))) [1]) (aNil))))
noncomputable def F_is_name : FN := bodyF 2 B_is_name
noncomputable def B__are_names : FS :=
  sCons (sIf (dOr (dNot (dTrue (dIsi "tuple" (dVar 0)))) (dNot (dTrue (dChain leG leG (dVar 1) (dCall lenG (aCons (dVar 0) (aNil))) (dVar 2))))) (sRet (dC (.bl false))) (sNil)) (sCons (sSet 3 (dNewD)) (sCons (sFor (srcSeq (dVar 0)) (tName 4) (sCons (sIf (dOr (dNot (dTrue (dCall F_is_name (aCons (dVar 4) (aNil))))) (dTrue (dBin (inG false) (dVar 4) (dVar 3)))) (sRet (dC (.bl false))) (sNil)) (sAsg (dC (.bl true)) (tSubG (dVar 3) (dVar 4))))) (sRet (dC (.bl true)))))
noncomputable def F__are_names : FN := bodyF 5 B__are_names
noncomputable def B_stands_behind : FS :=
  sCons (sSet 2 (dLc (srcEnum (aCons (dVar 0) (aNil))) (tPairG (tConsG (tName 4) (tConsG (tName 5) (tNilG)))) (dTrue (dBin gtG (dVar 5) (dC (.int 0)))) (dVar 4) [4, 5])) (sCons (sSet 3 (dLc (srcEnum (aCons (dVar 1) (aNil))) (tPairG (tConsG (tName 4) (tConsG (tName 5) (tNilG)))) (dTrue (dBin gtG (dVar 5) (dC (.int 0)))) (dVar 4) [4, 5])) (sCons (sIf (dNot (dTru (dVar 2))) (sRet (dC (.bl false))) (sNil)) (sRet (dOrV (dNotT (dVar 3)) (dBin gtG (dBin ixG (dVar 3) (dC (.int 0))) (dBin ixG (dVar 2) (dNeg (dC (.int 1)))))))))
noncomputable def F_stands_behind : FN := bodyF 6 B_stands_behind
noncomputable def B_is_recipe : FS :=
  sCons (sIf (dNot (dTrue (dCall F__is_row (aCons (dVar 1) (aCons (dC (.int 3)) (aNil)))))) (sRet (dC (.bl false))) (sNil)) (sCons (sAsg (dVar 1) (tTupG 3 (tConsG (tName 2) (tConsG (tName 3) (tConsG (tName 4) (tNilG)))))) (sCons (sIf (dOr (dNot (dTrue (dCall F_is_amounts (aCons (dVar 0) (aCons (dVar 2) (aNil)))))) (dNot (dTrue (dCall F_is_amounts (aCons (dVar 0) (aCons (dVar 3) (aNil))))))) (sRet (dC (.bl false))) (sNil)) (sCons (sIf (dAnd (dTrue (dNotN (dVar 4))) (dTrue (dBin (inG true) (dVar 4) (dBin ixG (dVar 0) (dC (.int 1)))))) (sRet (dC (.bl false))) (sNil)) (sRet (dCall F_stands_behind (aCons (dVar 2) (aCons (dVar 3) (aNil))))))))
noncomputable def F_is_recipe : FN := bodyF 5 B_is_recipe
noncomputable def B_is_works : FS :=
  sCons (sIf (dNot (dTrue (dCall F__is_row (aCons (dVar 0) (aCons (dC (.int 3)) (aNil)))))) (sRet (dC (.bl false))) (sNil)) (sCons (sAsg (dVar 0) (tTupG 3 (tConsG (tName 1) (tConsG (tName 2) (tConsG (tName 3) (tNilG)))))) (sCons (sIf (dOr (dNot (dTrue (dCall F__are_names (aCons (dVar 1) (aCons (dC (.int 1)) (aCons (dC (.int 5)) (aNil))))))) (dNot (dTrue (dCall F__are_names (aCons (dVar 2) (aCons (dC (.int 0)) (aCons (dC (.int 3)) (aNil)))))))) (sRet (dC (.bl false))) (sNil)) (sCons (sIf (dTrue (dCall (allG true) (aCons (dLc (srcSeq (dVar 2)) (tName 4) (bYes) (dBin (inG false) (dVar 4) (dVar 1)) [4]) (aNil)))) (sRet (dC (.bl false))) (sNil)) (sCons (sIf (dOr (dNot (dTrue (dIsi "tuple" (dVar 3)))) (dTrue (dBin gtG (dCall lenG (aCons (dVar 3) (aNil))) (dC (.int 8))))) (sRet (dC (.bl false))) (sNil)) (sRet (dCall (allG false) (aCons (dLc (srcSeq (dVar 3)) (tName 5) (bYes) (dCall F_is_recipe (aCons (dVar 0) (aCons (dVar 5) (aNil)))) [5]) (aNil))))))))
noncomputable def F_is_works : FN := bodyF 6 B_is_works
noncomputable def B__law_works_right : FS :=
  sCons (sAsg (dVar 1) (tTupG 3 (tConsG (tName 2) (tConsG (tName 3) (tConsG (tName 4) (tNilG)))))) (sCons (sSet 5 (dCall reprG (aCons (dVar 1) (aNil)))) (sCons (sSet 6 (dCall F__law_one (aCons (dVar 0) (aCons (dBin addG (dBin mulG (dLst (aCons (dCall F__law_recipe (aCons (dVar 0) (aCons (dCall lenG (aCons (dVar 2) (aNil))) (aCons (dVar 3) (aCons (dC (.int 4)) (aNil)))))) (aNil))) (dC (.int 3))) (dCall listG (aCons (dVar 4) (aNil)))) (aNil))))) (sCons (sSet 7 (dIf (dTrue (dBin (eqG false) (dCall lenG (aCons (dVar 4) (aNil))) (dC (.int 8)))) (dTup (aCons (dC (.str "many")) (aCons (dC (.int 8)) (aNil)))) (dTup (aCons (dC (.str "told")) (aCons (dTup (aCons (dVar 2) (aCons (dVar 3) (aCons (dBin addG (dVar 4) (dTup (aCons (dVar 6) (aNil)))) (aNil))))) (aNil)))))) (sCons (sSet 8 (dCall F__law_with (aCons (dVar 1) (aCons (dVar 6) (aNil))))) (sCons (sIf (dOr (dNot (dTrue (dCall F__law_alike (aCons (dVar 8) (aCons (dVar 7) (aNil)))))) (dTrue (dBin (isBG true) (dCall F_is_recipe (aCons (dVar 1) (aCons (dVar 6) (aNil)))) (dC (.bl true))))) (sRet (dC (.bl false))) (sNil)) (sCons (sSet 9 (dCall tupleG (aCons (dLc (srcR1 (aCons (dCall lenG (aCons (dVar 4) (aNil))) (aNil))) (tName 12) (dTrue (dBin (eqG false) (dCall F__law_take (aCons (dVar 0) (aCons (dC (.int 3)) (aNil)))) (dC (.int 0)))) (dVar 12) [12]) (aNil)))) (sCons (sFor (srcSeq (dTup (aCons (dVar 9) (aCons (dTup (aNil)) (aCons (dTupR1 (dCall lenG (aCons (dVar 4) (aNil)))) (aNil)))))) (tName 10) (sCons (sSet 11 (dCall F_without_recipes (aCons (dVar 1) (aCons (dVar 10) (aNil))))) (sCons (sIf (dNot (dTrue (dCall F__law_alike (aCons (dVar 11) (aCons (dTup (aCons (dVar 2) (aCons (dVar 3) (aCons (dCall tupleG (aCons (dLc (srcR1 (aCons (dCall lenG (aCons (dVar 4) (aNil))) (aNil))) (tName 12) (dTrue (dBin (inG true) (dVar 12) (dVar 10))) (dBin ixG (dVar 4) (dVar 12)) [12]) (aNil))) (aNil))))) (aNil)))))) (sRet (dC (.bl false))) (sNil)) (sIf (dNot (dTrue (dCall F__law_alike (aCons (dLst (aCons (dCall F_levels (aCons (dVar 11) (aNil))) (aCons (dCall F_is_works (aCons (dVar 11) (aNil))) (aNil)))) (aCons (dLst (aCons (dCall F__law_levels (aCons (dVar 11) (aNil))) (aCons (dC (.bl true)) (aNil)))) (aNil)))))) (sRet (dC (.bl false))) (sNil))))) (sCons (sIf (dTrue (dBin (eqG false) (dBin ixG (dVar 7) (dC (.int 0))) (dC (.str "told")))) (sIf (dNot (dTrue (dCall F__law_alike (aCons (dLst (aCons (dCall F_levels (aCons (dBin ixG (dVar 8) (dC (.int 1))) (aNil))) (aCons (dCall F_without_recipes (aCons (dBin ixG (dVar 8) (dC (.int 1))) (aCons (dTup (aCons (dCall lenG (aCons (dVar 4) (aNil))) (aNil))) (aNil)))) (aNil)))) (aCons (dLst (aCons (dCall F__law_levels (aCons (dBin ixG (dVar 8) (dC (.int 1))) (aNil))) (aCons (dVar 1) (aNil)))) (aNil)))))) (sRet (dC (.bl false))) (sNil)) (sNil)) (sRet (dBin (eqG false) (dCall reprG (aCons (dVar 1) (aNil))) (dVar 5)))))))))))
noncomputable def F__law_works_right : FN := bodyF 13 B__law_works_right
noncomputable def B_renamed_works : FS :=
  sCons (sAsg (dVar 0) (tTupG 3 (tConsG (tName 2) (tConsG (tName 3) (tConsG (tName 4) (tNilG)))))) (sCons (sSet 5 (dLst (aNil))) (sCons (sFor (srcSeq (dVar 4)) (tTupG 3 (tConsG (tName 6) (tConsG (tName 7) (tConsG (tName 8) (tNilG))))) (sExpr (dMeth "list" appendG (dVar 5) (aCons (dTup (aCons (dVar 6) (aCons (dVar 7) (aCons (dIf (dTrue (dIsN (dVar 8))) (dC .non) (dBin ixG (dVar 1) (dVar 8))) (aNil))))) (aNil))))) (sRet (dTup (aCons (dCall tupleG (aCons (dLc (srcSeq (dVar 2)) (tName 9) (bYes) (dBin ixG (dVar 1) (dVar 9)) [9]) (aNil))) (aCons (dCall tupleG (aCons (dLc (srcSeq (dVar 3)) (tName 8) (bYes) (dBin ixG (dVar 1) (dVar 8)) [8]) (aNil))) (aCons (dCall tupleG (aCons (dVar 5) (aNil))) (aNil))))))))
noncomputable def F_renamed_works : FN := bodyF 10 B_renamed_works
noncomputable def B_led_sender : FS :=
  sCons (sAsg (dVar 0) (tTupG 2 (tConsG (tName 2) (tConsG (tName 3) (tNilG))))) (sCons (sSet 4 (dLc (srcSeq (dVar 3)) (tTupG 4 (tConsG (tName 5) (tConsG (tName 6) (tConsG (tName 7) (tConsG (tName 8) (tNilG)))))) (bYes) (dTup (aCons (dVar 5) (aCons (dVar 6) (aCons (dVar 7) (aCons (dBin addG (dVar 8) (dTup (aCons (dVar 1) (aNil)))) (aNil)))))) [5, 6, 7, 8])) (sRet (dTup (aCons (dVar 2) (aCons (dCall tupleG (aCons (dVar 4) (aNil))) (aNil))))))
noncomputable def F_led_sender : FN := bodyF 9 B_led_sender
noncomputable def B__law_is_int : FS :=
  sRet (dAndV (dIsi "int" (dVar 0)) (dNotV (dIsi "bool" (dVar 0))))
noncomputable def F__law_is_int : FN := bodyF 1 B__law_is_int
noncomputable def B__law_is_lot : FS :=
  sCons (sIf (dOr (dNot (dTrue (dIsi "tuple" (dVar 1)))) (dTrue (dBin (eqG true) (dCall lenG (aCons (dVar 1) (aNil))) (dVar 0)))) (sRet (dC (.bl false))) (sNil)) (sRet (dBin (eqG false) (dLc (srcSeq (dVar 1)) (tName 2) (dOr (dNot (dTrue (dCall F__law_is_int (aCons (dVar 2) (aNil))))) (dTrue (dBin ltG (dVar 2) (dC (.int 0))))) (dC (.int 1)) [2]) (dLst (aNil))))
noncomputable def F__law_is_lot : FN := bodyF 3 B__law_is_lot
noncomputable def B__law_is_recipe : FS :=
  sCons (sIf (dOr (dNot (dTrue (dIsi "tuple" (dVar 2)))) (dOr (dTrue (dBin (eqG true) (dCall lenG (aCons (dVar 2) (aNil))) (dC (.int 3)))) (dOr (dNot (dTrue (dCall F__law_is_lot (aCons (dCall lenG (aCons (dVar 0) (aNil))) (aCons (dBin ixG (dVar 2) (dC (.int 0))) (aNil)))))) (dNot (dTrue (dCall F__law_is_lot (aCons (dCall lenG (aCons (dVar 0) (aNil))) (aCons (dBin ixG (dVar 2) (dC (.int 1))) (aNil))))))))) (sRet (dC (.bl false))) (sNil)) (sCons (sSet 3 (dLc (srcR1 (aCons (dCall lenG (aCons (dVar 0) (aNil))) (aNil))) (tName 4) (dTrue (dBin gtG (dBin ixG (dBin ixG (dVar 2) (dC (.int 0))) (dVar 4)) (dC (.int 0)))) (dVar 4) [4])) (sCons (sIf (dOr (dTrue (dBin (eqG false) (dVar 3) (dLst (aNil)))) (dTrue (dBin (eqG true) (dLc (srcR1 (aCons (dBin addG (dCall maxG (aCons (dVar 3) (aNil))) (dC (.int 1))) (aNil))) (tName 4) (dTrue (dBin gtG (dBin ixG (dBin ixG (dVar 2) (dC (.int 1))) (dVar 4)) (dC (.int 0)))) (dC (.int 1)) [4]) (dLst (aNil))))) (sRet (dC (.bl false))) (sNil)) (sRet (dOrV (dIsN (dBin ixG (dVar 2) (dC (.int 2)))) (dAndV (dIsi "str" (dBin ixG (dVar 2) (dC (.int 2)))) (dBin (inG false) (dBin ixG (dVar 2) (dC (.int 2))) (dVar 1)))))))
noncomputable def F__law_is_recipe : FN := bodyF 5 B__law_is_recipe
noncomputable def B__law_renamed : FS :=
  sCons (sSet 2 (dLc (srcSeq (dBin ixG (dVar 0) (dC (.int 2)))) (tTupG 3 (tConsG (tName 3) (tConsG (tName 4) (tConsG (tName 5) (tNilG))))) (bYes) (dTup (aCons (dVar 3) (aCons (dVar 4) (aCons (dIf (dTrue (dIsN (dVar 5))) (dC .non) (dBin ixG (dVar 1) (dVar 5))) (aNil))))) [3, 4, 5])) (sRet (dTup (aCons (dCall tupleG (aCons (dLc (srcSeq (dBin ixG (dVar 0) (dC (.int 0)))) (tName 6) (bYes) (dBin ixG (dVar 1) (dVar 6)) [6]) (aNil))) (aCons (dCall tupleG (aCons (dLc (srcSeq (dBin ixG (dVar 0) (dC (.int 1)))) (tName 6) (bYes) (dBin ixG (dVar 1) (dVar 6)) [6]) (aNil))) (aCons (dCall tupleG (aCons (dVar 2) (aNil))) (aNil))))))
noncomputable def F__law_renamed : FN := bodyF 7 B__law_renamed
noncomputable def B_with_hand : FS :=
  sCons (sAsg (dVar 0) (tTupG 3 (tConsG (tName 2) (tConsG (tName 3) (tConsG (tName 4) (tNilG)))))) (sCons (sIf (dOr (dTrue (dBin (inG false) (dVar 1) (dVar 2))) (dTrue (dBin (inG false) (dVar 1) (dVar 3)))) (sRaise 16 (aCons (dVar 1) (aNil))) (sNil)) (sCons (sIf (dTrue (dBin geG (dCall lenG (aCons (dVar 3) (aNil))) (dC (.int 3)))) (sRaise 15 (aCons (dC (.int 3)) (aNil))) (sNil)) (sRet (dTup (aCons (dVar 2) (aCons (dBin addG (dVar 3) (dTup (aCons (dVar 1) (aNil)))) (aCons (dVar 4) (aNil))))))))
noncomputable def F_with_hand : FN := bodyF 5 B_with_hand
noncomputable def B__law_with_hand : FS :=
  sTry (sRet (dTup (aCons (dC (.str "told")) (aCons (dCallT F_with_hand (aCons (dVar 0) (aCons (dVar 1) (aNil)))) (aNil))))) [(16, hRet 2 "used" 0), (15, hRet 2 "many" 0), (18, fun _ => sRet (dTup (aCons (dC (.str "another")) (aCons (dC .non) (aNil)))))]
noncomputable def F__law_with_hand : FN := bodyF 3 B__law_with_hand
noncomputable def B__law_hand_due : FS :=
  sCons (sAsg (dVar 0) (tTupG 3 (tConsG (tName 2) (tConsG (tName 3) (tConsG (tName 4) (tNilG)))))) (sCons (sIf (dTrue (dBin (inG false) (dVar 1) (dBin addG (dVar 2) (dVar 3)))) (sRet (dTup (aCons (dC (.str "used")) (aCons (dVar 1) (aNil))))) (sNil)) (sRet (dIf (dTrue (dBin (eqG false) (dCall lenG (aCons (dVar 3) (aNil))) (dC (.int 3)))) (dTup (aCons (dC (.str "many")) (aCons (dC (.int 3)) (aNil)))) (dTup (aCons (dC (.str "told")) (aCons (dTup (aCons (dVar 2) (aCons (dBin addG (dVar 3) (dTup (aCons (dVar 1) (aNil)))) (aCons (dVar 4) (aNil))))) (aNil)))))))
noncomputable def F__law_hand_due : FN := bodyF 5 B__law_hand_due
noncomputable def B__is_put : FS :=
  sRet (dCall (allG true) (aCons (dLc (srcSeq (dBin ixG (dVar 0) (dC (.int 2)))) (tTupG 3 (tConsG (tName 2) (tConsG (tName 3) (tConsG (tName 2) (tNilG))))) (bYes) (dBin gtG (dBin ixG (dVar 3) (dVar 1)) (dC (.int 0))) [2, 3]) (aNil)))
noncomputable def F__is_put : FN := bodyF 4 B__is_put
noncomputable def B_raw_kinds : FS :=
  sRet (dCall tupleG (aCons (dLc (srcEnum (aCons (dBin ixG (dVar 0) (dC (.int 0))) (aNil))) (tPairG (tConsG (tName 1) (tConsG (tName 2) (tNilG)))) (dNot (dTrue (dCall F__is_put (aCons (dVar 0) (aCons (dVar 1) (aNil)))))) (dVar 2) [1, 2]) (aNil)))
noncomputable def F_raw_kinds : FN := bodyF 3 B_raw_kinds
noncomputable def B__place_among : FS :=
  sCons (sIf (dTrue (dBin (inG true) (dVar 1) (dVar 0))) (sRaise 9 (aCons (dVar 1) (aNil))) (sNil)) (sRet (dMeth "tuple" tindexG (dVar 0) (aCons (dVar 1) (aNil))))
noncomputable def F__place_among : FN := bodyF 2 B__place_among
noncomputable def B_kind_place : FS :=
  sRet (dCall F__place_among (aCons (dBin ixG (dVar 0) (dC (.int 0))) (aCons (dVar 1) (aNil))))
noncomputable def F_kind_place : FN := bodyF 2 B_kind_place
noncomputable def B_hand_place : FS :=
  sRet (dCall F__place_among (aCons (dBin ixG (dVar 0) (dC (.int 1))) (aCons (dVar 1) (aNil))))
noncomputable def F_hand_place : FN := bodyF 2 B_hand_place
noncomputable def B__law_alike_v3 : FS :=
  sRet (dAndV (dBin eqF (dVar 0) (dVar 1)) (dBin eqF (dCall reprF (aCons (dVar 0) (aNil))) (dCall reprF (aCons (dVar 1) (aNil)))))
noncomputable def F__law_alike_v3 : FN := bodyF 2 B__law_alike_v3
noncomputable def B__law_odd : FS :=
  sCons (sSet 1 (dLst (aCons (dC .non) (aCons (dC (.bl true)) (aCons (dC (.bl false)) (aCons (dC (.int 0)) (aCons (dC (.int 1)) (aCons (dNeg (dC (.int 1))) (aCons (dBin powG (dC (.int 10)) (dC (.int 39))) (aCons (dNeg (dBin powG (dC (.int 10)) (dC (.int 39)))) (aCons (dC (.str "")) (aCons (dC (.str "a")) (aCons (dC (.str "b")) (aCons (dC (.str "A")) (aCons (dC (.str "abcdefg")) (aCons (dC (.str "to")) (aCons (dTup (aNil)) (aCons (dLst (aNil)) (aCons (dNewD) (aCons (dTup (aCons (dC (.str "a")) (aNil))) (aCons (dLst (aCons (dC (.int 0)) (aNil))) (aNil)))))))))))))))))))))) (sCons (sSet 1 (dBin addG (dVar 1) (dLst (aCons (dTup (aCons (dC (.int 0)) (aCons (dC (.int 1)) (aNil)))) (aCons (dTup (aCons (dC (.int 1)) (aCons (dC (.int 2)) (aNil)))) (aCons (dTup (aCons (dC (.int 2)) (aCons (dC (.int 4)) (aNil)))) (aCons (dTup (aCons (dC (.int 0)) (aCons (dC (.int 0)) (aNil)))) (aCons (dDisp [(dC (.str "a"), dTup (aCons (dC (.int 1)) (aNil)))]) (aCons (dDisp [(dC (.int 0), dC (.int 0))]) (aCons (dNd) (aCons (dTup (aCons (dTup (aCons (dC (.int 0)) (aNil))) (aCons (dTup (aCons (dC (.int 0)) (aNil))) (aNil)))) (aCons (dTup (aCons (dTup (aCons (dC (.str "a")) (aNil))) (aCons (dTup (aNil)) (aCons (dTup (aNil)) (aNil))))) (aCons (dTup (aCons (dTup (aNil)) (aNil))) (aNil)))))))))))))) (sRet (dCall F__law_one (aCons (dVar 0) (aCons (dVar 1) (aNil))))))
noncomputable def F__law_odd : FN := bodyF 2 B__law_odd
noncomputable def B__place_among_v3 : FS :=
  sCons (sIf (dTrue (dBin ninF (dVar 1) (dVar 0))) (sRaise 9 (aCons (dVar 1) (aNil))) (sNil)) (sRet (dMeth "tuple" tindexG (dVar 0) (aCons (dVar 1) (aNil))))
noncomputable def F__place_among_v3 : FN := bodyF 2 B__place_among_v3
noncomputable def B_kind_place_v3 : FS :=
  sRet (dCall F__place_among_v3 (aCons (dBin ixG (dVar 0) (dC (.int 0))) (aCons (dVar 1) (aNil))))
noncomputable def F_kind_place_v3 : FN := bodyF 2 B_kind_place_v3
noncomputable def B_hand_place_v3 : FS :=
  sRet (dCall F__place_among_v3 (aCons (dBin ixG (dVar 0) (dC (.int 1))) (aCons (dVar 1) (aNil))))
noncomputable def F_hand_place_v3 : FN := bodyF 2 B_hand_place_v3
noncomputable def B__law_is_placed : FS :=
  sCons (sSet 4 (dLc (srcR1 (aCons (dCall lenG (aCons (dVar 2) (aNil))) (aNil))) (tName 7) (dTrue (dCall F__law_alike_v3 (aCons (dBin ixG (dVar 2) (dVar 7)) (aCons (dVar 3) (aNil))))) (dVar 7) [7])) (sCons (sTry (sSet 5 (dCallTV 0 [("kind_place", F_kind_place_v3), ("hand_place", F_hand_place_v3)] (aCons (dVar 1) (aCons (dVar 3) (aNil))))) [(9, hAnd 6 4 0 3 F__law_alike_v3), (18, fun _ => sRet (dC (.bl false)))]) (sRet (dAndV (dBin (eqG true) (dVar 4) (dLst (aNil))) (dCall F__law_alike_v3 (aCons (dVar 5) (aCons (dBin ixG (dVar 4) (dC (.int 0))) (aNil)))))))
noncomputable def F__law_is_placed : FN := bodyF 8 B__law_is_placed
noncomputable def B__law_are_placed : FS :=
  sCons (sPar2 2 3 (aCons (dBin ixG (dVar 1) (dC (.int 0))) (aCons (dBin ixG (dVar 1) (dC (.int 1))) (aNil)))) (sCons (sSet 4 (dBin addG (dLc (srcR1 (aCons (dC (.int 4)) (aNil))) (tName 6) (bYes) (dCall F__law_odd (aCons (dVar 0) (aNil))) [6]) (dLst (aCons (dBin addG (dBin ixG (dVar 2) (dC (.int 0))) (dC (.str "q"))) (aCons (dSl (dVar 2) (oNone) (oSome (dC (.int 1)))) (aCons (dLst (aCons (dBin ixG (dVar 2) (dC (.int 0))) (aNil))) (aCons (dDisp [(dBin ixG (dVar 2) (dC (.int 0)), dC (.int 1))]) (aCons (dC (.int 0)) (aNil))))))))) (sCons (sFor (srcSeq (dBin addG (dCall listG (aCons (dBin addG (dVar 2) (dVar 3)) (aNil))) (dVar 4))) (tName 5) (sIf (dOr (dNot (dTrue (dCall F__law_is_placed (aCons (dFn 1 "kind_place") (aCons (dVar 1) (aCons (dVar 2) (aCons (dVar 5) (aNil)))))))) (dNot (dTrue (dCall F__law_is_placed (aCons (dFn 2 "hand_place") (aCons (dVar 1) (aCons (dVar 3) (aCons (dVar 5) (aNil))))))))) (sRet (dC (.bl false))) (sNil))) (sRet (dC (.bl true)))))
noncomputable def F__law_are_placed : FN := bodyF 7 B__law_are_placed
noncomputable def B__law_is_name : FS :=
  sCons (sIf (dOr (dNot (dTrue (dIsi "str" (dVar 0)))) (dNot (dTrue (dChain leG leG (dC (.int 1)) (dCall lenG (aCons (dVar 0) (aNil))) (dC (.int 6)))))) (sRet (dC (.bl false))) (sNil)) (sRet (dBin (eqG false) (dLc (srcStr (dVar 0)) (tName 1) (dTrue (dBin (inSG true) (dVar 1) (dC (.str "abcdefghijklmnopqrstuvwxyz")))) (dVar 1) [1]) (dLst (aNil))))
noncomputable def F__law_is_name : FN := bodyF 2 B__law_is_name
noncomputable def B__law_is_works : FS :=
  sCons (sIf (dOr (dNot (dTrue (dIsi "tuple" (dVar 0)))) (dOr (dTrue (dBin (eqG true) (dCall lenG (aCons (dVar 0) (aNil))) (dC (.int 3)))) (dTrue (dBin (eqG true) (dLc (srcSeq (dVar 0)) (tName 4) (dNot (dTrue (dIsi "tuple" (dVar 4)))) (dC (.int 1)) [4]) (dLst (aNil)))))) (sRet (dC (.bl false))) (sNil)) (sCons (sAsg (dVar 0) (tTupG 3 (tConsG (tName 1) (tConsG (tName 2) (tConsG (tName 3) (tNilG)))))) (sCons (sIf (dOr (dNot (dTrue (dChain leG leG (dC (.int 1)) (dCall lenG (aCons (dVar 1) (aNil))) (dC (.int 5))))) (dOr (dTrue (dBin gtG (dCall lenG (aCons (dVar 2) (aNil))) (dC (.int 3)))) (dOr (dTrue (dBin gtG (dCall lenG (aCons (dVar 3) (aNil))) (dC (.int 8)))) (dTrue (dBin (eqG true) (dLc (srcSeq (dBin addG (dVar 1) (dVar 2))) (tName 5) (dNot (dTrue (dCall F__law_is_name (aCons (dVar 5) (aNil))))) (dC (.int 1)) [5]) (dLst (aNil))))))) (sRet (dC (.bl false))) (sNil)) (sCons (sIf (dTrue (dBin (eqG true) (dLenSetS (dBin addG (dVar 1) (dVar 2))) (dCall lenG (aCons (dBin addG (dVar 1) (dVar 2)) (aNil))))) (sRet (dC (.bl false))) (sNil)) (sRet (dBin (eqG false) (dLc (srcSeq (dVar 3)) (tName 6) (dNot (dTrue (dCall F__law_is_recipe (aCons (dVar 1) (aCons (dVar 2) (aCons (dVar 6) (aNil))))))) (dC (.int 1)) [6]) (dLst (aNil)))))))
noncomputable def F__law_is_works : FN := bodyF 7 B__law_is_works
noncomputable def B__law_are_new_right : FS :=
  sCons (sSet 2 (dCall listG (aCons (dBin addG (dBin ixG (dVar 1) (dC (.int 0))) (dBin ixG (dVar 1) (dC (.int 1)))) (aNil)))) (sCons (sSet 3 (dCall F__law_mixed (aCons (dVar 0) (aCons (dCall F__law_one (aCons (dVar 0) (aCons (dLst (aCons (dVar 2) (aCons (dCall F__law_names (aCons (dVar 0) (aCons (dCall lenG (aCons (dVar 2) (aNil))) (aNil)))) (aNil)))) (aNil)))) (aNil))))) (sCons (sSet 4 (dCall dictPG (aCons (dCall F__law_mixed (aCons (dVar 0) (aCons (dListZip (aCons (dVar 2) (aCons (dVar 3) (aNil)))) (aNil)))) (aNil)))) (sCons (sPar2 5 6 (aCons (dCall reprF (aCons (dVar 4) (aNil))) (aCons (dCall F_renamed_works (aCons (dVar 1) (aCons (dVar 4) (aNil)))) (aNil)))) (sCons (sIf (dOr (dNot (dTrue (dCall F__law_alike_v3 (aCons (dVar 6) (aCons (dCall F__law_renamed (aCons (dVar 1) (aCons (dVar 4) (aNil)))) (aNil)))))) (dOr (dTrue (dBin (eqG true) (dCall reprF (aCons (dVar 4) (aNil))) (dVar 5))) (dNot (dTrue (dCall F__law_is_works (aCons (dVar 6) (aNil))))))) (sRet (dC (.bl false))) (sNil)) (sCons (sFor (srcSeq (dLst (aCons (dCall F__law_one (aCons (dVar 0) (aCons (dVar 2) (aNil)))) (aCons (dC (.str "hh")) (aCons (dCall F__law_one (aCons (dVar 0) (aCons (dCall F__law_names (aCons (dVar 0) (aCons (dC (.int 3)) (aNil)))) (aNil)))) (aNil)))))) (tName 7) (sIf (dNot (dTrue (dCall F__law_alike_v3 (aCons (dCall F__law_with_hand (aCons (dVar 1) (aCons (dVar 7) (aNil)))) (aCons (dCall F__law_hand_due (aCons (dVar 1) (aCons (dVar 7) (aNil)))) (aNil)))))) (sRet (dC (.bl false))) (sNil))) (sCons (sAsg (dTup (aCons (dCall F__law_any_sender (aCons (dVar 0) (aCons (dVar 1) (aCons (dC (.int 4)) (aCons (dC (.int 5)) (aNil)))))) (aCons (dCall F__law_one (aCons (dVar 0) (aCons (dLst (aCons (dC (.int 0)) (aCons (dC (.int 1)) (aCons (dC (.int 9)) (aNil))))) (aNil)))) (aNil)))) (tTupG 2 (tConsG (tName 8) (tConsG (tName 9) (tNilG))))) (sCons (sSet 10 (dTup (aCons (dBin ixG (dVar 8) (dC (.int 0))) (aCons (dCall tupleG (aCons (dLc (srcSeq (dBin ixG (dVar 8) (dC (.int 1)))) (tName 11) (bYes) (dBin addG (dSl (dVar 11) (oNone) (oSome (dC (.int 3)))) (dTup (aCons (dBin addG (dBin ixG (dVar 11) (dC (.int 3))) (dTup (aCons (dVar 9) (aNil)))) (aNil)))) [11]) (aNil))) (aNil))))) (sRet (dCall F__law_alike_v3 (aCons (dCall F_led_sender (aCons (dVar 8) (aCons (dVar 9) (aNil)))) (aCons (dVar 10) (aNil))))))))))))
noncomputable def F__law_are_new_right : FN := bodyF 12 B__law_are_new_right
noncomputable def B__law_works_right_v2 : FS :=
  sCons (sAsg (dTup (aCons (dCall reprG (aCons (dVar 1) (aNil))) (aCons (dBin ixG (dVar 1) (dC (.int 0))) (aNil)))) (tTupG 2 (tConsG (tName 2) (tConsG (tName 3) (tNilG))))) (sCons (sIf (dNot (dTrue (dCall F__law_are_placed (aCons (dVar 0) (aCons (dVar 1) (aNil)))))) (sRet (dC (.bl false))) (sNil)) (sCons (sSet 4 (dLc (srcR1 (aCons (dCall lenG (aCons (dVar 3) (aNil))) (aNil))) (tName 7) (dTrue (dBin (eqG true) (dLc (srcSeq (dBin ixG (dVar 1) (dC (.int 2)))) (tName 8) (dTrue (dBin gtG (dBin ixG (dBin ixG (dVar 8) (dC (.int 1))) (dVar 7)) (dC (.int 0)))) (dC (.int 1)) [8]) (dLst (aNil)))) (dVar 7) [7])) (sCons (sPar2 5 6 (aCons (dCall tupleG (aCons (dLc (srcR1 (aCons (dCall lenG (aCons (dVar 3) (aNil))) (aNil))) (tName 7) (dTrue (dBin (inG true) (dVar 7) (dVar 4))) (dBin ixG (dVar 3) (dVar 7)) [7]) (aNil))) (aCons (dCall F_levels (aCons (dVar 1) (aNil))) (aNil)))) (sCons (sIf (dNot (dTrue (dCall F__law_alike_v3 (aCons (dLst (aCons (dCall F_raw_kinds (aCons (dVar 1) (aNil))) (aCons (dVar 6) (aNil)))) (aCons (dLst (aCons (dVar 5) (aCons (dCall F__law_levels (aCons (dVar 1) (aNil))) (aNil)))) (aNil)))))) (sRet (dC (.bl false))) (sNil)) (sCons (sExpr (dMeth "list" appendG (dVar 6) (aCons (dC .non) (aNil)))) (sCons (sIf (dNot (dTrue (dCall F__law_are_new_right (aCons (dVar 0) (aCons (dVar 1) (aNil)))))) (sRet (dC (.bl false))) (sNil)) (sRet (dCall F__law_alike_v3 (aCons (dLst (aCons (dCall F_levels (aCons (dVar 1) (aNil))) (aCons (dCall reprG (aCons (dVar 1) (aNil))) (aNil)))) (aCons (dLst (aCons (dCall F__law_levels (aCons (dVar 1) (aNil))) (aCons (dVar 2) (aNil)))) (aNil)))))))))))
noncomputable def F__law_works_right_v2 : FN := bodyF 9 B__law_works_right_v2
noncomputable def B_law_v12 : FS :=
  sCons (sSet 1 (dCall F__law_bag (aCons (dVar 0) (aNil)))) (sCons (sFor (srcSeq (dTup (aCons (dTup (aCons (dC (.int 2)) (aCons (dC (.int 1)) (aCons (dC (.int 3)) (aNil))))) (aCons (dTup (aCons (dC (.int 5)) (aCons (dC (.int 3)) (aCons (dC (.int 8)) (aNil))))) (aCons (dTup (aCons (dC (.int 3)) (aCons (dC (.int 2)) (aCons (dC (.int 6)) (aNil))))) (aCons (dTup (aCons (dC (.int 4)) (aCons (dC (.int 3)) (aCons (dC (.int 8)) (aNil))))) (aCons (dTup (aCons (dC (.int 1)) (aCons (dC (.int 0)) (aCons (dC (.int 2)) (aNil))))) (aCons (dTup (aCons (dC (.int 5)) (aCons (dC (.int 2)) (aCons (dC (.int 8)) (aNil))))) (aNil))))))))) (tName 2) (sIf (dNot (dTrue (dCall F__law_works_right_v2 (aCons (dVar 1) (aCons (dCall F__law_works (aCons (dVar 1) (aCons (dBin ixG (dVar 2) (dC (.int 0))) (aCons (dBin ixG (dVar 2) (dC (.int 1))) (aCons (dBin ixG (dVar 2) (dC (.int 2))) (aNil)))))) (aNil)))))) (sRet (dC (.bl false))) (sNil))) (sRet (dC (.bl true))))
noncomputable def F_law_v12 : FN := bodyF 3 B_law_v12
end Lw
set_option Elab.async false
set_option linter.all false
set_option maxRecDepth 100000
set_option maxHeartbeats 4000000
namespace Lw
open PySem PySem.Spec PyProof.Rows L2 Mn
theorem take_ok {S : Bxs} {b c : Nat} {m : Int} (B : Bag S b c) (h0 : 0 < m) (h1 : m < 2 ^ 60) : (F__law_take [.box b, .int m] S).Wp (fun d S' => ∃ i, d = .int i ∧ 0 ≤ i ∧ i < m ∧ Bag S' b c ∧ Fr b S S') noX := by
  obtain ⟨h, x, i, ns, B⟩ := B
  refine w_body ?_
  unfold B__law_take startD
  simp only [List.map_cons, List.map_nil, List.length_cons, List.length_nil, List.cons_append, List.nil_append, Nat.reduceAdd, Nat.reduceSub, List.replicate]
  refine w_cons (Rs.Wp.mono (P := fun r S1 => r.1 = .nx ∧ (∃ d2 d3, r.2 = [some (.box b), some (.int m), d2, d3, none, none, none]) ∧ Bag S1 b c ∧ Fr b S S1) ?a ?b fun _ _ _ q => q)
  case a =>
    have hb := B.at_
    and_intros
    refine ⟨fun _ => ?_, fun _ => ?_⟩
    · and_intros
      refine w_slB (seq_lst B.cells) ?_
      have hcl : (Mn.cutD (ns.map Dt.int) (some i) none).length ≤ 63 := Nat.le_trans (cutD_length _ _ _) (by rw [List.length_map]; exact B.len)
      have hcm : ∀ d ∈ Mn.cutD (ns.map Dt.int) (some i) none, ∃ k : Int, d = .int k ∧ 0 ≤ k := fun d hd => by
        unfold Mn.cutD at hd
        obtain ⟨k, hk, rfl⟩ := List.mem_map.mp (List.mem_of_mem_drop (List.mem_of_mem_take hd))
        exact ⟨k, rfl, B.pos k hk⟩
      generalize Mn.cutD (ns.map Dt.int) (some i) none = cs at hcl hcm
      refine w_newL (Nat.le_trans hcl (by decide)) ?_
      and_intros
      try refine w_newL (ds := [.int 0]) (by decide) ?_
      refine w_addL (xs := cs) (ys := [.int 0]) (lst_of (by simp)) (lst_of get_last) ?_
      refine w_newL (by rw [List.length_append]; exact Nat.le_trans (Nat.add_le_add_right hcl 1) (by decide)) ?_
      and_intros
      refine w_idx (seq_lst get_last) (Int.le_refl _) (by simp) fun d hd => ?_
      obtain ⟨k, rfl, hk⟩ : ∃ k : Int, d = .int k ∧ 0 ≤ k := by
        rcases List.mem_append.mp (List.mem_of_getElem? hd) with z | z
        · exact hcm d z
        · exact ⟨0, by simpa using z, Int.le_refl _⟩
      have p : S <+: ((S ++ [MBox.lst cs]) ++ [MBox.lst [Dt.int 0]]) ++ [MBox.lst (cs ++ [Dt.int 0])] := by rw [List.append_assoc, List.append_assoc]; exact List.prefix_append _ _
      have fin : ∀ {S3 : Bxs} {h3 : Int}, BagAt S3 b c h3 x (i + 1) ns → Fr b S S3 → (sCons (sSet 3 (dBin addG (dBin addG (dBin mulG (dBin ixG (dVar 0) (dC (.int 1))) (dC (.int 48271))) (dBin modG (dCall intG (aCons (dVar 2) (aNil))) (dC (.int 2147483647)))) (dBin mulG (dC (.int 7919)) (dBin ixG (dVar 0) (dC (.int 2)))))) (sAsg (dBin modG (dCall intG (aCons (dVar 3) (aNil))) (dC (.int 2147483647))) (tSubG (dVar 0) (dC (.int 1)))) [some (.box b), some (.int m), some (.int k), none, none, none, none] S3).Wp (fun r S1 => r.1 = .nx ∧ (∃ d2 d3, r.2 = [some (.box b), some (.int m), d2, d3, none, none, none]) ∧ Bag S1 b c ∧ Fr b S S1) noX := fun {S3 h3} B3 F3 => by
        have hb3 := B3.at_
        and_intros
        refine w_setG (j := 1) (lst_of B3.at_) (by rfl) ?_
        exact ⟨rfl, ⟨_, _, rfl⟩, ⟨h3, _, i + 1, ns, B3.set B3.h0 (Int.emod_nonneg _ (by decide)) (Int.emod_lt_of_pos _ (by decide)) B3.i0⟩, F3.trans Fr.set⟩
      have B1 := B.pre p
      have F1 := Fr.pre (b := b) p
      generalize ((S ++ [MBox.lst cs]) ++ [MBox.lst [Dt.int 0]]) ++ [MBox.lst (cs ++ [Dt.int 0])] = S1 at B1 F1
      and_intros
      refine w_getG (lst_of B1.at_) (by decide) rfl ?_
      and_intros
      refine w_setG (j := 2) (lst_of B1.at_) (by rfl) ?_
      have B2 := B1.set B1.h0 B1.x0 B1.x1 (show 0 ≤ i + 1 by have := B1.i0; omega)
      have F2 := F1.trans (Fr.set (x := .lst [.int h, .int x, .int (i + 1), .box c]))
      and_intros
      refine ⟨fun hk2 => ?_, fun _ => ?_⟩
      · and_intros
        refine w_setG (j := 0) (lst_of B2.at_) (by rfl) ?_
        have B3 := B2.set hk B2.x0 B2.x1 B2.i0
        have F3 := F2.trans (Fr.set (x := .lst [.int k, .int x, .int (i + 1), .box c]))
        exact ⟨fun _ => fin B3 F3, fun z => absurd rfl z⟩
      · refine w_sNil ?_
        exact ⟨fun _ => fin B2 F2, fun z => absurd rfl z⟩
    · and_intros
      exact ⟨rfl, ⟨_, _, rfl⟩, ⟨h, x, i, ns, B⟩, Fr.refl _ _⟩
  case b =>
    rintro ⟨fl, σ1⟩ S1 ⟨e, ⟨d2, d3, e2⟩, ⟨h, x, i, ns, B⟩, F⟩
    cases e
    cases e2
    have hb := B.at_
    and_intros
    refine ⟨fun hp => ?_, fun hp => ?_⟩
    · and_intros
      refine w_setG (j := 0) (lst_of B.at_) (by rfl) ?_
      and_intros
      exact .inl ⟨_, rfl, _, rfl, Int.emod_nonneg _ (by omega), Int.emod_lt_of_pos _ h0, ⟨_, x, i, ns, B.set (Int.ediv_nonneg B.h0 (by omega)) B.x0 B.x1 B.i0⟩, F.trans Fr.set⟩
    · and_intros
      refine w_mul (.small (by have := Int.emod_nonneg ((x + 1) * 39373) (show (1000000007 : Int) ≠ 0 by decide); omega) (by have := Int.emod_lt_of_pos ((x + 1) * 39373) (show (0 : Int) < 1000000007 by decide); omega)) ?_
      and_intros
      exact .inl ⟨_, rfl, _, rfl, Int.emod_nonneg _ (by omega), Int.emod_lt_of_pos _ h0, ⟨h, x, i, ns, B⟩, F⟩
theorem one_ok {S : Bxs} {b c t : Nat} {xs : List Dt} (B : Bag S b c) (e : S.seq t = some xs) (ht : t ≠ b) (hne : xs ≠ []) (hl : xs.length ≤ 100000) : (F__law_one [.box b, .box t] S).Wp (fun d S' => d ∈ xs ∧ Bag S' b c ∧ Fr b S S') noX := by
  refine w_body ?_
  unfold B__law_one
  simp only [startD, List.map_cons, List.map_nil, List.length_cons, List.length_nil, List.cons_append, List.nil_append, Nat.reduceAdd, Nat.reduceSub, List.replicate, List.replicate_succ, List.replicate_zero]
  and_intros
  refine w_lenB e ?_
  and_intros
  have h0 : 0 < xs.length := List.length_pos_iff.mpr hne
  refine (take_ok B (by omega) (by omega)).mono (fun d S1 ⟨i, e1, i0, i1, B1, F1⟩ => ?_) fun _ _ _ q => q
  subst e1
  refine w_idx (F1.seq e ht) i0 i1 fun d hd => ?_
  exact .inl ⟨_, rfl, List.mem_of_getElem? hd, B1, F1⟩
theorem mixed_ok {S : Bxs} {b c t : Nat} {xs : List Dt} (B : Bag S b c) (e : S.seq t = some xs) (ht : t ≠ b) (hl : xs.length ≤ 1000) :
    (F__law_mixed [.box b, .box t] S).Wp (fun d S' => ∃ r ys, d = .box r ∧ S.length ≤ r ∧ S'[r]? = some (.lst ys) ∧ ys.Perm xs ∧ Bag S' b c ∧ Fr b S S') noX := by
  refine w_body ?_
  unfold B__law_mixed
  simp only [startD, List.map_cons, List.map_nil, List.length_cons, List.length_nil, List.cons_append, List.nil_append, Nat.reduceAdd, Nat.reduceSub, List.replicate, List.replicate_succ, List.replicate_zero]
  and_intros
  have F0 : Fr b S (S ++ [.lst []]) := (Fr.refl b S).app
  refine ⟨xs, F0.seq e ht, ?_⟩
  have hb : S.length ≠ b := Nat.ne_of_gt B.lt.1
  have hc : S.length ≠ c := Nat.ne_of_gt B.lt.2
  refine w_loop (fun i σ S' => ∃ d3 ys, σ = [some (.box b), some (.box t), some (.box S.length), d3] ∧ S'[S.length]? = some (.lst ys) ∧ ys.Perm (xs.take i) ∧ Bag S' b c ∧ Fr b S S') (fun i σ S' ⟨_, _, _, _, _, _, F⟩ => F.seq e ht) (fun i x σ S' hx ⟨d3, ys, e1, e2, pm, B1, F1⟩ => ?_) (fun σ S' ⟨d3, ys, e1, e2, pm, B1, F1⟩ => ?_) ⟨none, [], rfl, get_last, by simp, B.app, F0⟩
  · subst e1
    have hyl : ys.length ≤ 1000 := by rw [pm.length_eq, List.length_take]; omega
    and_intros
    refine ⟨ty_list e2, ?_⟩
    and_intros
    refine w_lenB (seq_lst e2) ?_
    and_intros
    refine (take_ok B1 (by omega) (by omega)).mono (fun d S2 ⟨j, ed, j0, j1, B2, F2⟩ => ?_) fun _ _ _ q => q
    subst ed
    and_intros
    refine w_insert (lst_of (F2.at_ e2 hb)) ⟨Nat.lt_of_le_of_lt hyl (by decide), j0, by omega⟩ ?_
    refine .inl ⟨rfl, _, _, rfl, List.getElem?_set_self (get_lt (F2.at_ e2 hb)), ?_, B2.own hb hc, (F1.trans F2).own (Nat.le_refl _)⟩
    refine (ins_perm _ _ _).trans ?_
    rw [List.take_add_one, hx]
    exact pm.append_right _
  · subst e1
    and_intros
    rw [List.take_length] at pm
    exact .inl ⟨_, rfl, _, ys, rfl, Nat.le_refl _, e2, pm, B1, F1⟩
end Lw
set_option Elab.async false
set_option linter.all false
set_option maxRecDepth 100000
set_option maxHeartbeats 4000000
namespace Lw
open PySem PySem.Spec PyProof.Rows L2 Mn
def menuD : List Dt := [.str "a", .str "b", .str "c", .str "d", .str "ab", .str "to", .str "by", .str "with", .str "kinds", .str "hands", .str "recipe", .str "run", .str "places", .str "arrow", .str "gym", .str "jvl", .str "zzzzzz", .str "x", .str "fq"]
def menuS : List Str := ["a", "b", "c", "d", "ab", "to", "by", "with", "kinds", "hands", "recipe", "run", "places", "arrow", "gym", "jvl", "zzzzzz", "x", "fq"]
theorem menu_nodup : menuD.Nodup := by
  show (menuS.map Dt.str).Pairwise (· ≠ ·)
  refine List.Pairwise.map Dt.str (R := fun a b => a ≠ b) (fun a b h e => h (Dt.str.inj e)) ?_
  show menuS.Nodup
  decide +kernel
theorem names_ok {S : Bxs} {b c : Nat} (B : Bag S b c) : (F__law_names [.box b, .int 8] S).Wp (fun d S' => ∃ r ys, d = .box r ∧ S.length ≤ r ∧ S'[r]? = some (.lst ys) ∧ ys.length = 8 ∧ ys.Nodup ∧ (∀ y ∈ ys, y ∈ menuD) ∧ Bag S' b c ∧ Fr b S S') noX := by
  refine w_body ?_
  unfold B__law_names
  simp only [startD, List.map_cons, List.map_nil, List.length_cons, List.length_nil, List.cons_append, List.nil_append, Nat.reduceAdd, Nat.reduceSub, List.replicate, List.replicate_succ, List.replicate_zero]
  and_intros
  refine w_addL (xs := menuD.take 13) (ys := menuD.drop 13) (lst_of (by simp; rfl)) (lst_of (by simp; rfl)) ?_
  refine w_newL (by decide) ?_
  and_intros
  have p : S <+: ((S ++ [MBox.lst (menuD.take 13)]) ++ [MBox.lst (menuD.drop 13)]) ++ [MBox.lst (menuD.take 13 ++ menuD.drop 13)] := by rw [List.append_assoc, List.append_assoc]; exact List.prefix_append _ _
  refine (mixed_ok (S := ((S ++ [MBox.lst (menuD.take 13)]) ++ [MBox.lst (menuD.drop 13)]) ++ [MBox.lst (menuD.take 13 ++ menuD.drop 13)]) (B.pre p) (seq_lst get_last) (by have := B.lt.1; simp; omega) (by decide)).mono (fun d S1 ⟨r, ys, ed, hr, e1, pm, B1, F1⟩ => ?_) fun _ _ _ q => q
  subst ed
  and_intros
  have hy : ys.length = 19 := pm.length_eq
  have hc : Mn.cutD ys none (some 8) = ys.take 8 := by
    unfold Mn.cutD
    rw [HT.sIx_none, List.drop_zero, Nat.sub_zero]
    show ys.take (HT.sIx ys.length ys.length (some ((8 : Nat) : Int))) = _
    rw [HT.sIx_nat, hy]
    rfl
  refine w_slB (seq_lst e1) ?_
  rw [hc]
  have h8 : (ys.take 8).length = 8 := by rw [List.length_take, hy]; rfl
  refine w_newL (by rw [h8]; decide) ?_
  have F2 := (Fr.pre (b := b) p).trans F1
  refine .inl ⟨_, rfl, _, _, rfl, F2.len, get_last, h8, ?_, fun y hy => ?_, B1.app, F2.app⟩
  · exact (pm.nodup_iff.mpr menu_nodup).sublist (List.take_sublist _ _)
  · exact pm.mem_iff.mp (List.mem_of_mem_take hy)
def AllB (is : List Int) : Prop := ∀ i ∈ is, 0 ≤ i ∧ i ≤ 5
theorem AllB.set {is : List Int} {j : Nat} {v : Int} (h : AllB is) (hv : 0 ≤ v ∧ v ≤ 5) : AllB (is.set j v) := fun i hi => by
  rcases List.mem_or_eq_of_mem_set hi with z | z
  · exact h i z
  · rw [z]; exact hv
theorem AllB.zeros (n : Nat) : AllB (List.replicate n 0) := fun i hi => by
  rw [List.eq_of_mem_replicate hi]; omega
/-- nothing behind l; nothing up to l -/
def ZT (l : Nat) (is : List Int) : Prop := ∀ (j : Nat) v, l < j → is[j]? = some v → v = 0
def ZU (l : Nat) (is : List Int) : Prop := ∀ (j : Nat) v, j ≤ l → is[j]? = some v → v = 0
theorem ZT.set {l i : Nat} {is : List Int} {v : Int} (h : ZT l is) (hi : i ≤ l) : ZT l (is.set i v) := fun j w hj e => by
  rw [List.getElem?_set_ne (by omega)] at e; exact h j w hj e
theorem ZU.set {l i : Nat} {is : List Int} {v : Int} (h : ZU l is) (hi : l < i) : ZU l (is.set i v) := fun j w hj e => by
  rw [List.getElem?_set_ne (by omega)] at e; exact h j w hj e
theorem zero_at {n j : Nat} {v : Int} (e : (List.replicate n (0 : Int))[j]? = some v) : v = 0 := List.eq_of_mem_replicate (List.mem_of_getElem? e)
structure Recipe (size : Nat) (hs : List Dt) (d : Dt) (ts us : List Int) (h : Dt) : Prop where
  eq : d = .tup [.tup (ts.map Dt.int), .tup (us.map Dt.int), h]
  tl : ts.length = size
  ul : us.length = size
  tb : AllB ts
  ub : AllB us
  tp : ∃ i ∈ ts, 0 < i
  hh : h = .non ∨ h ∈ hs
  sb : ∃ l : Nat, (∃ v, ts[l]? = some v ∧ 0 < v) ∧ ZT l ts ∧ ZU l us
/-- a recipe's own lists, filled -/
def RI (S : Bxs) (l b c m t p : Nat) (size : Nat) (S' : Bxs) : Prop := ∃ ms ts us, IL S' m ms ∧ IL S' t ts ∧ IL S' p us ∧ ms.length = 4 ∧ AllB ms ∧ ts.length = size ∧ us.length = size ∧ AllB ts ∧ AllB us ∧ ZT l ts ∧ ZU l us ∧ Bag S' b c ∧ Fr b S S'
theorem recipe_ok {S : Bxs} {b c : Nat} {size most : Int} {hs : List Dt} (B : Bag S b c) (s0 : 0 < size) (s1 : size ≤ 10) (m0 : 0 < most) (m1 : most ≤ 4) (hl : hs.length ≤ 10) :
    (F__law_recipe [.box b, .int size, .tup hs, .int most] S).Wp (fun d S' => (∃ ts us h, Recipe size.toNat hs d ts us h) ∧ Bag S' b c ∧ Fr b S S') noX := by
  refine w_body ?_
  unfold B__law_recipe
  simp only [startD, List.map_cons, List.map_nil, List.length_cons, List.length_nil, List.cons_append, List.nil_append, Nat.reduceAdd, Nat.reduceSub, List.replicate, List.replicate_succ, List.replicate_zero]
  and_intros
  refine (take_ok B s0 (by omega)).mono (fun d S1 ⟨last, ed, l0, l1, B1, F1⟩ => ?_) fun _ _ _ q => q
  subst ed
  and_intros
  refine (take_ok B1 m0 (by omega)).mono (fun d S2 ⟨k, ed, k0, k1, B2, F2⟩ => ?_) fun _ _ _ q => q
  subst ed
  and_intros
  refine w_mulL (lst_of get_last) ⟨by omega, by omega, by decide⟩ ?_
  rw [zeros]
  have hrl : ((List.replicate size.toNat (0 : Int)).map Dt.int).length ≤ LIM := by rw [List.length_map, List.length_replicate]; exact Nat.le_trans (show size.toNat ≤ 10 by omega) (by decide)
  refine w_newL hrl ?_
  and_intros
  refine w_mulL (lst_of get_last) ⟨by omega, by omega, by decide⟩ ?_
  rw [zeros]
  refine w_newL hrl ?_
  and_intros
  have F02 := F1.trans F2
  have q1 := B.lt
  have q2 := F02.len
  have z1 : (List.map Dt.int (List.replicate size.toNat 0)).length = size.toNat := by rw [List.length_map, List.length_replicate]
  have hJ : RI S last.toNat b c S2.length (List.length (S2 ++ [MBox.lst [Dt.int 0, Dt.int 1, Dt.int 0, Dt.int (1 + k)]] ++ [MBox.lst [Dt.int 0]]))
      (List.length (S2 ++ [MBox.lst [Dt.int 0, Dt.int 1, Dt.int 0, Dt.int (1 + k)]] ++ [MBox.lst [Dt.int 0]] ++ [MBox.lst (List.map Dt.int (List.replicate size.toNat 0))] ++ [MBox.lst [Dt.int 0]])) size.toNat
      (S2 ++ [MBox.lst [Dt.int 0, Dt.int 1, Dt.int 0, Dt.int (1 + k)]] ++ [MBox.lst [Dt.int 0]] ++ [MBox.lst (List.map Dt.int (List.replicate size.toNat 0))] ++ [MBox.lst [Dt.int 0]] ++ [MBox.lst (List.map Dt.int (List.replicate size.toNat 0))]) := by
    refine ⟨[0, 1, 0, 1 + k], List.replicate size.toNat 0, List.replicate size.toNat 0, ?_, ?_, get_last, rfl, ?_, List.length_replicate, List.length_replicate, AllB.zeros _, AllB.zeros _, (fun _ _ _ e => zero_at e), (fun _ _ _ e => zero_at e), B2.app.app.app.app.app, F02.app.app.app.app.app⟩
    · exact IL.pre (IL.pre (IL.pre (IL.pre (show IL _ _ [0, 1, 0, 1 + k] from get_last) (List.prefix_append _ _)) (List.prefix_append _ _)) (List.prefix_append _ _)) (List.prefix_append _ _)
    · exact IL.pre (IL.pre (show IL _ _ (List.replicate size.toNat 0) from get_last) (List.prefix_append _ _)) (List.prefix_append _ _)
    · intro i hi
      simp at hi
      omega
  have dd : S2.length < List.length (S2 ++ [MBox.lst [Dt.int 0, Dt.int 1, Dt.int 0, Dt.int (1 + k)]] ++ [MBox.lst [Dt.int 0]]) ∧ List.length (S2 ++ [MBox.lst [Dt.int 0, Dt.int 1, Dt.int 0, Dt.int (1 + k)]] ++ [MBox.lst [Dt.int 0]]) <
      List.length (S2 ++ [MBox.lst [Dt.int 0, Dt.int 1, Dt.int 0, Dt.int (1 + k)]] ++ [MBox.lst [Dt.int 0]] ++ [MBox.lst (List.map Dt.int (List.replicate size.toNat 0))] ++ [MBox.lst [Dt.int 0]]) := by
    simp only [List.length_append, List.length_cons, List.length_nil]; omega
  generalize (S2 ++ [MBox.lst [Dt.int 0, Dt.int 1, Dt.int 0, Dt.int (1 + k)]] ++ [MBox.lst [Dt.int 0]] ++ [MBox.lst (List.map Dt.int (List.replicate size.toNat 0))] ++ [MBox.lst [Dt.int 0]] ++ [MBox.lst (List.map Dt.int (List.replicate size.toNat 0))]) = S3 at hJ ⊢
  generalize (List.length (S2 ++ [MBox.lst [Dt.int 0, Dt.int 1, Dt.int 0, Dt.int (1 + k)]] ++ [MBox.lst [Dt.int 0]] ++ [MBox.lst (List.map Dt.int (List.replicate size.toNat 0))] ++ [MBox.lst [Dt.int 0]])) = p at hJ dd ⊢
  generalize (List.length (S2 ++ [MBox.lst [Dt.int 0, Dt.int 1, Dt.int 0, Dt.int (1 + k)]] ++ [MBox.lst [Dt.int 0]])) = t at hJ dd ⊢
  generalize S2.length = m at hJ dd q2 ⊢
  refine ⟨⟨by omega, by omega⟩, ?_⟩
  have drawn : ∀ {S4 : Bxs} {ms : List Int} {P : Dt → Bxs → Prop}, IL S4 m ms → ms.length = 4 → AllB ms → Bag S4 b c → (∀ v S5, 0 ≤ v ∧ v ≤ 5 → Bag S5 b c → Fr b S4 S5 → P (.int v) S5) → (F__law_one [.box b, .box m] S4).Wp P noX := fun {S4 ms P} i1 i2 i3 i4 h => by
    refine (one_ok i4 i1.seq (by omega) (fun z => by rw [List.map_eq_nil_iff] at z; rw [z] at i2; cases i2) (by rw [List.length_map, i2]; decide)).mono (fun d S5 ⟨hd, B5, F5⟩ => ?_) fun _ _ _ q => q
    obtain ⟨v, hv, rfl⟩ := List.mem_map.mp hd
    exact h v S5 (i3 v hv) B5 F5
  refine w_loop (fun i σ S' => ∃ d8, σ = [some (.box b), some (.int size), some (.tup hs), some (.int most), some (.int last), some (.box m), some (.box t), some (.box p), d8] ∧ RI S last.toNat b c m t p size.toNat S') (fun _ _ _ _ => trivial) (fun i x σ S4 hx ⟨d8, e1, J⟩ => ?_) (fun σ S4 ⟨d8, e1, J⟩ => ?_) ⟨_, rfl, hJ⟩
  · subst e1
    have hx2 := rgD_get hx
    subst hx2
    have hil : i < size.toNat := by
      have := (List.getElem?_eq_some_iff.mp hx).1
      unfold rgD at this
      simpa using this
    obtain ⟨ms, ts, us, i1, i2, i3, i4, i5, i6, i7, i8, i9, z1, z2, B4, F4⟩ := J
    and_intros
    refine ⟨fun hlt => ?_, fun _ => ?_⟩
    · have hlt : 0 + (i : Int) < last := of_decide_eq_true hlt
      and_intros
      refine drawn i1 i4 i5 B4 fun v S5 hv B5 F5 => ?_
      and_intros
      have j2 := i2.fr F5 (by omega)
      refine w_setG (j := i) (lst_of j2) (by rw [ixN_mk (by omega) (by rw [List.length_map, i6]; omega)]; congr; omega) ?_
      refine .inl ⟨rfl, _, rfl, ms, ts.set i v, us, (i1.fr F5 (by omega)).skip (by omega), j2.set (by rw [List.map_set]), (i3.fr F5 (by omega)).skip (by omega), i4, i5, by rw [List.length_set]; exact i6, i7, i8.set hv, i9, z1.set (by omega), z2, B5.own (by omega) (by omega), (F4.trans F5).own (by omega)⟩
    · and_intros
      have skip : ∀ {S5 : Bxs}, Bag S5 b c → Fr b S4 S5 → ∃ d8, [some (Dt.box b), some (.int size), some (.tup hs), some (.int most), some (.int last), some (.box m), some (.box t), some (.box p), some (.int (0 + (i : Int)))] = [some (Dt.box b), some (.int size), some (.tup hs), some (.int most), some (.int last), some (.box m), some (.box t), some (.box p), d8] ∧ RI S last.toNat b c m t p size.toNat S5 :=
        fun {S5} B5 F5 => ⟨_, rfl, ms, ts, us, i1.fr F5 (by omega), i2.fr F5 (by omega), i3.fr F5 (by omega), i4, i5, i6, i7, i8, i9, z1, z2, B5, F4.trans F5⟩
      refine ⟨fun hgt => ?_, fun _ => ?_⟩
      · have hgt : last < 0 + (i : Int) := of_decide_eq_true hgt
        and_intros
        refine (take_ok B4 (by decide) (by decide)).mono (fun d S5 ⟨j, ed, j0, j1, B5, F5⟩ => ?_) fun _ _ _ q => q
        subst ed
        and_intros
        refine ⟨fun _ => ?_, fun _ => ?_⟩
        · and_intros
          refine drawn (i1.fr F5 (by omega)) i4 i5 B5 fun v S6 hv B6 F6 => ?_
          and_intros
          have F46 := F5.trans F6
          have j3 := i3.fr F46 (by omega)
          refine w_setG (j := i) (lst_of j3) (by rw [ixN_mk (by omega) (by rw [List.length_map, i7]; omega)]; congr; omega) ?_
          refine .inl ⟨rfl, _, rfl, ms, ts, us.set i v, (i1.fr F46 (by omega)).skip (by omega), (i2.fr F46 (by omega)).skip (by omega), j3.set (by rw [List.map_set]), i4, i5, i6, by rw [List.length_set]; exact i7, i8, i9.set hv, z1, z2.set (by omega), B6.own (by omega) (by omega), (F4.trans F46).own (by omega)⟩
        · and_intros
          exact .inl ⟨rfl, skip B5 F5⟩
      · refine ⟨fun z => absurd z Bool.false_ne_true, fun _ => ?_⟩
        and_intros
        exact .inl ⟨rfl, skip B4 (Fr.refl _ _)⟩
  · subst e1
    obtain ⟨ms, ts, us, i1, i2, i3, i4, i5, i6, i7, i8, i9, z1, z2, B4, F4⟩ := J
    and_intros
    refine (take_ok B4 m0 (by omega)).mono (fun d S5 ⟨j, ed, j0, j1, B5, F5⟩ => ?_) fun _ _ _ q => q
    subst ed
    and_intros
    have q5 := (F4.trans F5).len
    refine (one_ok (xs := [Dt.int 1, Dt.int 1, Dt.int 1, Dt.int 2, Dt.int (1 + j)]) B5.app (seq_lst get_last) (by have := B5.lt.1; omega) (fun z => nomatch z) (Nat.le_of_ble_eq_true (by rfl))).mono (fun d S6 ⟨hd, B6, F6⟩ => ?_) fun _ _ _ q => q
    obtain ⟨v, rfl, hv0, hv1⟩ : ∃ v : Int, d = .int v ∧ 0 < v ∧ v ≤ 5 := by
      simp at hd
      rcases hd with z | z | z <;> exact ⟨_, z, by omega, by omega⟩
    and_intros
    have F46 := (F5.app (x := .lst [Dt.int 1, Dt.int 1, Dt.int 1, Dt.int 2, Dt.int (1 + j)])).trans F6
    have j2 := i2.fr F46 (by omega)
    refine w_setG (j := last.toNat) (lst_of j2) (ixN_mk l0 (by rw [List.length_map, i6]; omega)) ?_
    rw [← List.map_set]
    have k2 : IL (S6.set t (.lst ((ts.set last.toNat v).map Dt.int))) t (ts.set last.toNat v) := j2.set rfl
    have k3 : IL (S6.set t (.lst ((ts.set last.toNat v).map Dt.int))) p us := (i3.fr F46 (by omega)).skip (by omega)
    have B7 : Bag (S6.set t (.lst ((ts.set last.toNat v).map Dt.int))) b c := B6.own (by omega) (by omega)
    have F7 : Fr b S (S6.set t (.lst ((ts.set last.toNat v).map Dt.int))) := (F4.trans F46).own (by omega)
    generalize S6.set t (.lst ((ts.set last.toNat v).map Dt.int)) = S7 at k2 k3 B7 F7
    and_intros
    refine w_tupB k2.seq ?_
    and_intros
    refine w_tupB k3.seq ?_
    and_intros
    refine w_listT ?_
    refine w_newL (Nat.le_trans hl (by decide)) ?_
    and_intros
    refine w_mulL (lst_of get_last) ⟨by decide, by decide, by omega⟩ ?_
    have hll : (List.replicate (Int.toNat 2) hs).flatten.length ≤ 20 := by
      show (List.replicate 2 hs).flatten.length ≤ 20
      simp [List.replicate]; omega
    refine w_newL (Nat.le_trans hll (by decide)) ?_
    and_intros
    refine w_addL (xs := (List.replicate (Int.toNat 2) hs).flatten) (ys := [.non]) (lst_of (get_pre (List.prefix_append _ _) get_last)) (lst_of get_last) ?_
    have hlm : ((List.replicate (Int.toNat 2) hs).flatten ++ [Dt.non]).length ≤ 21 := by rw [List.length_append]; simpa using hll
    refine w_newL (Nat.le_trans hlm (by decide)) ?_
    and_intros
    refine (one_ok B7.app.app.app.app (seq_lst get_last) (by have := B7.lt.1; simp only [List.length_append, List.length_cons, List.length_nil]; omega) (fun z => by simp at z) (Nat.le_trans hlm (by decide))).mono (fun h S8 ⟨hh, B8, F8⟩ => ?_) fun _ _ _ q => q
    and_intros
    refine ⟨Nat.le_of_ble_eq_true (by rfl), ?_⟩
    refine .inl ⟨_, rfl, ⟨ts.set last.toNat v, us, h, rfl, by rw [List.length_set]; exact i6, i7, i8.set ⟨by omega, hv1⟩, i9, ⟨v, List.mem_set (show last.toNat < ts.length by rw [i6]; omega) v, hv0⟩, ?_, ⟨last.toNat, ⟨v, List.getElem?_set_self (by rw [i6]; omega), hv0⟩, z1.set (Nat.le_refl _), z2⟩⟩, B8, F7.app.app.app.app.trans F8⟩
    rcases List.mem_append.mp hh with z | z
    · right
      obtain ⟨l, hl1, hl2⟩ := List.mem_flatten.mp z
      rw [List.eq_of_mem_replicate hl1] at hl2
      exact hl2
    · left
      simpa using z
end Lw
set_option Elab.async false
set_option linter.all false
set_option maxRecDepth 100000
set_option maxHeartbeats 4000000
namespace Mn
open PySem PySem.Spec PyProof.Rows L2
theorem Pls.of_all {S : Bxs} {n w : Nat} : ∀ {ds : List Dt}, (∀ d ∈ ds, ∃ p, Pl S n d p w) → ∃ ps, Pls S n ds ps (ds.length * (w + 2)) ∧ ps.length = ds.length
  | [], _ => ⟨[], by simpa using Pls.nil, rfl⟩
  | d :: ds, h => by
    obtain ⟨p, hp⟩ := h d List.mem_cons_self
    obtain ⟨ps, hps, hl⟩ := Pls.of_all (ds := ds) fun d hd => h d (List.mem_cons_of_mem _ hd)
    refine ⟨p :: ps, ?_, by simp [hl]⟩
    have := Pls.cons hp hps
    rw [List.length_cons, Nat.add_mul, Nat.one_mul, Nat.add_comm]
    exact this
theorem w_mulT {S : Bxs} {E : Nat → List Dt → Bxs → Prop} {xs : List Dt} {k : Int} {P : Dt → Bxs → Prop} (c : xs ≠ [] ∧ -1000 ≤ k ∧ k ≤ 1000 ∧ xs.length ≤ 100) (h : P (.tup (List.replicate k.toNat xs).flatten) S) : (mulG (.tup xs) (.int k) S).Wp P E := by
  show (if xs ≠ [] ∧ -1000 ≤ k ∧ k ≤ 1000 ∧ xs.length ≤ 100 then Rs.ok (Dt.tup (List.replicate k.toNat xs).flatten) S else .no).Wp P E
  rw [if_pos c]; exact sat_mk h
end Mn
namespace Lw
open PySem PySem.Spec PyProof.Rows L2 Mn
theorem pl_menu {S : Bxs} {n : Nat} {d : Dt} (h : d ∈ menuD) : ∃ p, Pl S (n + 1) d p 8 := by
  simp only [menuD, List.mem_cons, List.not_mem_nil, or_false] at h
  rcases h with h | h | h | h | h | h | h | h | h | h | h | h | h | h | h | h | h | h | h <;> subst h <;> exact ⟨_, .str (by decide +kernel) (by simp only [PyData.shown]; decide +kernel) (by simp only [PyData.shown]; decide +kernel)⟩
theorem pl_small {S : Bxs} {n : Nat} {is : List Int} (h : AllB is) : ∃ ps, Pls S (n + 1) (is.map Dt.int) ps (is.length * 4) := by
  obtain ⟨ps, h1, h2⟩ := Pls.of_all (S := S) (n := n + 1) (w := 2) (ds := is.map Dt.int) fun d hd => by
    obtain ⟨i, hi, rfl⟩ := List.mem_map.mp hd
    have := h i hi
    exact ⟨_, Pl.mkInt 1 (by decide) (by decide) (by omega)⟩
  rw [List.length_map] at h1
  exact ⟨ps, h1⟩
theorem pl_recipe {S : Bxs} {n size : Nat} {hs : List Dt} {d : Dt} {ts us : List Int} {h : Dt} (R : Recipe size hs d ts us h) (hm : ∀ x ∈ hs, x ∈ menuD) : ∃ p, Pl S (n + 3) d p (8 * size + 26) := by
  obtain ⟨p1, q1⟩ := pl_small (S := S) (n := n) R.tb
  obtain ⟨p2, q2⟩ := pl_small (S := S) (n := n) R.ub
  rw [R.tl] at q1
  rw [R.ul] at q2
  have hh : ∃ p, Pl S (n + 2) h p 8 := by
    rcases R.hh with e | e
    · subst e; exact ⟨_, .non (by decide)⟩
    · exact pl_menu (hm _ e)
  obtain ⟨p3, q3⟩ := hh
  rw [R.eq]
  exact ⟨_, .tup (.cons (.tup q1 (Nat.le_refl _)) (.cons (.tup q2 (Nat.le_refl _)) (.cons q3 .nil))) (by omega)⟩
theorem out_ok {S : Bxs} {b c : Nat} {size place : Int} {hs : List Dt} (B : Bag S b c) (s1 : size ≤ 10) (p0 : 0 ≤ place) (p1 : place < size) (hl : hs.length ≤ 10) :
    (F__law_out [.box b, .int size, .int place, .tup hs] S).Wp (fun d S' => (∃ ts us h, Recipe size.toNat hs d ts us h) ∧ Bag S' b c ∧ Fr b S S') noX := by
  refine w_body ?_
  unfold B__law_out
  simp only [startD, List.map_cons, List.map_nil, List.length_cons, List.length_nil, List.cons_append, List.nil_append, Nat.reduceAdd, Nat.reduceSub, List.replicate, List.replicate_succ, List.replicate_zero]
  and_intros
  refine w_mulL (lst_of get_last) ⟨by omega, by omega, by decide⟩ ?_
  rw [zeros]
  have hrl : ((List.replicate size.toNat (0 : Int)).map Dt.int).length ≤ LIM := by rw [List.length_map, List.length_replicate]; exact Nat.le_trans (show size.toNat ≤ 10 by omega) (by decide)
  refine w_newL hrl ?_
  and_intros
  have i2 : IL ((S ++ [MBox.lst [Dt.int 0]]) ++ [MBox.lst (List.map Dt.int (List.replicate size.toNat 0))]) (S ++ [MBox.lst [Dt.int 0]]).length (List.replicate size.toNat 0) := get_last
  refine w_setG (j := place.toNat) (lst_of i2) (ixN_mk p0 (by rw [List.length_map, List.length_replicate]; omega)) ?_
  rw [← List.map_set]
  have hne : S.length < (S ++ [MBox.lst [Dt.int 0]]).length := by simp
  have q := B.lt
  have k2 := i2.set (is := (List.replicate size.toNat 0).set place.toNat 1) rfl
  have B7 := (B.app (x := MBox.lst [Dt.int 0])).app (x := MBox.lst (List.map Dt.int (List.replicate size.toNat 0))) |>.own (n := (S ++ [MBox.lst [Dt.int 0]]).length) (x := MBox.lst (((List.replicate size.toNat 0).set place.toNat 1).map Dt.int)) (by omega) (by omega)
  have F7 := (((Fr.refl b S).app (x := MBox.lst [Dt.int 0])).app (x := MBox.lst (List.map Dt.int (List.replicate size.toNat 0)))).own (n := (S ++ [MBox.lst [Dt.int 0]]).length) (x := MBox.lst (((List.replicate size.toNat 0).set place.toNat 1).map Dt.int)) (by omega)
  generalize List.set ((S ++ [MBox.lst [Dt.int 0]]) ++ [MBox.lst (List.map Dt.int (List.replicate size.toNat 0))]) (S ++ [MBox.lst [Dt.int 0]]).length (MBox.lst (((List.replicate size.toNat 0).set place.toNat 1).map Dt.int)) = S7 at k2 B7 F7 ⊢
  and_intros
  refine w_tupB k2.seq ?_
  and_intros
  refine ⟨Nat.le_of_ble_eq_true (by rfl), ?_⟩
  and_intros
  refine w_mulT ⟨(fun z => by cases z), by omega, by omega, Nat.le_of_ble_eq_true (by rfl)⟩ ?_
  rw [zeros]
  and_intros
  refine w_listT ?_
  refine w_newL (Nat.le_trans hl (by decide)) ?_
  and_intros
  refine w_mulL (lst_of get_last) ⟨by decide, by decide, by omega⟩ ?_
  have hll : (List.replicate (Int.toNat 3) hs).flatten.length ≤ 30 := by
    show (List.replicate 3 hs).flatten.length ≤ 30
    simp [List.replicate]; omega
  refine w_newL (Nat.le_trans hll (by decide)) ?_
  and_intros
  refine w_addL (xs := (List.replicate (Int.toNat 3) hs).flatten) (ys := [.non]) (lst_of (get_pre (List.prefix_append _ _) get_last)) (lst_of get_last) ?_
  have hlm : ((List.replicate (Int.toNat 3) hs).flatten ++ [Dt.non]).length ≤ 31 := by rw [List.length_append]; simpa using hll
  refine w_newL (Nat.le_trans hlm (by decide)) ?_
  and_intros
  refine (one_ok B7.app.app.app.app (seq_lst get_last) (by have := B7.lt.1; simp only [List.length_append, List.length_cons, List.length_nil]; omega) (fun z => by simp at z) (Nat.le_trans hlm (by decide))).mono (fun h S8 ⟨hh, B8, F8⟩ => ?_) fun _ _ _ q => q
  and_intros
  refine ⟨Nat.le_of_ble_eq_true (by rfl), ?_⟩
  refine .inl ⟨_, rfl, ⟨(List.replicate size.toNat 0).set place.toNat 1, List.replicate size.toNat 0, h, rfl, by rw [List.length_set, List.length_replicate], List.length_replicate, (AllB.zeros _).set (by omega), AllB.zeros _, ⟨1, List.mem_set (show place.toNat < (List.replicate size.toNat (0 : Int)).length by rw [List.length_replicate]; omega) 1, by decide⟩, ?_, ⟨place.toNat, ⟨1, List.getElem?_set_self (by rw [List.length_replicate]; omega), by decide⟩, ZT.set (fun _ _ _ e => zero_at e) (Nat.le_refl _), fun _ _ _ e => zero_at e⟩⟩, B8, F7.app.app.app.app.trans F8⟩
  rcases List.mem_append.mp hh with z | z
  · right
    obtain ⟨l, hl1, hl2⟩ := List.mem_flatten.mp z
    rw [List.eq_of_mem_replicate hl1] at hl2
    exact hl2
  · left
    simpa using z
structure Works (d : Dt) (size : Nat) (ks hs rs : List Dt) : Prop where
  eq : d = .tup [.tup ks, .tup hs, .tup rs]
  kl : ks.length = size
  s0 : 1 ≤ size
  s1 : size ≤ 5
  hl : hs.length ≤ 3
  hn : hs.Nodup
  km : ∀ x ∈ ks, x ∈ menuD
  hm : ∀ x ∈ hs, x ∈ menuD
  rl : rs.length ≤ 8
  rr : ∀ r ∈ rs, ∃ ts us h, Recipe size hs r ts us h
  kn : ks.Nodup
  kh : ∀ x ∈ hs, x ∉ ks
/-- the recipes found so far -/
def FI (S : Bxs) (b c nb fb : Nat) (ys hs : List Dt) (size most : Nat) (S' : Bxs) : Prop := ∃ rs, S'[fb]? = some (.lst rs) ∧ rs.length ≤ most ∧ (∀ r ∈ rs, ∃ ts us h, Recipe size hs r ts us h) ∧ S'[nb]? = some (.lst ys) ∧ Bag S' b c ∧ Fr b S S'
theorem FI.fr {S S1 S2 : Bxs} {b c nb fb size most : Nat} {ys hs : List Dt} (h : FI S b c nb fb ys hs size most S1) (F : Fr b S1 S2) (B : Bag S2 b c) (h1 : fb ≠ b) (h2 : nb ≠ b) : FI S b c nb fb ys hs size most S2 := by
  obtain ⟨rs, e1, e2, e3, e4, e5, e6⟩ := h
  exact ⟨rs, F.at_ e1 h1, e2, e3, F.at_ e4 h2, B, e6.trans F⟩
theorem FI.add {S S1 : Bxs} {b c nb fb size most : Nat} {ys hs : List Dt} {r : Dt} {P : Dt → Bxs → Prop} {E : Nat → List Dt → Bxs → Prop} (h : FI S b c nb fb ys hs size most S1) (R : ∃ ts us h, Recipe size hs r ts us h) (h1 : fb ≠ b) (h2 : fb ≠ c) (h3 : fb ≠ nb) (h4 : S.length ≤ fb) (hm : most < 1000)
    (q : ∀ S2, FI S b c nb fb ys hs size (most + 1) S2 → P .non S2) : (appendG (.box fb) [r] S1).Wp P E := by
  obtain ⟨rs, e1, e2, e3, e4, e5, e6⟩ := h
  refine w_append (lst_of e1) (Nat.lt_of_le_of_lt e2 (Nat.lt_of_lt_of_le hm (by decide))) (q _ ⟨rs ++ [r], List.getElem?_set_self (get_lt e1), by simp; exact e2, fun x hx => ?_, by rw [List.getElem?_set_ne h3]; exact e4, e5.own h1 h2, e6.own h4⟩)
  rcases List.mem_append.mp hx with z | z
  · exact e3 x z
  · rw [List.mem_singleton.mp z]; exact R
theorem FI.le {S S1 : Bxs} {b c nb fb size m m' : Nat} {ys hs : List Dt} (h : FI S b c nb fb ys hs size m S1) (hm : m ≤ m') : FI S b c nb fb ys hs size m' S1 := by
  obtain ⟨rs, e1, e2, e3, e4, e5, e6⟩ := h
  exact ⟨rs, e1, Nat.le_trans e2 hm, e3, e4, e5, e6⟩
theorem rgD_len {lo : Int} {n : Nat} : (rgD lo n).length = n := by unfold rgD; rw [List.length_map, List.length_range]
theorem cut_mid {ys : List Dt} {i j : Nat} (h : i ≤ ys.length) (h2 : i + j ≤ ys.length) : Mn.cutD ys (some (i : Int)) (some ((i : Int) + j)) = (ys.drop i).take j := by
  unfold Mn.cutD
  have e : ((i : Int) + j) = ((i + j : Nat) : Int) := by omega
  rw [e, HT.sIx_nat, HT.sIx_nat, Nat.min_eq_left h, Nat.min_eq_left h2, Nat.add_sub_cancel_left]
theorem cut_to {ys : List Dt} {i : Nat} : Mn.cutD ys none (some (i : Int)) = ys.take i := by
  unfold Mn.cutD
  rw [HT.sIx_none, HT.sIx_nat, List.drop_zero, Nat.sub_zero]
  by_cases h : i ≤ ys.length
  · rw [Nat.min_eq_left h]
  · rw [Nat.min_eq_right (by omega), List.take_of_length_le (Nat.le_refl _), List.take_of_length_le (by omega)]
theorem inR_small {j : Int} (h0 : -1000 ≤ j) (h1 : j ≤ 1000) : inR j := ⟨by omega, by omega⟩
theorem works_ok {S : Bxs} {b c : Nat} {kinds hands recipes : Int} (B : Bag S b c) (k0 : 0 < kinds) (k1 : kinds ≤ 5) (h0 : 0 ≤ hands) (h1 : hands ≤ 3) (r0 : 0 ≤ recipes) (r1 : recipes ≤ 8) :
    (F__law_works [.box b, .int kinds, .int hands, .int recipes] S).Wp (fun d S' => (∃ size ks hs rs, Works d size ks hs rs) ∧ Bag S' b c ∧ Fr b S S') noX := by
  refine w_body ?_
  unfold B__law_works
  simp only [startD, List.map_cons, List.map_nil, List.length_cons, List.length_nil, List.cons_append, List.nil_append, Nat.reduceAdd, Nat.reduceSub, List.replicate, List.replicate_succ, List.replicate_zero]
  and_intros
  have qB := B.lt
  refine (names_ok B).mono (fun d S1 ⟨nb, ys, ed, hnb, e1, yl, yn, ym, B1, F1⟩ => ?_) fun _ _ _ q => q
  subst ed
  and_intros
  refine (take_ok B1 k0 (by omega)).mono (fun d S2 ⟨k, ed, kk0, kk1, B2, F2⟩ => ?_) fun _ _ _ q => q
  subst ed
  and_intros
  refine (take_ok B2 (by omega) (by omega)).mono (fun d S3 ⟨m, ed, m0, m1, B3, F3⟩ => ?_) fun _ _ _ q => q
  subst ed
  and_intros
  have hnbb : nb ≠ b := by omega
  have e3 := (F2.trans F3).at_ e1 hnbb
  have F13 := F1.trans (F2.trans F3)
  refine w_slB (seq_lst e3) ?_
  obtain ⟨kn, hkn⟩ : ∃ kn : Nat, 1 + k = (kn : Int) := ⟨(1 + k).toNat, by omega⟩
  obtain ⟨mn, hmn⟩ : ∃ mn : Nat, m = (mn : Int) := ⟨m.toNat, by omega⟩
  subst hmn
  rw [hkn, cut_mid (by rw [yl]; omega) (by rw [yl]; omega)]
  have hl3 : ((ys.drop kn).take mn).length ≤ 3 := by rw [List.length_take]; omega
  have hn3 : ((ys.drop kn).take mn).Nodup := (yn.sublist (List.drop_sublist _ _)).sublist (List.take_sublist _ _)
  have hm3 : ∀ x ∈ (ys.drop kn).take mn, x ∈ menuD := fun x hx => ym x (List.mem_of_mem_drop (List.mem_of_mem_take hx))
  have hd3 : ∀ x ∈ (ys.drop kn).take mn, x ∉ ys.take kn := fun x hx hk => by
    have yn2 := yn
    rw [← List.take_append_drop kn ys] at yn2
    exact (List.nodup_append.mp yn2).2.2 x hk x (List.mem_of_mem_take hx) rfl
  generalize (ys.drop kn).take mn = hs at hl3 hn3 hm3 hd3
  refine w_newL (Nat.le_trans hl3 (by decide)) ?_
  and_intros
  refine w_tupB (seq_lst get_last) ?_
  and_intros
  have q3 := F13.len
  have hfb : S3.length < (S3 ++ [MBox.lst hs]).length := by simp
  have J0 : FI S b c nb (S3 ++ [MBox.lst hs]).length ys hs kn 0 ((S3 ++ [MBox.lst hs]) ++ [MBox.lst []]) :=
    ⟨[], get_last, Nat.le_refl _, (fun r hr => nomatch hr), get_pre (List.prefix_append _ _) (get_pre (List.prefix_append _ _) e3), B3.app.app, F13.app.app⟩
  have hnl := get_lt e3
  generalize (S3 ++ [MBox.lst hs]) ++ [MBox.lst []] = S4 at J0 ⊢
  generalize (S3 ++ [MBox.lst hs]).length = fb at J0 hfb ⊢
  have d1 : fb ≠ b := by omega
  have d2 : fb ≠ c := by omega
  have d3 : fb ≠ nb := by omega
  have d4 : S.length ≤ fb := by omega
  have hkn0 : 1 ≤ kn := by omega
  have hkn5 : kn ≤ 5 := by omega
  and_intros
  have J1 := J0
  obtain ⟨rs0, g1, g2, g3, g4, B4, F4⟩ := J0
  refine (one_ok (xs := [Dt.int 1, Dt.int 2, Dt.int 2, Dt.int 4]) B4.app (seq_lst get_last) (by have := B4.lt.1; omega) (fun z => nomatch z) (by decide)).mono (fun d S5 ⟨hd, B5, F5⟩ => ?_) fun _ _ _ q => q
  obtain ⟨most, rfl, mo0, mo1⟩ : ∃ v : Int, d = .int v ∧ 0 < v ∧ v ≤ 4 := by
    simp at hd
    rcases hd with z | z | z <;> exact ⟨_, z, by omega, by omega⟩
  have J5 := J1.fr (((Fr.refl b S4).app (x := MBox.lst [Dt.int 1, Dt.int 2, Dt.int 2, Dt.int 4])).trans F5) B5 d1 hnbb
  clear J1 g1 g2 g3 g4 B4 F4 rs0
  and_intros
  refine (take_ok B5 (by omega) (by omega)).mono (fun d S6 ⟨tn, ed, t0, t1, B6, F6⟩ => ?_) fun _ _ _ q => q
  subst ed
  and_intros
  refine ⟨⟨by omega, by omega⟩, ?_⟩
  refine w_loop (fun i σ S' => ∃ d10, σ = [some (.box b), some (.int kinds), some (.int hands), some (.int recipes), some (.box nb), some (.int kn), some (.int mn), some (.tup hs), some (.box fb), some (.int most), d10, none] ∧ FI S b c nb fb ys hs kn i S') (fun _ _ _ _ => trivial) (fun i x σ S7 hx ⟨d10, e, J⟩ => ?_) (fun σ S7 ⟨d10, e, J⟩ => ?_) ⟨_, by rfl, J5.fr F6 B6 d1 hnbb⟩
  · subst e
    have hil := (List.getElem?_eq_some_iff.mp hx).1
    rw [rgD_len] at hil
    and_intros
    obtain ⟨rs, g1, g2, g3, g4, B7, F7⟩ := id J
    refine ⟨ty_list g1, ?_⟩
    and_intros
    refine (recipe_ok B7 (by omega) (by omega) mo0 mo1 (by omega)).mono (fun d S8 ⟨R, B8, F8⟩ => ?_) fun _ _ _ q => q
    rw [show (kn : Int).toNat = kn from Int.toNat_natCast kn] at R
    and_intros
    refine (J.fr F8 B8 d1 hnbb).add R d1 d2 d3 d4 (by omega) fun S9 J9 => ?_
    exact .inl ⟨rfl, _, rfl, J9⟩
  · subst e
    rw [rgD_len] at J
    have J8 : FI S b c nb fb ys hs kn 8 S7 := J.le (by omega)
    clear J
    and_intros
    refine ⟨inR_small (by omega) (by omega), ?_⟩
    refine w_loop (fun i σ S' => ∃ d11, σ = [some (.box b), some (.int kinds), some (.int hands), some (.int recipes), some (.box nb), some (.int kn), some (.int mn), some (.tup hs), some (.box fb), some (.int most), d10, d11] ∧ FI S b c nb fb ys hs kn (8 + i) S') (fun _ _ _ _ => trivial) (fun i x σ S8 hx ⟨d11, e, J⟩ => ?_) (fun σ S8 ⟨d11, e, J⟩ => ?_) ⟨_, by rfl, J8⟩
    · subst e
      have hx2 := rgD_get hx
      subst hx2
      have hil := (List.getElem?_eq_some_iff.mp hx).1
      rw [rgD_len] at hil
      obtain ⟨rs, g1, g2, g3, g4, B8, F8⟩ := id J
      and_intros
      refine (take_ok B8 (by decide) (by decide)).mono (fun d S9 ⟨j, ed, j0, j1, B9, F9⟩ => ?_) fun _ _ _ q => q
      subst ed
      and_intros
      have J9 := J.fr F9 B9 d1 hnbb
      refine ⟨fun _ => ?_, fun _ => ?_⟩
      · and_intros
        refine ⟨ty_list (F9.at_ g1 d1), ?_⟩
        and_intros
        refine (out_ok B9 (by omega) (by omega) (by omega) (by omega)).mono (fun d S10 ⟨R, B10, F10⟩ => ?_) fun _ _ _ q => q
        rw [show (kn : Int).toNat = kn from Int.toNat_natCast kn] at R
        and_intros
        refine (J9.fr F10 B10 d1 hnbb).add R d1 d2 d3 d4 (by omega) fun S11 J11 => ?_
        exact .inl ⟨rfl, _, rfl, J11⟩
      · and_intros
        exact .inl ⟨rfl, _, rfl, J9.le (by omega)⟩
    · subst e
      rw [rgD_len] at J
      have J8 : FI S b c nb fb ys hs kn 13 S8 := J.le (by omega)
      clear J
      obtain ⟨rs, g1, g2, g3, g4, B8, F8⟩ := id J8
      have tail : ∀ {S9 : Bxs}, FI S b c nb fb ys hs kn 14 S9 → (sRet (dTup (aCons (dCall tupleG (aCons (dSl (dVar 4) (oNone) (oSome (dVar 5))) (aNil))) (aCons (dVar 7) (aCons (dCall tupleG (aCons (dSl (dCall F__law_mixed (aCons (dVar 0) (aCons (dVar 8) (aNil)))) (oNone) (oSome (dVar 3))) (aNil))) (aNil))))) [some (.box b), some (.int kinds), some (.int hands), some (.int recipes), some (.box nb), some (.int kn), some (.int mn), some (.tup hs), some (.box fb), some (.int most), d10, d11] S9).Wp
          (fun r S1 => (∃ d, r.1 = .rt d ∧ (∃ size ks hs rs, Works d size ks hs rs) ∧ Bag S1 b c ∧ Fr b S S1) ∨ (r.1 = .nx ∧ (∃ size ks hs rs, Works .non size ks hs rs) ∧ Bag S1 b c ∧ Fr b S S1)) noX := fun {S9} J9 => by
        obtain ⟨rs, g1, g2, g3, g4, B9, F9⟩ := J9
        and_intros
        refine w_slB (seq_lst g4) ?_
        rw [cut_to]
        have hk8 : (ys.take kn).length = kn := by rw [List.length_take, yl]; omega
        refine w_newL (by rw [hk8]; exact Nat.le_trans hkn5 (by decide)) ?_
        and_intros
        refine w_tupB (seq_lst get_last) ?_
        and_intros
        refine (mixed_ok B9.app (seq_lst (get_pre (List.prefix_append _ _) g1)) d1 (by omega)).mono (fun d S10 ⟨r, zs, ed, hr, e2, pm, B10, F10⟩ => ?_) fun _ _ _ q => q
        subst ed
        and_intros
        obtain ⟨rn, hrn⟩ : ∃ rn : Nat, recipes = (rn : Int) := ⟨recipes.toNat, by omega⟩
        subst hrn
        refine w_slB (seq_lst e2) ?_
        rw [cut_to]
        have hz8 : (zs.take rn).length ≤ 8 := by rw [List.length_take]; omega
        refine w_newL (Nat.le_trans hz8 (by decide)) ?_
        and_intros
        refine w_tupB (seq_lst get_last) ?_
        and_intros
        refine ⟨Nat.le_of_ble_eq_true (by rfl), ?_⟩
        refine .inl ⟨_, rfl, ⟨kn, ys.take kn, hs, zs.take rn, rfl, hk8, hkn0, hkn5, hl3, hn3, fun x hx => ym x (List.mem_of_mem_take hx), hm3, hz8, (fun r hr => g3 r (pm.mem_iff.mp (List.mem_of_mem_take hr))), yn.sublist (List.take_sublist _ _), hd3⟩, B10.app, (F9.app.trans F10).app⟩
      and_intros
      obtain ⟨ps, hps, hpl⟩ := Pls.of_all (S := S8 ++ [MBox.lst []]) (n := 59) (w := 8 * kn + 26) (ds := rs) fun r hr => by
        obtain ⟨ts, us, h, R⟩ := g3 r hr
        exact pl_recipe R hm3
      refine w_eq (.box (seq_lst (get_pre (List.prefix_append _ _) g1)) hps (Nat.le_refl _)) (.box (seq_lst get_last) .nil (Nat.le_refl 3)) ?_
      have he : ∀ qs : List PyData, PyData.eqv (.list qs) (.list []) = decide (qs = []) := fun qs => by
        cases qs <;> simp [PyData.eqv, PyData.eqvAll]
      rw [he]
      and_intros
      have J9 : FI S b c nb fb ys hs kn 13 (S8 ++ [MBox.lst []]) := J8.fr ((Fr.refl b S8).app) B8.app d1 hnbb
      refine ⟨fun hne => ?_, fun _ => ?_⟩
      · and_intros
        refine (take_ok B8.app (by decide) (by decide)).mono (fun d S9 ⟨j, ed, j0, j1, B9, F9⟩ => ?_) fun _ _ _ q => q
        subst ed
        and_intros
        have J10 := J9.fr F9 B9 d1 hnbb
        have hrs : rs ≠ [] := fun z => by
          subst z
          have : ps = [] := List.length_eq_zero_iff.mp (by rw [hpl]; rfl)
          rw [this] at hne
          exact absurd hne (by decide)
        refine ⟨fun _ => ?_, fun _ => ?_⟩
        · and_intros
          have f1 := F9.at_ (get_pre (List.prefix_append _ _) g1) d1
          refine ⟨ty_list f1, ?_⟩
          and_intros
          refine (one_ok B9 (seq_lst f1) d1 hrs (by omega)).mono (fun d S10 ⟨hd, B10, F10⟩ => ?_) fun _ _ _ q => q
          and_intros
          refine (J10.fr F10 B10 d1 hnbb).add (g3 d hd) d1 d2 d3 d4 (by omega) fun S11 J11 => ?_
          exact c_nx (tail J11)
        · refine w_sNil ?_
          exact c_nx (tail (J10.le (by omega)))
      · refine ⟨fun z => absurd z Bool.false_ne_true, fun _ => ?_⟩
        refine w_sNil ?_
        exact c_nx (tail (J9.le (by omega)))
end Lw
set_option Elab.async false
set_option linter.all false
set_option maxRecDepth 100000
set_option maxHeartbeats 4000000
namespace Mn
open PySem PySem.Spec PyProof.Rows L2
theorem intsOf_map : ∀ is : List Int, intsOf (is.map Dt.int) = some is
  | [] => rfl
  | i :: is => by rw [List.map_cons]; unfold intsOf; rw [intsOf_map is]; rfl
theorem blsOf_map : ∀ is : List Bool, blsOf (is.map Dt.bl) = some is
  | [] => rfl
  | i :: is => by rw [List.map_cons]; unfold blsOf; rw [blsOf_map is]; rfl
section
variable {S : Bxs} {E : Nat → List Dt → Bxs → Prop}
theorem w_maxB {n : Nat} {is : List Int} {P : Dt → Bxs → Prop} (e : S.seq n = some (is.map Dt.int)) (hne : is ≠ []) (h : P (.int (maxI is)) S) : (maxG [.box n] S).Wp P E := by
  have z : maxG [.box n] S = .ok (.int (maxI is)) S := by
    show (match S.seq n with
    | some xs => match intsOf xs with
      | some ns => if ns ≠ [] then Rs.ok (Dt.int (maxI ns)) S else .no
      | none => .no
    | none => .no) = _
    rw [e]
    show (match intsOf (is.map Dt.int) with
      | some ns => if ns ≠ [] then Rs.ok (Dt.int (maxI ns)) S else .no
      | none => .no) = _
    rw [intsOf_map]
    show (if is ≠ [] then Rs.ok (Dt.int (maxI is)) S else .no) = _
    rw [if_pos hne]
  rw [z]; exact sat_mk h
end
theorem maxI_mem : ∀ {is : List Int}, is ≠ [] → maxI is ∈ is
  | [], h => absurd rfl h
  | [i], _ => by simp [maxI]
  | i :: j :: r, _ => by
    have ih := maxI_mem (is := j :: r) (by simp)
    unfold maxI
    split
    · exact List.mem_cons_of_mem _ ih
    · exact List.mem_cons_self
end Mn
namespace Lw
open PySem PySem.Spec PyProof.Rows L2 Mn
end Lw
set_option Elab.async false
set_option linter.all false
set_option maxRecDepth 100000
set_option maxHeartbeats 4000000
namespace Mn
open PySem PySem.Spec PyProof.Rows L2
theorem w_yes {σ : Sg} {S : Bxs} {E : Nat → List Dt → Bxs → Prop} {P : Bool → Bxs → Prop} (h : P true S) : (bYes σ S).Wp P E := sat_mk h
def Bd (M : Int) (is : List Int) : Prop := ∀ p ∈ is, -M ≤ p ∧ p ≤ M
theorem Bd.mono {M M' : Int} {is : List Int} (h : Bd M is) (hm : M ≤ M') : Bd M' is := fun p hp => by have := h p hp; omega
theorem Bd.set {M : Int} {is : List Int} {j : Nat} {v : Int} (h : Bd M is) (h1 : -M ≤ v) (h2 : v ≤ M) : Bd M (is.set j v) := fun p hp => by
  rcases List.mem_or_eq_of_mem_set hp with z | z
  · exact h p z
  · rw [z]; exact ⟨h1, h2⟩
theorem strsOf_map : ∀ zs : List Str, strsOf (zs.map Dt.str) = some zs
  | [] => rfl
  | i :: is => by rw [List.map_cons]; unfold strsOf; rw [strsOf_map is]; rfl
theorem strAt_mem {z : Str} : ∀ {zs : List Str}, z ∈ zs → ∃ j, strAt z zs = some j ∧ zs[j]? = some z ∧ ∀ k, k < j → zs[k]? ≠ some z
  | [], h => nomatch h
  | y :: ys, h => by
    unfold strAt
    by_cases e : y = z
    · rw [if_pos e]
      exact ⟨0, rfl, by rw [e]; rfl, fun k hk => absurd hk (Nat.not_lt_zero _)⟩
    · rw [if_neg e]
      rcases List.mem_cons.mp h with q | q
      · exact absurd q.symm e
      · obtain ⟨j, h1, h2, h3⟩ := strAt_mem q
        refine ⟨j + 1, by rw [h1]; rfl, by simpa using h2, fun k hk => ?_⟩
        cases k with
        | zero => simpa using e
        | succ k => simpa using h3 k (by omega)
theorem w_tindex {S : Bxs} {E : Nat → List Dt → Bxs → Prop} {zs : List Str} {z : Str} {j : Nat} {P : Dt → Bxs → Prop} (e : strAt z zs = some j) (h : P (.int (j : Int)) S) : (tindexG (.tup (zs.map Dt.str)) [.str z] S).Wp P E := by
  have q : tindexG (.tup (zs.map Dt.str)) [.str z] S = .ok (.int (j : Int)) S := by
    show (match strsOf (zs.map Dt.str) with
    | some ys => match strAt z ys with
      | some j => Rs.ok (Dt.int (j : Int)) S
      | none => .no
    | none => .no) = _
    rw [strsOf_map]
    show (match strAt z zs with
      | some j => Rs.ok (Dt.int (j : Int)) S
      | none => .no) = _
    rw [e]
  rw [q]; exact sat_mk h
end Mn
namespace Lw
open PySem PySem.Spec PyProof.Rows L2 Mn
theorem IL.app {S : Bxs} {n : Nat} {is : List Int} {x : MBox} (h : IL S n is) : IL (S ++ [x]) n is := h.pre (List.prefix_append _ _)
theorem menu_str {x : Dt} (h : x ∈ menuD) : ∃ s, x = Dt.str s := by
  have : menuD = menuS.map Dt.str := rfl
  rw [this] at h
  obtain ⟨s, _, rfl⟩ := List.mem_map.mp h
  exact ⟨s, rfl⟩
/-- the tariff under way -/
def FJ (S : Bxs) (b c pb wb : Nat) (size hl : Nat) (M : Int) (S' : Bxs) : Prop := ∃ ps ws, IL S' pb ps ∧ IL S' wb ws ∧ ps.length = size ∧ ws.length = hl ∧ Bd M ps ∧ Bd M ws ∧ Bag S' b c ∧ Fr b S S'
theorem FJ.pre {S S1 S2 : Bxs} {b c pb wb size hl : Nat} {M : Int} (h : FJ S b c pb wb size hl M S1) (p : S1 <+: S2) : FJ S b c pb wb size hl M S2 := by
  obtain ⟨ps, ws, i1, i2, i3, i4, i5, i6, B, F⟩ := h
  exact ⟨ps, ws, i1.pre p, i2.pre p, i3, i4, i5, i6, B.pre p, F.trans (Fr.pre p)⟩
end Lw
set_option Elab.async false
set_option linter.all false
set_option maxRecDepth 100000
set_option maxHeartbeats 4000000
namespace Lw
open PySem PySem.Spec PyProof.Rows L2 Mn
end Lw
set_option Elab.async false
set_option linter.all false
set_option maxRecDepth 100000
set_option maxHeartbeats 4000000
namespace Lw
open PySem PySem.Spec PyProof.Rows L2 Mn
/-! sums -/
end Lw
set_option Elab.async false
set_option linter.all false
set_option maxRecDepth 100000
set_option maxHeartbeats 4000000
namespace Mn
open PySem PySem.Spec PyProof.Rows L2
theorem pre_set {S S1 : Bxs} {n : Nat} {x : MBox} (p : S <+: S1) (h : S.length ≤ n) : S <+: S1.set n x := by
  obtain ⟨t, rfl⟩ := p
  rw [List.set_append_right _ _ h]
  exact List.prefix_append _ _
end Mn
namespace Lw
open PySem PySem.Spec PyProof.Rows L2 Mn
def intsD (a : List Dt) : List Int := (intsOf a).getD []
theorem intsD_map (is : List Int) : intsD (is.map Dt.int) = is := by unfold intsD; rw [intsOf_map]; rfl
end Lw
set_option Elab.async false
set_option linter.all false
set_option maxRecDepth 100000
set_option maxHeartbeats 4000000
/-! Ld: comprehensions by what their items are; ints in tuples; small texts. -/
namespace Mn
open PySem PySem.Spec PyProof.Rows L2
section
variable {α : Type} {σ : Sg} {S : Bxs} {E : Nat → List Dt → Bxs → Prop}
/-- the items d of the walked x, in order -/
inductive Each {α β : Type} (Q : α → β → Prop) : List α → List β → Prop
  | nil : Each Q [] []
  | cons {x : α} {d : β} {xs : List α} {ds : List β} : Q x d → Each Q xs ds → Each Q (x :: xs) (d :: ds)
theorem Each.length {α β : Type} {Q : α → β → Prop} : ∀ {xs : List α} {ds : List β}, Each Q xs ds → xs.length = ds.length
  | _, _, .nil => rfl
  | _, _, .cons _ t => congrArg (· + 1) (Each.length t)
theorem Each.snoc {α β : Type} {Q : α → β → Prop} {x : α} {d : β} (h : Q x d) : ∀ {xs : List α} {ds : List β}, Each Q xs ds → Each Q (xs ++ [x]) (ds ++ [d])
  | _, _, .nil => .cons h .nil
  | _, _, .cons a t => .cons a (Each.snoc h t)
theorem Each.all {α β : Type} {Q : α → β → Prop} {P : β → Prop} (h : ∀ x d, Q x d → P d) : ∀ {xs : List α} {ds : List β}, Each Q xs ds → ∀ d ∈ ds, P d
  | _, _, .cons a t, d, hd => by
    rcases List.mem_cons.mp hd with rfl | z
    · exact h _ _ a
    · exact Each.all h t d z
theorem Each.mono {α β : Type} {Q Q' : α → β → Prop} (h : ∀ x d, Q x d → Q' x d) : ∀ {xs : List α} {ds : List β}, Each Q xs ds → Each Q' xs ds
  | _, _, .nil => .nil
  | _, _, .cons a t => .cons (h _ _ a) (Each.mono h t)
theorem Each.map {α β : Type} {f : α → β} : ∀ {xs : List α} {ds : List β}, Each (fun x d => d = f x) xs ds → ds = xs.map f
  | _, _, .nil => rfl
  | _, _, .cons a t => by rw [List.map_cons, ← Each.map t, a]
theorem Each.ints {α : Type} {Q : α → Dt → Prop} {P : Int → Prop} (h : ∀ x d, Q x d → ∃ i, d = .int i ∧ P i) : ∀ {xs : List α} {ds : List Dt}, Each Q xs ds → ∃ is : List Int, ds = is.map Dt.int ∧ is.length = xs.length ∧ ∀ i ∈ is, P i
  | _, _, .nil => ⟨[], rfl, rfl, fun _ z => nomatch z⟩
  | _, _, .cons a t => by
    obtain ⟨is, e1, e2, e3⟩ := Each.ints h t
    obtain ⟨i, rfl, hi⟩ := h _ _ a
    refine ⟨i :: is, by rw [e1]; rfl, by simp [e2], fun j hj => ?_⟩
    rcases List.mem_cons.mp hj with rfl | z
    · exact hi
    · exact e3 j z
/-- a comprehension, J what stands all the while -/
theorem w_lcJ {src : Src α} {g : α → Sg → Bxs → Rs Sg} {tt : FB} {te : FE} {vs : List Nat} {P : Dt → Bxs → Prop}
    (h : (src σ S).Wp (fun r S1 => ∃ (p : α → Bool) (Q : α → Dt → Prop) (J : Bxs → Prop), r.1.length < LIM ∧ (∀ S', J S' → r.2 S') ∧ J (S1 ++ [.lst []]) ∧ (∀ S' ds, J S' → J (S'.set S1.length (.lst ds))) ∧
      (∀ x S', x ∈ r.1 → J S' → (g x (wipeD σ vs) S').Wp (fun σ1 S2 => (tt σ1 S2).Wp (fun bv S3 => bv = p x ∧ (bv = false → J S3 ∧ S3[S1.length]? = S'[S1.length]?) ∧
        (bv = true → (te σ1 S3).Wp (fun d S4 => Q x d ∧ J S4 ∧ S4[S1.length]? = S'[S1.length]?) noX)) noX) noX) ∧
      ∀ ds S', Each Q (r.1.filter p) ds → S'[S1.length]? = some (.lst ds) → J S' → P (.box S1.length) S') E) : (dLc src g tt te vs σ S).Wp P E := by
  refine w_lc (h.mono (fun r S1 ⟨p, Q, J, hl, hst, j0, js, step, fin⟩ => ?_) fun _ _ _ q => q)
  refine ⟨fun i acc S' => Each Q ((r.1.take i).filter p) acc ∧ J S', fun i acc S' h => hst _ h.2, fun i x acc S' hx hn ⟨he, hJ⟩ => ?_, ⟨by simp; exact .nil, j0⟩, fun acc S' hn ⟨he, hJ⟩ => ?_⟩
  · have hil : i < r.1.length := (List.getElem?_eq_some_iff.mp hx).1
    have hal : acc.length < LIM := by
      have := he.length
      have h2 := List.length_filter_le p (r.1.take i)
      rw [List.length_take] at h2
      omega
    refine (step x S' (List.mem_of_getElem? hx) hJ).mono (fun σ1 S2 q => q.mono (fun bv S3 ⟨eb, qf, qt⟩ => ⟨fun hb => (qt hb).mono (fun d S4 ⟨hq, hJ4, e4⟩ => ?_) fun _ _ _ q => q, fun hb => ?_⟩) fun _ _ _ q => q) fun _ _ _ q => q
    · refine ⟨e4.trans hn, hal, ?_, js _ _ hJ4⟩
      rw [List.take_add_one, hx, List.filter_append]
      have : [x].filter p = [x] := by rw [List.filter_cons_of_pos (by rw [← eb]; exact hb)]; rfl
      show Each Q (_ ++ [x].filter p) _
      rw [this]
      exact he.snoc hq
    · obtain ⟨hJ3, e3⟩ := qf hb
      refine ⟨e3.trans hn, ?_, hJ3⟩
      rw [List.take_add_one, hx, List.filter_append]
      have : [x].filter p = [] := by rw [List.filter_cons_of_neg (by rw [← eb, hb]; decide)]; rfl
      show Each Q (_ ++ [x].filter p) _
      rw [this, List.append_nil]
      exact he
  · rw [List.take_length] at he
    exact fin acc S' he hn hJ
theorem get_pre' {S S' : Bxs} (p : S <+: S') {n : Nat} (h : n < S.length) : S'[n]? = S[n]? := by
  obtain ⟨t, rfl⟩ := p
  exact List.getElem?_append_left h
/-- pure items -/
theorem w_lcP {src : Src α} {g : α → Sg → Bxs → Rs Sg} {tt : FB} {te : FE} {vs : List Nat} {P : Dt → Bxs → Prop}
    (h : (src σ S).Wp (fun r S1 => ∃ (p : α → Bool) (Q : α → Dt → Prop), r.1.length < LIM ∧ (∀ S', S1 <+: S' → r.2 S') ∧
      (∀ x S', x ∈ r.1 → S1 <+: S' → (g x (wipeD σ vs) S').Wp (fun σ1 S2 => (tt σ1 S2).Wp (fun bv S3 => bv = p x ∧ (bv = false → S' <+: S3) ∧
        (bv = true → (te σ1 S3).Wp (fun d S4 => Q x d ∧ S' <+: S4) noX)) noX) noX) ∧
      ∀ ds S', Each Q (r.1.filter p) ds → S'[S1.length]? = some (.lst ds) → S1 <+: S' → P (.box S1.length) S') E) : (dLc src g tt te vs σ S).Wp P E := by
  refine w_lcJ (h.mono (fun r S1 ⟨p, Q, hl, hst, step, fin⟩ => ?_) fun _ _ _ q => q)
  refine ⟨p, Q, fun S' => S1 <+: S' ∧ S1.length < S'.length, hl, fun S' h => hst S' h.1, ⟨List.prefix_append _ _, by simp⟩, fun S' ds h => ⟨pre_set h.1 (Nat.le_refl _), by rw [List.length_set]; exact h.2⟩, fun x S' hx ⟨hJ, hlt⟩ => ?_, fun ds S' h1 h2 h3 => fin ds S' h1 h2 h3.1⟩
  refine (step x S' hx hJ).mono (fun σ1 S2 q => q.mono (fun bv S3 ⟨eb, qf, qt⟩ => ⟨eb, fun hb => ?_, fun hb => (qt hb).mono (fun d S4 ⟨hq, p4⟩ => ?_) fun _ _ _ q => q⟩) fun _ _ _ q => q) fun _ _ _ q => q
  · have p3 := qf hb
    exact ⟨⟨hJ.trans p3, Nat.lt_of_lt_of_le hlt p3.length_le⟩, get_pre' p3 hlt⟩
  · exact ⟨hq, ⟨hJ.trans p4, Nat.lt_of_lt_of_le hlt p4.length_le⟩, get_pre' p4 hlt⟩
/-- items that draw -/
theorem w_lcB {b c : Nat} {src : Src α} {g : α → Sg → Bxs → Rs Sg} {tt : FB} {te : FE} {vs : List Nat} {P : Dt → Bxs → Prop}
    (h : (src σ S).Wp (fun r S1 => ∃ (p : α → Bool) (Q : α → Dt → Prop), r.1.length < LIM ∧ Bag S1 b c ∧ (∀ S', Fr b S1 S' → r.2 S') ∧
      (∀ x S', x ∈ r.1 → Bag S' b c → Fr b S1 S' → (g x (wipeD σ vs) S').Wp (fun σ1 S2 => (tt σ1 S2).Wp (fun bv S3 => bv = p x ∧ (bv = false → Bag S3 b c ∧ Fr b S' S3) ∧
        (bv = true → (te σ1 S3).Wp (fun d S4 => Q x d ∧ Bag S4 b c ∧ Fr b S' S4) noX)) noX) noX) ∧
      ∀ ds S', Each Q (r.1.filter p) ds → S'[S1.length]? = some (.lst ds) → Bag S' b c → Fr b S1 S' → P (.box S1.length) S') E) : (dLc src g tt te vs σ S).Wp P E := by
  refine w_lcJ (h.mono (fun r S1 ⟨p, Q, hl, B, hst, step, fin⟩ => ?_) fun _ _ _ q => q)
  have hb : S1.length ≠ b := Nat.ne_of_gt B.lt.1
  have hc : S1.length ≠ c := Nat.ne_of_gt B.lt.2
  refine ⟨p, Q, fun S' => Bag S' b c ∧ Fr b S1 S' ∧ S1.length < S'.length, hl, fun S' h => hst S' h.2.1, ⟨B.app, (Fr.refl b S1).app, by simp⟩, fun S' ds h => ⟨h.1.own hb hc, h.2.1.own (Nat.le_refl _), by rw [List.length_set]; exact h.2.2⟩, fun x S' hx ⟨hB, hF, hlt⟩ => ?_, fun ds S' h1 h2 h3 => fin ds S' h1 h2 h3.1 h3.2.1⟩
  refine (step x S' hx hB hF).mono (fun σ1 S2 q => q.mono (fun bv S3 ⟨eb, qf, qt⟩ => ⟨eb, fun hbv => ?_, fun hbv => (qt hbv).mono (fun d S4 ⟨hq, B4, F4⟩ => ?_) fun _ _ _ q => q⟩) fun _ _ _ q => q) fun _ _ _ q => q
  · obtain ⟨B3, F3⟩ := qf hbv
    exact ⟨⟨B3, hF.trans F3, Nat.lt_of_lt_of_le hlt F3.len⟩, F3.get _ hlt hb⟩
  · exact ⟨hq, ⟨B4, hF.trans F4, Nat.lt_of_lt_of_le hlt F4.len⟩, F4.get _ hlt hb⟩
theorem filter_yes (xs : List α) : xs.filter (fun _ => true) = xs := List.filter_eq_self.mpr fun _ _ => rfl
end
/-! ### ints -/
/-- all within -/
def In (lo hi : Int) (is : List Int) : Prop := ∀ i ∈ is, lo ≤ i ∧ i ≤ hi
theorem In.mono {lo hi lo' hi' : Int} {is : List Int} (h : In lo hi is) (h1 : lo' ≤ lo) (h2 : hi ≤ hi') : In lo' hi' is := fun i hi => by have := h i hi; omega
theorem In.set {lo hi : Int} {is : List Int} {j : Nat} {v : Int} (h : In lo hi is) (hv : lo ≤ v ∧ v ≤ hi) : In lo hi (is.set j v) := fun i hi => by
  rcases List.mem_or_eq_of_mem_set hi with z | z
  · exact h i z
  · rw [z]; exact hv
theorem In.rep {lo hi v : Int} (hv : lo ≤ v ∧ v ≤ hi) (n : Nat) : In lo hi (List.replicate n v) := fun i hi => by
  rw [List.eq_of_mem_replicate hi]; exact hv
theorem In.app {lo hi : Int} {is js : List Int} (h : In lo hi is) (k : In lo hi js) : In lo hi (is ++ js) := fun i hi => by
  rcases List.mem_append.mp hi with z | z
  · exact h i z
  · exact k i z
theorem In.get {lo hi : Int} {is : List Int} {j : Nat} {v : Int} (h : In lo hi is) (e : is[j]? = some v) : lo ≤ v ∧ v ≤ hi := h v (List.mem_of_getElem? e)
/-- item by item -/
def zw (f : Int → Int → Int) (xs ys : List Int) : List Int := (xs.zip ys).map fun p => f p.1 p.2
abbrev iv (is : List Int) : Dt := .tup (is.map Dt.int)
/-- tuple([f(x, y) for x, y in zip(xs, ys)]) -/
theorem zip_ints {xs ys : List Int} {p : Dt × Dt} (h : p ∈ (xs.map Dt.int).zip (ys.map Dt.int)) : ∃ i j, (i, j) ∈ xs.zip ys ∧ p = (.int i, .int j) := by
  have hz : p ∈ (xs.zip ys).map (Prod.map Dt.int Dt.int) := by rw [← List.zip_map]; exact h
  obtain ⟨⟨i, j⟩, hij, rfl⟩ := List.mem_map.mp hz
  exact ⟨i, j, hij, rfl⟩
/-! ### texts of data without boxes -/
/-- data without boxes, so deep, its text at most so long -/
def Sm (n : Nat) (d : Dt) (w : Nat) : Prop := ∃ p, ∀ S, Pl S n d p w
theorem Sm.mono {n w w' : Nat} {d : Dt} (h : Sm n d w) (hw : w ≤ w') : Sm n d w' := let ⟨p, q⟩ := h; ⟨p, fun S => (q S).mono hw⟩
theorem Sm.int {n : Nat} {i : Int} (k : Nat) (hk : 1 ≤ k) (hk2 : k ≤ 500) (h : i.natAbs < 10 ^ k) : Sm (n + 1) (.int i) (k + 1) := ⟨_, fun S => Pl.mkInt k hk hk2 h⟩
theorem Sm.menu {n : Nat} {d : Dt} (h : d ∈ Lw.menuD) : Sm (n + 1) d 8 := by
  obtain ⟨s, rfl⟩ : ∃ s, d = Dt.str s := by
    simp [Lw.menuD] at h
    rcases h with z | z | z | z | z | z | z | z | z | z | z | z | z | z | z | z | z | z | z <;> exact ⟨_, z⟩
  obtain ⟨p, q⟩ := Lw.pl_menu (S := []) (n := n) h
  cases q with
  | str a b c => exact ⟨_, fun S => .str a b c⟩
theorem Sm.bl {n : Nat} (b : Bool) : Sm (n + 1) (.bl b) 5 := ⟨_, fun S => .bl b (Nat.le_refl _)⟩
theorem Sm.non {n : Nat} : Sm (n + 1) .non 4 := ⟨_, fun S => .non (Nat.le_refl _)⟩
theorem Sm.all {n w : Nat} : ∀ {ds : List Dt}, (∀ d ∈ ds, Sm n d w) → ∃ ps, ∀ S, Pls S n ds ps (ds.length * (w + 2))
  | [], _ => ⟨[], fun S => by rw [List.length_nil, Nat.zero_mul]; exact .nil⟩
  | d :: ds, h => by
    obtain ⟨p, hp⟩ := h d List.mem_cons_self
    obtain ⟨ps, hps⟩ := Sm.all fun e he => h e (List.mem_cons_of_mem _ he)
    refine ⟨p :: ps, fun S => ?_⟩
    have := Pls.cons (hp S) (hps S)
    rwa [show (d :: ds).length * (w + 2) = w + 2 + ds.length * (w + 2) by rw [List.length_cons, Nat.add_mul]; omega]
theorem Sm.tup {n w : Nat} {ds : List Dt} (h : ∀ d ∈ ds, Sm n d w) (m : Nat) (hm : ds.length * (w + 2) + 3 ≤ m) : Sm (n + 1) (.tup ds) m := by
  obtain ⟨ps, hps⟩ := Sm.all h
  exact ⟨_, fun S => .tup (hps S) hm⟩
theorem Sm.ints {n k : Nat} {is : List Int} (hk : 1 ≤ k) (hk2 : k ≤ 500) (h : ∀ i ∈ is, i.natAbs < 10 ^ k) (m : Nat) (hm : is.length * (k + 3) + 3 ≤ m) : Sm (n + 2) (iv is) m :=
  Sm.tup (w := k + 1) (fun d hd => by obtain ⟨i, hi, rfl⟩ := List.mem_map.mp hd; exact Sm.int k hk hk2 (h i hi)) m (by rw [List.length_map]; exact hm)
theorem Sm.t2 {n w : Nat} {a b : Dt} (ha : Sm n a w) (hb : Sm n b w) (m : Nat) (hm : 2 * (w + 2) + 3 ≤ m) : Sm (n + 1) (.tup [a, b]) m :=
  Sm.tup (w := w) (fun d hd => by simp at hd; rcases hd with rfl | rfl <;> assumption) m hm
theorem Sm.t3 {n w : Nat} {a b c : Dt} (ha : Sm n a w) (hb : Sm n b w) (hc : Sm n c w) (m : Nat) (hm : 3 * (w + 2) + 3 ≤ m) : Sm (n + 1) (.tup [a, b, c]) m :=
  Sm.tup (w := w) (fun d hd => by simp at hd; rcases hd with rfl | rfl | rfl <;> assumption) m hm
theorem Sm.t4 {n w : Nat} {a b c e : Dt} (ha : Sm n a w) (hb : Sm n b w) (hc : Sm n c w) (he : Sm n e w) (m : Nat) (hm : 4 * (w + 2) + 3 ≤ m) : Sm (n + 1) (.tup [a, b, c, e]) m :=
  Sm.tup (w := w) (fun d hd => by simp at hd; rcases hd with rfl | rfl | rfl | rfl <;> assumption) m hm
section
variable {S : Bxs} {E : Nat → List Dt → Bxs → Prop}
/-- what repr tells -/
noncomputable def shD (d : Dt) : Str := match pdo [] d with
  | some p => p.shown
  | none => default
theorem w_reprS {d : Dt} {w : Nat} {P : Dt → Bxs → Prop} (h : Sm 60 d w) (hw : w ≤ 1000000) (q : P (.str (shD d)) S) : (reprG [d] S).Wp P E := by
  obtain ⟨p, hp⟩ := h
  refine w_repr (hp S) hw ?_
  have e : shD d = p.shown := by unfold shD pdo DEEP; rw [(hp []).pd]
  rw [← e]; exact q
end
end Mn
set_option Elab.async false
set_option linter.all false
set_option maxRecDepth 100000
set_option maxHeartbeats 4000000
namespace Mn
open PySem PySem.Spec PyProof.Rows L2
section
variable {S : Bxs} {E : Nat → List Dt → Bxs → Prop}
/-- xs != [] -/
theorem w_neNil {n m w : Nat} {ds : List Dt} {neg : Bool} {P : Dt → Bxs → Prop} (e : S.seq n = some ds) (e2 : S.seq m = some []) (hs : ∀ d ∈ ds, Sm 59 d w) (q : P (.bl (if neg then !ds.isEmpty else ds.isEmpty)) S) : (eqG neg (.box n) (.box m) S).Wp P E := by
  obtain ⟨ps, hps⟩ := Sm.all hs
  refine w_eq (.box e (hps S) (Nat.le_refl _)) (.box e2 .nil (Nat.le_refl _)) ?_
  have : PyData.eqv (.list ps) (.list []) = ds.isEmpty := by
    have h := hps S
    generalize ds.length * (w + 2) = k at h
    cases h with
    | nil => simp [PyData.eqv, PyData.eqvAll]
    | cons _ _ => simp [PyData.eqv, PyData.eqvAll]
  rw [this]; exact q
theorem maxI_ge : ∀ {is : List Int} {i : Int}, i ∈ is → i ≤ maxI is
  | [a], i, h => by
    rw [List.mem_singleton.mp h]
    show a ≤ maxI [a]
    simp [maxI]
  | a :: b :: r, i, h => by
    have ih := fun {j} (hj : j ∈ b :: r) => maxI_ge (i := j) hj
    have e : maxI (a :: b :: r) = (if maxI (b :: r) > a then maxI (b :: r) else a) := by
      simp [maxI]
    rw [e]
    rcases List.mem_cons.mp h with rfl | z
    · split <;> omega
    · have := ih z
      split <;> omega
end
end Mn
namespace Lw
open PySem PySem.Spec PyProof.Rows L2 Mn
end Lw
set_option Elab.async false
set_option linter.all false
set_option maxRecDepth 100000
set_option maxHeartbeats 4000000
namespace Lw
open PySem PySem.Spec PyProof.Rows L2 Mn
def Pos (is : List Int) : Prop := ∀ i ∈ is, 0 ≤ i
theorem Pos.set {is : List Int} {j : Nat} {v : Int} (h : Pos is) (hv : 0 ≤ v) : Pos (is.set j v) := fun i hi => by
  rcases List.mem_or_eq_of_mem_set hi with z | z
  · exact h i z
  · rw [z]; exact hv
theorem idx_get {is : List Int} {j : Nat} (h : j < is.length) : ∃ v, is[j]? = some v := ⟨is[j], List.getElem?_eq_getElem h⟩
theorem atI_int {is : List Int} {j : Nat} {v : Int} (h : is[j]? = some v) : atI (is.map Dt.int) (j : Int) = some (.int v) := by
  have hl : j < is.length := (List.getElem?_eq_some_iff.mp h).1
  unfold atI
  rw [ixN_mk (by omega) (by rw [List.length_map]; omega)]
  show (is.map Dt.int)[(j : Int).toNat]? = _
  rw [Int.toNat_natCast, List.getElem?_map, h]; rfl
end Lw
set_option Elab.async false
set_option linter.all false
set_option maxRecDepth 100000
set_option maxHeartbeats 4000000
namespace Lw
open PySem PySem.Spec PyProof.Rows L2 Mn
end Lw
set_option Elab.async false
set_option linter.all false
set_option maxRecDepth 100000
set_option maxHeartbeats 4000000
namespace Mn
open PySem PySem.Spec PyProof.Rows L2
section
variable {σ : Sg} {S : Bxs} {E : Nat → List Dt → Bxs → Prop}
theorem w_listR2 {f g : FE} {P : Dt → Bxs → Prop} (h : (f σ S).Wp (fun d S1 => (g σ S1).Wp (fun e S2 => ∃ i j : Int, d = .int i ∧ e = .int j ∧ inR i ∧ inR j ∧ (j - i).toNat ≤ 100000 ∧ (newL (rgD i (j - i).toNat) S2).Wp P E) E) E) : (dListR2 f g σ S).Wp P E :=
  w_bind (h.mono (fun d S1 q0 => w_bind (q0.mono (fun e S2 ⟨i, j, e1, e2, c1, c2, c3, q⟩ => by
    subst e1; subst e2
    show (if inR i ∧ inR j ∧ (j - i).toNat ≤ 100000 then newL (rgD i (j - i).toNat) S2 else .no).Wp P E
    rw [if_pos ⟨c1, c2, c3⟩]; exact q) fun _ _ _ q => q)) fun _ _ _ q => q)
theorem w_listZip {f : FA} {P : Dt → Bxs → Prop} (h : (f σ S).Wp (fun ds S1 => ∃ m n xs ys, ds = [.box m, .box n] ∧ S1.seq m = some xs ∧ S1.seq n = some ys ∧ xs.length < LIM ∧ (newL ((xs.zip ys).map fun (p : Dt × Dt) => Dt.tup [p.1, p.2]) S1).Wp P E) E) : (dListZip f σ S).Wp P E :=
  w_bind (h.mono (fun ds S1 ⟨m, n, xs, ys, e, e1, e2, c, q⟩ => by
    subst e
    show (match S1.seq m, S1.seq n with
    | some xs, some ys => if xs.length < LIM then newL ((xs.zip ys).map fun (p : Dt × Dt) => Dt.tup [p.1, p.2]) S1 else .no
    | _, _ => .no).Wp P E
    rw [e1, e2]
    show (if xs.length < LIM then newL ((xs.zip ys).map fun (p : Dt × Dt) => Dt.tup [p.1, p.2]) S1 else .no).Wp P E
    rw [if_pos c]; exact q) fun _ _ _ q => q)
theorem w_newD {P : Dt → Bxs → Prop} (h : P (.box S.length) (S ++ [.dk []])) : (dNewD σ S).Wp P E := ⟨h⟩
theorem atI_last {xs : List Dt} (h : xs ≠ []) : ∃ d ∈ xs, atI xs (-1) = some d := by
  have hl : 0 < xs.length := List.length_pos_iff.mpr h
  refine ⟨xs[xs.length - 1], List.getElem_mem _, ?_⟩
  unfold atI ixN
  rw [if_neg (by omega), if_pos (by omega)]
  show xs[_]? = _
  rw [List.getElem?_eq_getElem (by omega)]
  congr 2
  omega
theorem at_nat {xs : List Dt} {j : Nat} {d : Dt} (h : xs[j]? = some d) : atI xs (j : Int) = some d := by
  have hl : j < xs.length := (List.getElem?_eq_some_iff.mp h).1
  unfold atI
  rw [ixN_mk (by omega) (by omega)]
  show xs[(j : Int).toNat]? = _
  rw [Int.toNat_natCast, h]
theorem at_int {xs : List Dt} {i : Int} {d : Dt} (h0 : 0 ≤ i) (h : xs[i.toNat]? = some d) : atI xs i = some d := by
  have := at_nat h
  rwa [Int.toNat_of_nonneg h0] at this
end
end Mn
namespace Lw
open PySem PySem.Spec PyProof.Rows L2 Mn
/-- ints from 0 on, below -/
def OI (pl : Int) (x : Dt) : Prop := ∃ i : Int, x = .int i ∧ 0 ≤ i ∧ i < pl
def OP (pl : Int) (x : Dt) : Prop := ∃ s t : Int, x = .tup [.int s, .int t] ∧ 0 ≤ s ∧ s < pl ∧ 0 ≤ t ∧ t < pl
theorem links_ok {S : Bxs} {b c : Nat} {pl more : Int} (B : Bag S b c) (p0 : 1 ≤ pl) (p1 : pl ≤ 10) (m0 : 0 ≤ more) (m1 : more ≤ 20) :
    (F__law_links [.box b, .int pl, .int more] S).Wp (fun d S' => ∃ r ys, d = .box r ∧ S.length ≤ r ∧ S'[r]? = some (.lst ys) ∧ ys.length ≤ 40 ∧ (∀ y ∈ ys, OP pl y) ∧ Bag S' b c ∧ Fr b S S') noX := by
  have qB := B.lt
  refine w_body ?_
  unfold B__law_links
  simp only [startD, List.map_cons, List.map_nil, List.length_cons, List.length_nil, List.cons_append, List.nil_append, Nat.reduceAdd, Nat.reduceSub, List.replicate, List.replicate_succ, List.replicate_zero]
  and_intros
  refine w_listR2 ?_
  and_intros
  refine ⟨1, pl, rfl, rfl, ⟨by decide, by decide⟩, ⟨by omega, by omega⟩, by omega, ?_⟩
  have hrl : (rgD 1 (pl - 1).toNat).length ≤ 10 := by rw [rgD_len]; omega
  refine w_newL (Nat.le_trans hrl (by decide)) ?_
  and_intros
  have hin : ∀ x ∈ rgD 1 (pl - 1).toNat, OI pl x := fun x hx => by
    obtain ⟨j, hj⟩ := List.mem_iff_getElem?.mp hx
    have e := rgD_get hj
    have := (List.getElem?_eq_some_iff.mp hj).1
    rw [rgD_len] at this
    exact ⟨_, e, by omega, by omega⟩
  refine (mixed_ok (t := (S ++ [MBox.lst [Dt.int 0]]).length) (xs := rgD 1 (pl - 1).toNat) B.app.app (seq_lst get_last) (by simp; omega) (by omega)).mono (fun d S1 ⟨r, ys, ed, hr, e1, pm, B1, F1⟩ => ?_) fun _ _ _ q => q
  subst ed
  have F01 := ((Fr.refl b S).app (x := .lst [Dt.int 0])).app (x := .lst (rgD 1 (pl - 1).toNat)) |>.trans F1
  have e0 : S1[S.length]? = some (.lst [Dt.int 0]) := F1.at_ (get_pre (List.prefix_append _ _) get_last) (by omega)
  refine w_addL (lst_of e0) (lst_of e1) ?_
  have hyl : ys.length ≤ 10 := by rw [pm.length_eq]; exact hrl
  refine w_newL (by rw [List.length_append]; exact Nat.le_trans (show 1 + ys.length ≤ 20 by omega) (by decide)) ?_
  have hO : ∀ x ∈ [Dt.int 0] ++ ys, OI pl x := fun x hx => by
    rcases List.mem_append.mp hx with z | z
    · rw [List.mem_singleton.mp z]; exact ⟨0, rfl, by omega, by omega⟩
    · exact hin x (pm.mem_iff.mp z)
  have hOl : ([Dt.int 0] ++ ys).length ≤ 11 := by simp; omega
  have hOn : [Dt.int 0] ++ ys ≠ [] := fun z => nomatch z
  have B2 := B1.app (x := .lst ([Dt.int 0] ++ ys))
  have F2 := F01.app (x := .lst ([Dt.int 0] ++ ys))
  have eo : (S1 ++ [MBox.lst ([Dt.int 0] ++ ys)])[S1.length]? = some (.lst ([Dt.int 0] ++ ys)) := get_last
  have q1 := F01.len
  generalize [Dt.int 0] ++ ys = os at hO hOl hOn B2 F2 eo ⊢
  generalize S1 ++ [MBox.lst os] = S2 at B2 F2 eo ⊢
  generalize S1.length = o at eo q1 ⊢
  have hob : o ≠ b := by omega
  and_intros
  refine w_listZip ?_
  and_intros
  refine w_slB (seq_lst eo) ?_
  have hcl := cutD_length os (some 1) none
  have hcm : ∀ x ∈ Mn.cutD os (some 1) none, OI pl x := fun x hx => by
    unfold Mn.cutD at hx
    exact hO x (List.mem_of_mem_drop (List.mem_of_mem_take hx))
  refine w_newL (Nat.le_trans hcl (Nat.le_trans hOl (by decide))) ?_
  and_intros
  refine ⟨_, _, _, _, rfl, seq_lst (get_pre (List.prefix_append _ _) eo), seq_lst get_last, Nat.lt_of_le_of_lt hOl (by decide), ?_⟩
  have hzl : ((os.zip (Mn.cutD os (some 1) none)).map fun (p : Dt × Dt) => Dt.tup [p.1, p.2]).length ≤ 11 := by rw [List.length_map, List.length_zip]; omega
  have hzm : ∀ x ∈ (os.zip (Mn.cutD os (some 1) none)).map (fun (p : Dt × Dt) => Dt.tup [p.1, p.2]), OP pl x := fun x hx => by
    obtain ⟨⟨x1, x2⟩, hp, rfl⟩ := List.mem_map.mp hx
    have hz := List.of_mem_zip hp
    obtain ⟨s, rfl, s0, s1⟩ := hO _ hz.1
    obtain ⟨t, rfl, t0, t1⟩ := hcm _ hz.2
    exact ⟨s, t, rfl, s0, s1, t0, t1⟩
  generalize (os.zip (Mn.cutD os (some 1) none)).map (fun (p : Dt × Dt) => Dt.tup [p.1, p.2]) = zs at hzl hzm ⊢
  refine w_newL (Nat.le_trans hzl (by decide)) ?_
  have B3 := (B2.app (x := .lst (Mn.cutD os (some 1) none))).app (x := .lst zs)
  have F3 := (F2.app (x := .lst (Mn.cutD os (some 1) none))).app (x := .lst zs)
  have eo3 : (S2 ++ [MBox.lst (Mn.cutD os (some 1) none)] ++ [MBox.lst zs])[o]? = some (.lst os) := get_pre (List.prefix_append _ _) (get_pre (List.prefix_append _ _) eo)
  have ez3 : (S2 ++ [MBox.lst (Mn.cutD os (some 1) none)] ++ [MBox.lst zs])[(S2 ++ [MBox.lst (Mn.cutD os (some 1) none)]).length]? = some (.lst zs) := get_last
  have q3 : S.length ≤ (S2 ++ [MBox.lst (Mn.cutD os (some 1) none)]).length := (F2.app (x := .lst (Mn.cutD os (some 1) none))).len
  generalize S2 ++ [MBox.lst (Mn.cutD os (some 1) none)] ++ [MBox.lst zs] = S3 at B3 F3 eo3 ez3 ⊢
  generalize (S2 ++ [MBox.lst (Mn.cutD os (some 1) none)]).length = zb at ez3 q3 ⊢
  and_intros
  obtain ⟨dl, hdl, hat⟩ := atI_last hOn
  refine w_ixB (seq_lst eo3) hat ?_
  and_intros
  refine (one_ok B3 (seq_lst eo3) hob hOn (by omega)).mono (fun d S4 ⟨hd, B4, F4⟩ => ?_) fun _ _ _ q => q
  obtain ⟨s, rfl, s0, s1⟩ := hO _ hdl
  obtain ⟨t, rfl, t0, t1⟩ := hO _ hd
  and_intros
  refine ⟨Nat.le_of_ble_eq_true (by rfl), ?_⟩
  and_intros
  have ez4 : (S4 ++ [MBox.lst [Dt.tup [Dt.int s, Dt.int t]]])[zb]? = some (.lst zs) := get_pre (List.prefix_append _ _) (F4.at_ ez3 (by omega))
  refine w_addL (lst_of ez4) (lst_of get_last) ?_
  refine w_newL (by rw [List.length_append]; exact Nat.le_trans (show zs.length + 1 ≤ 20 by omega) (by decide)) ?_
  and_intros
  have F4' := ((F3.trans F4).app (x := .lst [Dt.tup [Dt.int s, Dt.int t]])).app (x := .lst (zs ++ [Dt.tup [Dt.int s, Dt.int t]]))
  have B4' := (B4.app (x := .lst [Dt.tup [Dt.int s, Dt.int t]])).app (x := .lst (zs ++ [Dt.tup [Dt.int s, Dt.int t]]))
  refine (take_ok B4' (by omega) (by omega)).mono (fun d S5 ⟨k, ed, k0, k1, B5, F5⟩ => ?_) fun _ _ _ q => q
  subst ed
  have q5 : S.length ≤ (S4 ++ [MBox.lst [Dt.tup [Dt.int s, Dt.int t]]]).length := ((F3.trans F4).app (x := .lst [Dt.tup [Dt.int s, Dt.int t]])).len
  have ef5 : S5[(S4 ++ [MBox.lst [Dt.tup [Dt.int s, Dt.int t]]]).length]? = some (.lst (zs ++ [Dt.tup [Dt.int s, Dt.int t]])) := F5.at_ get_last (by omega)
  have hfm : ∀ x ∈ zs ++ [Dt.tup [Dt.int s, Dt.int t]], OP pl x := fun x hx => by
    rcases List.mem_append.mp hx with z | z
    · exact hzm x z
    · rw [List.mem_singleton.mp z]; exact ⟨s, t, rfl, s0, s1, t0, t1⟩
  have hfl : (zs ++ [Dt.tup [Dt.int s, Dt.int t]]).length ≤ 12 := by simp; omega
  generalize zs ++ [Dt.tup [Dt.int s, Dt.int t]] = fs at ef5 hfm hfl
  generalize (S4 ++ [MBox.lst [Dt.tup [Dt.int s, Dt.int t]]]).length = f at ef5 q5 ⊢
  have F05 := F4'.trans F5
  have hfb : f ≠ b := by omega
  have hfc : f ≠ c := by omega
  and_intros
  refine ⟨⟨by omega, by omega⟩, ?_⟩
  refine w_loop (fun i σ S' => ∃ d5 fs, σ = [some (.box b), some (.int pl), some (.int more), some (.box o), some (.box f), d5] ∧ S'[f]? = some (.lst fs) ∧ fs.length ≤ 12 + i ∧ (∀ x ∈ fs, OP pl x) ∧ Bag S' b c ∧ Fr b S S')
    (fun _ _ _ _ => trivial) (fun i x σ S6 hx ⟨d5, fs, e, ef, hl, hm, B6, F6⟩ => ?_) (fun σ S6 ⟨d5, fs, e, ef, hl, hm, B6, F6⟩ => ?_) ⟨_, fs, rfl, ef5, hfl, hfm, B5, F05⟩
  · subst e
    have hik : i < 21 := by
      have := (List.getElem?_eq_some_iff.mp hx).1
      rw [rgD_len] at this
      omega
    and_intros
    refine ⟨ty_list ef, ?_⟩
    and_intros
    refine (take_ok B6 (by omega) (by omega)).mono (fun d S7 ⟨u, ed, u0, u1, B7, F7⟩ => ?_) fun _ _ _ q => q
    subst ed
    and_intros
    refine (take_ok B7 (by omega) (by omega)).mono (fun d S8 ⟨v, ed, v0, v1, B8, F8⟩ => ?_) fun _ _ _ q => q
    subst ed
    and_intros
    refine ⟨Nat.le_of_ble_eq_true (by rfl), ?_⟩
    and_intros
    have F78 := F7.trans F8
    refine w_append (lst_of (F78.at_ ef hfb)) (Nat.lt_of_le_of_lt (show fs.length ≤ 40 by omega) (by decide)) ?_
    refine .inl ⟨rfl, _, fs ++ [Dt.tup [.int u, .int v]], rfl, List.getElem?_set_self (get_lt (F78.at_ ef hfb)), by rw [List.length_append]; simp; omega, fun x hx => ?_, B8.own hfb hfc, (F6.trans F78).own q5⟩
    rcases List.mem_append.mp hx with z | z
    · exact hm x z
    · rw [List.mem_singleton.mp z]; exact ⟨u, v, rfl, u0, u1, v0, v1⟩
  · subst e
    rw [rgD_len] at hl
    refine c_nx ?_
    and_intros
    refine (mixed_ok B6 (seq_lst ef) hfb (by omega)).mono (fun d S7 ⟨r, ys, ed, hr, e7, pm, B7, F7⟩ => ?_) fun _ _ _ q => q
    subst ed
    have := F6.len
    exact .inl ⟨_, rfl, r, ys, rfl, by omega, e7, by rw [pm.length_eq]; omega, fun y hy => hm y (pm.mem_iff.mp hy), B7, F6.trans F7⟩
end Lw
set_option Elab.async false
set_option linter.all false
set_option maxRecDepth 100000
set_option maxHeartbeats 4000000
namespace Mn
open PySem PySem.Spec PyProof.Rows L2
/-- from 0 on, at most so much, item by item -/
structure Le (xs ys : List Int) : Prop where
  len : xs.length = ys.length
  get : ∀ (i : Nat) x y, xs[i]? = some x → ys[i]? = some y → 0 ≤ x ∧ x ≤ y
theorem Le.at_ {xs ys : List Int} (h : Le xs ys) {i : Nat} {x : Int} (e : xs[i]? = some x) : ∃ y, ys[i]? = some y ∧ 0 ≤ x ∧ x ≤ y := by
  have hl := (List.getElem?_eq_some_iff.mp e).1
  have hl' : i < ys.length := by rw [← h.len]; exact hl
  exact ⟨ys[i], List.getElem?_eq_getElem hl', h.get i x _ e (List.getElem?_eq_getElem hl')⟩
end Mn
namespace Lw
open PySem PySem.Spec PyProof.Rows L2 Mn
structure Arw (pl : Int) (size hl : Nat) (d : Dt) (s t : Int) (lot crew : List Int) : Prop where
  eq : d = .tup [.int s, .int t, iv lot, iv crew]
  s0 : 0 ≤ s
  s1 : s < pl
  t0 : 0 ≤ t
  t1 : t < pl
  ll : lot.length = size
  cl : crew.length = hl
  lb : Mn.In 0 9 lot
  cb : Mn.In 0 9 crew
structure Snd (size hl : Nat) (d : Dt) (pl : Int) (as : List Dt) : Prop where
  eq : d = .tup [.int pl, .tup as]
  p0 : 1 ≤ pl
  p1 : pl ≤ 10
  al : as.length ≤ 40
  ar : ∀ a ∈ as, ∃ s t lot crew, Arw pl size hl a s t lot crew
theorem Works.ne {d : Dt} {size : Nat} {ks hs rs : List Dt} (W : Works d size ks hs rs) {tl : List Int} (h : tl.length = size) : tl ≠ [] := fun z => by
  have := W.s0
  rw [z] at h; simp at h; omega
end Lw
set_option Elab.async false
set_option linter.all false
set_option maxRecDepth 100000
set_option maxHeartbeats 4000000
namespace Mn
open PySem PySem.Spec PyProof.Rows L2
section
variable {S : Bxs} {E : Nat → List Dt → Bxs → Prop}
theorem w_addT {xs ys : List Dt} {P : Dt → Bxs → Prop} (c : xs.length + ys.length ≤ LIM) (h : P (.tup (xs ++ ys)) S) : (addG (.tup xs) (.tup ys) S).Wp P E := by
  show (if xs.length + ys.length ≤ LIM then Rs.ok (Dt.tup (xs ++ ys)) S else .no).Wp P E
  rw [if_pos c]; exact ⟨h⟩
end
theorem sm_small {is : List Int} {n : Nat} (h : Mn.In 0 9 is) (hl : is.length ≤ 10) : Sm (n + 2) (iv is) 53 := Sm.ints (k := 2) (by decide) (by decide) (fun i hi => by have := h i hi; omega) 53 (by omega)
end Mn
namespace Lw
open PySem PySem.Spec PyProof.Rows L2 Mn
theorem sm_arw {pl : Int} {size hl : Nat} {d : Dt} {s t : Int} {lot crew : List Int} {n : Nat} (A : Arw pl size hl d s t lot crew) (p1 : pl ≤ 10) (h1 : size ≤ 10) (h2 : hl ≤ 10) : Sm (n + 3) d 230 := by
  have := A.s0
  have := A.s1
  have := A.t0
  have := A.t1
  have := A.ll
  have := A.cl
  rw [A.eq]
  exact Sm.t4 (w := 53) ((Sm.int 2 (by decide) (by decide) (by omega)).mono (by decide)) ((Sm.int 2 (by decide) (by decide) (by omega)).mono (by decide)) (sm_small A.lb (by omega)) (sm_small A.cb (by omega)) 230 (by decide)
theorem Snd.sm {size hl : Nat} {d : Dt} {pl : Int} {as : List Dt} (A : Snd size hl d pl as) (h1 : size ≤ 10) (h2 : hl ≤ 10) {n : Nat} : Sm (n + 5) d 20000 := by
  have := A.p0
  have := A.p1
  rw [A.eq]
  refine Sm.t2 (w := 9990) ((Sm.int 2 (by decide) (by decide) (by omega)).mono (by decide)) ?_ 20000 (by decide)
  exact Sm.tup (w := 230) (fun a ha => by obtain ⟨s, t, lot, crew, R⟩ := A.ar a ha; exact sm_arw R A.p1 h1 h2) 9990 (by have := A.al; omega)
/-- [one(bag, [..]) for x in xs], made a tuple -/
theorem any_ok {S : Bxs} {b c : Nat} {w : Dt} {size : Nat} {ks hs rs : List Dt} {places more : Int} (B : Bag S b c) (W : Works w size ks hs rs) (p0 : 1 ≤ places) (p1 : places ≤ 10) (m0 : 0 ≤ more) (m1 : more ≤ 20) :
    (F__law_any_sender [.box b, w, .int places, .int more] S).Wp (fun d S' => (∃ pl as, Snd size hs.length d pl as) ∧ Bag S' b c ∧ Fr b S S') noX := by
  have ws1 := W.s1
  have ws0 := W.s0
  have whl := W.hl
  have wkl := W.kl
  have qB := B.lt
  have hwe := W.eq
  subst hwe
  refine w_body ?_
  unfold B__law_any_sender
  simp only [startD, List.map_cons, List.map_nil, List.length_cons, List.length_nil, List.cons_append, List.nil_append, Nat.reduceAdd, Nat.reduceSub, List.replicate, List.replicate_succ, List.replicate_zero]
  and_intros
  refine (take_ok B (by omega) (by omega)).mono (fun d S1 ⟨k, ed, k0, k1, B1, F1⟩ => ?_) fun _ _ _ q => q
  subst ed
  and_intros
  have q1 := F1.len
  refine (links_ok (B1.app (x := .lst [])) (by omega) (by omega) m0 m1).mono (fun d S2 ⟨r, ys, ed, hr, er, yl, ym, B2, F2⟩ => ?_) fun _ _ _ q => q
  subst ed
  have F02 := (F1.app (x := .lst [])).trans F2
  have ea2 : S2[S1.length]? = some (.lst []) := F2.at_ get_last (by omega)
  have hr' : S1.length < r := by rw [List.length_append] at hr; simp at hr; omega
  generalize S1.length = a at ea2 hr' q1 ⊢
  have hab : a ≠ b := by omega
  have hac : a ≠ c := by omega
  and_intros
  refine w_lenB (seq_lst er) ?_
  and_intros
  refine w_lenB (seq_lst er) ?_
  and_intros
  refine w_lenB (seq_lst er) ?_
  and_intros
  refine (take_ok B2 (by omega) (by omega)).mono (fun d S3 ⟨u, ed, u0, u1, B3, F3⟩ => ?_) fun _ _ _ q => q
  subst ed
  have q3 := (F02.trans F3).len
  and_intros
  refine (one_ok (xs := [Dt.int ys.length, .int ys.length, .int u]) (B3.app) (seq_lst get_last) (by omega) (fun z => nomatch z) (by simp)).mono (fun d S4 ⟨hd, B4, F4⟩ => ?_) fun _ _ _ q => q
  have F24 := (F3.app (x := .lst [Dt.int ys.length, .int ys.length, .int u])).trans F4
  obtain ⟨v, rfl⟩ : ∃ v : Int, d = .int v := by
    simp at hd
    rcases hd with z | z <;> exact ⟨_, z⟩
  have er4 := F24.at_ er (by omega)
  have ea4 := F24.at_ ea2 hab
  have F04 := F02.trans F24
  and_intros
  refine w_slB (seq_lst er4) ?_
  have hcl := cutD_length ys none (some v)
  have hcm : ∀ y ∈ Mn.cutD ys none (some v), OP (1 + k) y := fun y hy => by
    unfold Mn.cutD at hy
    exact ym y (List.mem_of_mem_drop (List.mem_of_mem_take hy))
  generalize Mn.cutD ys none (some v) = zs at hcl hcm ⊢
  refine w_newL (Nat.le_trans hcl (Nat.le_trans yl (by decide))) ?_
  have ez : (S4 ++ [MBox.lst zs])[S4.length]? = some (.lst zs) := get_last
  have B5 := B4.app (x := .lst zs)
  have F05 := F04.app (x := .lst zs)
  have ea5 : (S4 ++ [MBox.lst zs])[a]? = some (.lst []) := get_pre (List.prefix_append _ _) ea4
  have qz : a < S4.length := get_lt ea4
  have q4 := F04.len
  generalize S4 ++ [MBox.lst zs] = S5 at ez B5 F05 ea5 ⊢
  generalize S4.length = z at ez qz q4 ⊢
  refine ⟨zs, w_seqB ez, ?_⟩
  refine w_loop (fun i σ S' => ∃ d7 d8 d9 d10 d11 as, σ = [some (.box b), some (.tup [.tup ks, .tup hs, .tup rs]), some (.int places), some (.int more), some (.int (1 + k)), some (.box a), some (.box r), d7, d8, d9, d10, d11] ∧ S'[a]? = some (.lst as) ∧ as.length = i ∧ (∀ x ∈ as, ∃ s t lot crew, Arw (1 + k) size hs.length x s t lot crew) ∧ S'[z]? = some (.lst zs) ∧ Bag S' b c ∧ Fr b S S')
    (fun i σ S' ⟨_, _, _, _, _, _, _, _, _, _, er, _⟩ => w_seqB er) (fun i x σ S6 hx ⟨d7, d8, d9, d10, d11, as, e, ea, hl, hA, ez, B6, F6⟩ => ?_) (fun σ S6 ⟨d7, d8, d9, d10, d11, as, e, ea, hl, hA, ez, B6, F6⟩ => ?_) ⟨_, _, _, _, _, [], rfl, ea5, rfl, (fun x hx => nomatch hx), ez, B5, F05⟩
  · subst e
    have hik : i < 40 := by
      have := (List.getElem?_eq_some_iff.mp hx).1
      exact Nat.lt_of_lt_of_le this (Nat.le_trans hcl yl)
    obtain ⟨s, t, rfl, s0, s1, t0, t1⟩ := hcm x (List.mem_of_getElem? hx)
    and_intros
    refine w_lcB (b := b) (c := c) ?_
    and_intros
    refine ⟨fun _ => true, fun (_ : Dt) d => ∃ i : Int, d = .int i ∧ (0 ≤ i ∧ i ≤ 9), Nat.lt_of_le_of_lt (show ks.length ≤ 10 by omega) (by decide), B6, fun _ _ => rfl, fun y S' hy B' F' => ?_, fun ds S7 he hn B7 F7 => ?_⟩
    · and_intros
      refine w_yes ⟨rfl, fun z => (nomatch z), fun _ => ?_⟩
      and_intros
      have := B'.lt
      refine (one_ok (xs := [Dt.int 0, .int 0, .int 1, .int 0, .int 2]) B'.app (seq_lst get_last) (by omega) (fun z => nomatch z) (by simp)).mono (fun d S8 ⟨hd, B8, F8⟩ => ?_) fun _ _ _ q => q
      refine ⟨?_, B8, ((Fr.refl b S').app).trans F8⟩
      simp at hd
      rcases hd with z | z | z | z <;> exact ⟨_, z, by omega, by omega⟩
    rw [filter_yes] at he
    obtain ⟨lot, rfl, ll, lb⟩ := Each.ints (fun _ _ h => h) he
    and_intros
    refine w_tupB (seq_lst hn) ?_
    and_intros
    have F67 := F7
    have ea7 := F7.at_ ea hab
    refine ⟨ty_list ea7, ?_⟩
    and_intros
    refine w_lcB (b := b) (c := c) ?_
    and_intros
    refine ⟨fun _ => true, fun (_ : Dt) d => ∃ i : Int, d = .int i ∧ (0 ≤ i ∧ i ≤ 9), Nat.lt_of_le_of_lt whl (by decide), B7, fun _ _ => rfl, fun y S' hy B' F' => ?_, fun ds S8 he hn B8 F8 => ?_⟩
    · and_intros
      refine w_yes ⟨rfl, fun z => (nomatch z), fun _ => ?_⟩
      and_intros
      have := B'.lt
      refine (one_ok (xs := [Dt.int 0, .int 1, .int 0, .int 2]) B'.app (seq_lst get_last) (by omega) (fun z => nomatch z) (by simp)).mono (fun d S9 ⟨hd, B9, F9⟩ => ?_) fun _ _ _ q => q
      refine ⟨?_, B9, ((Fr.refl b S').app).trans F9⟩
      simp at hd
      rcases hd with z | z | z | z <;> exact ⟨_, z, by omega, by omega⟩
    rw [filter_yes] at he
    obtain ⟨crew, rfl, cl, cb⟩ := Each.ints (fun _ _ h => h) he
    and_intros
    refine w_tupB (seq_lst hn) ?_
    and_intros
    refine ⟨Nat.le_of_ble_eq_true (by rfl), ?_⟩
    and_intros
    have F78 := F7.trans F8
    refine w_append (lst_of (F78.at_ ea hab)) (Nat.lt_of_le_of_lt (show as.length ≤ 40 by omega) (by decide)) ?_
    refine .inl ⟨rfl, _, _, _, _, _, as ++ [Dt.tup [.int s, .int t, iv lot, iv crew]], rfl, List.getElem?_set_self (get_lt (F78.at_ ea hab)), by rw [List.length_append, hl]; rfl, fun x hx => ?_, by rw [List.getElem?_set_ne (by omega)]; exact F78.at_ ez (by omega), B8.own hab hac, (F6.trans F78).own (by omega)⟩
    rcases List.mem_append.mp hx with z | z
    · exact hA x z
    · rw [List.mem_singleton.mp z]
      exact ⟨s, t, lot, crew, ⟨rfl, s0, s1, t0, t1, by rw [ll]; exact wkl, cl, lb, cb⟩⟩
  · subst e
    refine c_nx ?_
    and_intros
    refine w_tupB (seq_lst ea) ?_
    and_intros
    refine ⟨Nat.le_of_ble_eq_true (by rfl), .inl ⟨_, rfl, ⟨1 + k, as, rfl, by omega, by omega, ?_, hA⟩, B6, F6⟩⟩
    rw [hl]; exact Nat.le_trans hcl yl
end Lw
set_option Elab.async false
set_option linter.all false
set_option maxRecDepth 100000
set_option maxHeartbeats 4000000
namespace Mn
open PySem PySem.Spec PyProof.Rows L2
section
variable {S : Bxs} {E : Nat → List Dt → Bxs → Prop}
theorem dk_of {n : Nat} {kvs : List (Key × Dt)} (e : S[n]? = some (.dk kvs)) : S.dk n = some kvs := by unfold Bxs.dk; rw [e]
theorem dkR_of {n : Nat} {kvs : List (Key × Dt)} (e : S[n]? = some (.dk kvs)) : S.dkR n = some kvs := by unfold Bxs.dkR; rw [e]
theorem dkR_ofr {n : Nat} {kvs : List (Key × Dt)} (e : S[n]? = some (.dkr kvs)) : S.dkR n = some kvs := by unfold Bxs.dkR; rw [e]
end
theorem w_neI {S : Bxs} {E : Nat → List Dt → Bxs → Prop} {i j : Int} {P : Dt → Bxs → Prop} (h : P (.bl (!decide (i = j))) S) : (eqG true (.int i) (.int j) S).Wp P E := by
  have e : eqG true (.int i) (.int j) S = .ok (.bl (!decide (i = j))) S := by
    unfold eqG pdo DEEP pd
    simp only [PyData.eqv, SeqAt.shaped]
    rfl
  rw [e]; exact ⟨h⟩
end Mn
namespace Lw
open PySem PySem.Spec PyProof.Rows L2 Mn
/-- where an arrow begins, ends -/
def arrS : Dt → Int
  | .tup [.int s, .int _, _, _] => s
  | _ => -1
def arrT : Dt → Int
  | .tup [.int _, .int t, _, _] => t
  | _ => -1
theorem Arw.src {pl : Int} {size hl : Nat} {d : Dt} {s t : Int} {lot crew : List Int} (A : Arw pl size hl d s t lot crew) : arrS d = s := by rw [A.eq]; rfl
theorem Arw.tgt {pl : Int} {size hl : Nat} {d : Dt} {s t : Int} {lot crew : List Int} (A : Arw pl size hl d s t lot crew) : arrT d = t := by rw [A.eq]; rfl
/-- the indexes lead on from p to q -/
def Goes (as : List Dt) : Int → List Int → Int → Prop
  | p, [], q => p = q
  | p, i :: r, q => ∃ a, 0 ≤ i ∧ as[i.toNat]? = some a ∧ arrS a = p ∧ Goes as (arrT a) r q
theorem Goes.snoc {as : List Dt} {q i : Int} {a : Dt} (h0 : 0 ≤ i) (ha : as[i.toNat]? = some a) (hs : arrS a = q) : ∀ {is : List Int} {p : Int}, Goes as p is q → Goes as p (is ++ [i]) (arrT a)
  | [], p, h => by
    have h : p = q := h
    exact ⟨a, h0, ha, by rw [h]; exact hs, rfl⟩
  | j :: r, p, ⟨b, b0, hb, hbs, h⟩ => ⟨b, b0, hb, hbs, Goes.snoc h0 ha hs h⟩
theorem Snd.at_ {size hl : Nat} {d : Dt} {pl : Int} {as : List Dt} (A : Snd size hl d pl as) {i : Int} (h0 : 0 ≤ i) (h1 : i < as.length) : ∃ a s t lot crew, as[i.toNat]? = some a ∧ atI as i = some a ∧ Arw pl size hl a s t lot crew := by
  have hi : i.toNat < as.length := by omega
  have e := List.getElem?_eq_getElem hi
  obtain ⟨s, t, lot, crew, R⟩ := A.ar _ (List.getElem_mem hi)
  exact ⟨_, s, t, lot, crew, e, at_int h0 e, R⟩
end Lw
set_option Elab.async false
set_option linter.all false
set_option maxRecDepth 100000
set_option maxHeartbeats 4000000
/-! Lo: forms: names, amounts, recipes, works. -/
namespace Mn
open PySem PySem.Spec PyProof.Rows L2
section
variable {α : Type} {σ : Sg} {S : Bxs} {E : Nat → List Dt → Bxs → Prop}
theorem w_isi {T : String} {f : FE} {P : Dt → Bxs → Prop} (h : (f σ S).Wp (fun d S1 => ∃ b, isiD T S1 d = some b ∧ P (.bl b) S1) E) : (dIsi T f σ S).Wp P E := by
  refine w_bind (h.mono (fun d S1 ⟨b, e, q⟩ => ?_) fun _ _ _ q => q)
  rw [e]; exact ⟨q⟩
theorem w_orV {a b : FE} {P : Dt → Bxs → Prop} (h : (a σ S).Wp (fun d S1 => ∃ c, d = .bl c ∧ (c = true → P (.bl true) S1) ∧ (c = false → (b σ S1).Wp P E)) E) : (dOrV a b σ S).Wp P E := by
  refine w_bind (h.mono (fun d S1 ⟨c, e, q1, q2⟩ => ?_) fun _ _ _ q => q)
  subst e
  cases c with
  | true => exact ⟨q1 rfl⟩
  | false => exact q2 rfl
theorem w_notV {a : FE} {P : Dt → Bxs → Prop} (h : (a σ S).Wp (fun d S1 => ∃ c, d = .bl c ∧ P (.bl (!c)) S1) E) : (dNotV a σ S).Wp P E := by
  refine w_bind (h.mono (fun d S1 ⟨c, e, q⟩ => ?_) fun _ _ _ q => q)
  subst e; exact ⟨q⟩
theorem w_chain {g g' : G2} {a b c : FE} {P : Dt → Bxs → Prop} (h : (a σ S).Wp (fun x S1 => (b σ S1).Wp (fun y S2 => (g x y S2).Wp (fun z S3 => ∃ k, z = .bl k ∧ (k = true → (c σ S3).Wp (fun w S4 => (g' y w S4).Wp P E) E) ∧ (k = false → P (.bl false) S3)) E) E) E) : (dChain g g' a b c σ S).Wp P E := by
  refine w_bind (h.mono (fun x S1 q => w_bind (q.mono (fun y S2 q => w_bind (q.mono (fun z S3 ⟨k, e, q1, q2⟩ => ?_) fun _ _ _ q => q)) fun _ _ _ q => q)) fun _ _ _ q => q)
  subst e
  cases k with
  | true => exact w_bind (q1 rfl)
  | false => exact ⟨q2 rfl⟩
theorem w_srcStr {f : FE} {P : List Dt × (Bxs → Prop) → Bxs → Prop} (h : (f σ S).Wp (fun d S1 => ∃ x : Str, d = .str x ∧ P (x.cps.toList.map fun c => Dt.str ⟨#[c]⟩, fun _ => True) S1) E) : (srcStr f σ S).Wp P E := by
  refine w_bind (h.mono (fun d S1 ⟨x, e, q⟩ => ?_) fun _ _ _ q => q)
  subst e; exact ⟨q⟩
theorem w_srcEnumT {f : FA} {P : List (Dt × Dt) × (Bxs → Prop) → Bxs → Prop} (h : (f σ S).Wp (fun ds S1 => ∃ xs, ds = [.tup xs] ∧ P (placed xs, fun S' => seqOf S' (.tup xs) = some xs) S1) E) : (srcEnum f σ S).Wp P E := by
  refine w_bind (h.mono (fun ds S1 ⟨xs, e, q⟩ => ?_) fun _ _ _ q => q)
  subst e; exact ⟨q⟩
theorem w_inT {neg : Bool} {x : Dt} {ys : List Dt} {P : Dt → Bxs → Prop} (hx : x.flat = true) (hy : ys.all Dt.flat = true) (h : P (.bl (if neg then !(ys.any fun e => e.eqf x) else ys.any fun e => e.eqf x)) S) : (inG neg x (.tup ys) S).Wp P E := by
  have z : inG neg x (.tup ys) S = .ok (.bl (if neg then !(ys.any fun e => e.eqf x) else ys.any fun e => e.eqf x)) S := by
    have t : tget S (.tup ys) x = none := by
      unfold tget
      cases tiOf x <;> rfl
    unfold inG
    rw [t]
    show (if x.flat = true then inF neg x (.tup ys) S else inDp neg x (.tup ys) S) = _
    rw [if_pos hx]
    show (if x.flat = true ∧ ys.all Dt.flat = true then Rs.ok _ S else .no) = _
    rw [if_pos ⟨hx, hy⟩]
  rw [z]; exact ⟨h⟩
theorem w_anyB {n : Nat} {is : List Bool} {P : Dt → Bxs → Prop} (e : S.seq n = some (is.map Dt.bl)) (h : P (.bl (is.any id)) S) : (allG true [.box n] S).Wp P E := by
  have z : allG true [.box n] S = .ok (.bl (is.any id)) S := by
    show (match S.seq n with
    | some xs => match blsOf xs with
      | some bs => Rs.ok (Dt.bl (if true then bs.any id else bs.all id)) S
      | none => .no
    | none => .no) = _
    rw [e]
    show (match blsOf (is.map Dt.bl) with
      | some bs => Rs.ok (Dt.bl (if true then bs.any id else bs.all id)) S
      | none => .no) = _
    rw [blsOf_map]
    rfl
  rw [z]; exact sat_mk h
end
end Mn
namespace Lw
open PySem PySem.Spec PyProof.Rows L2 Mn
def pos2 (p : Dt × Dt) : Bool := match p.2 with
  | .int v => decide (0 < v)
  | _ => false
end Lw
set_option Elab.async false
set_option linter.all false
set_option maxRecDepth 100000
set_option maxHeartbeats 4000000
/-! Lp: recipes, names, works by form. -/
namespace Lw
open PySem PySem.Spec PyProof.Rows L2 Mn
theorem AllB.pos {is : List Int} (h : AllB is) : Pos is := fun i hi => (h i hi).1
theorem menu_flat {d : Dt} (h : d ∈ menuD) : d.flat = true := by
  obtain ⟨z, rfl⟩ := menu_str h; rfl
theorem menu_all {hs : List Dt} (h : ∀ x ∈ hs, x ∈ menuD) : hs.all Dt.flat = true := List.all_eq_true.mpr fun x hx => menu_flat (h x hx)
theorem eqf_str {a z : Str} : (Dt.str a).eqf (.str z) = decide (a = z) := rfl
theorem any_in {hs : List Dt} {h : Dt} (hm : h ∈ menuD) (hh : h ∈ hs) : (hs.any fun e => e.eqf h) = true := by
  obtain ⟨z, rfl⟩ := menu_str hm
  exact List.any_eq_true.mpr ⟨_, hh, by rw [eqf_str]; exact decide_eq_true rfl⟩
/-! names -/
end Lw
set_option Elab.async false
set_option linter.all false
set_option maxRecDepth 100000
set_option maxHeartbeats 4000000
/-! Lq: works by form; recipes put in, taken out. -/
namespace Lw
open PySem PySem.Spec PyProof.Rows L2 Mn
end Lw
set_option Elab.async false
set_option linter.all false
set_option maxRecDepth 100000
set_option maxHeartbeats 4000000
/-! Lm: a world; sums and gains of arrows; likeness of small data. -/
namespace Lw
open PySem PySem.Spec PyProof.Rows L2 Mn
def Ixs (n : Nat) (is : List Int) : Prop := ∀ i ∈ is, 0 ≤ i ∧ i < n
def lotA : Dt → List Int
  | .tup [_, _, .tup l, _] => intsD l
  | _ => []
def crewA : Dt → List Int
  | .tup [_, _, _, .tup l] => intsD l
  | _ => []
theorem Arw.lot {pl : Int} {size hl : Nat} {d : Dt} {s t : Int} {lot crew : List Int} (A : Arw pl size hl d s t lot crew) : lotA d = lot := by rw [A.eq]; exact intsD_map lot
theorem Arw.crew {pl : Int} {size hl : Nat} {d : Dt} {s t : Int} {lot crew : List Int} (A : Arw pl size hl d s t lot crew) : crewA d = crew := by rw [A.eq]; exact intsD_map crew
def nthA (as : List Dt) (i : Int) : Dt := (as[i.toNat]?).getD .non
theorem Snd.nth {size hl : Nat} {d : Dt} {pl : Int} {as : List Dt} (A : Snd size hl d pl as) {is : List Int} (hi : Ixs as.length is) {i : Int} (h : i ∈ is) : ∃ s t lot crew, as[i.toNat]? = some (nthA as i) ∧ atI as i = some (nthA as i) ∧ Arw pl size hl (nthA as i) s t lot crew := by
  have := hi i h
  obtain ⟨a, s, t, lot, crew, e1, e2, R⟩ := A.at_ this.1 this.2
  have e : nthA as i = a := by unfold nthA; rw [e1]; rfl
  rw [e]
  exact ⟨s, t, lot, crew, e1, e2, R⟩
theorem Ixs.take {n : Nat} {is : List Int} (h : Ixs n is) (k : Nat) : Ixs n (is.take k) := fun i hi => h i (List.mem_of_mem_take hi)
end Lw
set_option Elab.async false
set_option linter.all false
set_option maxRecDepth 100000
set_option maxHeartbeats 4000000
/-! Lr: recipes put in, taken out. -/
namespace Lw
open PySem PySem.Spec PyProof.Rows L2 Mn
theorem any_ints {is : List Int} {k : Int} : ((is.map Dt.int).any fun e => e.eqf (.int k)) = is.contains k := by
  induction is with
  | nil => rfl
  | cons a is ih =>
    rw [List.map_cons, List.any_cons, List.contains_cons, ih]
    show (a == k || _) = (k == a || _)
    rw [Bool.beq_comm (a := a) (b := k)]
theorem ints_flat (is : List Int) : (is.map Dt.int).all Dt.flat = true := List.all_eq_true.mpr fun x hx => by obtain ⟨i, _, rfl⟩ := List.mem_map.mp hx; rfl
/-! with_recipe -/
end Lw
set_option Elab.async false
set_option linter.all false
set_option maxRecDepth 100000
set_option maxHeartbeats 4000000
/-! Lt: depths of recipes: the program's. -/
namespace Lw
open PySem PySem.Spec PyProof.Rows L2 Mn
def tkD : Dt → List Int
  | .tup [.tup a, _, _] => intsD a
  | _ => []
def ptD : Dt → List Int
  | .tup [_, .tup b, _] => intsD b
  | _ => []
theorem Recipe.tk {size : Nat} {hs : List Dt} {d : Dt} {ts us : List Int} {h : Dt} (R : Recipe size hs d ts us h) : tkD d = ts := by rw [R.eq]; exact intsD_map ts
theorem Recipe.pt {size : Nat} {hs : List Dt} {d : Dt} {ts us : List Int} {h : Dt} (R : Recipe size hs d ts us h) : ptD d = us := by rw [R.eq]; exact intsD_map us
/-- the greatest, or 0 -/
def Sup (m : Int) (P : Int → Prop) : Prop := (m = 0 ∨ P m) ∧ 0 ≤ m ∧ ∀ x, P x → x ≤ m
theorem Sup.uniq {m m' : Int} {P : Int → Prop} (h : Sup m P) (k : Sup m' P) : m = m' := by
  have a : m ≤ m' := by
    rcases h.1 with z | z
    · rw [z]; exact k.2.1
    · exact k.2.2 _ z
  have b : m' ≤ m := by
    rcases k.1 with z | z
    · rw [z]; exact h.2.1
    · exact h.2.2 _ z
  omega
theorem Sup.congr {m : Int} {P Q : Int → Prop} (h : Sup m P) (e : ∀ x, P x ↔ Q x) : Sup m Q := ⟨h.1.imp id (e m).mp, h.2.1, fun x q => h.2.2 x ((e x).mpr q)⟩
/-- the greatest of the depths of what is taken -/
def DepOf (ts D : List Int) (m : Int) : Prop := (∃ (k : Nat) (t : Int), ts[k]? = some t ∧ 0 < t ∧ D[k]? = some m) ∧ ∀ (k : Nat) (t x : Int), ts[k]? = some t → 0 < t → D[k]? = some x → x ≤ m
theorem DepOf.uniq {ts D : List Int} {m m' : Int} (h : DepOf ts D m) (k : DepOf ts D m') : m = m' := by
  obtain ⟨⟨i, t, h1, h2, h3⟩, h4⟩ := h
  obtain ⟨⟨j, u, k1, k2, k3⟩, k4⟩ := k
  have := h4 j u m' k1 k2 k3
  have := k4 i t m h1 h2 h3
  omega
theorem DepOf.set {ts D : List Int} {m v : Int} {k : Nat} (hk : ∀ (t : Int), ts[k]? = some t → ¬ 0 < t) : DepOf ts (D.set k v) m ↔ DepOf ts D m := by
  have e : ∀ (i : Nat) (t : Int), ts[i]? = some t → 0 < t → (D.set k v)[i]? = D[i]? := fun i t h1 h2 => by
    refine List.getElem?_set_ne fun z => ?_
    subst z
    exact hk t h1 h2
  constructor
  · rintro ⟨⟨i, t, h1, h2, h3⟩, h4⟩
    rw [e i t h1 h2] at h3
    exact ⟨⟨i, t, h1, h2, h3⟩, fun j u x k1 k2 k3 => h4 j u x k1 k2 (by rw [e j u k1 k2]; exact k3)⟩
  · rintro ⟨⟨i, t, h1, h2, h3⟩, h4⟩
    exact ⟨⟨i, t, h1, h2, by rw [e i t h1 h2]; exact h3⟩, fun j u x k1 k2 k3 => h4 j u x k1 k2 (by rw [← e j u k1 k2]; exact k3)⟩
def posI (p : Dt × Dt) : Bool := match p.1 with
  | .int t => decide (0 < t)
  | _ => false
theorem depth_ok {S : Bxs} {n : Nat} {ts D : List Int} (i1 : IL S n D) (hl : ts.length = D.length) (h10 : ts.length ≤ 100) (tp : ∃ i ∈ ts, 0 < i) :
    (F__depth [iv ts, .box n] S).Wp (fun r S' => ∃ m, r = .int m ∧ DepOf ts D m ∧ S <+: S') noX := by
  refine w_body ?_
  unfold B__depth
  simp only [startD, List.map_cons, List.map_nil, List.length_cons, List.length_nil, List.cons_append, List.nil_append, Nat.reduceAdd, Nat.reduceSub, List.replicate, List.replicate_succ, List.replicate_zero]
  refine w_ret (w_call (w_consA (w_lcP (w_srcZip (w_consA (w_var rfl (w_consA (w_var rfl (w_nil ?_)))))))))
  refine ⟨_, _, _, _, rfl, rfl, i1.seq, posI, fun p d => d = p.2, ?_, fun S' hS => ⟨rfl, (i1.pre hS).seq⟩, fun p S' hp hS => ?_, fun ds S' he hn hS => ?_⟩
  · show (List.zip _ _).length < LIM
    rw [List.length_zip, List.length_map, List.length_map]
    exact Nat.lt_of_le_of_lt (Nat.le_trans (Nat.min_le_left _ _) h10) (by decide)
  · obtain ⟨i, j, hij, rfl⟩ := zip_ints hp
    refine w_pair (w_tCons (w_tName (w_tCons (w_tName (w_tNil ?_)))))
    refine w_true (w_bin (w_var rfl (w_c (w_cmp ⟨_, rfl, rfl, fun _ => List.prefix_refl _, fun hb => ?_⟩))))
    exact w_var rfl ⟨rfl, List.prefix_refl _⟩
  · have e := he.map
    have e2 : ds = (((ts.zip D).filter fun p => decide (0 < p.1)).map Prod.snd).map Dt.int := by
      rw [e]
      show (((ts.map Dt.int).zip (D.map Dt.int)).filter posI).map _ = _
      rw [List.zip_map, List.filter_map, List.map_map, List.map_map]
      rfl
    have mem : ∀ x, x ∈ ((ts.zip D).filter fun p => decide (0 < p.1)).map Prod.snd ↔ ∃ (k : Nat) (t : Int), ts[k]? = some t ∧ 0 < t ∧ D[k]? = some x := fun x => by
      constructor
      · intro h
        obtain ⟨p, hp, rfl⟩ := List.mem_map.mp h
        obtain ⟨h1, h2⟩ := List.mem_filter.mp hp
        obtain ⟨k, hk⟩ := List.mem_iff_getElem?.mp h1
        have := List.getElem?_zip_eq_some.mp hk
        exact ⟨k, p.1, this.1, of_decide_eq_true h2, this.2⟩
      · rintro ⟨k, t, h1, h2, h3⟩
        exact List.mem_map.mpr ⟨(t, x), List.mem_filter.mpr ⟨List.mem_of_getElem? (List.getElem?_zip_eq_some.mpr ⟨h1, h3⟩), decide_eq_true h2⟩, rfl⟩
    generalize ((ts.zip D).filter fun p => decide (0 < p.1)).map Prod.snd = is at e2 mem
    have hne : is ≠ [] := fun z => by
      obtain ⟨t, ht, h0⟩ := tp
      obtain ⟨k, hk⟩ := List.mem_iff_getElem?.mp ht
      have hkl : k < D.length := by rw [← hl]; exact (List.getElem?_eq_some_iff.mp hk).1
      have := (mem D[k]).mpr ⟨k, t, hk, h0, List.getElem?_eq_getElem hkl⟩
      rw [z] at this; cases this
    refine w_nil (w_maxB (is := is) (by rw [seq_lst hn, e2]) hne ?_)
    exact .inl ⟨_, rfl, _, rfl, ⟨(mem _).mp (maxI_mem hne), fun k t x h1 h2 h3 => maxI_ge ((mem x).mpr ⟨k, t, h1, h2, h3⟩)⟩, hS⟩
/-- what makes a thing of the kind j deep -/
def Deep (rs : List Dt) (D : List Int) (j : Nat) (x : Int) : Prop := ∃ r ∈ rs, ∃ u e : Int, (ptD r)[j]? = some u ∧ 0 < u ∧ DepOf (tkD r) D e ∧ x = 1 + e
theorem Works.low {w : Dt} {size : Nat} {ks hs rs : List Dt} (W : Works w size ks hs rs) {r : Dt} (hr : r ∈ rs) {j k : Nat} {u t : Int} (h1 : (ptD r)[j]? = some u) (h2 : 0 < u) (h3 : (tkD r)[k]? = some t) (h4 : 0 < t) : k < j := by
  obtain ⟨ts, us, h, R⟩ := W.rr r hr
  obtain ⟨l, _, zt, zu⟩ := R.sb
  rw [R.pt] at h1
  rw [R.tk] at h3
  have a : k ≤ l := by
    by_cases q : k ≤ l
    · exact q
    · have := zt k t (by omega) h3; omega
  have b : l < j := by
    by_cases q : l < j
    · exact q
    · have := zu j u (by omega) h1; omega
  omega
theorem Deep.set {w : Dt} {size : Nat} {ks hs rs : List Dt} (W : Works w size ks hs rs) {qs : List Dt} (hq : ∀ r ∈ qs, r ∈ rs) {D : List Int} {j k : Nat} {v x : Int} (hjk : j ≤ k) : Deep qs (D.set k v) j x ↔ Deep qs D j x := by
  constructor
  · rintro ⟨r, hr, u, e, h1, h2, h3, h4⟩
    exact ⟨r, hr, u, e, h1, h2, (DepOf.set fun t ht h0 => by have := W.low (hq r hr) h1 h2 ht h0; omega).mp h3, h4⟩
  · rintro ⟨r, hr, u, e, h1, h2, h3, h4⟩
    exact ⟨r, hr, u, e, h1, h2, (DepOf.set fun t ht h0 => by have := W.low (hq r hr) h1 h2 ht h0; omega).mpr h3, h4⟩
theorem kinds_ok {S : Bxs} {w : Dt} {size : Nat} {ks hs rs : List Dt} (W : Works w size ks hs rs) :
    (F__kind_depths [w] S).Wp (fun r S' => ∃ n D, r = .box n ∧ S.length ≤ n ∧ IL S' n D ∧ D.length = size ∧ (∀ (j : Nat) d, D[j]? = some d → Sup d (Deep rs D j)) ∧ S <+: S') noX := by
  have s1 := W.s1
  have kl := W.kl
  have rl := W.rl
  have hwe := W.eq
  subst hwe
  refine w_body ?_
  unfold B__kind_depths
  simp only [startD, List.map_cons, List.map_nil, List.length_cons, List.length_nil, List.cons_append, List.nil_append, Nat.reduceAdd, Nat.reduceSub, List.replicate, List.replicate_succ, List.replicate_zero]
  and_intros
  refine w_mulL (lst_of get_last) ⟨by omega, by omega, by decide⟩ ?_
  rw [zeros]
  refine w_newL (by rw [List.length_map, List.length_replicate]; exact Nat.le_trans (show (ks.length : Int).toNat ≤ 10 by omega) (by decide)) ?_
  and_intros
  have I0 : IL (S ++ [MBox.lst [Dt.int 0]] ++ [MBox.lst ((List.replicate (ks.length : Int).toNat (0 : Int)).map Dt.int)]) (S ++ [MBox.lst [Dt.int 0]]).length (List.replicate (ks.length : Int).toNat 0) := get_last
  have p0 : S <+: (S ++ [MBox.lst [Dt.int 0]] ++ [MBox.lst ((List.replicate (ks.length : Int).toNat (0 : Int)).map Dt.int)]) := (List.prefix_append _ _).trans (List.prefix_append _ _)
  have hn : S.length ≤ (S ++ [MBox.lst [Dt.int 0]]).length := by simp
  generalize (S ++ [MBox.lst [Dt.int 0]] ++ [MBox.lst ((List.replicate (ks.length : Int).toNat (0 : Int)).map Dt.int)]) = S0 at I0 p0 ⊢
  generalize (S ++ [MBox.lst [Dt.int 0]]).length = n at I0 hn ⊢
  refine w_lenB I0.seq ?_
  and_intros
  rw [List.length_map, List.length_replicate]
  refine ⟨inR_small (by omega) (by omega), ?_⟩
  refine w_loop (fun k σ S' => ∃ d2 d3 d4 d5 D, σ = [some (.tup [.tup ks, .tup hs, .tup rs]), some (.box n), d2, d3, d4, d5] ∧ IL S' n D ∧ D.length = size ∧ (∀ (j : Nat) d, j < k → D[j]? = some d → Sup d (Deep rs D j)) ∧ (∀ (j : Nat) d, k ≤ j → D[j]? = some d → d = 0) ∧ S <+: S')
    (fun _ _ _ _ => trivial) (fun k x σ S1 hx ⟨d2, d3, d4, d5, D, e, i1, dl, c1, c2, p1⟩ => ?_) (fun σ S1 ⟨d2, d3, d4, d5, D, e, i1, dl, c1, c2, p1⟩ => ?_) ⟨_, _, _, _, _, rfl, I0, by rw [List.length_replicate]; omega, (fun j d h => absurd h (Nat.not_lt_zero _)), (fun j d _ h => zero_at h), p0⟩
  · subst e
    have hx2 := rgD_get hx
    rw [Int.zero_add] at hx2
    subst hx2
    have hkl : k < size := by have := (List.getElem?_eq_some_iff.mp hx).1; rw [rgD_len] at this; omega
    and_intros
    refine w_loop (fun p σ S' => ∃ d3 d4 d5 D, σ = [some (.tup [.tup ks, .tup hs, .tup rs]), some (.box n), some (.int (k : Int)), d3, d4, d5] ∧ IL S' n D ∧ D.length = size ∧ (∀ (j : Nat) d, j < k → D[j]? = some d → Sup d (Deep rs D j)) ∧ (∀ d, D[k]? = some d → Sup d (Deep (rs.take p) D k)) ∧ (∀ (j : Nat) d, k < j → D[j]? = some d → d = 0) ∧ S <+: S')
      (fun _ _ _ _ => rfl) (fun p r σ S2 hr ⟨d3, d4, d5, D, e, i1, dl, c1, c0, c2, p1⟩ => ?_) (fun σ S2 ⟨d3, d4, d5, D, e, i1, dl, c1, c0, c2, p1⟩ => ?_) ⟨_, _, _, D, rfl, i1, dl, c1, (fun d hd => ⟨.inl (c2 k d (Nat.le_refl _) hd), by rw [c2 k d (Nat.le_refl _) hd]; omega, fun x ⟨r, hr, _⟩ => nomatch hr⟩), (fun j d hj hd => c2 j d (by omega) hd), p1⟩
    · subst e
      have hr : rs[p]? = some r := hr
      have hrm := List.mem_of_getElem? hr
      obtain ⟨ts, us, h, R⟩ := W.rr r hrm
      have rul := R.ul
      have rtl := R.tl
      obtain ⟨u, hu⟩ := idx_get (is := us) (j := k) (by omega)
      have et : rs.take (p + 1) = rs.take p ++ [r] := by rw [List.take_add_one, hr]; rfl
      obtain ⟨d, hd⟩ := idx_get (is := D) (j := k) (by omega)
      have sd := c0 d hd
      have more : ∀ x, Deep (rs.take (p + 1)) D k x ↔ (Deep (rs.take p) D k x ∨ Deep [r] D k x) := fun x => by
        rw [et]
        constructor
        · rintro ⟨q, hq, z⟩
          rcases List.mem_append.mp hq with y | y
          · exact .inl ⟨q, y, z⟩
          · exact .inr ⟨q, y, z⟩
        · rintro (⟨q, hq, z⟩ | ⟨q, hq, z⟩)
          · exact ⟨q, List.mem_append_left _ hq, z⟩
          · exact ⟨q, List.mem_append_right _ hq, z⟩
      rw [R.eq]
      and_intros
      refine w_ixT (atI_int hu) ?_
      and_intros
      refine ⟨fun hb => ?_, fun hb => ?_⟩
      · have hu0 : 0 < u := of_decide_eq_true hb
        and_intros
        refine w_ixB i1.seq (atI_int hd) ?_
        and_intros
        refine (depth_ok i1 (by omega) (by omega) R.tp).mono (fun r2 S3 ⟨m, e2, hm, p3⟩ => ?_) fun _ _ _ q => q
        subst e2
        and_intros
        have i3 := i1.pre p3
        refine w_setG (j := k) (lst_of i3) (by rw [ixN_mk (by omega) (by rw [List.length_map]; omega), Int.toNat_natCast]) ?_
        generalize hv : (if (1 + m) > d then 1 + m else d) = v
        have vv : Deep [r] D k (1 + m) := ⟨r, List.mem_singleton.mpr rfl, u, m, by rw [R.pt]; exact hu, hu0, by rw [R.tk]; exact hm, rfl⟩
        have hsub : ∀ q ∈ rs.take (p + 1), q ∈ rs := fun q hq => List.mem_of_mem_take hq
        refine .inl ⟨rfl, _, _, _, D.set k v, rfl, i3.set (by rw [List.map_set]), by rw [List.length_set]; exact dl, fun j d' hj hd' => ?_, fun d' hd' => ?_, fun j d' hj hd' => ?_, pre_set (p1.trans p3) hn⟩
        · rw [List.getElem?_set_ne (by omega)] at hd'
          exact (c1 j d' hj hd').congr fun x => (Deep.set W (fun _ h => h) (by omega)).symm
        · rw [List.getElem?_set_self (by omega)] at hd'
          cases hd'
          refine Sup.congr (P := fun x => Deep (rs.take p) D k x ∨ Deep [r] D k x) ?_ fun x => (more x).symm.trans (Deep.set W hsub (Nat.le_refl _)).symm
          have lim : ∀ x, Deep [r] D k x → x = 1 + m := fun x ⟨q, hq, u', e', z1, z2, z3, z4⟩ => by
            rw [List.mem_singleton.mp hq, R.tk] at z3
            rw [z4, z3.uniq hm]
          have up := sd.2.2
          have s0 := sd.2.1
          by_cases hc : (1 + m) > d
          · rw [if_pos hc] at hv
            subst hv
            exact ⟨.inr (.inr vv), by omega, fun x hx => by rcases hx with z | z <;> first | (have := up x z; omega) | (have := lim x z; omega)⟩
          · rw [if_neg hc] at hv
            subst hv
            exact ⟨sd.1.imp id .inl, by omega, fun x hx => by rcases hx with z | z <;> first | (have := up x z; omega) | (have := lim x z; omega)⟩
        · rw [List.getElem?_set_ne (by omega)] at hd'
          exact c2 j d' hj hd'
      · have hu0 : ¬ 0 < u := of_decide_eq_false hb
        refine w_sNil (.inl ⟨rfl, _, _, _, D, rfl, i1, dl, c1, fun d' hd' => ?_, c2, p1⟩)
        refine (c0 d' hd').congr fun x => ⟨fun z => (more x).mpr (.inl z), fun z => ?_⟩
        rcases (more x).mp z with y | ⟨q, hq, u', e', z1, z2, _⟩
        · exact y
        · rw [List.mem_singleton.mp hq, R.pt, hu] at z1
          cases z1
          exact absurd z2 hu0
    · subst e
      refine .inl ⟨rfl, _, _, _, _, D, rfl, i1, dl, fun j d hj hd => ?_, fun j d hj hd => c2 j d (by omega) hd, p1⟩
      by_cases hjk : j < k
      · exact c1 j d hjk hd
      · have : j = k := by omega
        subst this
        have := c0 d hd
        rwa [List.take_length] at this
  · subst e
    refine c_nx ?_
    and_intros
    refine .inl ⟨_, rfl, n, D, rfl, hn, i1, dl, fun j d hd => c1 j d ?_ hd, p1⟩
    have := (List.getElem?_eq_some_iff.mp hd).1
    rw [rgD_len]; omega
end Lw
set_option Elab.async false
set_option linter.all false
set_option maxRecDepth 100000
set_option maxHeartbeats 4000000
/-! Na: levels: the program's are the law's. -/
namespace Lw
open PySem PySem.Spec PyProof.Rows L2 Mn
/-- recipe k puts something that recipe i takes -/
def Maker (rs : List Dt) (k i : Nat) : Prop := ∃ (a b : Dt) (j : Nat) (u t : Int), rs[k]? = some a ∧ rs[i]? = some b ∧ (ptD a)[j]? = some u ∧ 0 < u ∧ (tkD b)[j]? = some t ∧ 0 < t
def Above (rs : List Dt) (L : List Int) (i : Nat) (x : Int) : Prop := ∃ (k : Nat) (y : Int), L[k]? = some y ∧ Maker rs k i ∧ x = 1 + y
/-- the depths of the recipes -/
structure RightL (rs : List Dt) (L : List Int) : Prop where
  len : L.length = rs.length
  sup : ∀ (i : Nat) (m : Int), L[i]? = some m → Sup m (Above rs L i)
theorem levels_ok {S : Bxs} {w : Dt} {size : Nat} {ks hs rs : List Dt} (W : Works w size ks hs rs) :
    (F_levels [w] S).Wp (fun r S' => ∃ n L, r = .box n ∧ S.length ≤ n ∧ IL S' n L ∧ RightL rs L ∧ S <+: S') noX := by
  have s1 := W.s1
  have rl := W.rl
  have hwe := W.eq
  subst hwe
  refine w_body ?_
  unfold B_levels
  simp only [startD, List.map_cons, List.map_nil, List.length_cons, List.length_nil, List.cons_append, List.nil_append, Nat.reduceAdd, Nat.reduceSub, List.replicate, List.replicate_succ, List.replicate_zero]
  refine w_cons (w_set (w_call (w_consA (w_var rfl (w_nil ?_)))))
  refine (kinds_ok W).mono (fun r S1 ⟨n, D, er, hn, i1, dl, hD, p1⟩ => ?_) fun _ _ _ q => q
  subst er
  refine c_nx ?_
  refine w_ret (w_lcP ?_)
  and_intros
  refine ⟨fun _ => true, fun r d => ∃ m, d = .int m ∧ DepOf (tkD r) D m, Nat.lt_of_le_of_lt rl (by decide), fun _ _ => rfl, fun x S' hx hS => ?_, fun ds S2 he hn2 p2 => ?_⟩
  · have hx : x ∈ rs := hx
    obtain ⟨ts, us, h, R⟩ := W.rr x hx
    have rtl := R.tl
    have etk := R.tk
    rw [R.eq] at etk ⊢
    and_intros
    refine w_yes ⟨rfl, fun z => (nomatch z), fun _ => ?_⟩
    and_intros
    refine (depth_ok (i1.pre hS) (by omega) (by omega) R.tp).mono (fun r2 S3 ⟨m, e2, hm, p3⟩ => ?_) fun _ _ _ q => q
    exact ⟨⟨m, e2, by rw [etk]; exact hm⟩, p3⟩
  · rw [filter_yes] at he
    have he : Each (fun r d => ∃ m, d = Dt.int m ∧ DepOf (tkD r) D m) rs ds := he
    have key : ∀ {xs : List Dt} {ds : List Dt}, Each (fun r d => ∃ m, d = Dt.int m ∧ DepOf (tkD r) D m) xs ds → ∃ L : List Int, ds = L.map Dt.int ∧ L.length = xs.length ∧ ∀ (i : Nat) r m, xs[i]? = some r → L[i]? = some m → DepOf (tkD r) D m := by
      intro xs ds h
      induction h with
      | nil => exact ⟨[], rfl, rfl, fun i r m e => by simp at e⟩
      | cons q t ih =>
        obtain ⟨L, e1, e2, e3⟩ := ih
        obtain ⟨m, rfl, hm⟩ := q
        refine ⟨m :: L, by rw [e1]; rfl, by simp [e2], fun i r m' h1 h2 => ?_⟩
        cases i with
        | zero => simp at h1 h2; subst h1; subst h2; exact hm
        | succ i => exact e3 i r m' (by simpa using h1) (by simpa using h2)
    obtain ⟨L, rfl, ll, hL⟩ := key he
    refine .inl ⟨_, rfl, _, L, rfl, p1.length_le, hn2, ⟨ll, fun i m hm => ?_⟩, p1.trans p2⟩
    have hil : i < rs.length := by rw [← ll]; exact (List.getElem?_eq_some_iff.mp hm).1
    have hr := List.getElem?_eq_getElem hil
    have dm := hL i _ m hr hm
    have ent : ∀ {k : Nat} {a : Dt} {e : Int}, rs[k]? = some a → DepOf (tkD a) D e → L[k]? = some e := fun {k a e} ha hde => by
      have hkl : k < L.length := by rw [ll]; exact (List.getElem?_eq_some_iff.mp ha).1
      have h1 := List.getElem?_eq_getElem hkl
      rw [h1, (hL k a _ ha h1).uniq hde]
    obtain ⟨⟨j, t, t1, t2, t3⟩, up⟩ := id dm
    have sj := hD j m t3
    refine ⟨?_, sj.2.1, fun x ⟨k, y, hy, ⟨a, b, j', u, t', a1, b1, u1, u0, t1', t0'⟩, ex⟩ => ?_⟩
    · rcases sj.1 with z | ⟨a, ha, u, e, u1, u0, de, ee⟩
      · exact .inl z
      · obtain ⟨k, hk⟩ := List.mem_iff_getElem?.mp ha
        exact .inr ⟨k, e, ent hk de, ⟨a, _, j, u, t, hk, hr, u1, u0, t1, t2⟩, ee⟩
    · rw [hr] at b1
      cases b1
      have hj'l : j' < D.length := by
        obtain ⟨ts, us, h, R⟩ := W.rr _ (List.getElem_mem hil)
        rw [R.tk] at t1'
        rw [dl, ← R.tl]; exact (List.getElem?_eq_some_iff.mp t1').1
      have hd := List.getElem?_eq_getElem hj'l
      have a2 := up j' t' _ t1' t0' hd
      have hkl : k < rs.length := (List.getElem?_eq_some_iff.mp a1).1
      have := (hD j' _ hd).2.2 (1 + y) ⟨a, List.mem_of_getElem? a1, u, y, u1, u0, hL k a y a1 hy, rfl⟩
      omega
/-! the law's: found again and again -/
theorem RightL.nonneg {rs : List Dt} {L : List Int} (R : RightL rs L) {i : Nat} {m : Int} (h : L[i]? = some m) : 0 ≤ m := (R.sup i m h).2.1
theorem RightL.count {rs : List Dt} {L : List Int} (R : RightL rs L) : ∀ (v : Nat), (∃ (i : Nat) (m : Int), L[i]? = some m ∧ (v : Int) ≤ m) → v + 1 ≤ L.countP fun x => decide (x ≤ (v : Int))
  | 0, ⟨i, m, h, hv⟩ => by
    refine List.countP_pos_iff.mpr ?_
    have low : ∀ (n : Nat) (i : Nat) (m : Int), L[i]? = some m → m = (n : Int) → ∃ x ∈ L, decide (x ≤ ((0 : Nat) : Int)) = true := by
      intro n
      induction n with
      | zero => intro i m h e; exact ⟨m, List.mem_of_getElem? h, decide_eq_true (by omega)⟩
      | succ n ih =>
        intro i m h e
        rcases (R.sup i m h).1 with z | ⟨k, y, hy, _, ex⟩
        · omega
        · exact ih k y hy (by omega)
    exact low m.toNat i m h (by have := R.nonneg h; omega)
  | v + 1, ⟨i, m, h, hv⟩ => by
    have down : ∀ (n : Nat) (i : Nat) (m : Int), L[i]? = some m → m = ((v + 1 : Nat) : Int) + (n : Int) → ∃ i' : Nat, L[i']? = some ((v + 1 : Nat) : Int) := by
      intro n
      induction n with
      | zero => intro i m h e; exact ⟨i, by rw [h, e]; simp⟩
      | succ n ih =>
        intro i m h e
        rcases (R.sup i m h).1 with z | ⟨k, y, hy, _, ex⟩
        · omega
        · exact ih k y hy (by omega)
    obtain ⟨i', hi'⟩ := down (m - ((v + 1 : Nat) : Int)).toNat i m h (by omega)
    have ih := R.count v ⟨i', _, hi', by omega⟩
    have split : (L.countP fun x => decide (x ≤ ((v + 1 : Nat) : Int))) = (L.countP fun x => decide (x ≤ (v : Int))) + L.countP fun x => decide (x = ((v + 1 : Nat) : Int)) := by
      clear hi' ih down h hv R
      induction L with
      | nil => rfl
      | cons a L ih =>
        rw [List.countP_cons, List.countP_cons, List.countP_cons, ih]
        by_cases h1 : a ≤ (v : Int)
        · rw [if_pos (decide_eq_true (by omega)), if_pos (decide_eq_true h1), if_neg (by rw [decide_eq_false (by omega)]; decide)]; omega
        · by_cases h2 : a = ((v + 1 : Nat) : Int)
          · rw [if_pos (decide_eq_true (by omega)), if_neg (by rw [decide_eq_false h1]; decide), if_pos (decide_eq_true h2)]; omega
          · rw [if_neg (by rw [decide_eq_false (by omega)]; decide), if_neg (by rw [decide_eq_false h1]; decide), if_neg (by rw [decide_eq_false h2]; decide)]; omega
    have pos : 0 < L.countP fun x => decide (x = ((v + 1 : Nat) : Int)) := List.countP_pos_iff.mpr ⟨_, List.mem_of_getElem? hi', decide_eq_true rfl⟩
    rw [split]; omega
theorem RightL.lt {rs : List Dt} {L : List Int} (R : RightL rs L) {i : Nat} {m : Int} (h : L[i]? = some m) : m < rs.length := by
  have h3 := R.nonneg h
  have := R.count m.toNat ⟨i, m, h, by omega⟩
  have h2 := List.countP_le_length (p := fun x => decide (x ≤ (m.toNat : Int))) (l := L)
  rw [R.len] at h2
  omega
end Lw
set_option Elab.async false
set_option linter.all false
set_option maxRecDepth 100000
set_option maxHeartbeats 4000000
/-! Nb: the law's levels. -/
namespace Lw
open PySem PySem.Spec PyProof.Rows L2 Mn
def minP (p : Dt × Dt) : Bool := match p.1, p.2 with
  | .int i, .int j => decide ((if j < i then j else i) > 0)
  | _, _ => false
/-- [1 for one, other in zip(a, b) if min(one, other) > 0] != [] -/
theorem both_ok {σ : Sg} {S : Bxs} {E : Nat → List Dt → Bxs → Prop} {A B : FE} {v1 v2 : Nat} {us ts : List Int} {P : Dt → Bxs → Prop} (hA : A σ S = .ok (iv us) S) (hB : B σ S = .ok (iv ts) S) (hl : us.length ≤ 1000)
    (hv1 : ∀ a b : Dt, (((wipeD σ [v1, v2]).set v1 (some a)).set v2 (some b))[v1]? = some (some a)) (hv2 : ∀ a b : Dt, (((wipeD σ [v1, v2]).set v1 (some a)).set v2 (some b))[v2]? = some (some b))
    (h : ∀ b S', (b = true ↔ ∃ (j : Nat) (u t : Int), us[j]? = some u ∧ 0 < u ∧ ts[j]? = some t ∧ 0 < t) → S <+: S' → P (.bl b) S') :
    (dBin (eqG true) (dLc (srcZip (aCons A (aCons B aNil))) (tPairG (tConsG (tName v1) (tConsG (tName v2) tNilG))) (dTrue (dBin gtG (dCall minG (aCons (dVar v1) (aCons (dVar v2) aNil))) (dC (.int 0)))) (dC (.int 1)) [v1, v2]) (dLst aNil) σ S).Wp P E := by
  refine w_bin (w_lcP (w_srcZip (w_consA (.of hA (w_consA (.of hB (w_nil ?_)))))))
  refine ⟨_, _, _, _, rfl, rfl, rfl, minP, fun _ d => d = .int 1, ?_, fun S' _ => ⟨rfl, rfl⟩, fun p S' hp hS => ?_, fun ds S' he hn hS => ?_⟩
  · show (List.zip _ _).length < LIM
    rw [List.length_zip, List.length_map, List.length_map]
    exact Nat.lt_of_le_of_lt (Nat.le_trans (Nat.min_le_left _ _) hl) (by decide)
  · obtain ⟨i, j, hij, rfl⟩ := zip_ints hp
    refine w_pair (w_tCons (w_tName (w_tCons (w_tName (w_tNil ?_)))))
    refine w_true (w_bin (w_call (w_consA (w_var (hv1 _ _) (w_consA (w_var (hv2 _ _) (w_nil ?_)))))))
    refine .of (show minG [.int i, .int j] S' = .ok (.int (if j < i then j else i)) S' from rfl) (w_c (w_cmp ⟨_, rfl, rfl, fun _ => List.prefix_refl _, fun _ => ?_⟩))
    exact w_c ⟨rfl, List.prefix_refl _⟩
  · have ones : ∀ {xs : List (Dt × Dt)} {ds : List Dt}, Each (fun _ d => d = Dt.int 1) xs ds → ∀ d ∈ ds, d = .int 1 := fun h => Each.all (P := fun d => d = Dt.int 1) (fun _ _ q => q) h
    have hone := ones he
    refine w_lst (w_nil (w_newL (Nat.zero_le _) ?_))
    have p2 := List.prefix_append S' [MBox.lst []]
    refine w_neNil (w := 30) (seq_lst (get_pre p2 hn)) (seq_lst get_last) (fun d hd => by rw [hone d hd]; exact (Sm.int 1 (by decide) (by decide) (by decide)).mono (by decide)) ?_
    refine h _ _ ?_ (hS.trans p2)
    have hlen := he.length
    have hlen : (((us.map Dt.int).zip (ts.map Dt.int)).filter minP).length = ds.length := hlen
    constructor
    · intro hb
      have hb : (!ds.isEmpty) = true := hb
      have : 0 < (((us.map Dt.int).zip (ts.map Dt.int)).filter minP).length := by
        rw [hlen]
        cases ds with
        | nil => cases hb
        | cons _ _ => simp
      obtain ⟨p, hp⟩ := List.exists_mem_of_length_pos this
      obtain ⟨h1, h2⟩ := List.mem_filter.mp hp
      obtain ⟨k, hk⟩ := List.mem_iff_getElem?.mp h1
      obtain ⟨g1, g2⟩ := List.getElem?_zip_eq_some.mp hk
      obtain ⟨i, j, hij, rfl⟩ := zip_ints h1
      rw [List.getElem?_map] at g1 g2
      have h2 : decide ((if j < i then j else i) > 0) = true := h2
      have h2 := of_decide_eq_true h2
      cases e1 : us[k]? with
      | none => rw [e1] at g1; cases g1
      | some u =>
        cases e2 : ts[k]? with
        | none => rw [e2] at g2; cases g2
        | some t =>
          rw [e1] at g1; rw [e2] at g2
          cases g1; cases g2
          split at h2 <;> exact ⟨k, _, _, e1, by omega, e2, by omega⟩
    · rintro ⟨k, u, t, e1, h1, e2, h2⟩
      have hm : (Dt.int u, Dt.int t) ∈ ((us.map Dt.int).zip (ts.map Dt.int)).filter minP := by
        refine List.mem_filter.mpr ⟨List.mem_of_getElem? (List.getElem?_zip_eq_some.mpr ⟨by rw [List.getElem?_map, e1]; rfl, by rw [List.getElem?_map, e2]; rfl⟩), ?_⟩
        show decide ((if t < u then t else u) > 0) = true
        refine decide_eq_true ?_
        split <;> omega
      show (!ds.isEmpty) = true
      cases ds with
      | nil =>
        rw [List.length_nil] at hlen
        rw [List.length_eq_zero_iff.mp hlen] at hm
        cases hm
      | cons _ _ => rfl
open Classical in
noncomputable def isMk (rs : List Dt) (i : Nat) (x : Dt) : Bool := decide (∃ k : Nat, x = .int (k : Int) ∧ Maker rs k i)
theorem isMk_iff {rs : List Dt} {i k : Nat} : isMk rs i (.int (k : Int)) = true ↔ Maker rs k i := by
  unfold isMk
  refine Iff.trans (@decide_eq_true_iff _ (Classical.propDecidable _)) ?_
  constructor
  · rintro ⟨k', e, m⟩
    have : k = k' := by have := Dt.int.inj e; omega
    rw [this]; exact m
  · exact fun m => ⟨k, rfl, m⟩
theorem law_levels_ok {S : Bxs} {w : Dt} {size : Nat} {ks hs rs : List Dt} {L : List Int} (W : Works w size ks hs rs) (R : RightL rs L) :
    (F__law_levels [w] S).Wp (fun r S' => ∃ n, r = .box n ∧ S.length ≤ n ∧ IL S' n L ∧ S <+: S') noX := by
  have s1 := W.s1
  have rl := W.rl
  have hwe := W.eq
  subst hwe
  refine w_body ?_
  unfold B__law_levels
  simp only [startD, List.map_cons, List.map_nil, List.length_cons, List.length_nil, List.cons_append, List.nil_append, Nat.reduceAdd, Nat.reduceSub, List.replicate, List.replicate_succ, List.replicate_zero]
  and_intros
  refine w_mulL (lst_of get_last) ⟨by omega, by omega, by decide⟩ ?_
  rw [zeros]
  refine w_newL (by rw [List.length_map, List.length_replicate]; exact Nat.le_trans (show (rs.length : Int).toNat ≤ 10 by omega) (by decide)) ?_
  and_intros
  have I0 : IL (S ++ [MBox.lst [Dt.int 0]] ++ [MBox.lst ((List.replicate (rs.length : Int).toNat (0 : Int)).map Dt.int)]) (S ++ [MBox.lst [Dt.int 0]]).length (List.replicate (rs.length : Int).toNat 0) := get_last
  have p0 : S <+: (S ++ [MBox.lst [Dt.int 0]] ++ [MBox.lst ((List.replicate (rs.length : Int).toNat (0 : Int)).map Dt.int)]) := (List.prefix_append _ _).trans (List.prefix_append _ _)
  have hn : S.length ≤ (S ++ [MBox.lst [Dt.int 0]]).length := by simp
  generalize (S ++ [MBox.lst [Dt.int 0]] ++ [MBox.lst ((List.replicate (rs.length : Int).toNat (0 : Int)).map Dt.int)]) = S0 at I0 p0 ⊢
  generalize (S ++ [MBox.lst [Dt.int 0]]).length = n at I0 hn ⊢
  refine ⟨inR_small (by omega) (by omega), ?_⟩
  refine w_loop (fun t σ S' => ∃ d2 d3 d4 d5 d6 d7 d8 F, σ = [some (.tup [.tup ks, .tup hs, .tup rs]), some (.box n), d2, d3, d4, d5, d6, d7, d8] ∧ IL S' n F ∧ F.length = rs.length ∧ (∀ (i : Nat) (m : Int), L[i]? = some m → m < (t : Int) → F[i]? = some m) ∧ S <+: S')
    (fun _ _ _ _ => trivial) (fun t x σ S1 hx ⟨d2, d3, d4, d5, d6, d7, d8, F, e, i1, fl, c1, p1⟩ => ?_) (fun σ S1 ⟨d2, d3, d4, d5, d6, d7, d8, F, e, i1, fl, c1, p1⟩ => ?_) ⟨_, _, _, _, _, _, _, _, rfl, I0, by rw [List.length_replicate]; omega, (fun i m h hm => by have := R.nonneg h; omega), p0⟩
  · subst e
    have hx2 := rgD_get hx
    rw [Int.zero_add] at hx2
    subst hx2
    refine w_tName (w_for (w_srcEnumT ?_))
    and_intros
    refine w_loop (fun p σ S' => ∃ d3 d4 d5 d6 d7 d8 F, σ = [some (.tup [.tup ks, .tup hs, .tup rs]), some (.box n), some (.int (t : Int)), d3, d4, d5, d6, d7, d8] ∧ IL S' n F ∧ F.length = rs.length ∧ (∀ (i : Nat) (m : Int), L[i]? = some m → m < (t : Int) → F[i]? = some m) ∧ (∀ (i : Nat) (m : Int), i < p → L[i]? = some m → m ≤ (t : Int) → F[i]? = some m) ∧ S <+: S')
      (fun _ _ _ _ => rfl) (fun p x σ S2 hr ⟨d3, d4, d5, d6, d7, d8, F, e, i1, fl, c1, c2, p1⟩ => ?_) (fun σ S2 ⟨d3, d4, d5, d6, d7, d8, F, e, i1, fl, c1, c2, p1⟩ => ?_) ⟨_, _, _, _, _, _, F, rfl, i1, fl, c1, (fun i m h => absurd h (Nat.not_lt_zero _)), p1⟩
    · subst e
      obtain ⟨r, hr2, rfl⟩ := placed_get hr
      clear hr
      have hr := hr2
      have hpl : p < rs.length := (List.getElem?_eq_some_iff.mp hr).1
      obtain ⟨ts, us, h, Rr⟩ := W.rr r (List.mem_of_getElem? hr)
      have etk := Rr.tk
      have re := Rr.eq
      have hLp := List.getElem?_eq_getElem (show p < L.length by rw [R.len]; exact hpl)
      generalize L[p]'(by rw [R.len]; exact hpl) = m at hLp
      have sp := R.sup p m hLp
      refine w_pair (w_tCons (w_tName (w_tCons (w_tName (w_tNil ?_)))))
      refine w_cons (w_set (w_lcP (w_srcR1 (w_consA (w_call (w_consA (w_var rfl (w_nil (w_lenB i1.seq ?_)))))))))
      refine w_nil ⟨_, rfl, inR_small (by omega) (by rw [List.length_map]; omega), ?_⟩
      rw [List.length_map, Int.toNat_natCast]
      refine ⟨isMk rs p, fun x d => d = x, by rw [rgD_len]; exact Nat.lt_of_le_of_lt (show F.length ≤ 10 by omega) (by decide), fun _ _ => trivial, fun x S' hx hS => ?_, fun ds S3 he hn3 p3 => ?_⟩
      · obtain ⟨j, hj⟩ := List.mem_iff_getElem?.mp hx
        have hx2 := rgD_get hj
        have hjl : j < rs.length := by have := (List.getElem?_eq_some_iff.mp hj).1; rw [rgD_len] at this; omega
        rw [Int.zero_add] at hx2
        subst hx2
        have ej := List.getElem?_eq_getElem hjl
        obtain ⟨ts', us', h', Rj⟩ := W.rr _ (List.getElem_mem hjl)
        have ept := Rj.pt
        have ej2 : atI rs (j : Int) = some (.tup [.tup (ts'.map Dt.int), .tup (us'.map Dt.int), h']) := at_nat (by rw [ej, Rj.eq])
        have rul := Rj.ul
        refine w_tName (w_true (both_ok (us := us') (ts := ts) ?_ ?_ (by omega) (fun _ _ => rfl) (fun _ _ => rfl) fun b S4 hb p4 => ?_))
        · show (dBin ixG (dBin ixG (dBin ixG (dVar 0) (dC (.int 2))) (dVar 6)) (dC (.int 1)) [some (.tup [.tup ks, .tup hs, .tup rs]), some (.box n), some (.int (t : Int)), some (.int (p : Int)), some r, d5, some (.int (j : Int)), d7, d8] S') = _
          have : ∃ a s, (dBin ixG (dBin ixG (dBin ixG (dVar 0) (dC (.int 2))) (dVar 6)) (dC (.int 1)) [some (.tup [.tup ks, .tup hs, .tup rs]), some (.box n), some (.int (t : Int)), some (.int (p : Int)), some r, d5, some (.int (j : Int)), d7, d8] S') = .ok a s ∧ (a = iv us' ∧ s = S') := by
            refine Rs.Wp.ok (P := fun a s => a = iv us' ∧ s = S') ?_
            and_intros
            refine w_ixT ej2 ?_
            and_intros
            exact ⟨rfl, rfl⟩
          obtain ⟨a, s, e, rfl, rfl⟩ := this
          exact e
        · show (dBin ixG (dVar 4) (dC (.int 0)) [some (.tup [.tup ks, .tup hs, .tup rs]), some (.box n), some (.int (t : Int)), some (.int (p : Int)), some r, d5, some (.int (j : Int)), d7, d8] S') = _
          rw [re]
          have : ∃ a s, (dBin ixG (dVar 4) (dC (.int 0)) [some (.tup [.tup ks, .tup hs, .tup rs]), some (.box n), some (.int (t : Int)), some (.int (p : Int)), some (.tup [.tup (ts.map Dt.int), .tup (us.map Dt.int), h]), d5, some (.int (j : Int)), d7, d8] S') = .ok a s ∧ (a = iv ts ∧ s = S') := by
            refine Rs.Wp.ok (P := fun a s => a = iv ts ∧ s = S') ?_
            and_intros
            exact ⟨rfl, rfl⟩
          obtain ⟨a, s, e, rfl, rfl⟩ := this
          exact e
        · have mk : b = isMk rs p (.int (j : Int)) := by
            have : (b = true ↔ Maker rs j p) := hb.trans ⟨fun ⟨q, u, t', a1, a2, a3, a4⟩ => ⟨_, r, q, u, t', ej, hr, by rw [ept]; exact a1, a2, by rw [etk]; exact a3, a4⟩, fun ⟨a, b', q, u, t', z1, z2, z3, z4, z5, z6⟩ => by
              rw [ej] at z1; cases z1
              rw [hr] at z2; cases z2
              rw [ept] at z3; rw [etk] at z5
              exact ⟨q, u, t', z3, z4, z5, z6⟩⟩
            cases b with
            | true => exact (isMk_iff.mpr (this.mp rfl)).symm
            | false =>
              cases q : isMk rs p (.int (j : Int)) with
              | false => rfl
              | true => exact absurd (this.mpr (isMk_iff.mp q)) (by decide)
          refine ⟨_, rfl, mk, fun _ => p4, fun _ => ?_⟩
          exact w_var rfl ⟨rfl, p4⟩
      · have ed : ds = (rgD 0 F.length).filter (isMk rs p) := by
          have := he.map (f := fun x => x)
          rw [this, List.map_id']
        refine c_nx ?_
        have dm : ∀ d ∈ ds, ∃ k : Nat, d = .int (k : Int) ∧ Maker rs k p ∧ k < F.length := fun d hd => by
          rw [ed] at hd
          obtain ⟨h1, h2⟩ := List.mem_filter.mp hd
          obtain ⟨k, hk⟩ := List.mem_iff_getElem?.mp h1
          have e := rgD_get hk
          rw [Int.zero_add] at e
          subst e
          exact ⟨k, rfl, isMk_iff.mp h2, by have := (List.getElem?_eq_some_iff.mp hk).1; rwa [rgD_len] at this⟩
        have md : ∀ k : Nat, Maker rs k p → Dt.int (k : Int) ∈ ds := fun k hk => by
          have hkl : k < F.length := by
            obtain ⟨a, _, _, _, _, z, _⟩ := hk
            rw [fl]; exact (List.getElem?_eq_some_iff.mp z).1
          rw [ed]
          refine List.mem_filter.mpr ⟨?_, isMk_iff.mpr hk⟩
          have h1 : k < (rgD 0 F.length).length := by rw [rgD_len]; exact hkl
          have e := List.getElem?_eq_getElem h1
          have e2 := rgD_get e
          rw [Int.zero_add] at e2
          rw [← e2]; exact List.getElem_mem h1
        have i3 := i1.pre p3
        have hsm : ∀ d ∈ ds, Sm 59 d 30 := fun d hd => by
          obtain ⟨k, rfl, _, hk⟩ := dm d hd
          exact (Sm.int 2 (by decide) (by decide) (by omega)).mono (by decide)
        -- the new value, put at p
        have fin : ∀ {v : Int} {S4 : Bxs} {d5 d6 : Option Dt}, S2 <+: S4 → (m ≤ (t : Int) → v = m) →
            (tSubG (dVar 1) (dVar 3) (.int v) [some (.tup [.tup ks, .tup hs, .tup rs]), some (.box n), some (.int (t : Int)), some (.int (p : Int)), some r, d5, d6, d7, d8] S4).Wp (fun σ S' => ∃ d3 d4 d5 d6 d7 d8 F, σ = [some (.tup [.tup ks, .tup hs, .tup rs]), some (.box n), some (.int (t : Int)), d3, d4, d5, d6, d7, d8] ∧ IL S' n F ∧ F.length = rs.length ∧ (∀ (i : Nat) (m : Int), L[i]? = some m → m < (t : Int) → F[i]? = some m) ∧ (∀ (i : Nat) (m : Int), i < p + 1 → L[i]? = some m → m ≤ (t : Int) → F[i]? = some m) ∧ S <+: S') noX := fun {v S4 d5 d6} p4 hv => by
          have i4 := i1.pre p4
          and_intros
          refine w_setG (j := p) (lst_of i4) (by rw [ixN_mk (by omega) (by rw [List.length_map]; omega), Int.toNat_natCast]) ?_
          refine ⟨_, _, _, _, _, _, F.set p v, rfl, i4.set (by rw [List.map_set]), by rw [List.length_set]; exact fl, fun i m' h1 h2 => ?_, fun i m' h0 h1 h2 => ?_, pre_set (p1.trans p4) hn⟩
          · by_cases hip : i = p
            · subst hip
              rw [hLp] at h1; cases h1
              rw [List.getElem?_set_self (by omega), hv (by omega)]
            · rw [List.getElem?_set_ne (by omega)]
              exact c1 i m' h1 h2
          · by_cases hip : i = p
            · subst hip
              rw [hLp] at h1; cases h1
              rw [List.getElem?_set_self (by omega), hv h2]
            · rw [List.getElem?_set_ne (by omega)]
              exact c2 i m' (by omega) h1 h2
        refine w_asg (w_ifE (w_true (w_bin (w_var rfl (w_lst (w_nil (w_newL (Nat.zero_le _) ?_)))))))
        have p4 := List.prefix_append S3 [MBox.lst []]
        refine w_neNil (seq_lst (get_pre p4 hn3)) (seq_lst get_last) hsm ?_
        refine ⟨_, rfl, fun hb => ?_, fun hb => ?_⟩
        · have hne : ds ≠ [] := fun z => by subst z; cases hb
          refine w_bin (w_c (w_call (w_consA (w_lcP (w_srcSeq (w_var rfl ⟨ds, w_seqB (get_pre p4 hn3), ?_⟩))))))
          have i4 := i3.pre p4
          refine ⟨fun _ => true, fun x d => ∀ k : Nat, x = .int (k : Int) → ∃ y : Int, F[k]? = some y ∧ d = .int y, by rw [ed]; exact Nat.lt_of_le_of_lt (Nat.le_trans (List.length_filter_le _ _) (by rw [rgD_len]; show F.length ≤ 10; omega)) (by decide), fun S' hS => w_seqB (get_pre hS (get_pre p4 hn3)), fun x S' hx hS => ?_, fun es S5 he2 hn5 p5 => ?_⟩
          · obtain ⟨k, rfl, _, hk⟩ := dm x hx
            have e := List.getElem?_eq_getElem hk
            refine w_tName (w_yes ⟨rfl, fun z => (nomatch z), fun _ => ?_⟩)
            refine w_bin (w_var rfl (w_var rfl (w_ixB (i4.pre hS).seq (atI_int e) ⟨fun k' ek => ?_, List.prefix_refl _⟩)))
            have : k = k' := by have := Dt.int.inj ek; omega
            subst this
            exact ⟨_, e, rfl⟩
          · rw [filter_yes] at he2
            have key : ∀ {xs : List Dt} {es : List Dt}, (∀ d ∈ xs, ∃ k : Nat, d = .int (k : Int) ∧ Maker rs k p ∧ k < F.length) → Each (fun x d => ∀ k : Nat, x = Dt.int (k : Int) → ∃ y : Int, F[k]? = some y ∧ d = .int y) xs es → ∃ ys : List Int, es = ys.map Dt.int ∧ ys.length = xs.length ∧ (∀ y ∈ ys, ∃ k : Nat, Dt.int (k : Int) ∈ xs ∧ F[k]? = some y) ∧ (∀ k : Nat, Dt.int (k : Int) ∈ xs → ∀ y, F[k]? = some y → y ∈ ys) := by
              intro xs es hx h
              induction h with
              | nil => exact ⟨[], rfl, rfl, (fun _ z => nomatch z), fun _ z => nomatch z⟩
              | @cons x d xs es q t' ih =>
                obtain ⟨ys, e1, e2, e3, e4⟩ := ih fun d hd => hx d (List.mem_cons_of_mem _ hd)
                obtain ⟨k, rfl, _, _⟩ := hx x List.mem_cons_self
                obtain ⟨y, hy, rfl⟩ := q k rfl
                refine ⟨y :: ys, by rw [e1]; rfl, by simp [e2], fun z hz => ?_, fun k' hk' z hz => ?_⟩
                · rcases List.mem_cons.mp hz with rfl | z'
                  · exact ⟨k, List.mem_cons_self, hy⟩
                  · obtain ⟨k', a, b⟩ := e3 z z'
                    exact ⟨k', List.mem_cons_of_mem _ a, b⟩
                · rcases List.mem_cons.mp hk' with q' | q'
                  · have : k' = k := by have := Dt.int.inj q'; omega
                    subst this
                    rw [hy] at hz; cases hz
                    exact List.mem_cons_self
                  · exact List.mem_cons_of_mem _ (e4 k' q' z hz)
            obtain ⟨ys, rfl, yl, y1, y2⟩ := key dm he2
            have yne : ys ≠ [] := fun z => hne (List.length_eq_zero_iff.mp (by rw [← yl, z]; rfl))
            refine w_nil (w_maxB (seq_lst hn5) yne ?_)
            refine w_add ?_
            have hsame : m ≤ (t : Int) → 1 + maxI ys = m := fun hmt => by
              have fk : ∀ k : Nat, Maker rs k p → ∀ y, L[k]? = some y → F[k]? = some y := fun k hk y hy => by
                have := sp.2.2 (1 + y) ⟨k, y, hy, hk, rfl⟩
                exact c1 k y hy (by omega)
              have lk : ∀ k : Nat, Maker rs k p → ∀ y, F[k]? = some y → L[k]? = some y := fun k hk y hy => by
                have hkl : k < L.length := by rw [R.len, ← fl]; exact (List.getElem?_eq_some_iff.mp hy).1
                have e := List.getElem?_eq_getElem hkl
                have := fk k hk _ e
                rw [this] at hy
                rw [e]; exact hy
              refine Sup.uniq (P := Above rs L p) ⟨.inr ?_, ?_, fun x ⟨k, y, hy, hk, ex⟩ => ?_⟩ sp
              · obtain ⟨k, hk, hF⟩ := y1 _ (maxI_mem yne)
                obtain ⟨k', ek, mk, _⟩ := dm _ hk
                have : k = k' := by have := Dt.int.inj ek; omega
                subst this
                exact ⟨k, _, lk k mk _ hF, mk, rfl⟩
              · obtain ⟨k, hk, hF⟩ := y1 _ (maxI_mem yne)
                obtain ⟨k', ek, mk, _⟩ := dm _ hk
                have : k = k' := by have := Dt.int.inj ek; omega
                subst this
                have := R.nonneg (lk k mk _ hF)
                omega
              · have := maxI_ge (y2 k (md k hk) y (fk k hk y hy))
                omega
            exact (fin (p3.trans (p4.trans p5)) hsame).mono (fun σ S6 q => .inl ⟨rfl, q⟩) fun _ _ _ q => q
        · have hne : ds = [] := by
            cases ds with
            | nil => rfl
            | cons _ _ => cases hb
          refine w_c ?_
          have hsame : m ≤ (t : Int) → 0 = m := fun _ => Sup.uniq (P := Above rs L p) ⟨.inl rfl, Int.le_refl _, fun x ⟨k, y, hy, hk, ex⟩ => by have := md k hk; rw [hne] at this; cases this⟩ sp
          exact (fin (p3.trans p4) hsame).mono (fun σ S6 q => .inl ⟨rfl, q⟩) fun _ _ _ q => q
    · subst e
      refine .inl ⟨rfl, _, _, _, _, _, _, _, F, rfl, i1, fl, fun i m hm hlt => ?_, p1⟩
      have hil : i < rs.length := by rw [← R.len]; exact (List.getElem?_eq_some_iff.mp hm).1
      exact c2 i m (by rw [placed_length]; exact hil) hm (by omega)
  · subst e
    refine c_nx ?_
    and_intros
    refine .inl ⟨_, rfl, n, rfl, hn, ?_, p1⟩
    have : F = L := by
      apply List.ext_getElem?
      intro i
      by_cases hi : i < L.length
      · have e := List.getElem?_eq_getElem hi
        rw [e]
        refine c1 i _ e ?_
        have := R.lt e
        rw [rgD_len]; omega
      · rw [List.getElem?_eq_none (show F.length ≤ i by rw [fl, ← R.len]; omega), List.getElem?_eq_none (by omega)]
    rw [← this]; exact i1
end Lw
set_option Elab.async false
set_option linter.all false
set_option maxRecDepth 100000
set_option maxHeartbeats 4000000
/-! Nc: works as small texts; likeness of boxes; works with fewer, more recipes. -/
namespace Lw
open PySem PySem.Spec PyProof.Rows L2 Mn
theorem sm_hand {n : Nat} {hs : List Dt} {h : Dt} (hm : ∀ x ∈ hs, x ∈ menuD) (hh : h = .non ∨ h ∈ hs) : Sm (n + 1) h 8 := by
  rcases hh with rfl | z
  · exact Sm.non.mono (by decide)
  · exact Sm.menu (hm h z)
theorem sm_small5 {n : Nat} {is : List Int} (h : AllB is) (hl : is.length ≤ 10) : Sm (n + 2) (iv is) 43 := Sm.ints (k := 1) (by decide) (by decide) (fun i hi => by have := h i hi; omega) 43 (by omega)
theorem sm_recipe {n size : Nat} {hs : List Dt} {d : Dt} {ts us : List Int} {h : Dt} (R : Recipe size hs d ts us h) (hm : ∀ x ∈ hs, x ∈ menuD) (hs5 : size ≤ 10) : Sm (n + 3) d 138 := by
  have := R.tl
  have := R.ul
  rw [R.eq]
  exact Sm.t3 (w := 43) (sm_small5 R.tb (by omega)) (sm_small5 R.ub (by omega)) ((sm_hand hm R.hh).mono (by decide)) 138 (by decide)
theorem sm_works {n size : Nat} {w : Dt} {ks hs rs : List Dt} (W : Works w size ks hs rs) : Sm (n + 5) w 4000 := by
  have := W.s1
  have := W.hl
  have := W.rl
  have := W.kl
  rw [W.eq]
  refine Sm.t3 (w := 1123) ((Sm.tup (n := n + 3) (w := 8) (fun d hd => Sm.menu (W.km d hd)) 53 (by omega)).mono (by decide)) ((Sm.tup (n := n + 3) (w := 8) (fun d hd => Sm.menu (W.hm d hd)) 53 (by omega)).mono (by decide)) ?_ 4000 (by decide)
  exact Sm.tup (n := n + 3) (w := 138) (fun d hd => by obtain ⟨ts, us, h, R⟩ := W.rr d hd; exact sm_recipe R W.hm (by omega)) 1123 (by omega)
theorem Works.sub {size : Nat} {w : Dt} {ks hs rs : List Dt} (W : Works w size ks hs rs) {qs : List Dt} (hq : ∀ r ∈ qs, r ∈ rs) (hl : qs.length ≤ 8) : Works (.tup [.tup ks, .tup hs, .tup qs]) size ks hs qs :=
  ⟨rfl, W.kl, W.s0, W.s1, W.hl, W.hn, W.km, W.hm, hl, fun r hr => W.rr r (hq r hr), W.kn, W.kh⟩
theorem Works.add {size : Nat} {w : Dt} {ks hs rs : List Dt} (W : Works w size ks hs rs) {d : Dt} (R : ∃ ts us h, Recipe size hs d ts us h) (hl : rs.length < 8) : Works (.tup [.tup ks, .tup hs, .tup (rs ++ [d])]) size ks hs (rs ++ [d]) :=
  ⟨rfl, W.kl, W.s0, W.s1, W.hl, W.hn, W.km, W.hm, by rw [List.length_append]; simp; omega, fun r hr => by
    rcases List.mem_append.mp hr with z | z
    · exact W.rr r z
    · rw [List.mem_singleton.mp z]; exact R, W.kn, W.kh⟩
end Lw
set_option Elab.async false
set_option linter.all false
set_option maxRecDepth 100000
set_option maxHeartbeats 4000000
/-! Ra: names and works of the later laws (k82). -/
namespace Lw
open PySem PySem.Spec PyProof.Rows L2 Mn
end Lw
set_option Elab.async false
set_option linter.all false
set_option maxRecDepth 100000
set_option maxHeartbeats 4000000
/-! Sa: rows of choices, mixed radix. -/
namespace Mn
open PySem PySem.Spec PyProof.Rows L2
section
variable {α : Type} {σ : Sg} {S : Bxs} {E : Nat → List Dt → Bxs → Prop}
/-- items told by a function, what is new behind -/
theorem w_lcD {src : Src α} {g : α → Sg → Bxs → Rs Sg} {te : FE} {vs : List Nat} {P : Dt → Bxs → Prop}
    (h : (src σ S).Wp (fun r S1 => ∃ f : α → Dt, r.1.length < LIM ∧ (∀ S', S1 <+: S' → r.2 S') ∧
      (∀ x S', x ∈ r.1 → S1 <+: S' → (g x (wipeD σ vs) S').Wp (fun σ1 S2 => (te σ1 S2).Wp (fun d S4 => d = f x ∧ S' <+: S4) noX) noX) ∧
      ∀ S', S'[S1.length]? = some (.lst (r.1.map f)) → S1 <+: S' → P (.box S1.length) S') E) : (dLc src g bYes te vs σ S).Wp P E := by
  refine w_lcP (h.mono (fun r S1 ⟨f, hl, hst, step, fin⟩ => ⟨fun _ => true, fun x d => d = f x, hl, hst, fun x S' hx p => (step x S' hx p).mono (fun σ1 S2 q => w_yes ⟨rfl, (fun z => (nomatch z)), (fun _ => q)⟩) fun _ _ _ q => q, fun ds S' he hn p => ?_⟩) fun _ _ _ q => q)
  rw [filter_yes] at he
  exact fin S' (by rw [← Each.map he]; exact hn) p
end
/-! rows: one of each -/
/-- choices that are there -/
def Fit : List Nat → List Nat → Prop
  | [], [] => True
  | p :: ps, s :: ss => p < s ∧ Fit ps ss
  | _, _ => False
theorem Fit.len : ∀ {ps ss : List Nat}, Fit ps ss → ps.length = ss.length
  | [], [], _ => rfl
  | p :: ps, s :: ss, h => congrArg (· + 1) (Fit.len h.2)
  | [], _ :: _, h => h.elim
  | _ :: _, [], h => h.elim
end Mn
set_option Elab.async false
set_option linter.all false
set_option maxRecDepth 100000
set_option maxHeartbeats 4000000
/-! Ta: k82: bare senders, unit rows, places by names. -/
namespace Mn
open PySem PySem.Spec PyProof.Rows L2
section
variable {S : Bxs} {E : Nat → List Dt → Bxs → Prop}
theorem w_eqE1 {x y : Dt} {P : Dt → Bxs → Prop} (h : (eqG false x y S).Wp P noX) : (eqE x y S).Wp P E := by
  obtain ⟨d, S', e, q⟩ := h.ok
  unfold eqE
  rw [e]
  exact ⟨q⟩
theorem w_reprD1 {ds : List Dt} {P : Dt → Bxs → Prop} (h : (reprG ds S).Wp P noX) : (reprD ds S).Wp P E := by
  obtain ⟨d, S', e, q⟩ := h.ok
  unfold reprD
  rw [e]
  exact ⟨q⟩
theorem w_ninE1 {x y : Dt} {P : Dt → Bxs → Prop} (h : (inG true x y S).Wp P noX) : (ninE x y S).Wp P E := by
  obtain ⟨d, S', e, q⟩ := h.ok
  unfold ninE
  rw [e]
  exact ⟨q⟩
end
end Mn
namespace Lw
open PySem PySem.Spec PyProof.Rows L2 Mn
section
variable {S : Bxs} {size hl : Nat} {d : Dt} {pl : Int} {as : List Dt}
def bareA (g : Bool) (size hl : Nat) (a : Dt) : Dt := .tup [.int (arrS a), .int (arrT a), if g then iv (lotA a) else iv (List.replicate size 0), if g then iv (List.replicate hl 0) else iv (crewA a)]
theorem zeros_in {n : Nat} : In 0 9 (List.replicate n (0 : Int)) := fun i hi => by rw [(List.mem_replicate.mp hi).2]; decide
theorem Arw.bare {a : Dt} {s t : Int} {lot crew : List Int} (A : Arw pl size hl a s t lot crew) (g : Bool) : Arw pl size hl (bareA g size hl a) s t (if g then lot else List.replicate size 0) (if g then List.replicate hl 0 else crew) := by
  cases g with
  | true => exact ⟨by unfold bareA; rw [A.src, A.tgt, A.lot]; rfl, A.s0, A.s1, A.t0, A.t1, A.ll, List.length_replicate, A.lb, zeros_in⟩
  | false => exact ⟨by unfold bareA; rw [A.src, A.tgt, A.crew]; rfl, A.s0, A.s1, A.t0, A.t1, List.length_replicate, A.cl, zeros_in, A.cb⟩
theorem Snd.bare (A : Snd size hl d pl as) (g : Bool) : Snd size hl (.tup [.int pl, .tup (as.map (bareA g size hl))]) pl (as.map (bareA g size hl)) :=
  ⟨rfl, A.p0, A.p1, by rw [List.length_map]; exact A.al, fun a ha => by obtain ⟨b, hb, rfl⟩ := List.mem_map.mp ha; obtain ⟨s, t, lot, crew, R⟩ := A.ar b hb; exact ⟨s, t, _, _, R.bare g⟩⟩
theorem menu_zs : ∀ {ds : List Dt}, (∀ x ∈ ds, x ∈ menuD) → ∃ zs : List Str, ds = zs.map Dt.str
  | [], _ => ⟨[], rfl⟩
  | x :: ds, h => by
    obtain ⟨zs, e⟩ := menu_zs fun y hy => h y (List.mem_cons_of_mem _ hy)
    obtain ⟨z, e2⟩ := menu_str (h x List.mem_cons_self)
    exact ⟨z :: zs, by rw [e, e2]; rfl⟩
theorem nodup_at {α : Type} {xs : List α} (hn : xs.Nodup) {i j : Nat} {x : α} (h1 : xs[i]? = some x) (h2 : xs[j]? = some x) : i = j := by
  obtain ⟨l1, e1⟩ := List.getElem?_eq_some_iff.mp h1
  obtain ⟨l2, e2⟩ := List.getElem?_eq_some_iff.mp h2
  rcases Nat.lt_trichotomy i j with h | h | h
  · exact absurd (e1.trans e2.symm) (List.pairwise_iff_getElem.mp hn i j l1 l2 h)
  · exact h
  · exact absurd (e2.trans e1.symm) (List.pairwise_iff_getElem.mp hn j i l2 l1 h)
end
end Lw
set_option Elab.async false
set_option linter.all false
set_option maxRecDepth 100000
set_option maxHeartbeats 4000000
/-! Oa: rules: while, pop, sorted, dicts shown and made by a walk, or by truth. -/
namespace Mn
open PySem PySem.Spec PyProof.Rows L2
section
variable {α : Type} {σ : Sg} {S : Bxs} {E : Nat → List Dt → Bxs → Prop}
/-! ### sorted -/
def isort (is : List Int) : List Int := is.mergeSort (fun i j => decide (i ≤ j))
theorem isort_perm (is : List Int) : (isort is).Perm is := List.mergeSort_perm _ _
/-! tuples of ints -/
/-! ### dicts -/
theorem w_disp1 {fk fv : FE} {P : Dt → Bxs → Prop} (h : (fk σ (S ++ [.dk []])).Wp (fun k S1 => (fv σ S1).Wp (fun v S2 => ∃ key, keyOf k = some key ∧ S2[S.length]? = some (.dk []) ∧ P (.box S.length) (S2.set S.length (.dk [(key, v)]))) E) E) : (dDisp [(fk, fv)] σ S).Wp P E := by
  refine w_bind ?_
  show (((fk σ (S ++ [.dk []])).bind fun k S1 => (fv σ S1).bind fun v S2 => (fPairs [] σ S2).bind fun ps S3 => .ok ((k, v) :: ps) S3)).Wp _ _
  refine w_bind (h.mono (fun k S1 h1 => w_bind (h1.mono (fun v S2 ⟨key, e1, e2, q⟩ => ?_) fun _ _ _ q => q)) fun _ _ _ q => q)
  refine ⟨?_⟩
  show (match keysD [(k, v)], S2.dk S.length with
    | some kvs, some [] => if kvs.length ≤ 15 then Rs.ok (Dt.box S.length) (S2.set S.length (.dk (mergeD [] kvs))) else .no
    | _, _ => .no).Wp P E
  have e3 : keysD [(k, v)] = some [(key, v)] := by unfold keysD; rw [e1]; rfl
  have e4 : S2.dk S.length = some [] := by unfold Bxs.dk; rw [e2]
  rw [e3, e4]
  exact ⟨q⟩
end
/-! ### two sorted lists of the same ints -/
theorem isort_sorted (is : List Int) : (isort is).Pairwise (· ≤ ·) := by
  have := List.pairwise_mergeSort (le := fun i j : Int => decide (i ≤ j)) (fun a b c h1 h2 => by simp at *; omega) (fun a b => by simp; omega) is
  exact this.imp fun h => of_decide_eq_true h
theorem sorted_ext : ∀ {xs ys : List Int}, xs.Pairwise (· ≤ ·) → ys.Pairwise (· ≤ ·) → xs.Perm ys → xs = ys
  | [], ys, _, _, p => p.nil_eq
  | x :: xs, [], _, _, p => p.eq_nil
  | x :: xs, y :: ys, h1, h2, p => by
    have hx := List.pairwise_cons.mp h1
    have hy := List.pairwise_cons.mp h2
    have m1 : x ∈ y :: ys := p.mem_iff.mp List.mem_cons_self
    have m2 : y ∈ x :: xs := p.mem_iff.mpr List.mem_cons_self
    have e : x = y := by
      have a : y ≤ x := by
        rcases List.mem_cons.mp m1 with z | z
        · omega
        · exact hy.1 x z
      have b : x ≤ y := by
        rcases List.mem_cons.mp m2 with z | z
        · omega
        · exact hx.1 y z
      omega
    subst e
    rw [sorted_ext hx.2 hy.2 (List.Perm.cons_inv p)]
theorem isort_ext {xs ys : List Int} (h1 : xs.Nodup) (h2 : ys.Nodup) (h : ∀ x, x ∈ xs ↔ x ∈ ys) : isort xs = isort ys :=
  sorted_ext (isort_sorted _) (isort_sorted _) ((isort_perm xs).trans (((List.perm_ext_iff_of_nodup h1 h2).mpr h).trans (isort_perm ys).symm))
end Mn
set_option Elab.async false
set_option linter.all false
set_option maxRecDepth 100000
set_option maxHeartbeats 4000000
/-! Ob: the places that runs come to, both ways. -/
namespace Mn
open PySem PySem.Spec PyProof.Rows L2
theorem nodup_le : ∀ (n : Nat) (l : List Int), l.Nodup → (∀ x ∈ l, 0 ≤ x ∧ x < n) → l.length ≤ n
  | 0, l, _, h => by
    cases l with
    | nil => exact Nat.le_refl _
    | cons x l => have := h x List.mem_cons_self; omega
  | n + 1, l, hn, h => by
    have h1 := nodup_le n (l.erase (n : Int)) (hn.erase _) fun x hx => by
      have hm := (List.Nodup.mem_erase_iff hn).mp hx
      have := h x hm.2
      have hne := hm.1
      omega
    by_cases hm : (n : Int) ∈ l
    · rw [List.length_erase_of_mem hm] at h1; omega
    · rw [List.erase_of_not_mem hm] at h1; omega
/-- the keys of a dict by ints -/
def KyI (kvs : List (Key × Dt)) (ks : List Int) : Prop := kvs.map (fun kv => kv.1) = ks.map (fun k => (Sum.inl k : Key))
theorem KyI.len {kvs : List (Key × Dt)} {ks : List Int} (h : KyI kvs ks) : kvs.length = ks.length := by
  have := congrArg List.length h
  rwa [List.length_map, List.length_map] at this
theorem KyI.val {kvs : List (Key × Dt)} {ks : List Int} (h : KyI kvs ks) (x : Int) : (valD kvs (.inl x)).isSome = decide (x ∈ ks) := by
  unfold KyI at h
  unfold valD
  rw [Option.isSome_map]
  induction kvs generalizing ks with
  | nil => cases ks <;> first | rfl | cases h
  | cons p kvs ih =>
    cases ks with
    | nil => cases h
    | cons k ks =>
      rw [List.map_cons, List.map_cons] at h
      injection h with h1 h2
      rw [List.find?_cons]
      by_cases e : k = x
      · subst e; simp [h1]
      · have e' : ¬ x = k := fun z => e z.symm
        have : decide (p.1 = Sum.inl x) = false := decide_eq_false (fun z => by rw [h1] at z; exact e (Sum.inl.inj z))
        rw [this]
        simp only [ih h2]
        simp [e']
end Mn
namespace Lw
open PySem PySem.Spec PyProof.Rows L2 Mn
/-- a run ends there -/
inductive Rch (as : List Dt) : Int → Prop
  | zero : Rch as 0
  | step {a : Dt} : a ∈ as → Rch as (arrS a) → Rch as (arrT a)
/-- just the places that runs end at -/
def Cm (as : List Dt) (xs : List Int) : Prop := xs.Nodup ∧ ∀ x, x ∈ xs ↔ Rch as x
theorem Cm.same {as : List Dt} {xs ys : List Int} (h1 : Cm as xs) (h2 : Cm as ys) : isort xs = isort ys := by
  refine isort_ext h1.1 h2.1 ?_
  intro x
  exact (h1.2 x).trans (h2.2 x).symm
open Classical in
/-- the places, ascending -/
noncomputable def comeL (as : List Dt) : List Int := if h : ∃ xs, Cm as xs then isort h.choose else []
theorem Cm.eq {as : List Dt} {xs : List Int} (h : Cm as xs) : isort xs = comeL as := by
  have hex : ∃ xs, Cm as xs := ⟨xs, h⟩
  unfold comeL
  rw [dif_pos hex]
  exact h.same hex.choose_spec
variable {S : Bxs} {d : Dt} {size hl : Nat} {pl : Int} {as : List Dt}
theorem Snd.rch (A : Snd size hl d pl as) {x : Int} (h : Rch as x) : 0 ≤ x ∧ x < pl := by
  have := A.p0
  cases h with
  | zero => omega
  | step ha _ =>
    obtain ⟨s, t, lot, crew, R⟩ := A.ar _ ha
    rw [R.tgt]
    exact ⟨R.t0, R.t1⟩
/-- the indexes of the arrows from p -/
def fromL (as : List Dt) (p : Int) : List Int := ((List.range as.length).map fun i : Nat => (i : Int)).filter fun i => decide (arrS (nthA as i) = p)
theorem fromL_mem {as : List Dt} {p i : Int} : i ∈ fromL as p ↔ 0 ≤ i ∧ i < as.length ∧ arrS (nthA as i) = p := by
  unfold fromL
  rw [List.mem_filter, List.mem_map]
  constructor
  · rintro ⟨⟨j, hj, rfl⟩, h⟩
    have := List.mem_range.mp hj
    exact ⟨by omega, by omega, of_decide_eq_true h⟩
  · rintro ⟨h0, h1, h2⟩
    exact ⟨⟨i.toNat, List.mem_range.mpr (by omega), by omega⟩, decide_eq_true h2⟩
theorem fromL_len {as : List Dt} {p : Int} : (fromL as p).length ≤ as.length := by
  unfold fromL
  exact Nat.le_trans (List.length_filter_le _ _) (by simp)
theorem Snd.arw (A : Snd size hl d pl as) {i : Int} (h0 : 0 ≤ i) (h1 : i < as.length) : ∃ s t lot crew, nthA as i ∈ as ∧ as[i.toNat]? = some (nthA as i) ∧ atI as i = some (nthA as i) ∧ Arw pl size hl (nthA as i) s t lot crew := by
  obtain ⟨s, t, lot, crew, e1, e2, R⟩ := A.nth (is := [i]) (fun j hj => by rw [List.mem_singleton.mp hj]; exact ⟨h0, h1⟩) List.mem_cons_self
  exact ⟨s, t, lot, crew, List.mem_of_getElem? e1, e1, e2, R⟩
end Lw
set_option Elab.async false
set_option linter.all false
set_option maxRecDepth 100000
set_option maxHeartbeats 4000000
namespace Lw
open PySem PySem.Spec PyProof.Rows L2 Mn
variable {S : Bxs} {d : Dt} {size hl : Nat} {pl : Int} {as : List Dt}
/-- under way: what was found, what is left; all of p's arrows but the first k are still to be looked at -/
structure CW (as : List Dt) (pl : Int) (fs ts : List Int) (p : Option (Int × List Int)) : Prop where
  nd : fs.Nodup
  z : (0 : Int) ∈ fs
  r : ∀ x ∈ fs, Rch as x
  sub : ∀ x ∈ ts, x ∈ fs
  cl : ∀ a ∈ as, arrS a ∈ fs → arrT a ∈ fs ∨ arrS a ∈ ts ∨ ∃ q l, p = some (q, l) ∧ arrS a = q ∧ ∃ i ∈ l, nthA as i = a
theorem CW.len (A : Snd size hl d pl as) {fs ts : List Int} {p : Option (Int × List Int)} (h : CW as pl fs ts p) : fs.length ≤ 10 := by
  have p1 := A.p1
  have p0 := A.p0
  have := nodup_le pl.toNat fs h.nd fun x hx => by have := A.rch (h.r x hx); omega
  omega
end Lw
set_option Elab.async false
set_option linter.all false
set_option maxRecDepth 100000
set_option maxHeartbeats 4000000
/-! Od: gcd, fractions, best means, heights by the law's walk. -/
namespace Lw
open PySem PySem.Spec PyProof.Rows L2 Mn
end Lw
set_option Elab.async false
set_option linter.all false
set_option maxRecDepth 100000
set_option maxHeartbeats 4000000
/-! Oe: heights by the law's walk; the law's rings, as far as they are rows of arrows. -/
namespace Lw
open PySem PySem.Spec PyProof.Rows L2 Mn
section
variable {S : Bxs}
def oI : Option Int → Dt
  | none => .non
  | some i => .int i
def idxL (n : Nat) : List Int := (List.range n).map fun i : Nat => (i : Int)
/-- entries within a bound -/
def HB (M : Int) (f : List (Option Int)) : Prop := ∀ v, some v ∈ f → -M ≤ v ∧ v ≤ M
theorem HB.set {M : Int} {f : List (Option Int)} (h : HB M f) {t : Nat} {v : Int} (hv : -M ≤ v ∧ v ≤ M) : HB M (f.set t (some v)) := fun w hw => by
  rcases List.mem_or_eq_of_mem_set hw with z | z
  · exact h w z
  · cases z; exact hv
theorem HB.mono {M N : Int} {f : List (Option Int)} (h : HB M f) (hm : M ≤ N) : HB N f := fun v hv => by have := h v hv; omega
variable {size hl : Nat} {d : Dt} {pl : Int} {as : List Dt} {ps ws : List Int}
def h0L (pl : Int) : List (Option Int) := some 0 :: List.replicate (pl - 1).toNat none
end
end Lw
set_option Elab.async false
set_option linter.all false
set_option maxRecDepth 100000
set_option maxHeartbeats 4000000
/-! Of: rings: what they are; the law's search for them. -/
namespace Lw
open PySem PySem.Spec PyProof.Rows L2 Mn
section
variable {as : List Dt}
theorem nthA_of {i : Int} {a : Dt} (h : as[i.toNat]? = some a) : nthA as i = a := by unfold nthA; rw [h]; rfl
theorem goes_cons {p i q : Int} {r : List Int} : Goes as p (i :: r) q ↔ 0 ≤ i ∧ i < as.length ∧ arrS (nthA as i) = p ∧ Goes as (arrT (nthA as i)) r q := by
  constructor
  · rintro ⟨a, h0, ha, hs, h⟩
    have hl := (List.getElem?_eq_some_iff.mp ha).1
    rw [nthA_of ha]
    exact ⟨h0, by omega, hs, h⟩
  · rintro ⟨h0, h1, hs, h⟩
    have hl : i.toNat < as.length := by omega
    have e : as[i.toNat]? = some (nthA as i) := by
      rw [List.getElem?_eq_getElem hl]
      unfold nthA
      rw [List.getElem?_eq_getElem hl]; rfl
    exact ⟨_, h0, e, hs, h⟩
theorem goes_app : ∀ {a b : List Int} {p q : Int}, Goes as p (a ++ b) q ↔ ∃ m, Goes as p a m ∧ Goes as m b q
  | [], b, p, q => ⟨fun h => ⟨p, rfl, h⟩, fun ⟨m, e, h⟩ => by cases (show p = m from e); exact h⟩
  | i :: a, b, p, q => by
    rw [List.cons_append, goes_cons, goes_app]
    constructor
    · rintro ⟨h0, h1, h2, m, h3, h4⟩
      exact ⟨m, goes_cons.mpr ⟨h0, h1, h2, h3⟩, h4⟩
    · rintro ⟨m, h, h4⟩
      obtain ⟨h0, h1, h2, h3⟩ := goes_cons.mp h
      exact ⟨h0, h1, h2, m, h3, h4⟩
theorem goes_det : ∀ {a : List Int} {p q q' : Int}, Goes as p a q → Goes as p a q' → q = q'
  | [], p, q, q', h1, h2 => by
    have h1 : p = q := h1
    have h2 : p = q' := h2
    rw [← h1, h2]
  | i :: a, p, q, q', h1, h2 => goes_det (goes_cons.mp h1).2.2.2 (goes_cons.mp h2).2.2.2
theorem goes_ixs : ∀ {a : List Int} {p q : Int}, Goes as p a q → Ixs as.length a
  | [], _, _, _ => fun _ z => nomatch z
  | i :: a, p, q, h => fun j hj => by
    obtain ⟨h0, h1, _, h3⟩ := goes_cons.mp h
    rcases List.mem_cons.mp hj with rfl | hj
    · exact ⟨h0, h1⟩
    · exact goes_ixs h3 j hj
/-- the sources -/
def srcL (as : List Dt) (r : List Int) : List Int := r.map fun i => arrS (nthA as i)
/-- a way from p that comes to no place twice, and to none below p -/
structure Wy (as : List Dt) (p : Int) (w : List Int) (q : Int) : Prop where
  ne : w ≠ []
  go : Goes as p w q
  nd : (srcL as w).Nodup
  ge : ∀ s ∈ srcL as w, p ≤ s
def RingF (as : List Dt) (p : Int) (r : List Int) : Prop := Wy as p r p
theorem Wy.hd {p q : Int} {w : List Int} (h : Wy as p w q) : p ∈ srcL as w := by
  have g := h.go
  cases w with
  | nil => exact absurd rfl h.ne
  | cons i r => exact List.mem_cons.mpr (.inl (goes_cons.mp g).2.2.1.symm)
theorem Wy.len {p q : Int} {w : List Int} {pl : Int} {size hl : Nat} {d : Dt} (A : Snd size hl d pl as) (h : Wy as p w q) : w.length ≤ 10 := by
  have p0 := A.p0
  have p1 := A.p1
  have := nodup_le pl.toNat (srcL as w) h.nd fun x hx => by
    obtain ⟨i, hi, rfl⟩ := List.mem_map.mp hx
    have hii := goes_ixs h.go i hi
    obtain ⟨s, t, lot, crew, _, _, _, R⟩ := A.arw hii.1 hii.2
    have a1 := R.s0
    have a2 := R.s1
    rw [R.src]
    omega
  unfold srcL at this
  rw [List.length_map] at this
  omega
theorem Wy.one {p i : Int} (hi : i ∈ fromL as p) : Wy as p [i] (arrT (nthA as i)) := by
  obtain ⟨h0, h1, h2⟩ := fromL_mem.mp hi
  refine ⟨by simp, goes_cons.mpr ⟨h0, h1, h2, rfl⟩, by unfold srcL; simp, fun s hs => ?_⟩
  unfold srcL at hs
  simp at hs
  omega
theorem Wy.more {p q i : Int} {w : List Int} (h : Wy as p w q) (hq : p ≤ q) (hn : q ∉ srcL as w) (hi : i ∈ fromL as q) : Wy as p (w ++ [i]) (arrT (nthA as i)) := by
  obtain ⟨h0, h1, h2⟩ := fromL_mem.mp hi
  have es : srcL as (w ++ [i]) = srcL as w ++ [q] := by unfold srcL; rw [List.map_append, ← h2]; rfl
  refine ⟨by simp, goes_app.mpr ⟨q, h.go, goes_cons.mpr ⟨h0, h1, h2, rfl⟩⟩, ?_, fun s hs => ?_⟩
  · rw [es]
    refine List.nodup_append.mpr ⟨h.nd, by simp, fun a ha b hb => ?_⟩
    rw [List.mem_singleton.mp hb]
    exact fun z => hn (z ▸ ha)
  · rw [es] at hs
    rcases List.mem_append.mp hs with z | z
    · exact h.ge s z
    · rw [List.mem_singleton.mp z]; exact hq
def NP (a b : List Int) : Prop := ¬ a <+: b ∧ ¬ b <+: a
theorem NP.symm {a b : List Int} (h : NP a b) : NP b a := ⟨h.2, h.1⟩
theorem np_more {w u : List Int} (h : NP w u) (i : Int) : NP (w ++ [i]) u := by
  refine ⟨fun z => h.1 ((List.prefix_append _ _).trans z), fun z => ?_⟩
  rcases List.prefix_concat_iff.mp z with z | z
  · exact h.1 (by rw [z]; exact List.prefix_append _ _)
  · exact h.2 z
theorem np_sib {w : List Int} {i j : Int} (h : i ≠ j) : NP (w ++ [i]) (w ++ [j]) := by
  constructor
  · intro z
    rw [List.prefix_append_right_inj] at z
    have := List.prefix_iff_eq_take.mp z
    simp at this
    exact h this
  · intro z
    rw [List.prefix_append_right_inj] at z
    have := List.prefix_iff_eq_take.mp z
    simp at this
    exact h this.symm
abbrev TW := List Int × Int
/-- the search, between two turns -/
structure DI (as : List Dt) (p : Int) (fnd : List (List Int)) (todo : List TW) : Prop where
  ok : ∀ x ∈ todo, Wy as p x.1 x.2
  snd : ∀ r ∈ fnd, RingF as p r
  cmp : ∀ r, RingF as p r → r ∈ fnd ∨ ∃ x ∈ todo, x.1 <+: r
  pw : (fnd ++ todo.map (·.1)).Pairwise NP
  srt : (todo.map (·.1.length)).Pairwise (· ≤ ·)
  cnt : ∀ k, (todo.map (·.1.length)).count k ≤ 40
def newT (as : List Dt) (w : List Int) (q : Int) : List TW := (fromL as q).map fun i => (w ++ [i], arrT (nthA as i))
theorem fromL_nodup {p : Int} : (fromL as p).Nodup := by
  unfold fromL
  refine List.Pairwise.sublist List.filter_sublist ?_
  exact List.pairwise_map.mpr (List.Pairwise.imp (fun {x y} h e => h (by have e : (x : Int) = y := e; omega)) List.nodup_range)
theorem newT_pw {w : List Int} {q : Int} : ((newT as w q).map (·.1)).Pairwise NP := by
  unfold newT
  rw [List.map_map, List.pairwise_map]
  exact (fromL_nodup (as := as) (p := q)).imp fun h => np_sib h
theorem newT_len {w : List Int} {q : Int} : (newT as w q).map (·.1.length) = List.replicate (fromL as q).length (w.length + 1) := by
  unfold newT
  rw [List.map_map]
  exact List.eq_replicate_iff.mpr ⟨by simp, fun x hx => by
    obtain ⟨i, _, rfl⟩ := List.mem_map.mp hx
    simp⟩
theorem DI.start (hl : as.length ≤ 40) (p : Int) : DI as p [] (newT as [] p) := by
  refine ⟨fun x hx => ?_, (fun _ z => nomatch z), fun r hr => ?_, newT_pw, ?_, fun k => ?_⟩
  · unfold newT at hx
    obtain ⟨i, hi, rfl⟩ := List.mem_map.mp hx
    exact Wy.one hi
  · cases r with
    | nil => exact absurd rfl hr.ne
    | cons i r =>
      obtain ⟨h0, h1, h2, _⟩ := goes_cons.mp hr.go
      exact .inr ⟨([i], arrT (nthA as i)), List.mem_map.mpr ⟨i, fromL_mem.mpr ⟨h0, h1, h2⟩, rfl⟩, ⟨r, rfl⟩⟩
  · rw [newT_len]
    exact List.pairwise_replicate.mpr (.inr (Nat.le_refl _))
  · rw [newT_len, List.count_replicate]
    have := fromL_len (as := as) (p := p)
    split <;> omega
theorem ring_ext {p q : Int} {w r : List Int} (hw : Wy as p w q) (hr : RingF as p r) (h : w <+: r) : (q = p ∧ r = w) ∨ (p ≤ q ∧ q ≠ p ∧ q ∉ srcL as w ∧ ∃ i ∈ fromL as q, w ++ [i] <+: r) := by
  obtain ⟨u, rfl⟩ := h
  obtain ⟨m, g1, g2⟩ := goes_app.mp hr.go
  have em := goes_det g1 hw.go
  subst em
  cases u with
  | nil =>
    have g2 : m = p := g2
    exact .inl ⟨g2, by simp⟩
  | cons i u =>
    obtain ⟨h0, h1, h2, _⟩ := goes_cons.mp g2
    have es : srcL as (w ++ i :: u) = srcL as w ++ m :: srcL as u := by unfold srcL; rw [List.map_append, List.map_cons, h2]
    have nd := hr.nd
    rw [es] at nd
    have hn : m ∉ srcL as w := fun z => (List.nodup_append.mp nd).2.2 m z m (by simp) rfl
    have hge := hr.ge m (by rw [es]; simp)
    refine .inr ⟨hge, fun z => hn (z ▸ hw.hd), hn, i, fromL_mem.mpr ⟨h0, h1, h2⟩, ⟨u, by simp⟩⟩
theorem DI.drop {p : Int} {fnd : List (List Int)} {todo : List TW} {w : List Int} {q : Int} (D : DI as p fnd (todo ++ [(w, q)])) (hq : q ≠ p) (hd : ¬ (p < q ∧ q ∉ srcL as w)) : DI as p fnd todo := by
  have hw := D.ok (w, q) (by simp)
  refine ⟨fun x hx => D.ok x (by simp [hx]), D.snd, fun r hr => ?_, ?_, ?_, fun k => ?_⟩
  · rcases D.cmp r hr with z | ⟨x, hx, z⟩
    · exact .inl z
    · rcases List.mem_append.mp hx with y | y
      · exact .inr ⟨x, y, z⟩
      · rw [List.mem_singleton.mp y] at z
        rcases ring_ext hw hr z with ⟨e, _⟩ | ⟨e1, e2, e3, _⟩
        · exact absurd e hq
        · exact absurd ⟨by omega, e3⟩ hd
  · have := D.pw
    rw [List.map_append, ← List.append_assoc] at this
    exact (List.pairwise_append.mp this).1
  · have := D.srt
    rw [List.map_append] at this
    exact (List.pairwise_append.mp this).1
  · have := D.cnt k
    rw [List.map_append, List.count_append] at this
    omega
theorem DI.more (hl : as.length ≤ 40) {p : Int} {fnd : List (List Int)} {todo : List TW} {w : List Int} {q : Int} (D : DI as p fnd (todo ++ [(w, q)])) (h1 : p < q) (h2 : q ∉ srcL as w) : DI as p fnd (todo ++ newT as w q) := by
  have hw := D.ok (w, q) (by simp)
  have hs := D.srt
  rw [List.map_append, List.pairwise_append] at hs
  obtain ⟨s1, _, s2⟩ := hs
  have s2 : ∀ x ∈ todo.map (·.1.length), x ≤ w.length := fun x hx => s2 x hx w.length (by simp)
  refine ⟨fun x hx => ?_, D.snd, fun r hr => ?_, ?_, ?_, fun k => ?_⟩
  · rcases List.mem_append.mp hx with y | y
    · exact D.ok x (by simp [y])
    · unfold newT at y
      obtain ⟨i, hi, rfl⟩ := List.mem_map.mp y
      exact hw.more (by omega) h2 hi
  · rcases D.cmp r hr with z | ⟨x, hx, z⟩
    · exact .inl z
    · rcases List.mem_append.mp hx with y | y
      · exact .inr ⟨x, by simp [y], z⟩
      · rw [List.mem_singleton.mp y] at z
        rcases ring_ext hw hr z with ⟨e, _⟩ | ⟨_, _, _, i, hi, e⟩
        · omega
        · exact .inr ⟨(w ++ [i], arrT (nthA as i)), List.mem_append.mpr (.inr (List.mem_map.mpr ⟨i, hi, rfl⟩)), e⟩
  · have hp := D.pw
    rw [List.map_append, ← List.append_assoc] at hp
    obtain ⟨a1, _, a3⟩ := List.pairwise_append.mp hp
    rw [List.map_append, ← List.append_assoc]
    refine List.pairwise_append.mpr ⟨a1, newT_pw, fun u hu v hv => ?_⟩
    unfold newT at hv
    rw [List.map_map] at hv
    obtain ⟨i, _, rfl⟩ := List.mem_map.mp hv
    exact (np_more (a3 u hu w (by simp)).symm i).symm
  · rw [List.map_append, newT_len]
    refine List.pairwise_append.mpr ⟨s1, List.pairwise_replicate.mpr (.inr (Nat.le_refl _)), fun a ha b hb => ?_⟩
    rw [List.eq_of_mem_replicate hb]
    have := s2 a ha
    omega
  · rw [List.map_append, newT_len, List.count_append, List.count_replicate]
    have hc := D.cnt k
    rw [List.map_append, List.count_append] at hc
    have hf := fromL_len (as := as) (p := q)
    split
    · rename_i e
      have e : w.length + 1 = k := by simpa using e
      have : (todo.map (·.1.length)).count k = 0 := List.count_eq_zero.mpr fun z => by have := s2 k z; omega
      omega
    · omega
theorem len_split (p : Nat → Bool) : ∀ l : List Nat, l.length = (l.filter p).length + (l.filter fun x => !p x).length
  | [] => rfl
  | x :: l => by
    have := len_split p l
    rw [List.filter_cons, List.filter_cons, List.length_cons]
    cases p x <;> simp <;> omega
theorem cnt_len : ∀ (n : Nat) (l : List Nat), (∀ k, l.count k ≤ 40) → (∀ x ∈ l, x < n) → l.length ≤ 40 * n
  | 0, l, _, h => by
    cases l with
    | nil => simp
    | cons x l => exact absurd (h x (by simp)) (Nat.not_lt_zero _)
  | n + 1, l, hc, h => by
    have ih := cnt_len n (l.filter fun x => decide (x < n)) (fun k => Nat.le_trans (List.Sublist.count_le k List.filter_sublist) (hc k)) (fun x hx => by simpa using (List.mem_filter.mp hx).2)
    have e := len_split (fun x => decide (x < n)) l
    have : (l.filter fun x => !decide (x < n)).length ≤ 40 := by
      have h2 : (l.filter fun x => !decide (x < n)) = List.replicate (l.filter fun x => !decide (x < n)).length n := List.eq_replicate_iff.mpr ⟨rfl, fun x hx => by
        obtain ⟨h3, h4⟩ := List.mem_filter.mp hx
        have := h x h3
        simp at h4
        omega⟩
      have h5 : (l.filter fun x => !decide (x < n)).count n ≤ 40 := Nat.le_trans (List.Sublist.count_le n List.filter_sublist) (hc n)
      rw [h2, List.count_replicate_self] at h5
      exact h5
    omega
theorem DI.len {pl : Int} {size hl : Nat} {d : Dt} (A : Snd size hl d pl as) {p : Int} {fnd : List (List Int)} {todo : List TW} (D : DI as p fnd todo) : todo.length ≤ 440 := by
  have := cnt_len 11 (todo.map (·.1.length)) D.cnt fun x hx => by
    obtain ⟨y, hy, rfl⟩ := List.mem_map.mp hx
    have := (D.ok y hy).len A
    omega
  rw [List.length_map] at this
  omega
end
end Lw
set_option Elab.async false
set_option linter.all false
set_option maxRecDepth 100000
set_option maxHeartbeats 4000000
/-! Nd: deeds: what one does, by the law and by the package. -/
namespace Mn
open PySem PySem.Spec PyProof.Rows L2
end Mn
namespace Lw
open PySem PySem.Spec PyProof.Rows L2 Mn
def fits (ts xs : List Int) : Bool := (ts.zip xs).all fun p => decide (p.1 ≤ p.2)
def hAt (hs : List Dt) (h : Dt) : Option Nat := match h, strsOf hs with
  | .str z, some zs => strAt z zs
  | _, _ => none
abbrev HC := List Int × List Int
def moved (ts us xs : List Int) : List Int := zw (· + ·) (zw (· - ·) xs ts) us
def dnC (hs : List Dt) (ts us : List Int) (h : Dt) (x : HC) : Option HC :=
  if fits ts x.1 = true then match hAt hs h with
    | none => some (moved ts us x.1, x.2)
    | some j => if (x.2[j]?).getD 0 = 0 then none else some (moved ts us x.1, x.2.set j ((x.2[j]?).getD 0 - 1))
  else none
def dn (hs rs : List Dt) (x : HC) (i : Int) : Option HC := match rs[i.toNat]? with
  | some (.tup [.tup t, .tup u, h]) => dnC hs (intsD t) (intsD u) h x
  | _ => none
end Lw
set_option Elab.async false
set_option linter.all false
set_option maxRecDepth 100000
set_option maxHeartbeats 4000000
/-! Og: the law's rings are all rings. -/
namespace Lw
open PySem PySem.Spec PyProof.Rows L2 Mn
section
variable {S : Bxs} {size hl : Nat} {d : Dt} {pl : Int} {as : List Dt}
def tD (x : TW) : Dt := .tup [iv x.1, .int x.2]
end
end Lw
set_option Elab.async false
set_option linter.all false
set_option maxRecDepth 100000
set_option maxHeartbeats 4000000
/-! Oh: heights judged, by the law and by the program. -/
namespace Lw
open PySem PySem.Spec PyProof.Rows L2 Mn
section
variable {S : Bxs} {size hl : Nat} {d : Dt} {pl : Int} {as : List Dt} {ps ws : List Int}
def Itm (d : Dt) : Prop := d = .non ∨ (∃ i : Int, d = .int i ∧ -(10 ^ 40) ≤ i ∧ i ≤ 10 ^ 40) ∨ (∃ b, d = .bl b) ∨ d = .str "0" ∨ d = .tup [.int 0]
/-- a thing that may be heights, or none -/
def Thg (S : Bxs) (d : Dt) : Prop := (∃ xs, d = .tup xs ∧ xs.length ≤ 30 ∧ ∀ x ∈ xs, Itm x) ∨ ((∀ xs, d ≠ .tup xs) ∧ ∀ S', S <+: S' → isiD "tuple" S' d = some false)
end
end Lw
set_option Elab.async false
set_option linter.all false
set_option maxRecDepth 100000
set_option maxHeartbeats 4000000
/-! Ua: k01: the law's own forms. -/
namespace Mn
open PySem PySem.Spec PyProof.Rows L2
section
variable {S : Bxs} {E : Nat → List Dt → Bxs → Prop}
theorem w_inS {neg : Bool} {y x : Str} {P : Dt → Bxs → Prop} (h : P (.bl (if neg then !inTx y x else inTx y x)) S) : (inSG neg (.str y) (.str x) S).Wp P E := ⟨h⟩
/-- nothing is told -/
theorem w_lcNone {α : Type} {σ : Sg} {src : Src α} {g : α → Sg → Bxs → Rs Sg} {tt : FB} {te : FE} {vs : List Nat} {P : Dt → Bxs → Prop}
    (h : (src σ S).Wp (fun r S1 => r.1.length < LIM ∧ (∀ S', S1 <+: S' → r.2 S') ∧
      (∀ x S', x ∈ r.1 → S1 <+: S' → (g x (wipeD σ vs) S').Wp (fun σ1 S2 => (tt σ1 S2).Wp (fun bv S3 => bv = false ∧ S' <+: S3) noX) noX) ∧
      ∀ S', S'[S1.length]? = some (.lst []) → S1 <+: S' → P (.box S1.length) S') E) : (dLc src g tt te vs σ S).Wp P E := by
  refine w_lcP (h.mono (fun r S1 ⟨hl, hst, step, fin⟩ => ⟨fun _ => false, fun _ _ => True, hl, hst, fun x S' hx p => (step x S' hx p).mono (fun σ1 S2 q => q.mono (fun bv S3 ⟨e, p3⟩ => ⟨e, fun _ => p3, fun z => by rw [e] at z; cases z⟩) fun _ _ _ q => q) fun _ _ _ q => q, fun ds S' he hn p => ?_⟩) fun _ _ _ q => q)
  have e : r.1.filter (fun _ => false) = [] := List.filter_eq_nil_iff.mpr fun _ _ => Bool.false_ne_true
  rw [e] at he
  cases he
  exact fin S' hn p
theorem w_nilNil {n m : Nat} {neg : Bool} {P : Dt → Bxs → Prop} (e : S.seq n = some []) (e2 : S.seq m = some []) (q : P (.bl (!neg)) S) : (eqG neg (.box n) (.box m) S).Wp P E := by
  refine w_neNil (w := 2) e e2 (fun d h => (nomatch h)) ?_
  cases neg <;> exact q
end
end Mn
namespace Lw
open PySem PySem.Spec PyProof.Rows L2 Mn
section
variable {S : Bxs} {size : Nat} {ks hs rs : List Dt} {w : Dt}
theorem lint_ok {i : Int} : (F__law_is_int [.int i] S).Wp (fun r S' => r = .bl true ∧ S' = S) noX := by
  refine w_body ?_
  unfold B__law_is_int
  simp only [startD, List.map_cons, List.map_nil, List.length_cons, List.length_nil, List.cons_append, List.nil_append, Nat.reduceAdd, Nat.reduceSub, List.replicate, List.replicate_succ, List.replicate_zero]
  refine w_ret (w_andV (w_isi (w_var rfl ⟨true, by show kitB "int" "int" = _; decide +kernel, true, rfl, fun _ => ?_, fun z => nomatch z⟩)))
  exact w_notV (w_isi (w_var rfl ⟨false, by show kitB "int" "bool" = _; decide +kernel, false, rfl, .inl ⟨_, rfl, rfl, rfl⟩⟩))
theorem llot_ok {is : List Int} {n : Nat} (hl : is.length = n) (hp : ∀ i ∈ is, 0 ≤ i) (h : n ≤ 1000) : (F__law_is_lot [.int (n : Int), iv is] S).Wp (fun r S' => r = .bl true ∧ S <+: S') noX := by
  refine w_body ?_
  unfold B__law_is_lot
  simp only [startD, List.map_cons, List.map_nil, List.length_cons, List.length_nil, List.cons_append, List.nil_append, Nat.reduceAdd, Nat.reduceSub, List.replicate, List.replicate_succ, List.replicate_zero]
  refine w_cons (w_if (w_or (w_not (w_true (w_isi (w_var rfl ⟨true, by show kitB "tuple" "tuple" = _; decide +kernel, true, rfl, (fun z => nomatch z), fun _ => ?_⟩))))))
  and_intros
  rw [List.length_map, hl]
  refine w_neI ?_
  refine ⟨_, rfl, fun z => ?_, fun _ => ?_⟩
  · simp at z
  refine w_sNil ⟨fun _ => ?_, fun z => absurd rfl z⟩
  refine w_ret (w_bin (w_lcNone ?_))
  and_intros
  refine ⟨Nat.lt_of_le_of_lt (show (is.map Dt.int).length ≤ 1000 by rw [List.length_map, hl]; exact h) (by decide), fun _ _ => rfl, fun x S' hx p => ?_, fun S' hn p => ?_⟩
  · obtain ⟨i, hi, rfl⟩ := List.mem_map.mp hx
    and_intros
    refine lint_ok.mono (fun r S1 ⟨e1, e2⟩ => ?_) fun _ _ _ q => q
    subst e1; subst e2
    refine ⟨true, rfl, (fun z => nomatch z), fun _ => ?_⟩
    and_intros
    exact ⟨decide_eq_false (Int.not_lt.mpr (hp i hi)), List.prefix_refl _⟩
  · and_intros
    refine w_nilNil (seq_lst (get_pre (List.prefix_append _ _) hn)) (seq_lst get_last) ?_
    exact .inl ⟨_, rfl, rfl, p.trans (List.prefix_append _ _)⟩
def okLet (z : Str) : Bool := decide (1 ≤ z.length) && decide (z.length ≤ 6) && z.cps.toList.all fun c => inTx ⟨#[c]⟩ "abcdefghijklmnopqrstuvwxyz"
theorem menu_letters {z : Str} (h : Dt.str z ∈ menuD) : okLet z = true := by
  have h1 : z ∈ menuS := by
    obtain ⟨y, hy, e⟩ := List.mem_map.mp (show Dt.str z ∈ menuS.map Dt.str from h)
    cases e; exact hy
  exact List.all_eq_true.mp (show (menuS.all okLet) = true by decide +kernel) z h1
theorem lname_ok {d : Dt} (h : d ∈ menuD) : (F__law_is_name [d] S).Wp (fun r S' => r = .bl true ∧ S <+: S') noX := by
  obtain ⟨z, rfl⟩ := menu_str h
  have ok := menu_letters h
  unfold okLet at ok
  rw [Bool.and_eq_true, Bool.and_eq_true, decide_eq_true_eq, decide_eq_true_eq] at ok
  obtain ⟨⟨l1, l2⟩, o3⟩ := ok
  refine w_body ?_
  unfold B__law_is_name
  simp only [startD, List.map_cons, List.map_nil, List.length_cons, List.length_nil, List.cons_append, List.nil_append, Nat.reduceAdd, Nat.reduceSub, List.replicate, List.replicate_succ, List.replicate_zero]
  refine w_cons (w_if (w_or (w_not (w_true (w_isi (w_var rfl ⟨true, by show kitB "str" "str" = _; decide +kernel, true, rfl, ⟨fun z => (nomatch z), fun _ => ?_⟩⟩))))))
  have el : lenG [.str z] S = .ok (.int z.length) S := by
    show (if z.length ≤ strLim then Rs.ok (Dt.int z.length) S else .no) = _
    rw [if_pos (Nat.le_trans l2 (by decide))]
  refine w_not (w_true (w_chain (w_c (w_call (w_consA (w_var rfl (w_nil ?_)))))))
  refine .of el (w_cmp ⟨_, rfl, fun _ => ?_, fun hb => ?_⟩)
  · refine w_c (w_cmp ⟨_, rfl, ⟨fun hb => ?_, fun _ => ?_⟩⟩)
    · rw [show (decide ((z.length : Int) ≤ 6)) = true from decide_eq_true (by omega)] at hb; cases hb
    · refine w_sNil (c_nx ?_)
      refine w_ret (w_bin (w_lcNone (w_srcStr (w_var rfl ⟨z, rfl, ?_⟩))))
      refine ⟨?_, fun _ _ => trivial, fun x S' hx p => ?_, fun S' hn p => ?_⟩
      · show (z.cps.toList.map _).length < LIM
        rw [List.length_map]
        exact Nat.lt_of_le_of_lt (show z.cps.toList.length ≤ 6 from by rw [Array.length_toList]; exact l2) (by decide)
      · obtain ⟨c, hc, rfl⟩ := List.mem_map.mp hx
        have := List.all_eq_true.mp o3 c hc
        and_intros
        refine w_inS ?_
        and_intros
        exact ⟨by simp [this], List.prefix_refl _⟩
      · and_intros
        refine w_nilNil (seq_lst (get_pre (List.prefix_append _ _) hn)) (seq_lst get_last) ?_
        exact .inl ⟨_, rfl, rfl, p.trans (List.prefix_append _ _)⟩
  · rw [show (decide ((1 : Int) ≤ z.length)) = true from decide_eq_true (by omega)] at hb; cases hb
end
end Lw
set_option Elab.async false
set_option linter.all false
set_option maxRecDepth 100000
set_option maxHeartbeats 4000000
/-! Ub: k01: the law's own look at recipes and works. -/
namespace Lw
open PySem PySem.Spec PyProof.Rows L2 Mn
section
variable {S : Bxs} {size : Nat} {ks hs rs : List Dt} {w : Dt}
/-- the places where items are above 0 -/
def posJ (is : List Int) : List Int := ((List.range is.length).filter fun i : Nat => decide (0 < (is[i]?).getD 0)).map fun i : Nat => (i : Int)
def posP (is : List Int) (x : Dt) : Bool := match x with
  | .int i => decide (0 < (is[i.toNat]?).getD 0)
  | _ => false
theorem rg_filter (is : List Int) : (rgD 0 is.length).filter (posP is) = (posJ is).map Dt.int := by
  unfold posJ rgD
  rw [List.filter_map, List.map_map]
  have e1 : (posP is ∘ fun i : Nat => Dt.int (0 + (i : Int))) = fun i : Nat => decide (0 < (is[i]?).getD 0) := by
    funext i
    show decide (0 < (is[(0 + (i : Int)).toNat]?).getD 0) = _
    rw [show (0 + (i : Int)).toNat = i by omega]
  rw [e1]
  refine List.map_congr_left fun i _ => ?_
  show Dt.int (0 + (i : Int)) = Dt.int (i : Int)
  rw [Int.zero_add]
theorem posJ_mem {is : List Int} {j : Int} (h : j ∈ posJ is) : ∃ k : Nat, j = (k : Int) ∧ k < is.length ∧ ∃ v, is[k]? = some v ∧ 0 < v := by
  obtain ⟨k, hk, rfl⟩ := List.mem_map.mp h
  obtain ⟨h1, h2⟩ := List.mem_filter.mp hk
  have hl : k < is.length := List.mem_range.mp h1
  have e := of_decide_eq_true h2
  rw [List.getElem?_eq_getElem hl] at e
  exact ⟨k, rfl, hl, _, List.getElem?_eq_getElem hl, e⟩
theorem lrecipe_ok {d h : Dt} {ts us : List Int} (kl : ks.length = size) (s1 : size ≤ 5) (hmm : ∀ x ∈ hs, x ∈ menuD) (R : Recipe size hs d ts us h) : (F__law_is_recipe [.tup ks, .tup hs, d] S).Wp (fun r S' => r = .bl true ∧ S <+: S') noX := by
  have hhh := R.hh
  have rtl := R.tl
  have rul := R.ul
  obtain ⟨l, ⟨tv, ht, htv⟩, zt, zu⟩ := R.sb
  have tpos := R.tb.pos
  have upos := R.ub.pos
  have hre := R.eq
  subst hre
  refine w_body ?_
  unfold B__law_is_recipe
  simp only [startD, List.map_cons, List.map_nil, List.length_cons, List.length_nil, List.cons_append, List.nil_append, Nat.reduceAdd, Nat.reduceSub, List.replicate, List.replicate_succ, List.replicate_zero]
  refine w_cons (w_if (w_or (w_not (w_true (w_isi (w_var rfl ⟨true, by show kitB "tuple" "tuple" = _; decide +kernel, true, rfl, ⟨fun z => (nomatch z), fun _ => ?_⟩⟩))))))
  and_intros
  refine w_neI ?_
  refine ⟨_, rfl, fun z => (by simp at z), fun _ => ?_⟩
  and_intros
  rw [kl]
  refine (llot_ok (n := size) rtl tpos (by omega)).mono (fun r S1 ⟨e1, p1⟩ => ?_) fun _ _ _ q => q
  subst e1
  refine ⟨true, rfl, (fun z => nomatch z), fun _ => ?_⟩
  and_intros
  rw [kl]
  refine (llot_ok (n := size) rul upos (by omega)).mono (fun r S2 ⟨e1, p2⟩ => ?_) fun _ _ _ q => q
  subst e1
  refine ⟨true, rfl, (fun z => nomatch z), fun _ => ?_⟩
  refine w_sNil (c_nx ?_)
  have p12 := p1.trans p2
  clear p1 p2
  refine w_cons (w_set (w_lcP ?_))
  and_intros
  rw [kl]
  refine ⟨⟨by show -(2 ^ 62) ≤ (size : Int); omega, by show (size : Int) < 2 ^ 62; omega⟩, posP ts, fun x d => d = x, ?_, fun _ _ => trivial, fun x S' hx p => ?_, fun ds S' he hn p => ?_⟩
  · show (rgD 0 ((size : Int)).toNat).length < LIM
    rw [rgD_len]
    exact Nat.lt_of_le_of_lt (show ((size : Int)).toNat ≤ 5 by omega) (by decide)
  · obtain ⟨j, hj⟩ := List.mem_iff_getElem?.mp hx
    have e := rgD_get hj
    subst e
    have jl : j < size := by
      have := (List.getElem?_eq_some_iff.mp hj).1
      rw [rgD_len] at this
      omega
    and_intros
    refine w_idxT (by omega) (by rw [List.length_map, rtl]; omega) fun d hd => ?_
    rw [show (0 + (j : Int)).toNat = j by omega, List.getElem?_map] at hd
    have hj2 : j < ts.length := by omega
    rw [List.getElem?_eq_getElem hj2] at hd
    cases hd
    and_intros
    refine ⟨?_, fun _ => List.prefix_refl _, fun _ => ?_⟩
    · show decide (ts[j] > 0) = decide (0 < (ts[(0 + (j : Int)).toNat]?).getD 0)
      rw [show (0 + (j : Int)).toNat = j by omega, List.getElem?_eq_getElem hj2]; rfl
    · and_intros
      exact ⟨rfl, List.prefix_refl _⟩
  have es : ds = (posJ ts).map Dt.int := by
    have := Each.map (f := id) he
    rw [List.map_id] at this
    rw [this, show ((size : Int)).toNat = ts.length by omega, rg_filter]
  subst es
  have ne : posJ ts ≠ [] := by
    intro z
    have : (l : Int) ∈ posJ ts := List.mem_map.mpr ⟨l, List.mem_filter.mpr ⟨List.mem_range.mpr (List.getElem?_eq_some_iff.mp ht).1, by rw [ht]; exact decide_eq_true htv⟩, rfl⟩
    rw [z] at this; cases this
  obtain ⟨k, ek, kl2, v, hk, hv⟩ := posJ_mem (maxI_mem ne)
  have hkl : k ≤ l := by
    rcases Nat.lt_or_ge l k with z | z
    · have := zt k v z hk; omega
    · exact z
  have sm : ∀ d ∈ (posJ ts).map Dt.int, Sm 59 d 4 := fun d hd => by
    obtain ⟨j, hj, rfl⟩ := List.mem_map.mp hd
    obtain ⟨k, rfl, hk, _⟩ := posJ_mem hj
    exact Sm.int (n := 58) 3 (by decide) (by decide) (Nat.lt_of_le_of_lt (show ((k : Nat) : Int).natAbs ≤ 5 by omega) (by decide))
  have emp : ((posJ ts).map Dt.int).isEmpty = false := by
    cases e : posJ ts with
    | nil => exact absurd e ne
    | cons a b => rfl
  and_intros
  have hn2 := get_pre (List.prefix_append S' [MBox.lst []]) hn
  refine w_neNil (seq_lst hn2) (seq_lst get_last) sm ?_
  rw [emp]
  refine ⟨_, rfl, (fun z => nomatch z), fun _ => ?_⟩
  have p3 := (p12.trans p).trans (List.prefix_append S' [MBox.lst []])
  generalize S' ++ [MBox.lst []] = S3 at hn2 p3 ⊢
  refine w_true (w_bin (w_lcNone ?_))
  and_intros
  refine w_maxB (seq_lst hn2) ne ?_
  and_intros
  rw [ek]
  refine ⟨⟨by show -(2 ^ 62) ≤ (k : Int) + 1; omega, by show (k : Int) + 1 < 2 ^ 62; omega⟩, ?_, fun _ _ => trivial, fun x S4 hx p4 => ?_, fun S4 hn4 p4 => ?_⟩
  · show (rgD 0 ((k : Int) + 1).toNat).length < LIM
    rw [rgD_len]
    exact Nat.lt_of_le_of_lt (show ((k : Int) + 1).toNat ≤ 6 by omega) (by decide)
  · obtain ⟨j, hj⟩ := List.mem_iff_getElem?.mp hx
    have e := rgD_get hj
    subst e
    have jk : j ≤ k := by
      have := (List.getElem?_eq_some_iff.mp hj).1
      rw [rgD_len] at this
      omega
    and_intros
    refine w_idxT (by omega) (by rw [List.length_map, rul]; omega) fun d hd => ?_
    rw [show (0 + (j : Int)).toNat = j by omega, List.getElem?_map] at hd
    have hj2 : j < us.length := by omega
    rw [List.getElem?_eq_getElem hj2] at hd
    cases hd
    have u0 := zu j _ (by omega) (List.getElem?_eq_getElem hj2)
    and_intros
    rw [u0]
    exact ⟨by decide, List.prefix_refl _⟩
  · and_intros
    refine w_nilNil (seq_lst (get_pre (List.prefix_append _ _) hn4)) (seq_lst get_last) ?_
    refine ⟨_, rfl, (fun z => nomatch z), fun _ => ?_⟩
    refine w_sNil (c_nx ?_)
    have p5 := (p3.trans p4).trans (List.prefix_append S4 [MBox.lst []])
    generalize S4 ++ [MBox.lst []] = S5 at p5 ⊢
    refine w_ret (w_orV (w_isN ?_))
    and_intros
    rcases hhh with rfl | hh
    · exact ⟨fun _ => .inl ⟨_, rfl, rfl, p5⟩, fun z => nomatch z⟩
    · obtain ⟨z, rfl⟩ := menu_str (hmm h hh)
      refine ⟨(fun z => nomatch z), fun _ => ?_⟩
      refine w_andV (w_isi ?_)
      and_intros
      refine ⟨fun _ => ?_, fun z => nomatch z⟩
      and_intros
      refine w_inT rfl (menu_all hmm) ?_
      rw [any_in (hmm _ hh) hh]
      exact .inl ⟨_, rfl, rfl, p5⟩
end
end Lw
set_option Elab.async false
set_option linter.all false
set_option maxRecDepth 100000
set_option maxHeartbeats 4000000
/-! Uc: k01: the law's own look at works. -/
namespace Lw
open PySem PySem.Spec PyProof.Rows L2 Mn
section
variable {S : Bxs} {size : Nat} {ks hs rs : List Dt} {w : Dt}
theorem Works.both (W : Works w size ks hs rs) : (ks ++ hs).Nodup ∧ (∀ x ∈ ks ++ hs, x ∈ menuD) ∧ (ks ++ hs).length ≤ 8 := by
  refine ⟨List.nodup_append.mpr ⟨W.kn, W.hn, fun x hx y hy e => W.kh y hy (e ▸ hx)⟩, fun x hx => ?_, ?_⟩
  · rcases List.mem_append.mp hx with z | z
    · exact W.km x z
    · exact W.hm x z
  · rw [List.length_append]; have := W.kl; have := W.s1; have := W.hl; omega
theorem lworks_ok (W : Works w size ks hs rs) : (F__law_is_works [w] S).Wp (fun r S' => r = .bl true ∧ S <+: S') noX := by
  obtain ⟨nd, mm, l8⟩ := W.both
  have kl := W.kl
  have s0 := W.s0
  have s1 := W.s1
  have hl := W.hl
  have rl := W.rl
  have rr := W.rr
  have hmm := W.hm
  have hwe := W.eq
  subst hwe
  obtain ⟨zs, ez⟩ := menu_zs mm
  refine w_body ?_
  unfold B__law_is_works
  simp only [startD, List.map_cons, List.map_nil, List.length_cons, List.length_nil, List.cons_append, List.nil_append, Nat.reduceAdd, Nat.reduceSub, List.replicate, List.replicate_succ, List.replicate_zero]
  refine w_cons (w_if (w_or (w_not (w_true (w_isi (w_var rfl ⟨true, by show kitB "tuple" "tuple" = _; decide +kernel, true, rfl, ⟨fun z => (nomatch z), fun _ => ?_⟩⟩))))))
  and_intros
  refine w_neI ?_
  refine ⟨_, rfl, fun z => (by simp at z), fun _ => ?_⟩
  refine w_true (w_bin (w_lcNone ?_))
  and_intros
  refine ⟨Nat.le_of_ble_eq_true rfl, fun _ _ => rfl, fun x S' hx p => ?_, fun S' hn p => ?_⟩
  · have ex : ∃ ys, x = .tup ys := by
      simp only [List.mem_cons, List.not_mem_nil, or_false] at hx
      rcases hx with e | e | e <;> exact ⟨_, e⟩
    obtain ⟨ys, rfl⟩ := ex
    and_intros
    refine w_isi ?_
    and_intros
    exact ⟨rfl, List.prefix_refl _⟩
  and_intros
  refine w_nilNil (seq_lst (get_pre (List.prefix_append _ _) hn)) (seq_lst get_last) ?_
  refine ⟨_, rfl, (fun z => nomatch z), fun _ => ?_⟩
  refine w_sNil (c_nx ?_)
  have p1 := p.trans (List.prefix_append S' [MBox.lst []])
  clear hn p
  generalize S' ++ [MBox.lst []] = S1 at p1 ⊢
  and_intros
  refine w_chain ?_
  and_intros
  rw [kl]
  refine ⟨fun _ => ?_, fun z => absurd (of_decide_eq_false z) (by omega)⟩
  and_intros
  refine ⟨fun z => ?_, fun _ => ?_⟩
  · exfalso
    have z2 : decide ((size : Int) ≤ 5) = false := by simpa using z
    exact absurd (of_decide_eq_false z2) (by omega)
  and_intros
  rw [List.length_append] at l8
  refine ⟨fun z => absurd (of_decide_eq_true z) (by omega), fun _ => ?_⟩
  and_intros
  refine ⟨fun z => absurd (of_decide_eq_true z) (by omega), fun _ => ?_⟩
  refine w_true (w_bin (w_lcNone ?_))
  and_intros
  refine w_addT (Nat.le_trans l8 (by decide)) ?_
  and_intros
  refine ⟨Nat.lt_of_le_of_lt (show (ks ++ hs).length ≤ 8 by rw [List.length_append]; exact l8) (by decide), fun _ _ => rfl, fun x S' hx p => ?_, fun S' hn p => ?_⟩
  · and_intros
    refine (lname_ok (mm x hx)).mono (fun r S2 ⟨e1, p2⟩ => ?_) fun _ _ _ q => q
    subst e1
    exact ⟨true, rfl, rfl, p2⟩
  and_intros
  refine w_nilNil (seq_lst (get_pre (List.prefix_append _ _) hn)) (seq_lst get_last) ?_
  refine ⟨_, rfl, (fun z => nomatch z), fun _ => ?_⟩
  refine w_sNil (c_nx ?_)
  have p2 := (p1.trans p).trans (List.prefix_append S' [MBox.lst []])
  clear hn p
  generalize S' ++ [MBox.lst []] = S2 at p2 ⊢
  refine w_cons (w_if (w_true (w_bin (w_lenSetS ?_))))
  and_intros
  refine w_addT (Nat.le_trans l8 (by decide)) ?_
  have ndz : zs.Nodup := by
    rw [ez] at nd
    exact (List.pairwise_map.mp nd).imp fun h e => h (congrArg Dt.str e)
  have zl : zs.length = ks.length + hs.length := by rw [← List.length_append, ez, List.length_map]
  refine ⟨zs, congrArg Dt.tup ez, ndz, by omega, ?_⟩
  and_intros
  refine w_addT (Nat.le_trans l8 (by decide)) ?_
  and_intros
  refine w_neI ?_
  refine ⟨_, rfl, fun z => ?_, fun _ => ?_⟩
  · exfalso
    rw [List.length_append, zl] at z
    simp at z
  refine w_sNil ⟨fun _ => ?_, fun z => absurd rfl z⟩
  refine w_ret (w_bin (w_lcNone ?_))
  and_intros
  refine ⟨Nat.lt_of_le_of_lt rl (by decide), fun _ _ => rfl, fun x S' hx p => ?_, fun S' hn p => ?_⟩
  · obtain ⟨ts, us, h, R⟩ := rr x hx
    and_intros
    refine (lrecipe_ok kl s1 hmm R).mono (fun r S2 ⟨e1, p2⟩ => ?_) fun _ _ _ q => q
    subst e1
    exact ⟨true, rfl, rfl, p2⟩
  and_intros
  refine w_nilNil (seq_lst (get_pre (List.prefix_append _ _) hn)) (seq_lst get_last) ?_
  exact .inl ⟨_, rfl, rfl, (p2.trans p).trans (List.prefix_append _ _)⟩
end
end Lw
set_option Elab.async false
set_option linter.all false
set_option maxRecDepth 100000
set_option maxHeartbeats 4000000
/-! Ud: k01: alike, names, dicts from names to names. -/
namespace Mn
open PySem PySem.Spec PyProof.Rows L2
section
variable {S : Bxs} {E : Nat → List Dt → Bxs → Prop}
theorem w_eqF1 {x y : Dt} {P : Dt → Bxs → Prop} (h : (eqG false x y S).Wp P noX) : (eqF x y S).Wp P E := by
  obtain ⟨d, S', e, q⟩ := (w_eqE1 (E := noX) h).ok
  unfold eqF
  rw [e]
  exact ⟨q⟩
theorem w_reprF1 {ds : List Dt} {P : Dt → Bxs → Prop} (h : (reprG ds S).Wp P noX) : (reprF ds S).Wp P E := by
  obtain ⟨d, S', e, q⟩ := (w_reprD1 (E := noX) h).ok
  unfold reprF
  rw [e]
  exact ⟨q⟩
theorem w_ninF1 {x y : Dt} {P : Dt → Bxs → Prop} (h : (inG true x y S).Wp P noX) : (ninF x y S).Wp P E := by
  obtain ⟨d, S', e, q⟩ := (w_ninE1 (E := noX) h).ok
  unfold ninF
  rw [e]
  exact ⟨q⟩
theorem w_dictP2 {n : Nat} {xs : List Dt} {kvs : List (Key × Dt)} {P : Dt → Bxs → Prop} (e : S.seq n = some xs) (e2 : pairsD xs = some kvs) (h : P (.box S.length) (S ++ [MBox.dk (mergeD [] kvs)])) : (dictPG [.box n] S).Wp P E := by
  have q : dictPG [.box n] S = .ok (.box S.length) (S ++ [MBox.dk (mergeD [] kvs)]) := by
    unfold dictPG
    simp only [e, e2]
  rw [q]
  exact ⟨h⟩
theorem w_eqShown {p : PyData} {w : Nat} {x : Dt} {P : Dt → Bxs → Prop} (px : Pl S 60 x p w) (q : P (.bl true) S) : (eqG false (.str p.shown) (.str p.shown) S).Wp P E := by
  have e1 : pdo S (.str p.shown) = some (.str p.shown) := rfl
  have sh : SeqAt.shaped (.str p.shown) = true := by
    unfold SeqAt.shaped
    have := px.pf.ok
    simp [PyData.canLay0, PyData.depth, this]
  have x1 : eqG false (.str p.shown) (.str p.shown) S = .ok (.bl (if false then !PyData.eqv (.str p.shown) (.str p.shown) else PyData.eqv (.str p.shown) (.str p.shown))) S := by
    unfold eqG
    rw [e1]
    show (if SeqAt.shaped (.str p.shown) = true ∧ SeqAt.shaped (.str p.shown) = true then _ else _) = _
    rw [if_pos ⟨sh, sh⟩]
  have e2 : PyData.eqv (.str p.shown) (.str p.shown) = true := by simp [PyData.eqv]
  rw [e2] at x1
  rw [x1]
  exact ⟨q⟩
end
end Mn
namespace Lw
open PySem PySem.Spec PyProof.Rows L2 Mn
section
variable {S : Bxs} {size : Nat} {ks hs rs : List Dt} {w : Dt} {b c : Nat}
theorem alike3P_ok {x y : Dt} {p : PyData} {w : Nat} (px : Pl S 60 x p w) (py : Pl S 60 y p w) (hw : w ≤ 1000000) : (F__law_alike_v3 [x, y] S).Wp (fun r S' => r = .bl true ∧ S' = S) noX := by
  refine w_body ?_
  unfold B__law_alike_v3
  simp only [startD, List.map_cons, List.map_nil, List.length_cons, List.length_nil, List.cons_append, List.nil_append, Nat.reduceAdd, Nat.reduceSub, List.replicate, List.replicate_succ, List.replicate_zero]
  and_intros
  refine w_eqF1 (w_eq px py ?_)
  rw [px.pf.eqv]
  refine ⟨true, rfl, fun _ => ?_, fun z => nomatch z⟩
  and_intros
  refine w_reprF1 (w_repr px hw ?_)
  and_intros
  refine w_reprF1 (w_repr py hw ?_)
  refine w_eqF1 (w_eqShown px ?_)
  exact .inl ⟨_, rfl, rfl, rfl⟩
theorem alike3S_ok {x : Dt} {w : Nat} (h : Sm 60 x w) (hw : w ≤ 1000000) : (F__law_alike_v3 [x, x] S).Wp (fun r S' => r = .bl true ∧ S' = S) noX := by
  obtain ⟨p, hp⟩ := h
  exact alike3P_ok (hp S) (hp S) hw
/-- so many names -/
theorem namesN_ok {m : Nat} (hm : m ≤ 19) (B : Bag S b c) : (F__law_names [.box b, .int (m : Int)] S).Wp (fun d S' => ∃ r ys, d = .box r ∧ S.length ≤ r ∧ S'[r]? = some (.lst ys) ∧ ys.length = m ∧ ys.Nodup ∧ (∀ y ∈ ys, y ∈ menuD) ∧ Bag S' b c ∧ Fr b S S') noX := by
  refine w_body ?_
  unfold B__law_names
  simp only [startD, List.map_cons, List.map_nil, List.length_cons, List.length_nil, List.cons_append, List.nil_append, Nat.reduceAdd, Nat.reduceSub, List.replicate, List.replicate_succ, List.replicate_zero]
  and_intros
  refine w_addL (xs := menuD.take 13) (ys := menuD.drop 13) (lst_of (by simp; rfl)) (lst_of (by simp; rfl)) ?_
  refine w_newL (by decide) ?_
  and_intros
  have p : S <+: ((S ++ [MBox.lst (menuD.take 13)]) ++ [MBox.lst (menuD.drop 13)]) ++ [MBox.lst (menuD.take 13 ++ menuD.drop 13)] := by rw [List.append_assoc, List.append_assoc]; exact List.prefix_append _ _
  refine (mixed_ok (S := ((S ++ [MBox.lst (menuD.take 13)]) ++ [MBox.lst (menuD.drop 13)]) ++ [MBox.lst (menuD.take 13 ++ menuD.drop 13)]) (B.pre p) (seq_lst get_last) (by have := B.lt.1; simp; omega) (by decide)).mono (fun d S1 ⟨r, ys, ed, hr, e1, pm, B1, F1⟩ => ?_) fun _ _ _ q => q
  subst ed
  and_intros
  have hy : ys.length = 19 := pm.length_eq
  have hc : Mn.cutD ys none (some (m : Int)) = ys.take m := by
    unfold Mn.cutD
    rw [HT.sIx_none, List.drop_zero, Nat.sub_zero]
    show ys.take (HT.sIx ys.length ys.length (some ((m : Nat) : Int))) = _
    rw [HT.sIx_nat, hy, Nat.min_eq_left hm]
  refine w_slB (seq_lst e1) ?_
  rw [hc]
  have h8 : (ys.take m).length = m := by rw [List.length_take, hy]; exact Nat.min_eq_left hm
  refine w_newL (by rw [h8]; exact Nat.le_trans hm (by decide)) ?_
  have F2 := (Fr.pre (b := b) p).trans F1
  refine .inl ⟨_, rfl, _, _, rfl, F2.len, get_last, h8, ?_, fun y hy => ?_, B1.app, F2.app⟩
  · exact (pm.nodup_iff.mpr menu_nodup).sublist (List.take_sublist _ _)
  · exact pm.mem_iff.mp (List.mem_of_mem_take hy)
/-! ### names to names -/
def dkS (L : List (Str × Str)) : List (Key × Dt) := L.map fun p => (Sum.inr p.1, Dt.str p.2)
theorem pairs_dkS : ∀ L : List (Str × Str), pairsD (L.map fun p => Dt.tup [.str p.1, .str p.2]) = some (dkS L)
  | [] => rfl
  | p :: L => by
    rw [List.map_cons]
    unfold pairsD
    rw [pairs_dkS L]
    rfl
theorem merge_dkS : ∀ (L : List (Str × Str)) (acc : List (Key × Dt)), (L.map (·.1)).Nodup → (∀ p ∈ L, Sum.inr p.1 ∉ acc.map (·.1)) → mergeD acc (dkS L) = acc ++ dkS L
  | [], acc, _, _ => by unfold mergeD dkS; simp
  | p :: L, acc, hn, hd => by
    rw [List.map_cons, List.nodup_cons] at hn
    have hp : putD acc (Sum.inr p.1) (Dt.str p.2) = acc ++ [(Sum.inr p.1, Dt.str p.2)] := by
      unfold putD
      rw [if_neg]
      intro z
      obtain ⟨kv, h1, h2⟩ := List.any_eq_true.mp z
      exact hd p List.mem_cons_self (List.mem_map.mpr ⟨kv, h1, of_decide_eq_true h2⟩)
    show mergeD (putD acc (Sum.inr p.1) (Dt.str p.2)) (dkS L) = _
    rw [hp, merge_dkS L _ hn.2]
    · rw [List.append_assoc]; rfl
    · intro r hr z
      rw [List.map_append, List.mem_append] at z
      rcases z with z | z
      · exact hd r (List.mem_cons_of_mem _ hr) z
      · have z : (Sum.inr r.1 : Key) = Sum.inr p.1 := by simpa using z
        exact hn.1 (List.mem_map.mpr ⟨r, hr, Sum.inr.inj z⟩)
theorem val_dkS : ∀ {L : List (Str × Str)} {k v : Str}, (L.map (·.1)).Nodup → (k, v) ∈ L → valD (dkS L) (.inr k) = some (.str v)
  | [], _, _, _, h => by cases h
  | p :: L, k, v, hn, h => by
    rw [List.map_cons, List.nodup_cons] at hn
    unfold valD dkS
    rw [List.map_cons, List.find?_cons]
    by_cases e : p.1 = k
    · rw [show decide ((Sum.inr p.1, Dt.str p.2).1 = (Sum.inr k : Key)) = true from decide_eq_true (by rw [← e])]
      rcases List.mem_cons.mp h with z | z
      · rw [← z]; rfl
      · exact absurd (List.mem_map.mpr ⟨(k, v), z, rfl⟩) (e ▸ hn.1)
    · rw [show decide ((Sum.inr p.1, Dt.str p.2).1 = (Sum.inr k : Key)) = false from decide_eq_false fun z => e (Sum.inr.inj z)]
      rcases List.mem_cons.mp h with z | z
      · rw [← z] at e; exact absurd rfl e
      · exact val_dkS hn.2 z
/-- a name's new name -/
def nmD (L : List (Str × Str)) : Dt → Dt
  | .str z => (valD (dkS L) (.inr z)).getD .non
  | _ => .non
theorem nmD_str {L : List (Str × Str)} {z : Str} : nmD L (.str z) = (valD (dkS L) (.inr z)).getD .non := rfl
theorem w_ixNm {n : Nat} {L : List (Str × Str)} {x : Dt} {E : Nat → List Dt → Bxs → Prop} {P : Dt → Bxs → Prop} (e : S[n]? = some (.dk (dkS L))) (hn : (L.map (·.1)).Nodup) (hx : ∃ p ∈ L, x = .str p.1) (h : P (nmD L x) S) : (ixG (.box n) x S).Wp P E := by
  obtain ⟨p, hp, rfl⟩ := hx
  have v := val_dkS hn hp
  have z : ixG (.box n) (.str p.1) S = .ok (.str p.2) S := by
    show ixG0 (.box n) (.str p.1) S = _
    unfold ixG0
    rw [show dkO S (.box n) = some (dkS L) from dkR_of e]
    show (match valD (dkS L) (.inr p.1) with
      | some d => Rs.ok d S
      | none => .no) = _
    rw [v]
  rw [z]
  have : nmD L (.str p.1) = .str p.2 := by rw [nmD_str, v]; rfl
  rw [this] at h
  exact ⟨h⟩
/-- the names stand for new ones -/
structure Nms (L : List (Str × Str)) (old : List Dt) : Prop where
  kn : (L.map (·.1)).Nodup
  vn : (L.map (·.2)).Nodup
  vm : ∀ p ∈ L, Dt.str p.2 ∈ menuD
  has : ∀ x ∈ old, ∃ p ∈ L, x = .str p.1
theorem Nms.get {L : List (Str × Str)} {old : List Dt} (N : Nms L old) {x : Dt} (hx : x ∈ old) : ∃ p ∈ L, x = .str p.1 ∧ nmD L x = .str p.2 := by
  obtain ⟨p, hp, rfl⟩ := N.has x hx
  exact ⟨p, hp, rfl, by rw [nmD_str, val_dkS N.kn hp]; rfl⟩
theorem Nms.menu {L : List (Str × Str)} {old : List Dt} (N : Nms L old) {x : Dt} (hx : x ∈ old) : nmD L x ∈ menuD := by
  obtain ⟨p, hp, _, e⟩ := N.get hx
  rw [e]; exact N.vm p hp
theorem nodup_snd {L : List (Str × Str)} (h : (L.map (·.2)).Nodup) : ∀ {p q : Str × Str}, p ∈ L → q ∈ L → p.2 = q.2 → p = q := fun {p q} hp hq e => by
  obtain ⟨i, hi⟩ := List.mem_iff_getElem?.mp hp
  obtain ⟨j, hj⟩ := List.mem_iff_getElem?.mp hq
  obtain ⟨li, ei⟩ := List.getElem?_eq_some_iff.mp hi
  obtain ⟨lj, ej⟩ := List.getElem?_eq_some_iff.mp hj
  have pw := List.pairwise_iff_getElem.mp h
  have q1 : (L.map (·.2))[i]'(by rw [List.length_map]; exact li) = p.2 := by rw [List.getElem_map, ei]
  have q2 : (L.map (·.2))[j]'(by rw [List.length_map]; exact lj) = q.2 := by rw [List.getElem_map, ej]
  rcases Nat.lt_trichotomy i j with z | z | z
  · exact absurd (q1.trans (e.trans q2.symm)) (pw i j _ _ z)
  · subst z; rw [← ei, ← ej]
  · exact absurd (q2.trans (e.symm.trans q1.symm)) (pw j i _ _ z)
theorem Nms.inj {L : List (Str × Str)} {old : List Dt} (N : Nms L old) {x y : Dt} (hx : x ∈ old) (hy : y ∈ old) (e : nmD L x = nmD L y) : x = y := by
  obtain ⟨p, hp, ex, e1⟩ := N.get hx
  obtain ⟨q, hq, ey, e2⟩ := N.get hy
  rw [e1, e2] at e
  have := nodup_snd N.vn hp hq (Dt.str.inj e)
  rw [ex, ey, this]
end
end Lw
set_option Elab.async false
set_option linter.all false
set_option maxRecDepth 100000
set_option maxHeartbeats 4000000
/-! Ue: k01: renamed works. -/
namespace Lw
open PySem PySem.Spec PyProof.Rows L2 Mn
section
variable {S : Bxs} {size : Nat} {ks hs rs : List Dt} {w : Dt} {b c n : Nat} {L : List (Str × Str)}
def handN (L : List (Str × Str)) (h : Dt) : Dt := if h.isN = true then .non else nmD L h
/-- a recipe whose hand has its new name -/
def rnR (L : List (Str × Str)) : Dt → Dt
  | .tup [a, b, h] => .tup [a, b, handN L h]
  | r => r
def rnW (L : List (Str × Str)) (ks hs rs : List Dt) : Dt := .tup [.tup (ks.map (nmD L)), .tup (hs.map (nmD L)), .tup (rs.map (rnR L))]
theorem nodup_map {f : Dt → Dt} {xs : List Dt} (h : xs.Nodup) (inj : ∀ x ∈ xs, ∀ y ∈ xs, f x = f y → x = y) : (xs.map f).Nodup := by
  induction xs with
  | nil => exact List.nodup_nil
  | cons a xs ih =>
    rw [List.nodup_cons] at h
    rw [List.map_cons, List.nodup_cons]
    refine ⟨fun z => ?_, ih h.2 fun x hx y hy => inj x (List.mem_cons_of_mem _ hx) y (List.mem_cons_of_mem _ hy)⟩
    obtain ⟨y, hy, e⟩ := List.mem_map.mp z
    have := inj y (List.mem_cons_of_mem _ hy) a List.mem_cons_self e
    exact h.1 (this ▸ hy)
theorem Works.renamed (W : Works w size ks hs rs) (N : Nms L (ks ++ hs)) : Works (rnW L ks hs rs) size (ks.map (nmD L)) (hs.map (nmD L)) (rs.map (rnR L)) := by
  have inK : ∀ x ∈ ks, x ∈ ks ++ hs := fun x hx => List.mem_append_left _ hx
  have inH : ∀ x ∈ hs, x ∈ ks ++ hs := fun x hx => List.mem_append_right _ hx
  refine ⟨rfl, by rw [List.length_map]; exact W.kl, W.s0, W.s1, by rw [List.length_map]; exact W.hl, nodup_map W.hn fun x hx y hy e => N.inj (inH x hx) (inH y hy) e, fun x hx => ?_, fun x hx => ?_, by rw [List.length_map]; exact W.rl, fun r hr => ?_,
    nodup_map W.kn fun x hx y hy e => N.inj (inK x hx) (inK y hy) e, fun x hx z => ?_⟩
  · obtain ⟨y, hy, rfl⟩ := List.mem_map.mp hx
    exact N.menu (inK y hy)
  · obtain ⟨y, hy, rfl⟩ := List.mem_map.mp hx
    exact N.menu (inH y hy)
  · obtain ⟨y, hy, rfl⟩ := List.mem_map.mp hr
    obtain ⟨ts, us, h, R⟩ := W.rr y hy
    refine ⟨ts, us, handN L h, by rw [R.eq]; rfl, R.tl, R.ul, R.tb, R.ub, R.tp, ?_, R.sb⟩
    rcases R.hh with e | e
    · subst e; exact .inl rfl
    · obtain ⟨z, rfl⟩ := menu_str (W.hm h e)
      exact .inr (List.mem_map.mpr ⟨_, e, rfl⟩)
  · obtain ⟨y, hy, e1⟩ := List.mem_map.mp hx
    obtain ⟨y2, hy2, e2⟩ := List.mem_map.mp z
    have := N.inj (inH y hy) (inK y2 hy2) (e1.trans e2.symm)
    exact W.kh y hy (this ▸ hy2)
/-- each name's new name, in order -/
theorem lcNames {E : Nat → List Dt → Bxs → Prop} {σ : Sg} {xs : List Dt} {v i : Nat} {src : Src Dt} {P : Dt → Bxs → Prop} (N : Nms L xs) (hx : xs.length ≤ 1000) (e : S[n]? = some (.dk (dkS L)))
    (hs : (src σ S).Wp (fun r S1 => r.1 = xs ∧ (∀ S', S1 <+: S' → r.2 S') ∧ S1 = S) E) (hv : ∀ x : Dt, ((wipeD σ [v]).set v (some x))[v]? = some (some x)) (hi : ∀ x : Dt, ((wipeD σ [v]).set v (some x))[i]? = some (some (.box n)))
    (h : ∀ S', S'[S.length]? = some (.lst (xs.map (nmD L))) → S <+: S' → P (.box S.length) S') : (dLc src (tName v) bYes (dBin ixG (dVar i) (dVar v)) [v] σ S).Wp P E := by
  refine w_lcD (hs.mono (fun r S1 ⟨e1, e2, e3⟩ => ?_) fun _ _ _ q => q)
  subst e3
  refine ⟨nmD L, by rw [e1]; exact Nat.lt_of_le_of_lt hx (by decide), e2, fun x S' hm p => ?_, fun S' hn p => h S' (by rw [← e1]; exact hn) p⟩
  rw [e1] at hm
  refine w_tName (w_bin (w_var (hi x) (w_var (hv x) ?_)))
  refine w_ixNm (get_pre p e) N.kn (N.has x hm) ⟨rfl, List.prefix_refl _⟩
theorem Nms.sub {xs ys : List Dt} (N : Nms L ys) (h : ∀ x ∈ xs, x ∈ ys) : Nms L xs := ⟨N.kn, N.vn, N.vm, fun x hx => N.has x (h x hx)⟩
theorem lrenamed_ok (W : Works w size ks hs rs) (N : Nms L (ks ++ hs)) (e : S[n]? = some (.dk (dkS L))) : (F__law_renamed [w, .box n] S).Wp (fun r S' => r = rnW L ks hs rs ∧ S <+: S') noX := by
  have kl := W.kl
  have s1 := W.s1
  have hl := W.hl
  have rl := W.rl
  have rr := W.rr
  have hmm := W.hm
  have hwe := W.eq
  subst hwe
  have NK : Nms L ks := N.sub fun x hx => List.mem_append_left _ hx
  have NH : Nms L hs := N.sub fun x hx => List.mem_append_right _ hx
  refine w_body ?_
  unfold B__law_renamed
  simp only [startD, List.map_cons, List.map_nil, List.length_cons, List.length_nil, List.cons_append, List.nil_append, Nat.reduceAdd, Nat.reduceSub, List.replicate, List.replicate_succ, List.replicate_zero]
  refine w_cons (w_set (w_lcD ?_))
  and_intros
  refine ⟨rnR L, Nat.lt_of_le_of_lt rl (by decide), fun _ _ => rfl, fun x S' hx p => ?_, fun S' hn p => ?_⟩
  · obtain ⟨ts, us, h, R⟩ := rr x hx
    have ex := R.eq
    subst ex
    and_intros
    refine ⟨fun z => ?_, fun z => ?_⟩
    · and_intros
      refine ⟨Nat.le_of_ble_eq_true rfl, ?_, List.prefix_refl _⟩
      show _ = Dt.tup [_, _, handN L h]
      unfold handN
      rw [if_pos z]
    · and_intros
      have hh : h ∈ hs := by
        rcases R.hh with e0 | e0
        · subst e0; cases z
        · exact e0
      refine w_ixNm (get_pre p e) N.kn (NH.has h hh) ?_
      and_intros
      refine ⟨Nat.le_of_ble_eq_true rfl, ?_, List.prefix_refl _⟩
      show _ = Dt.tup [_, _, handN L h]
      unfold handN
      rw [if_neg (by rw [z]; exact Bool.false_ne_true)]
  and_intros
  refine lcNames NK (by omega) (get_pre p e) ?_ (fun _ => rfl) (fun _ => rfl) fun S2 h2 p2 => ?_
  · and_intros
    exact ⟨rfl, fun _ _ => rfl, rfl⟩
  and_intros
  refine w_tupB (seq_lst h2) ?_
  and_intros
  refine lcNames NH (by omega) (get_pre (p.trans p2) e) ?_ (fun _ => rfl) (fun _ => rfl) fun S3 h3 p3 => ?_
  · and_intros
    exact ⟨rfl, fun _ _ => rfl, rfl⟩
  and_intros
  refine w_tupB (seq_lst h3) ?_
  and_intros
  refine w_tupB (seq_lst (get_pre (p2.trans p3) hn)) ?_
  and_intros
  exact ⟨Nat.le_of_ble_eq_true rfl, .inl ⟨_, rfl, rfl, (p.trans p2).trans p3⟩⟩
end
end Lw
set_option Elab.async false
set_option linter.all false
set_option maxRecDepth 100000
set_option maxHeartbeats 4000000
/-! Uf: k01: the package's renamed works; a further hand; a longer crew. -/
namespace Lw
open PySem PySem.Spec PyProof.Rows L2 Mn
section
variable {S : Bxs} {size : Nat} {ks hs rs : List Dt} {w : Dt} {b c n : Nat} {L : List (Str × Str)}
theorem prenamed_ok (W : Works w size ks hs rs) (N : Nms L (ks ++ hs)) (e : S[n]? = some (.dk (dkS L))) : (F_renamed_works [w, .box n] S).Wp (fun r S' => r = rnW L ks hs rs ∧ S <+: S') noX := by
  have kl := W.kl
  have s1 := W.s1
  have hl := W.hl
  have rl := W.rl
  have rr := W.rr
  have hwe := W.eq
  subst hwe
  have NK : Nms L ks := N.sub fun x hx => List.mem_append_left _ hx
  have NH : Nms L hs := N.sub fun x hx => List.mem_append_right _ hx
  refine w_body ?_
  unfold B_renamed_works
  simp only [startD, List.map_cons, List.map_nil, List.length_cons, List.length_nil, List.cons_append, List.nil_append, Nat.reduceAdd, Nat.reduceSub, List.replicate, List.replicate_succ, List.replicate_zero]
  and_intros
  have ea : (S ++ [MBox.lst []])[S.length]? = some (.lst []) := get_last
  have p2 : S <+: S ++ [MBox.lst []] := List.prefix_append _ _
  generalize S ++ [MBox.lst []] = S2 at ea p2 ⊢
  refine w_loop (fun i σ S' => ∃ d6 d7 d8, σ = [some (.tup [.tup ks, .tup hs, .tup rs]), some (.box n), some (.tup ks), some (.tup hs), some (.tup rs), some (.box S.length), d6, d7, d8, none] ∧ S'[S.length]? = some (.lst ((rs.take i).map (rnR L))) ∧ S <+: S') (fun _ _ _ _ => rfl)
    (fun i x σ S3 hx ⟨d6, d7, d8, eσ, hL, p3⟩ => ?_) (fun σ S3 ⟨d6, d7, d8, eσ, hL, p3⟩ => ?_) ⟨_, _, _, rfl, ea, p2⟩
  · subst eσ
    have hil : i < rs.length := (List.getElem?_eq_some_iff.mp hx).1
    obtain ⟨ts, us, h, R⟩ := rr x (List.mem_of_getElem? hx)
    have et : (rs.take (i + 1)).map (rnR L) = (rs.take i).map (rnR L) ++ [rnR L x] := by rw [List.take_add_one, hx, List.map_append]; rfl
    have hlen : ((rs.take i).map (rnR L)).length < LIM := Nat.lt_of_le_of_lt (show ((rs.take i).map (rnR L)).length ≤ 8 by rw [List.length_map, List.length_take]; omega) (by decide)
    rw [et]
    have ex := R.eq
    subst ex
    and_intros
    refine ⟨ty_list hL, ?_⟩
    and_intros
    refine ⟨fun z => ?_, fun z => ?_⟩
    · and_intros
      refine ⟨Nat.le_of_ble_eq_true rfl, ?_⟩
      and_intros
      refine w_append (lst_of hL) hlen ?_
      refine .inl ⟨rfl, _, _, _, rfl, ?_, pre_set p3 (Nat.le_refl _)⟩
      rw [List.getElem?_set_self (get_lt hL)]
      show _ = some (MBox.lst (_ ++ [Dt.tup [_, _, handN L h]]))
      unfold handN
      rw [if_pos z]
    · and_intros
      have hh : h ∈ hs := by
        rcases R.hh with e0 | e0
        · subst e0; cases z
        · exact e0
      refine w_ixNm (get_pre p3 e) N.kn (NH.has h hh) ?_
      and_intros
      refine ⟨Nat.le_of_ble_eq_true rfl, ?_⟩
      and_intros
      refine w_append (lst_of hL) hlen ?_
      refine .inl ⟨rfl, _, _, _, rfl, ?_, pre_set p3 (Nat.le_refl _)⟩
      rw [List.getElem?_set_self (get_lt hL)]
      show _ = some (MBox.lst (_ ++ [Dt.tup [_, _, handN L h]]))
      unfold handN
      rw [if_neg (by rw [z]; exact Bool.false_ne_true)]
  · subst eσ
    refine c_nx ?_
    and_intros
    rw [List.take_length] at hL
    refine lcNames NK (by omega) (get_pre p3 e) ?_ (fun _ => rfl) (fun _ => rfl) fun S4 h4 p4 => ?_
    · and_intros
      exact ⟨rfl, fun _ _ => rfl, rfl⟩
    and_intros
    refine w_tupB (seq_lst h4) ?_
    and_intros
    refine lcNames NH (by omega) (get_pre (p3.trans p4) e) ?_ (fun _ => rfl) (fun _ => rfl) fun S5 h5 p5 => ?_
    · and_intros
      exact ⟨rfl, fun _ _ => rfl, rfl⟩
    and_intros
    refine w_tupB (seq_lst h5) ?_
    and_intros
    refine w_tupB (seq_lst (get_pre (p4.trans p5) hL)) ?_
    and_intros
    exact ⟨Nat.le_of_ble_eq_true rfl, .inl ⟨_, rfl, rfl, (p3.trans p4).trans p5⟩⟩
/-! ### a further hand -/
def inB (ys : List Dt) (x : Dt) : Bool := ys.any fun e => e.eqf x
theorem inB_app (xs ys : List Dt) (x : Dt) : inB (xs ++ ys) x = (inB xs x || inB ys x) := List.any_append
def handDue (ks hs rs : List Dt) (x : Dt) : Dt := if inB (ks ++ hs) x = true then .tup [.str "used", x] else if hs.length = 3 then .tup [.str "many", .int 3] else .tup [.str "told", .tup [.tup ks, .tup (hs ++ [x]), .tup rs]]
theorem lhand_ok (W : Works w size ks hs rs) {z : Str} : (F__law_hand_due [w, .str z] S).Wp (fun r S' => r = handDue ks hs rs (.str z) ∧ S' = S) noX := by
  obtain ⟨nd, mm, l8⟩ := W.both
  have hl := W.hl
  have kl := W.kl
  have hwe := W.eq
  subst hwe
  refine w_body ?_
  unfold B__law_hand_due
  simp only [startD, List.map_cons, List.map_nil, List.length_cons, List.length_nil, List.cons_append, List.nil_append, Nat.reduceAdd, Nat.reduceSub, List.replicate, List.replicate_succ, List.replicate_zero]
  and_intros
  refine w_addT (by rw [List.length_append] at l8; exact Nat.le_trans l8 (by decide)) ?_
  refine w_inT rfl (menu_all mm) ?_
  refine ⟨_, rfl, fun hb => ?_, fun hb => ?_⟩
  · and_intros
    refine ⟨Nat.le_of_ble_eq_true rfl, ?_⟩
    and_intros
    refine .inl ⟨_, rfl, ?_, trivial⟩
    unfold handDue inB
    exact (if_pos hb).symm
  · have hb : inB (ks ++ hs) (.str z) = false := hb
    refine w_sNil (c_nx ?_)
    and_intros
    refine ⟨fun h3 => ?_, fun h3 => ?_⟩
    · have h3 : hs.length = 3 := by have := of_decide_eq_true h3; omega
      and_intros
      refine ⟨Nat.le_of_ble_eq_true rfl, .inl ⟨_, rfl, ?_, rfl⟩⟩
      unfold handDue
      rw [if_neg (by rw [hb]; exact Bool.false_ne_true), if_pos h3]
    · have h3 : ¬ hs.length = 3 := by have := of_decide_eq_false h3; omega
      and_intros
      refine ⟨Nat.le_of_ble_eq_true rfl, ?_⟩
      refine w_addT (Nat.le_trans (show hs.length + 1 ≤ 4 by omega) (by decide)) ?_
      and_intros
      refine ⟨Nat.le_of_ble_eq_true rfl, ?_⟩
      and_intros
      refine ⟨Nat.le_of_ble_eq_true rfl, .inl ⟨_, rfl, ?_, rfl⟩⟩
      unfold handDue
      rw [if_neg (by rw [hb]; exact Bool.false_ne_true), if_neg h3]
theorem phand_ok (W : Works w size ks hs rs) {z : Str} : (F_with_hand [w, .str z] S).Wp (fun d S' => inB (ks ++ hs) (.str z) = false ∧ hs.length ≠ 3 ∧ d = .tup [.tup ks, .tup (hs ++ [.str z]), .tup rs] ∧ S' = S)
    (fun c es S' => S' = S ∧ ((c = 16 ∧ es = [.str z] ∧ inB (ks ++ hs) (.str z) = true) ∨ (c = 15 ∧ es = [.int 3] ∧ inB (ks ++ hs) (.str z) = false ∧ hs.length = 3))) := by
  have hl := W.hl
  have km := W.km
  have hm := W.hm
  have hwe := W.eq
  subst hwe
  rw [inB_app]
  refine w_body ?_
  unfold B_with_hand
  simp only [startD, List.map_cons, List.map_nil, List.length_cons, List.length_nil, List.cons_append, List.nil_append, Nat.reduceAdd, Nat.reduceSub, List.replicate, List.replicate_succ, List.replicate_zero]
  and_intros
  refine w_inT rfl (menu_all km) ?_
  have used : ∀ {S2 : Bxs} {Q : Fl × Sg → Bxs → Prop}, S2 = S → (inB ks (.str z) || inB hs (.str z)) = true → (sRaise 16 (aCons (dVar 1) aNil) [some (.tup [.tup ks, .tup hs, .tup rs]), some (.str z), some (.tup ks), some (.tup hs), some (.tup rs)] S2).Wp Q
      (fun c es S' => S' = S ∧ ((c = 16 ∧ es = [.str z] ∧ (inB ks (.str z) || inB hs (.str z)) = true) ∨ (c = 15 ∧ es = [.int 3] ∧ (inB ks (.str z) || inB hs (.str z)) = false ∧ hs.length = 3))) := fun {S2 Q} e1 e2 => by
    refine w_raise ?_
    and_intros
    exact ⟨e1, .inl ⟨rfl, rfl, e2⟩⟩
  refine ⟨_, rfl, fun hb => ⟨fun _ => used rfl (by rw [show inB ks (.str z) = true from hb]; rfl), fun y => nomatch y⟩, fun hb => ?_⟩
  and_intros
  refine w_inT rfl (menu_all hm) ?_
  refine ⟨_, rfl, fun hb2 => used rfl (by rw [show inB hs (.str z) = true from hb2, Bool.or_true]), fun hb2 => ?_⟩
  have nn : (inB ks (.str z) || inB hs (.str z)) = false := by rw [show inB ks (.str z) = false from hb, show inB hs (.str z) = false from hb2]; rfl
  refine w_sNil (c_nx ?_)
  and_intros
  refine ⟨fun h3 => ?_, fun h3 => ?_⟩
  · refine w_raise ?_
    and_intros
    have : (3 : Int) ≤ hs.length := by simpa using h3
    exact ⟨rfl, .inr ⟨rfl, rfl, nn, by omega⟩⟩
  · refine w_sNil (c_nx ?_)
    and_intros
    have : ¬ ((3 : Int) ≤ hs.length) := by simpa using h3
    refine ⟨Nat.le_of_ble_eq_true rfl, ?_⟩
    refine w_addT (Nat.le_trans (show hs.length + 1 ≤ 4 by omega) (by decide)) ?_
    and_intros
    exact ⟨Nat.le_of_ble_eq_true rfl, .inl ⟨_, rfl, nn, by omega, rfl, rfl⟩⟩
theorem whand_ok (W : Works w size ks hs rs) {z : Str} : (F__law_with_hand [w, .str z] S).Wp (fun r S' => r = handDue ks hs rs (.str z) ∧ S' = S) noX := by
  refine w_body ?_
  unfold B__law_with_hand
  simp only [startD, List.map_cons, List.map_nil, List.length_cons, List.length_nil, List.cons_append, List.nil_append, Nat.reduceAdd, Nat.reduceSub, List.replicate, List.replicate_succ, List.replicate_zero]
  refine w_try (w_ret (w_tup (w_consA (w_c (w_consA (w_callT (w_consA (w_var rfl (w_consA (w_var rfl (w_nil ?_)))))))))))
  refine (phand_ok (z := z) W).mono (fun d S1 ⟨h1, h2, ed, eS⟩ => ?_) fun c es S1 ⟨eS, hc⟩ => ?_
  · subst ed; subst eS
    refine w_nil ⟨Nat.le_of_ble_eq_true (by rfl), .inl ⟨_, rfl, ?_, rfl⟩⟩
    unfold handDue; rw [if_neg (by rw [h1]; exact Bool.false_ne_true), if_neg h2]
  · subst eS
    rcases hc with ⟨ec, ee, h1⟩ | ⟨ec, ee, h1, h2⟩
    · subst ec; subst ee
      refine ⟨_, _, rfl, ?_⟩
      rw [dec_enc]
      refine .of (show pickH [(16, hRet 2 "used" 0), (15, hRet 2 "many" 0), (18, fun _ => sRet (dTup (aCons (dC (.str "another")) (aCons (dC .non) (aNil)))))] 16 [.str z] [some w, some (.str z), none] S1 = .ok (.rt (.tup [.str "used", .str z]), [some w, some (.str z), none]) S1 from rfl) (.inl ⟨_, rfl, ?_, rfl⟩)
      unfold handDue; rw [if_pos h1]
    · subst ec; subst ee
      refine ⟨_, _, rfl, ?_⟩
      rw [dec_enc]
      refine .of (show pickH [(16, hRet 2 "used" 0), (15, hRet 2 "many" 0), (18, fun _ => sRet (dTup (aCons (dC (.str "another")) (aCons (dC .non) (aNil)))))] 15 [.int 3] [some w, some (.str z), none] S1 = .ok (.rt (.tup [.str "many", .int 3]), [some w, some (.str z), none]) S1 from rfl) (.inl ⟨_, rfl, ?_, rfl⟩)
      unfold handDue; rw [if_neg (by rw [h1]; exact Bool.false_ne_true), if_pos h2]
end
end Lw
set_option Elab.async false
set_option linter.all false
set_option maxRecDepth 100000
set_option maxHeartbeats 4000000
/-! Ug: k01: a longer crew; raw kinds. -/
namespace Lw
open PySem PySem.Spec PyProof.Rows L2 Mn
section
variable {S : Bxs} {size hl : Nat} {ks hs rs as : List Dt} {w d : Dt} {b c n : Nat} {pl : Int}
def ledA (m : Int) (a : Dt) : Dt := .tup [.int (arrS a), .int (arrT a), iv (lotA a), iv (crewA a ++ [m])]
theorem Arw.led {a : Dt} {s t : Int} {lot crew : List Int} (A : Arw pl size hl a s t lot crew) (m : Int) : ledA m a = .tup [.int s, .int t, iv lot, .tup (crew.map Dt.int ++ [.int m])] := by
  unfold ledA
  rw [A.src, A.tgt, A.lot, A.crew]
  show Dt.tup [.int s, .int t, iv lot, .tup ((crew ++ [m]).map Dt.int)] = _
  rw [List.map_append]; rfl
theorem pled_ok (A : Snd size hl d pl as) (h10 : hl ≤ 10) {m : Int} : (F_led_sender [d, .int m] S).Wp (fun r S' => r = .tup [.int pl, .tup (as.map (ledA m))] ∧ S <+: S') noX := by
  have hae := A.eq
  have aal := A.al
  subst hae
  refine w_body ?_
  unfold B_led_sender
  simp only [startD, List.map_cons, List.map_nil, List.length_cons, List.length_nil, List.cons_append, List.nil_append, Nat.reduceAdd, Nat.reduceSub, List.replicate, List.replicate_succ, List.replicate_zero]
  refine w_cons (w_asg (w_var rfl ?_))
  and_intros
  refine w_lcD ?_
  and_intros
  refine ⟨ledA m, Nat.lt_of_le_of_lt aal (by decide), fun _ _ => rfl, fun x S' hx p => ?_, fun S' hn p => ?_⟩
  · obtain ⟨s, t, lot, crew, R⟩ := A.ar x hx
    have el := R.led m
    have cl := R.cl
    have ex := R.eq
    subst ex
    and_intros
    refine ⟨Nat.le_of_ble_eq_true rfl, ?_⟩
    refine w_addT (xs := crew.map Dt.int) (ys := [.int m]) (show (crew.map Dt.int).length + 1 ≤ LIM by rw [List.length_map, cl]; exact Nat.le_trans (show hl + 1 ≤ 11 by omega) (by decide)) ?_
    and_intros
    exact ⟨Nat.le_of_ble_eq_true rfl, el.symm, List.prefix_refl _⟩
  and_intros
  refine w_tupB (seq_lst hn) ?_
  and_intros
  exact ⟨Nat.le_of_ble_eq_true rfl, .inl ⟨_, rfl, rfl, p⟩⟩
/-! ### raw kinds -/
def putB (r : Dt) (k : Nat) : Bool := decide (0 < ((ptD r)[k]?).getD 0)
def isPut (rs : List Dt) (k : Nat) : Bool := rs.any fun r => putB r k
def rawL (ks rs : List Dt) : List Dt := ((List.range ks.length).filter fun i => !isPut rs i).map fun i => (ks[i]?).getD .non
theorem isput_ok (W : Works w size ks hs rs) {k : Nat} (hk : k < size) : (F__is_put [w, .int (k : Int)] S).Wp (fun r S' => r = .bl (isPut rs k) ∧ S <+: S') noX := by
  have rl := W.rl
  have rr := W.rr
  have hwe := W.eq
  subst hwe
  refine w_body ?_
  unfold B__is_put
  simp only [startD, List.map_cons, List.map_nil, List.length_cons, List.length_nil, List.cons_append, List.nil_append, Nat.reduceAdd, Nat.reduceSub, List.replicate, List.replicate_succ, List.replicate_zero]
  refine w_ret (w_call (w_consA (w_lcD ?_)))
  and_intros
  refine ⟨fun r => .bl (putB r k), Nat.lt_of_le_of_lt rl (by decide), fun _ _ => rfl, fun x S' hx p => ?_, fun S' hn p => ?_⟩
  · obtain ⟨ts, us, h, R⟩ := rr x hx
    have ul := R.ul
    have ep := R.pt
    have ex := R.eq
    subst ex
    and_intros
    refine w_idxT (by omega) (by rw [List.length_map, ul]; omega) fun d hd => ?_
    have hk2 : k < us.length := by omega
    rw [show ((k : Int)).toNat = k by omega, List.getElem?_map, List.getElem?_eq_getElem hk2] at hd
    cases hd
    and_intros
    refine ⟨?_, List.prefix_refl _⟩
    show Dt.bl (decide (0 < us[k])) = Dt.bl (decide (0 < ((ptD (Dt.tup [Dt.tup (List.map Dt.int ts), Dt.tup (List.map Dt.int us), h]))[k]?).getD 0))
    rw [ep, List.getElem?_eq_getElem hk2]
    rfl
  refine w_nil (w_anyB (is := rs.map fun r => putB r k) ?_ ?_)
  · rw [seq_lst hn, List.map_map]; rfl
  · refine .inl ⟨_, rfl, ?_, p⟩
    congr 1
    unfold isPut
    rw [List.any_map]; rfl
theorem placed_rg (xs : List Dt) : placed xs = (List.range xs.length).map fun i : Nat => (Dt.int (i : Int), (xs[i]?).getD .non) := by
  refine List.ext_getElem? fun i => ?_
  rw [List.getElem?_map]
  by_cases h : i < xs.length
  · rw [List.getElem?_range h]
    have hl : i < (placed xs).length := by rw [placed_length]; exact h
    obtain ⟨x, e1, e2⟩ := placed_get (List.getElem?_eq_getElem hl)
    rw [List.getElem?_eq_getElem hl, e2]
    show some _ = some (_, (xs[i]?).getD .non)
    rw [e1]; rfl
  · rw [List.getElem?_eq_none (by rw [placed_length]; omega), List.getElem?_eq_none (by rw [List.length_range]; omega)]
    rfl
def rawP (rs : List Dt) (p : Dt × Dt) : Bool := match p.1 with
  | .int i => !isPut rs i.toNat
  | _ => false
theorem praw_ok (W : Works w size ks hs rs) : (F_raw_kinds [w] S).Wp (fun r S' => r = .tup (rawL ks rs) ∧ S <+: S') noX := by
  have kl := W.kl
  have s1 := W.s1
  have hwe := W.eq
  refine w_body ?_
  unfold B_raw_kinds
  simp only [startD, List.map_cons, List.map_nil, List.length_cons, List.length_nil, List.cons_append, List.nil_append, Nat.reduceAdd, Nat.reduceSub, List.replicate, List.replicate_succ, List.replicate_zero]
  refine w_ret (w_call (w_consA (w_lcP (w_srcEnumT ?_))))
  rw [hwe]
  and_intros
  refine ⟨rawP rs, fun x d => d = x.2, by rw [placed_length]; exact Nat.lt_of_le_of_lt (show ks.length ≤ 5 by omega) (by decide), fun _ _ => rfl, fun x S' hx p => ?_, fun ds S' he hn p => ?_⟩
  · obtain ⟨j, hj⟩ := List.mem_iff_getElem?.mp hx
    obtain ⟨y, hy, rfl⟩ := placed_get hj
    have jl : j < size := by rw [← kl]; exact (List.getElem?_eq_some_iff.mp hy).1
    and_intros
    rw [← hwe]
    refine (isput_ok W jl).mono (fun r S2 ⟨e1, p2⟩ => ?_) fun _ _ _ q => q
    subst e1
    refine ⟨_, rfl, ?_, fun _ => p2, fun _ => ?_⟩
    · show (!isPut rs j) = !isPut rs ((j : Int)).toNat
      rw [show ((j : Int)).toNat = j by omega]
    · and_intros
      exact ⟨rfl, p2⟩
  have e2 := Each.map (f := Prod.snd) he
  have e3 : ds = rawL ks rs := by
    rw [e2]
    unfold rawL
    rw [placed_rg, List.filter_map, List.map_map]
    rfl
  refine w_nil (w_tupB (seq_lst hn) ?_)
  exact .inl ⟨_, rfl, by rw [e3], p⟩
end
end Lw
set_option Elab.async false
set_option linter.all false
set_option maxRecDepth 100000
set_option maxHeartbeats 4000000
/-! Ok: walks, rings, weights: what the greatest mean rests on. -/
namespace Lw
open PySem PySem.Spec PyProof.Rows L2 Mn
end Lw
set_option Elab.async false
set_option linter.all false
set_option maxRecDepth 100000
set_option maxHeartbeats 4000000
/-! Ol: heights stand still in the end; the greatest sums of walks of one length. -/
namespace Lw
open PySem PySem.Spec PyProof.Rows L2 Mn
section
variable {as : List Dt} {size hl : Nat} {d : Dt} {pl : Int}
abbrev OF := List (Option Int)
def At (f : OF) (q : Int) (v : Int) : Prop := f[q.toNat]? = some (some v)
def LeF (f g : OF) : Prop := ∀ q v, At f q v → ∃ v', At g q v' ∧ v ≤ v'
theorem LeF.refl (f : OF) : LeF f f := fun q v h => ⟨v, h, Int.le_refl _⟩
theorem LeF.trans {f g k : OF} (a : LeF f g) (b : LeF g k) : LeF f k := fun q v h => by
  obtain ⟨v1, h1, l1⟩ := a q v h
  obtain ⟨v2, h2, l2⟩ := b q v1 h1
  exact ⟨v2, h2, by omega⟩
variable {ps ws : List Int} {q : Int × Int}
end
end Lw
set_option Elab.async false
set_option linter.all false
set_option maxRecDepth 100000
set_option maxHeartbeats 4000000
/-! Om: the greatest sums of walks of one length; the greatest mean. -/
namespace Lw
open PySem PySem.Spec PyProof.Rows L2 Mn
section
variable {as : List Dt} {size hl : Nat} {d : Dt} {pl : Int} {ps ws : List Int}
def lgOne (g : Int) (s t : Nat) (sums found : OF) : OF := match sums[s]? with
  | some (some v) => match found[t]? with
    | some (some x) => if x < v + g then found.set t (some (v + g)) else found
    | _ => found.set t (some (v + g))
  | _ => found
def lgFold (g : Int → Int) (as : List Dt) (sums found : OF) (is : List Int) : OF := is.foldl (fun f i => lgOne (g i) (arrS (nthA as i)).toNat (arrT (nthA as i)).toNat sums f) found
def noneL (n : Nat) : OF := List.replicate n none
def lgRow (g : Int → Int) (as : List Dt) (n : Nat) (sums : OF) : OF := lgFold g as sums (noneL n) (idxL as.length)
def dpR (g : Int → Int) (as : List Dt) (pl : Int) : Nat → OF
  | 0 => h0L pl
  | k + 1 => lgRow g as pl.toNat (dpR g as pl k)
theorem none_at {n : Nat} {p v : Int} (h : At (noneL n) p v) : False := by
  unfold At noneL at h
  rw [List.getElem?_replicate] at h
  split at h <;> simp at h
/-! ### fractions -/
/-! ### the best mean -/
/-! ### the greatest mean by sums of one length -/
end
end Lw
set_option Elab.async false
set_option linter.all false
set_option maxRecDepth 100000
set_option maxHeartbeats 4000000
/-! On: rules for dicts that are walked, dicts of sums. -/
namespace Lw
open PySem PySem.Spec PyProof.Rows L2 Mn
/-- a dict of sums -/
structure DF (pl : Int) (kvs : List (Key × Dt)) (f : OF) : Prop where
  len : f.length = pl.toNat
  val : ∀ q, 0 ≤ q → valD kvs (.inl q) = match f[q.toNat]? with | some (some v) => some (.int v) | _ => none
  key : ∀ k ∈ kvs.map (·.1), ∃ q : Int, k = .inl q ∧ 0 ≤ q ∧ q < pl
  nd : (kvs.map (·.1)).Nodup
theorem DF.at_ {pl : Int} {kvs : List (Key × Dt)} {f : OF} (h : DF pl kvs f) {q v : Int} (hq : 0 ≤ q) (hv : At f q v) : valD kvs (.inl q) = some (.int v) := by
  rw [h.val q hq]
  unfold At at hv
  rw [hv]
theorem DF.no {pl : Int} {kvs : List (Key × Dt)} {f : OF} (h : DF pl kvs f) {q : Int} (hq : 0 ≤ q) (hv : ∀ v, ¬ At f q v) : valD kvs (.inl q) = none := by
  rw [h.val q hq]
  cases e : f[q.toNat]? with
  | none => rfl
  | some o =>
    cases o with
    | none => rfl
    | some v => exact absurd e (hv v)
theorem DF.small {pl : Int} {kvs : List (Key × Dt)} {f : OF} (h : DF pl kvs f) (hp : pl ≤ 10) : kvs.length ≤ 10 := by
  have hk : ∃ is : List Int, kvs.map (·.1) = is.map Sum.inl ∧ ∀ i ∈ is, 0 ≤ i ∧ i < pl := by
    have go : ∀ l : List Key, (∀ k ∈ l, ∃ q : Int, k = .inl q ∧ 0 ≤ q ∧ q < pl) → ∃ is : List Int, l = is.map Sum.inl ∧ ∀ i ∈ is, 0 ≤ i ∧ i < pl := by
      intro l
      induction l with
      | nil => intro _; exact ⟨[], rfl, fun _ z => nomatch z⟩
      | cons k l ih =>
        intro hl
        obtain ⟨q, rfl, hq⟩ := hl k List.mem_cons_self
        obtain ⟨is, rfl, hi⟩ := ih fun k hk => hl k (List.mem_cons_of_mem _ hk)
        refine ⟨q :: is, rfl, fun i hi2 => ?_⟩
        rcases List.mem_cons.mp hi2 with rfl | z
        · exact hq
        · exact hi i z
    exact go _ h.key
  obtain ⟨is, e, hb⟩ := hk
  have hn := h.nd
  rw [e] at hn
  have hn2 : is.Nodup := List.Pairwise.of_map (f := fun i : Int => (Sum.inl i : Key)) (fun _ _ hne e => hne (congrArg _ e)) hn
  have := nodup_le pl.toNat is hn2 fun x hx => by have := hb x hx; omega
  have e2 : kvs.length = is.length := by
    have := congrArg List.length e
    rwa [List.length_map, List.length_map] at this
  omega
theorem DF.nil {pl : Int} : DF pl [] (noneL pl.toNat) := by
  refine ⟨by unfold noneL; rw [List.length_replicate], fun q hq => ?_, (fun _ z => nomatch z), List.nodup_nil⟩
  have : ∀ v, (noneL pl.toNat)[q.toNat]? ≠ some (some v) := fun v z => none_at (p := q) z
  split
  · rename_i v e; exact absurd e (this v)
  · rfl
end Lw
set_option Elab.async false
set_option linter.all false
set_option maxRecDepth 100000
set_option maxHeartbeats 4000000
/-! Op: the program's greatest mean. -/
namespace Lw
open PySem PySem.Spec PyProof.Rows L2 Mn
end Lw
set_option Elab.async false
set_option linter.all false
set_option maxRecDepth 100000
set_option maxHeartbeats 4000000
/-! Oq: least means of a place, the greatest of all. -/
namespace Lw
open PySem PySem.Spec PyProof.Rows L2 Mn
section
variable {S : Bxs} {size hl : Nat} {d : Dt} {pl : Int} {as : List Dt} {ps ws : List Int}
def Rows (S : Bxs) (rb : Nat) (bs : List Nat) (g : Int → Int) (as : List Dt) (pl : Int) : Prop := S[rb]? = some (.lst (bs.map Dt.box)) ∧ ∀ (k b : Nat), bs[k]? = some b → ∃ kvs, S.dkR b = some kvs ∧ DF pl kvs (dpR g as pl k)
theorem dkR_pre {S S' : Bxs} {n : Nat} {kvs : List (Key × Dt)} (h : S.dkR n = some kvs) (p : S <+: S') : S'.dkR n = some kvs := by
  rcases dkR_get h with z | z
  · exact dkR_of (get_pre p z)
  · exact dkR_ofr (get_pre p z)
theorem Rows.pre {S S' : Bxs} {rb : Nat} {bs : List Nat} {g : Int → Int} (h : Rows S rb bs g as pl) (p : S <+: S') : Rows S' rb bs g as pl := ⟨get_pre p h.1, fun k b e => let ⟨kvs, h1, h2⟩ := h.2 k b e; ⟨kvs, dkR_pre h1 p, h2⟩⟩
end
end Lw
set_option Elab.async false
set_option linter.all false
set_option maxRecDepth 100000
set_option maxHeartbeats 4000000
/-! Or: the program's greatest mean is the greatest mean. -/
namespace Lw
open PySem PySem.Spec PyProof.Rows L2 Mn
end Lw
set_option Elab.async false
set_option linter.all false
set_option maxRecDepth 100000
set_option maxHeartbeats 4000000
/-! Os: the program's heights above a mean. -/
namespace Lw
open PySem PySem.Spec PyProof.Rows L2 Mn
section
variable {S : Bxs} {size hl : Nat} {d : Dt} {pl : Int} {as : List Dt} {ps ws : List Int} {q : Int × Int}
/-- somewhere higher -/
def Grew (f g : OF) : Prop := ∃ p v, At g p v ∧ ∀ u, At f p u → u < v
theorem Grew.le {f g k : OF} (h : Grew f g) (l : LeF g k) : Grew f k := by
  obtain ⟨p, v, a, b⟩ := h
  obtain ⟨v', a', c⟩ := l p v a
  exact ⟨p, v', a', fun u hu => by have := b u hu; omega⟩
theorem Grew.ne {f : OF} (h : Grew f f) : False := by
  obtain ⟨p, v, a, b⟩ := h
  have := b v a
  omega
theorem DF.get {kvs : List (Key × Dt)} {f : OF} (h : DF pl kvs f) {i : Nat} (hi : i < f.length) : ∃ o, f[i]? = some o ∧ (valD kvs (.inl (i : Int))).getD .non = oI o := by
  refine ⟨f[i], List.getElem?_eq_getElem hi, ?_⟩
  rw [h.val i (by omega)]
  have : ((i : Int)).toNat = i := by omega
  rw [this, List.getElem?_eq_getElem hi]
  cases f[i] <;> rfl
end
end Lw
set_option Elab.async false
set_option linter.all false
set_option maxRecDepth 100000
set_option maxHeartbeats 4000000
/-! Ot: the law's thick senders. -/
namespace Lw
open PySem PySem.Spec PyProof.Rows L2 Mn
/-- an arrow at the k-th turn of the way o -/
def Lnk (o : List Int) (k : Nat) (a : Dt) : Prop := o[k]? = some (arrS a) ∧ (o.drop 1 ++ [0])[k]? = some (arrT a)
structure Thk (o : List Int) (as : List Dt) : Prop where
  len : o.length = 5
  hd : o[0]? = some 0
  nd : o.Nodup
  mem : ∀ a ∈ as, ∃ k, k < 5 ∧ Lnk o k a
  all : ∀ k, k < 5 → ∃ a ∈ as, Lnk o k a
end Lw
set_option Elab.async false
set_option linter.all false
set_option maxRecDepth 100000
set_option maxHeartbeats 4000000
/-! Ou: the greatest mean of a thick sender. -/
namespace Lw
open PySem PySem.Spec PyProof.Rows L2 Mn
section
variable {size hl : Nat} {d : Dt} {pl : Int} {as : List Dt} {ps ws : List Int}
theorem five {o : List Int} (h : o.length = 5) : ∃ a b c d e, o = [a, b, c, d, e] := by
  match o, h with
  | [a, b, c, d, e], _ => exact ⟨a, b, c, d, e, rfl⟩
/-- an arrow leads to the next place -/
theorem Thk.next {o : List Int} (T : Thk o as) {k : Nat} {p t i : Int} (hk : k < 5) (hp : o[k]? = some p) (ht : (o.drop 1 ++ [0])[k]? = some t) (hm : nthA as i ∈ as) (hs : arrS (nthA as i) = p) : arrT (nthA as i) = t := by
  obtain ⟨k', hk', h1, h2⟩ := T.mem _ hm
  have e : k' = k := by
    have hl := T.len
    rw [hs] at h1
    by_cases hne : k' = k
    · exact hne
    · refine absurd ?_ hne
      have hp' := (List.getElem?_eq_some_iff.mp hp).2
      have h1' := (List.getElem?_eq_some_iff.mp h1).2
      have pw := List.pairwise_iff_getElem.mp T.nd
      rcases Nat.lt_or_gt_of_ne hne with z | z
      · exact absurd (h1'.trans hp'.symm) (pw k' k (by omega) (by omega) z)
      · exact absurd (hp'.trans h1'.symm) (pw k k' (by omega) (by omega) z)
  subst e
  rw [ht] at h2
  exact (Option.some.inj h2).symm
end
end Lw
set_option Elab.async false
set_option linter.all false
set_option maxRecDepth 100000
set_option maxHeartbeats 4000000
/-! Oi: both judge alike. -/
namespace Lw
open PySem PySem.Spec PyProof.Rows L2 Mn
end Lw
set_option Elab.async false
set_option linter.all false
set_option maxRecDepth 100000
set_option maxHeartbeats 4000000
/-! Oj: things near heights. -/
namespace Lw
open PySem PySem.Spec PyProof.Rows L2 Mn
section
variable {S : Bxs}
theorem sm_itm {d : Dt} {n : Nat} (h : Itm d) : Sm (n + 2) d 45 := by
  rcases h with rfl | ⟨i, rfl, h1, h2⟩ | ⟨b, rfl⟩ | rfl | rfl
  · exact Sm.non.mono (by decide)
  · exact (Sm.int (n := n + 1) 41 (by decide) (by decide) (by omega)).mono (by decide)
  · exact (Sm.bl b).mono (by decide)
  · exact ⟨_, fun S => .str (by decide +kernel) (by decide +kernel) (by decide +kernel)⟩
  · exact Sm.ints (is := [0]) (k := 1) (n := n) (by decide) (by decide) (fun i hi => by rw [List.mem_singleton.mp hi]; decide) 45 (by decide)
def TupT (x : Dt) : Prop := ∃ xs, x = .tup xs ∧ xs.length ≤ 30 ∧ ∀ y ∈ xs, Itm y
theorem TupT.sm {x : Dt} {n : Nat} (h : TupT x) : Sm (n + 3) x 1500 := by
  obtain ⟨xs, rfl, h1, h2⟩ := h
  refine Sm.tup (w := 45) (fun y hy => sm_itm (h2 y hy)) 1500 ?_
  have : xs.length * (45 + 2) ≤ 30 * 47 := Nat.mul_le_mul_right 47 h1
  omega
structure TG (b : Nat) (S : Bxs) (d : Dt) : Prop where
  th : ∀ S', Fr b S S' → Thg S' d
  rp : ∃ z, PyData.strOk z = true ∧ ∀ S', Fr b S S' → ∀ {E : Nat → List Dt → Bxs → Prop} {P : Dt → Bxs → Prop}, P (.str z) S' → (reprE [d] S').Wp P E
theorem TG.fr {b : Nat} {S S' : Bxs} {d : Dt} (h : TG b S d) (F : Fr b S S') : TG b S' d := by
  refine ⟨fun S2 F2 => h.th S2 (F.trans F2), ?_⟩
  obtain ⟨z, h1, h2⟩ := h.rp
  exact ⟨z, h1, fun S2 F2 {E P} q => h2 S2 (F.trans F2) q⟩
theorem rp_sm {b : Nat} {S : Bxs} {d : Dt} {w : Nat} (h : Sm 60 d w) (hw : w ≤ 1000000) (hn : ∀ n, d ≠ .box n) : ∃ z, PyData.strOk z = true ∧ ∀ S', Fr b S S' → ∀ {E : Nat → List Dt → Bxs → Prop} {P : Dt → Bxs → Prop}, P (.str z) S' → (reprE [d] S').Wp P E := by
  obtain ⟨p, hp⟩ := h
  refine ⟨p.shown, (hp []).pf.ok, fun S' _ {E P} q => ?_⟩
  have e : reprE [d] S' = reprG [d] S' := by
    unfold reprE
    cases d <;> first | rfl | exact absurd rfl (hn _)
  rw [e]
  exact w_repr (hp S') hw q
theorem TG.tup {b : Nat} {x : Dt} (h : TupT x) : TG b S x := by
  refine ⟨fun S' _ => ?_, rp_sm h.sm (by decide) fun n z => by obtain ⟨xs, e, _⟩ := h; rw [e] at z; cases z⟩
  obtain ⟨xs, rfl, h1, h2⟩ := h
  exact .inl ⟨xs, rfl, h1, h2⟩
theorem TG.lst {b m : Nat} {xs : List Dt} (e : S[m]? = some (.lst xs)) (hm : m ≠ b) (hx : ∀ y ∈ xs, Sm 59 y 2000) (hl : xs.length ≤ 30) : TG b S (.box m) := by
  refine ⟨fun S' F => .inr ⟨(fun xs z => nomatch z), fun S2 p => ?_⟩, ?_⟩
  · have e2 := get_pre p (F.at_ e hm)
    have h3 : tyN S2 (.box m) = some "list" := by
      show (if (Bxs.seq S2 m).isSome = true then some "list" else _) = _
      rw [seq_lst e2]; rfl
    unfold isiD
    rw [h3]
    show kitB "list" "tuple" = _
    decide +kernel
  · obtain ⟨ps, hps⟩ := Sm.all hx
    refine ⟨(PyData.list ps).shown, (Pl.box (S := S) (n := 59) (seq_lst e) (hps S) (Nat.le_refl _)).pf.ok, fun S' F {E P} q => ?_⟩
    have e2 := F.at_ e hm
    have e3 : reprE [.box m] S' = reprG [.box m] S' := by
      unfold reprE
      have : S'.dk m = none := by unfold Bxs.dk; rw [e2]
      dsimp only
      rw [this]
    rw [e3]
    refine w_repr (.box (seq_lst e2) (hps S') (Nat.le_refl _)) ?_ q
    have : xs.length * (2000 + 2) ≤ 30 * 2002 := Nat.mul_le_mul_right 2002 hl
    omega
theorem TG.dk {b m : Nat} (e : S[m]? = some (.dk [])) (hm : m ≠ b) : TG b S (.box m) := by
  refine ⟨fun S' F => .inr ⟨(fun xs z => nomatch z), fun S2 p => ?_⟩, (PyData.dict []).shown, by decide +kernel, fun S' F {E P} q => ?_⟩
  · have e2 := get_pre p (F.at_ e hm)
    have h1 : Bxs.seq S2 m = none := by unfold Bxs.seq; rw [e2]
    have h2 : Bxs.dk S2 m = some [] := by unfold Bxs.dk; rw [e2]
    have h3 : tyN S2 (.box m) = some "dict" := by
      show (if (Bxs.seq S2 m).isSome = true then some "list" else if (Bxs.dk S2 m).isSome = true then some "dict" else _) = _
      rw [h1, h2]; rfl
    unfold isiD
    rw [h3]
    show kitB "dict" "tuple" = _
    decide +kernel
  · have e2 := F.at_ e hm
    have h2 : S'.dk m = some [] := by unfold Bxs.dk; rw [e2]
    unfold reprE
    dsimp only
    rw [h2]
    exact sat_mk q
theorem TG.flat {b : Nat} {d : Dt} {t : String} (ht : ∀ S, tyN S d = some t) (hk : kitB t "tuple" = some false) (hs : Sm 60 d 100) (hn : ∀ n, d ≠ .box n) (hn2 : ∀ n, d ≠ .tup n) : TG b S d := by
  refine ⟨fun S' F => .inr ⟨hn2, fun S2 p => ?_⟩, rp_sm hs (by decide) hn⟩
  unfold isiD
  rw [ht]
  exact hk
def NH (S1 : Bxs) (f m : Nat) (S' : Bxs) : Prop := ∃ L, S'[f]? = some (.lst L) ∧ L.length ≤ m ∧ (∀ x ∈ L, TupT x) ∧ S1 <+: S'
theorem NH.ty {S1 : Bxs} {f m : Nat} (h : NH S1 f m S) : tyD "list" (.box f) S := by
  obtain ⟨L, e, _⟩ := h
  exact ty_list e
theorem NH.mono {S1 S2 : Bxs} {f m : Nat} (h : NH S1 f m S) (p : S <+: S2) : NH S1 f m S2 := by
  obtain ⟨L, e, h1, h2, h3⟩ := h
  exact ⟨L, get_pre p e, h1, h2, h3.trans p⟩
end
end Lw
set_option Elab.async false
set_option linter.all false
set_option maxRecDepth 100000
set_option maxHeartbeats 4000000
/-! Ov: thick senders' heights; what mean heights are held against. -/
namespace Lw
open PySem PySem.Spec PyProof.Rows L2 Mn
end Lw
set_option Elab.async false
set_option linter.all false
set_option maxRecDepth 100000
set_option maxHeartbeats 4000000
/-! Ow: arrows that lead on. -/
namespace Lw
open PySem PySem.Spec PyProof.Rows L2 Mn
section
variable {S : Bxs} {size hl : Nat} {d : Dt} {pl : Int} {as : List Dt} {ps ws : List Int} {q : Int × Int}
def srcI (as : List Dt) (i : Int) : Int := arrS (nthA as i)
def tgtI (as : List Dt) (i : Int) : Int := arrT (nthA as i)
/-- those that lead to a source of one -/
def lstp (as : List Dt) (l : List Int) : List Int := l.filter fun i => decide (tgtI as i ∈ l.map (srcI as))
def lit (as : List Dt) (l : List Int) : Nat → List Int
  | 0 => l
  | n + 1 => lstp as (lit as l n)
def Led (as : List Dt) (l0 l : List Int) : Prop := ∃ k, l = lit as l0 k ∧ lstp as l = l
theorem lit_add {l : List Int} {k : Nat} (h : lstp as (lit as l k) = lit as l k) : ∀ j, lit as l (k + j) = lit as l k
  | 0 => rfl
  | j + 1 => by show lstp as (lit as l (k + j)) = _; rw [lit_add h j, h]
theorem Led.uniq {l0 l l' : List Int} (h : Led as l0 l) (h' : Led as l0 l') : l = l' := by
  obtain ⟨k, rfl, e⟩ := h
  obtain ⟨k', rfl, e'⟩ := h'
  rw [← lit_add e k', ← lit_add e' k, Nat.add_comm]
theorem lit_sub {l : List Int} : ∀ k, ∀ i ∈ lit as l k, i ∈ l
  | 0 => fun i h => h
  | k + 1 => fun i h => lit_sub k i (List.mem_filter.mp h).1
theorem lit_keep {l c : List Int} (hc : ∀ i ∈ c, i ∈ l) (hcl : ∀ i ∈ c, tgtI as i ∈ c.map (srcI as)) : ∀ k, ∀ i ∈ c, i ∈ lit as l k
  | 0 => hc
  | k + 1 => fun i h => by
    have ih := lit_keep hc hcl k
    refine List.mem_filter.mpr ⟨ih i h, decide_eq_true ?_⟩
    obtain ⟨j, hj, e⟩ := List.mem_map.mp (hcl i h)
    exact List.mem_map.mpr ⟨j, ih j hj, e⟩
/-- the last one from p -/
def lastI (as : List Dt) (l : List Int) (p : Int) : Option Int := (l.filter fun i => decide (srcI as i = p)).getLast?
theorem lastI_mem {l : List Int} {i p : Int} (h : lastI as l p = some i) : i ∈ l ∧ srcI as i = p := by
  have := List.mem_of_getLast? h
  have := List.mem_filter.mp this
  exact ⟨this.1, of_decide_eq_true this.2⟩
theorem lastI_some {l : List Int} {p : Int} (h : p ∈ l.map (srcI as)) : ∃ i, lastI as l p = some i := by
  obtain ⟨i, hi, e⟩ := List.mem_map.mp h
  have : (l.filter fun i => decide (srcI as i = p)) ≠ [] := List.ne_nil_of_mem (List.mem_filter.mpr ⟨hi, decide_eq_true e⟩)
  exact ⟨_, List.getLast?_eq_some_getLast this⟩
/-- a dict from sources -/
structure DL (as : List Dt) (f : Int → Dt) (kvs : List (Key × Dt)) (l : List Int) : Prop where
  val : ∀ p, valD kvs (.inl p) = (lastI as l p).map f
  key : ∃ ns : List Int, kvs.map (·.1) = ns.map Sum.inl ∧ ∀ p, p ∈ ns ↔ p ∈ l.map (srcI as)
  len : kvs.length ≤ l.length
theorem DL.nil {f : Int → Dt} : DL as f [] [] := ⟨fun p => rfl, ⟨[], rfl, fun p => Iff.rfl⟩, Nat.le_refl _⟩
theorem DL.has {f : Int → Dt} {kvs : List (Key × Dt)} {l : List Int} (h : DL as f kvs l) (p : Int) : (valD kvs (.inl p)).isSome = decide (p ∈ l.map (srcI as)) := by
  rw [h.val, Option.isSome_map]
  by_cases e : p ∈ l.map (srcI as)
  · obtain ⟨i, hi⟩ := lastI_some e
    rw [hi, decide_eq_true e]; rfl
  · rw [decide_eq_false e]
    cases e2 : lastI as l p with
    | none => rfl
    | some i =>
      obtain ⟨h1, h2⟩ := lastI_mem e2
      exact absurd (List.mem_map.mpr ⟨i, h1, h2⟩) e
end
end Lw
set_option Elab.async false
set_option linter.all false
set_option maxRecDepth 100000
set_option maxHeartbeats 4000000
/-! Ox: the program's ring of the greatest mean. -/
namespace Lw
open PySem PySem.Spec PyProof.Rows L2 Mn
section
variable {S : Bxs} {size hl : Nat} {d : Dt} {pl : Int} {as : List Dt} {ps ws : List Int} {q : Int × Int} {E : Nat → List Dt → Bxs → Prop}
/-- turned so that the least source comes first -/
def rot (as : List Dt) (r : List Int) : List Int := r.drop ((r.map (srcI as)).idxOf (minI (r.map (srcI as)))) ++ r.take ((r.map (srcI as)).idxOf (minI (r.map (srcI as))))
def tgB (w : Int → Int) (as : List Dt) (H : OF) (i : Int) : Bool := match H[(srcI as i).toNat]? with
  | some (some v) => decide (H[(tgtI as i).toNat]? = some (some (v + w i)))
  | _ => false
def tgL (w : Int → Int) (as : List Dt) (H : OF) : List Int := (idxL as.length).filter (tgB w as H)
def nxt (as : List Dt) (l : List Int) (p : Int) : Int := match lastI as l p with
  | some i => tgtI as i
  | none => p
def atN (as : List Dt) (l : List Int) (p0 : Int) : Nat → Int
  | 0 => p0
  | n + 1 => nxt as l (atN as l p0 n)
def pth (as : List Dt) (l : List Int) (p0 : Int) (n : Nat) : List Int := (List.range n).map (atN as l p0)
theorem pth_succ {l : List Int} {p0 : Int} {n : Nat} : pth as l p0 (n + 1) = pth as l p0 n ++ [atN as l p0 n] := by
  unfold pth; rw [List.range_succ, List.map_append]; rfl
def p0L (as : List Dt) (l : List Int) : Int := minI (l.map (srcI as))
def arrO (as : List Dt) (l : List Int) (p : Int) : Int := (lastI as l p).getD 0
def cyc (as : List Dt) (l : List Int) (n : Nat) : List Int := (pth as l (p0L as l) n).drop ((pth as l (p0L as l) n).idxOf (atN as l (p0L as l) n))
def MR (as : List Dt) (w : Int → Int) (H : OF) (r : List Int) : Prop := ∃ l n, Led as (tgL w as H) l ∧ (pth as l (p0L as l) n).Nodup ∧ atN as l (p0L as l) n ∈ pth as l (p0L as l) n ∧ r = rot as ((cyc as l n).map (arrO as l))
theorem pth_lt {l : List Int} {p0 : Int} {m n : Nat} (h : m < n) (hm : atN as l p0 m ∈ pth as l p0 m) (hn : (pth as l p0 n).Nodup) : False := by
  have h1 : (pth as l p0 (m + 1)).Nodup := by
    unfold pth at hn ⊢
    exact List.Nodup.sublist ((List.range_sublist.mpr (by omega)).map _) hn
  rw [pth_succ] at h1
  exact (List.nodup_append.mp h1).2.2 _ hm _ List.mem_cons_self rfl
theorem MR.uniq {w : Int → Int} {H : OF} {r r' : List Int} (h : MR as w H r) (h' : MR as w H r') : r = r' := by
  obtain ⟨l, n, h1, h2, h3, rfl⟩ := h
  obtain ⟨l', n', h1', h2', h3', rfl⟩ := h'
  obtain rfl := h1.uniq h1'
  have : n = n' := by
    rcases Nat.lt_trichotomy n n' with z | z | z
    · exact (pth_lt z h3 h2').elim
    · exact z
    · exact (pth_lt z h3' h2).elim
  rw [this]
/-- what the heights of a mean are like -/
structure Hts (as : List Dt) (w : Int → Int) (H : OF) (pl : Int) : Prop where
  len : H.length = pl.toNat
  up : ∀ i v, 0 ≤ i → i < (as.length : Int) → At H (srcI as i) v → ∃ u, At H (tgtI as i) u ∧ v + w i ≤ u
  rg : ∃ c : List Int, c ≠ [] ∧ (∀ i ∈ c, i ∈ tgL w as H) ∧ ∀ i ∈ c, tgtI as i ∈ c.map (srcI as)
theorem Hts.led {w : Int → Int} {H : OF} (h : Hts as w H pl) {l : List Int} (hl : Led as (tgL w as H) l) : l ≠ [] ∧ (∀ i ∈ l, tgtI as i ∈ l.map (srcI as)) ∧ ∀ i ∈ l, i ∈ tgL w as H := by
  obtain ⟨k, rfl, e⟩ := hl
  obtain ⟨c, c0, c1, c2⟩ := h.rg
  refine ⟨fun z => ?_, fun i hi => ?_, lit_sub k⟩
  · obtain ⟨i, hi⟩ := List.exists_mem_of_ne_nil c c0
    have := lit_keep c1 c2 k i hi
    rw [z] at this
    cases this
  · rw [← e] at hi
    exact of_decide_eq_true (List.mem_filter.mp hi).2
end
end Lw
set_option Elab.async false
set_option linter.all false
set_option maxRecDepth 100000
set_option maxHeartbeats 4000000
/-! Oy: the ring told is a ring of the greatest mean. -/
namespace Lw
open PySem PySem.Spec PyProof.Rows L2 Mn
end Lw
set_option Elab.async false
set_option linter.all false
set_option maxRecDepth 100000
set_option maxHeartbeats 4000000
/-! Oz: the law's look at a ring. -/
namespace Lw
open PySem PySem.Spec PyProof.Rows L2 Mn
end Lw
set_option Elab.async false
set_option linter.all false
set_option maxRecDepth 100000
set_option maxHeartbeats 4000000
/-! Oza: rows in lists of rows; thick senders' rings. -/
namespace Lw
open PySem PySem.Spec PyProof.Rows L2 Mn
end Lw
set_option Elab.async false
set_option linter.all false
set_option maxRecDepth 100000
set_option maxHeartbeats 4000000
/-! Qa: means of other senders and tariffs (k33). -/
namespace Lw
open PySem PySem.Spec PyProof.Rows L2 Mn
end Lw
set_option Elab.async false
set_option linter.all false
set_option maxRecDepth 100000
set_option maxHeartbeats 4000000
/-! Qb: senders whose places are named anew and whose arrows are mixed (k33). -/
namespace Lw
open PySem PySem.Spec PyProof.Rows L2 Mn
end Lw
set_option Elab.async false
set_option linter.all false
set_option maxRecDepth 100000
set_option maxHeartbeats 4000000
/-! Qc: a greatest mean there is; its bounds; two tariffs together; fewer arrows (k33). -/
namespace Lw
open PySem PySem.Spec PyProof.Rows L2 Mn
end Lw
set_option Elab.async false
set_option linter.all false
set_option maxRecDepth 100000
set_option maxHeartbeats 4000000
/-! Tb: k82: greatest rates, least shares. -/
namespace Lw
open PySem PySem.Spec PyProof.Rows L2 Mn
end Lw
set_option Elab.async false
set_option linter.all false
set_option maxRecDepth 100000
set_option maxHeartbeats 4000000
/-! Tc: k82: what is told, in numbers of one kind or hand. -/
namespace Lw
open PySem PySem.Spec PyProof.Rows L2 Mn
end Lw
set_option Elab.async false
set_option linter.all false
set_option maxRecDepth 100000
set_option maxHeartbeats 4000000
/-! Td: k82: what is told is a mean that no ring betters. -/
namespace Lw
open PySem PySem.Spec PyProof.Rows L2 Mn
end Lw
set_option Elab.async false
set_option linter.all false
set_option maxRecDepth 100000
set_option maxHeartbeats 4000000
/-! Sb: numbers and parts of places beside one another. -/
namespace Lw
open PySem PySem.Spec PyProof.Rows L2 Mn
abbrev Side := Nat × List Dt
def sndD (q : Side) : Dt := .tup [.int q.1, .tup q.2]
def asN (ss : List Side) : List Nat := ss.map (·.2.length)
structure Sides (size hl : Nat) (ss : List Side) : Prop where
  ne : ss ≠ []
  len : ss.length ≤ 4
  sz : size ≤ 10
  hz : hl ≤ 10
  snd : ∀ q ∈ ss, Snd size hl (sndD q) (q.1 : Int) q.2
theorem Sides.al {size hl : Nat} {ss : List Side} (A : Sides size hl ss) : ∀ n ∈ asN ss, n ≤ 40 := fun n hn => by
  obtain ⟨q, hq, rfl⟩ := List.mem_map.mp hn
  exact (A.snd q hq).al
end Lw
set_option Elab.async false
set_option linter.all false
set_option maxRecDepth 100000
set_option maxHeartbeats 4000000
/-! Sc: couples, rows of arrows, the sender of senders side by side. -/
namespace Mn
open PySem PySem.Spec PyProof.Rows L2
theorem Each.get {α β : Type} {Q : α → β → Prop} : ∀ {xs : List α} {ds : List β}, Each Q xs ds → ∀ {i : Nat} {x : α}, xs[i]? = some x → ∃ d, ds[i]? = some d ∧ Q x d
  | _, _, .nil, i, x, h => by cases h
  | _, _, .cons a t, 0, x, h => by cases h; exact ⟨_, rfl, a⟩
  | _, _, .cons a t, i + 1, x, h => Each.get t h
theorem Each.imp {α β : Type} {Q Q' : α → β → Prop} {xs : List α} {ds : List β} (h : Each Q xs ds) (hh : ∀ x d, Q x d → Q' x d) : Each Q' xs ds := Each.mono hh h
end Mn
namespace Lw
open PySem PySem.Spec PyProof.Rows L2 Mn
end Lw
set_option Elab.async false
set_option linter.all false
set_option maxRecDepth 100000
set_option maxHeartbeats 4000000
/-! Sd: the sender of senders side by side. -/
namespace Lw
open PySem PySem.Spec PyProof.Rows L2 Mn
/-- an arrow of each -/
structure Row (size hl : Nat) (ss : List Side) (row : List Dt) : Prop where
  len : row.length = ss.length
  at_ : ∀ {i : Nat} {a : Dt} {q : Side}, row[i]? = some a → ss[i]? = some q → ∃ s t lot crew, Arw (q.1 : Int) size hl a s t lot crew
section
variable {S : Bxs} {size hl : Nat} {ss : List Side} {row : List Dt}
theorem Row.all (R : Row size hl ss row) : ∀ a ∈ row, ∃ pl s t lot crew, Arw pl size hl a s t lot crew := fun a ha => by
  obtain ⟨i, hi⟩ := List.mem_iff_getElem?.mp ha
  have hl := (List.getElem?_eq_some_iff.mp hi).1
  have hq : ss[i]? = some (ss[i]'(by rw [← R.len]; exact hl)) := List.getElem?_eq_getElem _
  obtain ⟨s, t, lot, crew, h⟩ := R.at_ hi hq
  exact ⟨_, s, t, lot, crew, h⟩
end
end Lw
set_option Elab.async false
set_option linter.all false
set_option maxRecDepth 100000
set_option maxHeartbeats 4000000
/-! Se: places and arrows by their numbers; the law's own senders side by side. -/
namespace Lw
open PySem PySem.Spec PyProof.Rows L2 Mn
end Lw
set_option Elab.async false
set_option linter.all false
set_option maxRecDepth 100000
set_option maxHeartbeats 4000000
/-! Sf: runs of a wide sender. -/
namespace Lw
open PySem PySem.Spec PyProof.Rows L2 Mn
structure ArX (a : Dt) (s t : Int) (x y : Dt) : Prop where
  eq : a = .tup [.int s, .int t, x, y]
theorem ArX.src {a x y : Dt} {s t : Int} (h : ArX a s t x y) : arrS a = s := by rw [h.eq]; rfl
theorem ArX.tgt {a x y : Dt} {s t : Int} (h : ArX a s t x y) : arrT a = t := by rw [h.eq]; rfl
structure SndX (d : Dt) (pl : Int) (as : List Dt) : Prop where
  eq : d = .tup [.int pl, .tup as]
  al : as.length ≤ 2000
  ar : ∀ a ∈ as, ∃ s t x y, ArX a s t x y
theorem SndX.at_ {d : Dt} {pl : Int} {as : List Dt} (A : SndX d pl as) {i : Int} (h0 : 0 ≤ i) (h1 : i < as.length) : ∃ a s t lot crew, as[i.toNat]? = some a ∧ atI as i = some a ∧ ArX a s t lot crew := by
  have hi : i.toNat < as.length := by omega
  have e := List.getElem?_eq_getElem hi
  obtain ⟨s, t, lot, crew, R⟩ := A.ar _ (List.getElem_mem hi)
  exact ⟨_, s, t, lot, crew, e, at_int h0 e, R⟩
end Lw
set_option Elab.async false
set_option linter.all false
set_option maxRecDepth 100000
set_option maxHeartbeats 4000000
/-! Sg: k78's sides right. -/
namespace Lw
open PySem PySem.Spec PyProof.Rows L2 Mn
end Lw
set_option Elab.async false
set_option linter.all false
set_option maxRecDepth 100000
set_option maxHeartbeats 4000000
/-! Sh: k78's law. -/
namespace Mn
open PySem PySem.Spec PyProof.Rows L2
end Mn
namespace Lw
open PySem PySem.Spec PyProof.Rows L2 Mn
end Lw
set_option Elab.async false
set_option linter.all false
set_option maxRecDepth 100000
set_option maxHeartbeats 4000000
/-! Te: k82's law: what its parts want. -/
namespace Mn
open PySem PySem.Spec PyProof.Rows L2
end Mn
namespace Lw
open PySem PySem.Spec PyProof.Rows L2 Mn
end Lw
set_option Elab.async false
set_option linter.all false
set_option maxRecDepth 100000
set_option maxHeartbeats 4000000
/-! Tf: k82's odd values. -/
namespace Mn
open PySem PySem.Spec PyProof.Rows L2
section
variable {σ : Sg} {S : Bxs} {E : Nat → List Dt → Bxs → Prop}
theorem inG_lst {neg : Bool} {n : Nat} {x : Dt} {xs : List Dt} (e : S[n]? = some (.lst xs)) : inG neg x (.box n) S = if x.flat = true then inF neg x (.box n) S else inDp neg x (.box n) S := by
  unfold inG
  have t1 : tget S (.box n) x = none := by
    unfold tget
    have : dtO S (.box n) = none := by show S.dt n = none; unfold Bxs.dt; rw [e]
    rw [this]
    cases tiOf x <;> rfl
  rw [t1]
  show inG0 neg x (.box n) S = _
  unfold inG0
  have t2 : dkO S (.box n) = none := by show S.dkR n = none; unfold Bxs.dkR; rw [e]
  rw [t2]
theorem inG_tup {neg : Bool} {x : Dt} {xs : List Dt} : inG neg x (.tup xs) S = if x.flat = true then inF neg x (.tup xs) S else inDp neg x (.tup xs) S := by
  unfold inG
  have t1 : tget S (.tup xs) x = none := by
    unfold tget
    rw [show dtO S (.tup xs) = none from rfl]
    cases tiOf x <;> rfl
  rw [t1]
  show inG0 neg x (.tup xs) S = _
  unfold inG0
  rw [show dkO S (.tup xs) = none from rfl]
/-- a list, a tuple, an empty dict is not among texts -/
theorem w_ninBig {x : Dt} {xs : List Dt} {P : Dt → Bxs → Prop} (hs : ∃ zs : List Str, xs = zs.map Dt.str) (hb : bigD S x = true) (h : P (.bl true) S) : (ninE x (.tup xs) S).Wp P E := by
  have hf : x.flat = false := by
    cases x <;> first | rfl | (cases hb; done)
  have e1 : inG true x (.tup xs) S = .no := by
    rw [inG_tup, hf]; rfl
  obtain ⟨zs, rfl⟩ := hs
  have e2 : ∀ zs : List Str, strsD (zs.map Dt.str) = some zs := by
    intro zs
    induction zs with
    | nil => rfl
    | cons z zs ih => show (strsD (zs.map Dt.str)).map (z :: ·) = _; rw [ih]; rfl
  unfold ninE
  rw [e1]
  simp only [e2]
  rw [if_pos hb]
  exact ⟨h⟩
end
end Mn
namespace Lw
open PySem PySem.Spec PyProof.Rows L2 Mn
end Lw
set_option Elab.async false
set_option linter.all false
set_option maxRecDepth 100000
set_option maxHeartbeats 4000000
/-! Tg: k82: the answers with an empty dict, alike. -/
namespace Lw
open PySem PySem.Spec PyProof.Rows L2 Mn
theorem w_eqStr2 {S : Bxs} {E : Nat → List Dt → Bxs → Prop} {z : Str} {neg : Bool} {P : Dt → Bxs → Prop} (k : PyData.strOk z = true) (q : P (.bl (!neg)) S) : (eqG neg (.str z) (.str z) S).Wp P E := by
  have e1 : pdo S (.str z) = some (.str z) := rfl
  have sh : SeqAt.shaped (.str z) = true := by
    unfold SeqAt.shaped
    simp [PyData.canLay0, PyData.depth, k]
  have x1 : eqG neg (.str z) (.str z) S = .ok (.bl (if neg then !PyData.eqv (.str z) (.str z) else PyData.eqv (.str z) (.str z))) S := by
    unfold eqG
    rw [e1]
    show (if SeqAt.shaped (.str z) = true ∧ SeqAt.shaped (.str z) = true then _ else _) = _
    rw [if_pos ⟨sh, sh⟩]
  have e2 : PyData.eqv (.str z) (.str z) = true := by simp [PyData.eqv]
  rw [e2] at x1
  have x3 : (if neg = true then !true else true) = !neg := by cases neg <;> rfl
  rw [x3] at x1
  rw [x1]; exact ⟨q⟩
end Lw
set_option Elab.async false
set_option linter.all false
set_option maxRecDepth 100000
set_option maxHeartbeats 4000000
/-! Uh: k01: odd values held against names. -/
namespace Lw
open PySem PySem.Spec PyProof.Rows L2 Mn
section
variable {S : Bxs} {b c n : Nat}
/-- the odd dicts -/
def okDk (kvs : List (Key × Dt)) : Prop := kvs = [] ∨ kvs = [(.inr "a", .tup [.int 1])] ∨ kvs = [(.inl 0, .int 0)] ∨ ∃ z ∈ menuS, kvs = [(.inr z, .int 1)]
def okTx (z : Str) : Bool := PyData.strOk z && PyData.strOk (PyData.shown (.str z)) && decide ((PyData.shown (.str z)).length ≤ 40)
/-- what is asked for, by what it is -/
inductive Xn (S : Bxs) : Dt → Prop
  | txt {z : Str} : okTx z = true → Xn S (.str z)
  | flat {d : Dt} {p : PyData} : d.flat = true → (∀ z : Str, (Dt.str z).eqf d = false) → (∀ S', Pl S' 60 d p 100) → (∀ z, PyData.eqv (.str z) p = false) → Xn S d
  | tup {xs : List Dt} {ps : List PyData} {w : Nat} : (∀ S', Pls S' 59 xs ps w) → w ≤ 1000 → Xn S (.tup xs)
  | lst {m : Nat} {xs : List Dt} {ps : List PyData} {w : Nat} : S.seq m = some xs → (∀ S', Pls S' 59 xs ps w) → w ≤ 1000 → Xn S (.box m)
  | dct {m : Nat} {kvs : List (Key × Dt)} : S[m]? = some (.dk kvs) → okDk kvs → Xn S (.box m)
  | nd {m : Nat} : S[m]? = some .nd → Xn S (.box m)
def eqX (z : Str) : Dt → Bool
  | .str y => decide (z = y)
  | _ => false
theorem reprD_no {m : Nat} (h : S.seq m = none) : reprD [.box m] S = .no := by
  have e0 : pdo S (.box m) = none := by
    show (match S.seq m with
    | some xs => (optAll (xs.map (pd S 59))).map PyData.list
    | none => none) = none
    rw [h]
  have e1 : reprG [.box m] S = .no := by
    show (match pdo S (.box m) with
    | some p => if showOk p = true then Rs.ok (Dt.str p.shown) S else .no
    | none => .no) = _
    rw [e0]
  unfold reprD
  rw [e1]
  simp only [h]
theorem reprF_dk {m : Nat} {kvs : List (Key × Dt)} (e : S[m]? = some (.dk kvs)) (h : okDk kvs) : ∃ t, PyData.strOk t = true ∧ reprF [.box m] S = .ok (.str t) S := by
  have hs : S.seq m = none := by unfold Bxs.seq; rw [e]
  have step : ∀ ps : List PyData, optAll (kvs.map fun kv => pd S 60 kv.2) = some ps → noLs ps = true ∧ (dctP (kvs.map (·.1)) ps).showable = true ∧ (dctP (kvs.map (·.1)) ps).depth ≤ 60 ∧ (dctP (kvs.map (·.1)) ps).shown.length ≤ strLim → reprF [.box m] S = .ok (.str (dctP (kvs.map (·.1)) ps).shown) S := fun ps e1 c => by
    unfold reprF
    rw [reprD_no hs]
    simp only [e, e1]
    rw [if_pos c]
  rcases h with rfl | rfl | rfl | ⟨z, hz, rfl⟩
  · exact ⟨_, by decide +kernel, step [] rfl (by decide +kernel)⟩
  · exact ⟨_, by decide +kernel, step [.tuple [.int 1]] rfl (by decide +kernel)⟩
  · exact ⟨_, by decide +kernel, step [.int 0] rfl (by decide +kernel)⟩
  · have all : (menuS.all fun z => PyData.strOk (dctP [.inr z] [.int 1]).shown && (noLs [.int 1] && (dctP [.inr z] [.int 1]).showable && decide ((dctP [.inr z] [.int 1]).depth ≤ 60) && decide ((dctP [.inr z] [.int 1]).shown.length ≤ strLim))) = true := by decide +kernel
    have hz := List.all_eq_true.mp all z hz
    simp only [Bool.and_eq_true, decide_eq_true_eq] at hz
    obtain ⟨h0, ⟨⟨h1, h2⟩, h3⟩, h4⟩ := hz
    exact ⟨_, h0, step [.int 1] rfl ⟨h1, h2, h3, h4⟩⟩
theorem reprF_nd {m : Nat} (e : S[m]? = some .nd) : ∃ t, PyData.strOk t = true ∧ reprF [.box m] S = .ok (.str t) S := by
  have hs : S.seq m = none := by unfold Bxs.seq; rw [e]
  refine ⟨(PyData.dict [(.none, .none)]).shown, by decide +kernel, ?_⟩
  unfold reprF
  rw [reprD_no hs]
  simp only [e]
/-- a text and a dict, a dict and itself -/
theorem eqE_no {x y : Dt} (hx : pdo S x = none ∨ pdo S y = none) (hb : ∀ i j, x = .box i → y = .box j → S.seq i = none ∨ S.seq j = none) : eqE x y S = .no := by
  have e1 : eqG false x y S = .no := by
    unfold eqG
    rcases hx with e | e
    · rw [e]
    · rw [e]; cases pdo S x <;> rfl
  unfold eqE
  rw [e1]
  cases x <;> first | rfl | skip
  cases y <;> first | rfl | skip
  rename_i i j
  rcases hb i j rfl rfl with e | e
  · simp only [e]
  · simp only [e]
    cases S.seq i <;> rfl
theorem pdo_dc {m : Nat} (h : S.seq m = none) : pdo S (.box m) = none := by
  show (match S.seq m with
    | some xs => (optAll (xs.map (pd S 59))).map PyData.list
    | none => none) = none
  rw [h]
theorem seq_dc {m : Nat} (h : dcB S m = true) : S.seq m = none := by
  unfold dcB at h
  unfold Bxs.seq
  split at h
  · rename_i e; rw [e]
  · rename_i e; rw [e]
  · cases h
theorem eqF_sd {m : Nat} {z : Str} (h : dcB S m = true) : eqF (.str z) (.box m) S = .ok (.bl false) S := by
  unfold eqF
  rw [eqE_no (.inr (pdo_dc (seq_dc h))) (fun i j e _ => by cases e)]
  show (if dcB S m = true then Rs.ok (Dt.bl false) S else .no) = _
  rw [if_pos h]
theorem eqF_dd {m : Nat} (h : dcB S m = true) : eqF (.box m) (.box m) S = .ok (.bl true) S := by
  unfold eqF
  rw [eqE_no (.inr (pdo_dc (seq_dc h))) (fun i j e1 e2 => by cases e1; exact .inl (seq_dc h))]
  show (if m = m ∧ dcB S m = true then Rs.ok (Dt.bl true) S else .no) = _
  rw [if_pos ⟨rfl, h⟩]
theorem Xn.dcb {m : Nat} {kvs : List (Key × Dt)} (e : S[m]? = some (.dk kvs)) : dcB S m = true := by unfold dcB; rw [e]
theorem Xn.ndb {m : Nat} (e : S[m]? = some .nd) : dcB S m = true := by unfold dcB; rw [e]
theorem alikeD3_ok {m : Nat} {t : Str} (h : dcB S m = true) (ht : PyData.strOk t = true) (e : reprF [.box m] S = .ok (.str t) S) : (F__law_alike_v3 [.box m, .box m] S).Wp (fun r S' => r = .bl true ∧ S' = S) noX := by
  refine w_body ?_
  unfold B__law_alike_v3
  simp only [startD, List.map_cons, List.map_nil, List.length_cons, List.length_nil, List.cons_append, List.nil_append, Nat.reduceAdd, Nat.reduceSub, List.replicate, List.replicate_succ, List.replicate_zero]
  and_intros
  refine .of (eqF_dd h) ?_
  refine ⟨true, rfl, fun _ => ?_, fun z => nomatch z⟩
  and_intros
  refine .of e ?_
  and_intros
  refine .of e ?_
  refine w_eqF1 (w_eqStr2 ht ?_)
  exact .inl ⟨_, rfl, rfl, rfl⟩
end
end Lw
set_option Elab.async false
set_option linter.all false
set_option maxRecDepth 100000
set_option maxHeartbeats 4000000
/-! Ui: k01: what is asked for: alike to a name, to itself, among names. -/
namespace Lw
open PySem PySem.Spec PyProof.Rows L2 Mn
section
variable {S S1 : Bxs} {b c n : Nat}
theorem tx_menu {z : Str} (h : Dt.str z ∈ menuD) : okTx z = true := by
  have h1 : z ∈ menuS := by
    obtain ⟨y, hy, e⟩ := List.mem_map.mp (show Dt.str z ∈ menuS.map Dt.str from h)
    cases e; exact hy
  exact List.all_eq_true.mp (show (menuS.all okTx) = true by decide +kernel) z h1
theorem tx_pl {z : Str} (h : okTx z = true) : ∀ S : Bxs, Pl S 60 (.str z) (.str z) 40 := fun S => by
  unfold okTx at h
  simp only [Bool.and_eq_true, decide_eq_true_eq] at h
  exact .str h.1.1 h.1.2 h.2
theorem eqv_ss {z y : Str} : PyData.eqv (.str z) (.str y) = decide (z = y) := by
  simp [PyData.eqv]
  by_cases e : z = y
  · subst e; simp
  · simp [e]
theorem alikeF3_ok {x : Dt} {z : Str} (h : (eqF (.str z) x S).Wp (fun d S' => d = .bl false ∧ S' = S) noX) : (F__law_alike_v3 [.str z, x] S).Wp (fun r S' => r = .bl false ∧ S' = S) noX := by
  refine w_body ?_
  unfold B__law_alike_v3
  simp only [startD, List.map_cons, List.map_nil, List.length_cons, List.length_nil, List.cons_append, List.nil_append, Nat.reduceAdd, Nat.reduceSub, List.replicate, List.replicate_succ, List.replicate_zero]
  and_intros
  refine h.mono (fun d S' ⟨e1, e2⟩ => ?_) fun _ _ _ q => q
  subst e1; subst e2
  refine ⟨false, rfl, fun z => (nomatch z), fun _ => ?_⟩
  exact .inl ⟨_, rfl, rfl, rfl⟩
theorem Xn.vs {x : Dt} (X : Xn S x) {z : Str} (hz : Dt.str z ∈ menuD) : (F__law_alike_v3 [.str z, x] S).Wp (fun r S' => r = .bl (eqX z x) ∧ S' = S) noX := by
  have pz := tx_pl (tx_menu hz) S
  cases X with
  | @txt y h =>
    by_cases e : z = y
    · subst e
      refine (alike3P_ok pz pz (by decide)).mono (fun r S' ⟨e1, e2⟩ => ⟨?_, e2⟩) fun _ _ _ q => q
      rw [e1]
      show Dt.bl true = Dt.bl (decide (z = z))
      rw [decide_eq_true rfl]
    · refine (alikeF3_ok (w_eqF1 (w_eq pz (tx_pl h S) ?_))).mono (fun r S' ⟨e1, e2⟩ => ⟨?_, e2⟩) fun _ _ _ q => q
      · rw [eqv_ss, decide_eq_false e]; exact ⟨rfl, rfl⟩
      · rw [e1]
        show Dt.bl false = Dt.bl (decide (z = y))
        rw [decide_eq_false e]
  | @flat d p h1 h2 h3 h4 =>
    refine (alikeF3_ok (w_eqF1 (w_eq pz (h3 S) ?_))).mono (fun r S' ⟨e1, e2⟩ => ⟨?_, e2⟩) fun _ _ _ q => q
    · rw [h4]; exact ⟨rfl, rfl⟩
    · rw [e1]
      cases x <;> first | rfl | skip
      rename_i y
      have := h2 y
      rw [eqf_str, decide_eq_true rfl] at this
      cases this
  | @tup xs ps w h hw =>
    refine (alikeF3_ok (w_eqF1 (w_eq pz (.tup (w' := w + 3) (h S) (Nat.le_refl _)) ?_))).mono (fun r S' ⟨e1, e2⟩ => ⟨e1, e2⟩) fun _ _ _ q => q
    rw [show PyData.eqv (.str z) (.tuple ps) = false by simp [PyData.eqv]]; exact ⟨rfl, rfl⟩
  | @lst m xs ps w e h hw =>
    refine (alikeF3_ok (w_eqF1 (w_eq pz (.box (w' := w + 3) e (h S) (Nat.le_refl _)) ?_))).mono (fun r S' ⟨e1, e2⟩ => ⟨e1, e2⟩) fun _ _ _ q => q
    rw [show PyData.eqv (.str z) (.list ps) = false by simp [PyData.eqv]]; exact ⟨rfl, rfl⟩
  | @dct m kvs e h => exact (alikeF3_ok (.of (eqF_sd (Xn.dcb e)) ⟨rfl, rfl⟩)).mono (fun r S' ⟨e1, e2⟩ => ⟨e1, e2⟩) fun _ _ _ q => q
  | @nd m e => exact (alikeF3_ok (.of (eqF_sd (Xn.ndb e)) ⟨rfl, rfl⟩)).mono (fun r S' ⟨e1, e2⟩ => ⟨e1, e2⟩) fun _ _ _ q => q
theorem Xn.self {x : Dt} (X : Xn S x) : (F__law_alike_v3 [x, x] S).Wp (fun r S' => r = .bl true ∧ S' = S) noX := by
  cases X with
  | txt h => exact alike3P_ok (tx_pl h S) (tx_pl h S) (by decide)
  | flat h1 h2 h3 h4 => exact alike3P_ok (h3 S) (h3 S) (by decide)
  | @tup xs ps w h hw => exact alike3P_ok (w := w + 3) (.tup (h S) (Nat.le_refl _)) (.tup (h S) (Nat.le_refl _)) (by omega)
  | @lst m xs ps w e h hw => exact alike3P_ok (w := w + 3) (.box e (h S) (Nat.le_refl _)) (.box e (h S) (Nat.le_refl _)) (by omega)
  | @dct m kvs e h =>
    obtain ⟨t, ht, hr⟩ := reprF_dk e h
    exact alikeD3_ok (Xn.dcb e) ht hr
  | @nd m e =>
    obtain ⟨t, ht, hr⟩ := reprF_nd e
    exact alikeD3_ok (Xn.ndb e) ht hr
theorem inB_no {ys : List Dt} {x : Dt} (hm : ∀ y ∈ ys, y ∈ menuD) (h : ∀ z : Str, (Dt.str z).eqf x = false) : inB ys x = false := List.any_eq_false.mpr fun y hy => by
  obtain ⟨z, rfl⟩ := menu_str (hm y hy)
  rw [h z]; exact Bool.false_ne_true
theorem Xn.nin {x : Dt} (X : Xn S x) {ys : List Dt} (hm : ∀ y ∈ ys, y ∈ menuD) {P : Dt → Bxs → Prop} {E : Nat → List Dt → Bxs → Prop} (h : P (.bl (!inB ys x)) S) : (ninF x (.tup ys) S).Wp P E := by
  have big : bigD S x = true → (∀ z : Str, (Dt.str z).eqf x = false) → (ninF x (.tup ys) S).Wp P E := fun hb hq => by
    obtain ⟨zs, ez⟩ := menu_zs hm
    obtain ⟨d, S', e, q⟩ := (w_ninBig (E := noX) (P := fun d S' => d = .bl true ∧ S' = S) ⟨zs, ez⟩ hb ⟨rfl, rfl⟩).ok
    unfold ninF
    rw [e]
    obtain ⟨rfl, rfl⟩ := q
    rw [inB_no hm hq] at h
    exact ⟨h⟩
  have fl : x.flat = true → (ninF x (.tup ys) S).Wp P E := fun hf => w_ninF1 (w_inT (neg := true) hf (menu_all hm) h)
  have dc : ∀ m, x = .box m → dcB S m = true → (ninF x (.tup ys) S).Wp P E := fun m ex hd => by
    subst ex
    obtain ⟨zs, ez⟩ := menu_zs hm
    have e2 : ∀ zs : List Str, strsD (zs.map Dt.str) = some zs := fun zs => by
      induction zs with
      | nil => rfl
      | cons z zs ih => show (strsD (zs.map Dt.str)).map (z :: ·) = _; rw [ih]; rfl
    have hq : ∀ z : Str, (Dt.str z).eqf (.box m) = false := fun _ => rfl
    rw [inB_no hm hq] at h
    by_cases hb : bigD S (.box m) = true
    · exact big hb hq |> fun z => z
    · have e1 : ninE (.box m) (.tup ys) S = .no := by
        have e0 : inG true (.box m) (.tup ys) S = .no := by rw [inG_tup]; rfl
        unfold ninE
        rw [e0, ez]
        simp only [e2]
        rw [if_neg hb]
      unfold ninF
      rw [e1, ez]
      simp only [e2]
      rw [if_pos hd]
      exact ⟨h⟩
  cases X with
  | txt _ => exact fl rfl
  | flat h1 _ _ _ => exact fl h1
  | tup _ _ => exact big rfl fun _ => rfl
  | @lst m xs ps w e _ _ => exact big (by show ((S.seq m).isSome || _) = true; rw [e]; rfl) fun _ => rfl
  | dct e _ => exact dc _ rfl (Xn.dcb e)
  | nd e => exact dc _ rfl (Xn.ndb e)
theorem Xn.fr {x : Dt} (X : Xn S x) (F : Fr b S S1) (h : ∀ m, x = .box m → m ≠ b) : Xn S1 x := by
  cases X with
  | txt h0 => exact .txt h0
  | flat h1 h2 h3 h4 => exact .flat h1 h2 h3 h4
  | tup h0 hw => exact .tup h0 hw
  | lst e h1 hw => exact .lst (F.seq e (h _ rfl)) h1 hw
  | dct e h1 => exact .dct (F.at_ e (h _ rfl)) h1
  | nd e => exact .nd (F.at_ e (h _ rfl))
end
end Lw
set_option Elab.async false
set_option linter.all false
set_option maxRecDepth 100000
set_option maxHeartbeats 4000000
/-! Uj: k01: odd values drawn. -/
namespace Lw
open PySem PySem.Spec PyProof.Rows L2 Mn
section
variable {S : Bxs} {b c n : Nat}
theorem xn_tup {xs : List Dt} (h : ∀ d ∈ xs, Sm 59 d 100) (hl : xs.length ≤ 5) : Xn S (.tup xs) := by
  obtain ⟨ps, hp⟩ := Sm.all h
  exact .tup hp (by omega)
theorem xn_lst {m : Nat} {xs : List Dt} (e : S.seq m = some xs) (h : ∀ d ∈ xs, Sm 59 d 100) (hl : xs.length ≤ 5) : Xn S (.box m) := by
  obtain ⟨ps, hp⟩ := Sm.all h
  exact .lst e hp (by omega)
theorem xn_int {i : Int} (h : i.natAbs < 10 ^ 41) : Xn S (.int i) := .flat rfl (fun _ => rfl) (fun S' => (Pl.mkInt 41 (by decide) (by decide) h).mono (by decide)) fun z => by simp [PyData.eqv]
theorem sm_i {n : Nat} {i : Int} (h : i.natAbs < 10) : Sm (n + 1) (.int i) 100 := (Sm.int 1 (by decide) (by decide) (by simpa using h)).mono (by decide)
theorem sm_is {n : Nat} {is : List Int} (h : ∀ i ∈ is, i.natAbs < 10) (hl : is.length ≤ 5) : Sm (n + 2) (.tup (is.map Dt.int)) 100 := (Sm.ints (n := n) (k := 1) (by decide) (by decide) (fun i hi => by simpa using h i hi) 100 (by omega))
theorem sm_m {n : Nat} {d : Dt} (h : d ∈ menuD) : Sm (n + 1) d 100 := (Sm.menu h).mono (by decide)
theorem set_last {l : Bxs} {a d : MBox} : (l ++ [a]).set l.length d = l ++ [d] := by simp
theorem w_nd {σ : Sg} {E : Nat → List Dt → Bxs → Prop} {P : Dt → Bxs → Prop} (h : P (.box S.length) (S ++ [.nd])) : (dNd σ S).Wp P E := ⟨h⟩
theorem odd_ok (B : Bag S b c) : (F__law_odd [.box b] S).Wp (fun d S' => Xn S' d ∧ (∀ m, d = .box m → S.length ≤ m) ∧ Bag S' b c ∧ Fr b S S') noX := by
  refine w_body ?_
  unfold B__law_odd
  simp only [startD, List.map_cons, List.map_nil, List.length_cons, List.length_nil, List.cons_append, List.nil_append, Nat.reduceAdd, Nat.reduceSub, List.replicate, List.replicate_succ, List.replicate_zero]
  and_intros
  refine ⟨Nat.le_of_ble_eq_true rfl, ?_⟩
  and_intros
  refine w_newD ?_
  and_intros
  refine ⟨Nat.le_of_ble_eq_true rfl, ?_⟩
  and_intros
  have hb := B.lt.1
  have e0 : (S ++ [MBox.lst []] ++ [MBox.dk []] ++ [MBox.lst [Dt.int 0]] ++ [MBox.lst [Dt.non, Dt.bl true, Dt.bl false, Dt.int 0, Dt.int 1, Dt.int (-1), Dt.int (10 ^ Int.toNat 39), Dt.int (-10 ^ Int.toNat 39), Dt.str "", Dt.str "a", Dt.str "b", Dt.str "A", Dt.str "abcdefg", Dt.str "to", Dt.tup [], Dt.box (List.length S), Dt.box (List.length (S ++ [MBox.lst []])), Dt.tup [Dt.str "a"], Dt.box (List.length (S ++ [MBox.lst []] ++ [MBox.dk []]))]])[S.length]? = some (.lst []) := get_pre (List.prefix_append _ _) (get_pre (List.prefix_append _ _) (get_pre (List.prefix_append _ _) get_last))
  have e1 : (S ++ [MBox.lst []] ++ [MBox.dk []] ++ [MBox.lst [Dt.int 0]] ++ [MBox.lst [Dt.non, Dt.bl true, Dt.bl false, Dt.int 0, Dt.int 1, Dt.int (-1), Dt.int (10 ^ Int.toNat 39), Dt.int (-10 ^ Int.toNat 39), Dt.str "", Dt.str "a", Dt.str "b", Dt.str "A", Dt.str "abcdefg", Dt.str "to", Dt.tup [], Dt.box (List.length S), Dt.box (List.length (S ++ [MBox.lst []])), Dt.tup [Dt.str "a"], Dt.box (List.length (S ++ [MBox.lst []] ++ [MBox.dk []]))]])[(S ++ [MBox.lst []]).length]? = some (.dk []) := get_pre (List.prefix_append _ _) (get_pre (List.prefix_append _ _) get_last)
  have e2 : (S ++ [MBox.lst []] ++ [MBox.dk []] ++ [MBox.lst [Dt.int 0]] ++ [MBox.lst [Dt.non, Dt.bl true, Dt.bl false, Dt.int 0, Dt.int 1, Dt.int (-1), Dt.int (10 ^ Int.toNat 39), Dt.int (-10 ^ Int.toNat 39), Dt.str "", Dt.str "a", Dt.str "b", Dt.str "A", Dt.str "abcdefg", Dt.str "to", Dt.tup [], Dt.box (List.length S), Dt.box (List.length (S ++ [MBox.lst []])), Dt.tup [Dt.str "a"], Dt.box (List.length (S ++ [MBox.lst []] ++ [MBox.dk []]))]])[(S ++ [MBox.lst []] ++ [MBox.dk []]).length]? = some (.lst [.int 0]) := get_pre (List.prefix_append _ _) get_last
  have e3 := get_last (S := S ++ [MBox.lst []] ++ [MBox.dk []] ++ [MBox.lst [Dt.int 0]]) (x := MBox.lst [Dt.non, Dt.bl true, Dt.bl false, Dt.int 0, Dt.int 1, Dt.int (-1), Dt.int (10 ^ Int.toNat 39), Dt.int (-10 ^ Int.toNat 39), Dt.str "", Dt.str "a", Dt.str "b", Dt.str "A", Dt.str "abcdefg", Dt.str "to", Dt.tup [], Dt.box (List.length S), Dt.box (List.length (S ++ [MBox.lst []])), Dt.tup [Dt.str "a"], Dt.box (List.length (S ++ [MBox.lst []] ++ [MBox.dk []]))])
  have b1 : S.length ≤ (S ++ [MBox.lst []]).length := by rw [List.length_append]; omega
  have b2 : S.length ≤ (S ++ [MBox.lst []] ++ [MBox.dk []]).length := by rw [List.length_append]; omega
  have b3 : S.length ≤ (S ++ [MBox.lst []] ++ [MBox.dk []] ++ [MBox.lst [Dt.int 0]]).length := by rw [List.length_append]; omega
  have px : S <+: (S ++ [MBox.lst []] ++ [MBox.dk []] ++ [MBox.lst [Dt.int 0]] ++ [MBox.lst [Dt.non, Dt.bl true, Dt.bl false, Dt.int 0, Dt.int 1, Dt.int (-1), Dt.int (10 ^ Int.toNat 39), Dt.int (-10 ^ Int.toNat 39), Dt.str "", Dt.str "a", Dt.str "b", Dt.str "A", Dt.str "abcdefg", Dt.str "to", Dt.tup [], Dt.box (List.length S), Dt.box (List.length (S ++ [MBox.lst []])), Dt.tup [Dt.str "a"], Dt.box (List.length (S ++ [MBox.lst []] ++ [MBox.dk []]))]]) :=
    (List.prefix_append _ _).trans ((List.prefix_append _ _).trans ((List.prefix_append _ _).trans (List.prefix_append _ _)))
  generalize (S ++ [MBox.lst []] ++ [MBox.dk []] ++ [MBox.lst [Dt.int 0]] ++ [MBox.lst [Dt.non, Dt.bl true, Dt.bl false, Dt.int 0, Dt.int 1, Dt.int (-1), Dt.int (10 ^ Int.toNat 39), Dt.int (-10 ^ Int.toNat 39), Dt.str "", Dt.str "a", Dt.str "b", Dt.str "A", Dt.str "abcdefg", Dt.str "to", Dt.tup [], Dt.box (List.length S), Dt.box (List.length (S ++ [MBox.lst []])), Dt.tup [Dt.str "a"], Dt.box (List.length (S ++ [MBox.lst []] ++ [MBox.dk []]))]]) = S1 at e0 e1 e2 e3 px ⊢
  generalize List.length (S ++ [MBox.lst []] ++ [MBox.dk []] ++ [MBox.lst [Dt.int 0]]) = m3 at e3 b3 ⊢
  generalize List.length (S ++ [MBox.lst []] ++ [MBox.dk []]) = m2 at e2 e3 b2 ⊢
  generalize List.length (S ++ [MBox.lst []]) = m1 at e1 e3 b1 ⊢
  have b0 : S.length ≤ S.length := Nat.le_refl _
  have c0 : S.length ≤ S1.length := px.length_le
  have B1 := B.pre px
  have F1 := Fr.pre (b := b) px
  generalize hm0 : List.length S = m0 at e0 e3 b0 b1 b2 b3 c0 hb ⊢
  iterate 4 (refine ⟨Nat.le_of_ble_eq_true rfl, ?_⟩; and_intros)
  refine w_disp1 ?_
  and_intros
  refine ⟨Nat.le_of_ble_eq_true rfl, ?_⟩
  refine ⟨.inr "a", rfl, get_last, ?_⟩
  rw [set_last]
  and_intros
  refine w_disp1 ?_
  and_intros
  refine ⟨get_last, ?_⟩
  rw [set_last]
  and_intros
  refine w_nd ?_
  and_intros
  repeat (refine ⟨Nat.le_of_ble_eq_true rfl, ?_⟩; and_intros)
  have f0 : (S1 ++ [MBox.dk [(Sum.inr "a", Dt.tup [Dt.int 1])]] ++ [MBox.dk [(Sum.inl 0, Dt.int 0)]] ++ [MBox.nd])[S1.length]? = some (.dk [(Sum.inr "a", Dt.tup [Dt.int 1])]) := get_pre (List.prefix_append _ _) (get_pre (List.prefix_append _ _) get_last)
  have f1 : (S1 ++ [MBox.dk [(Sum.inr "a", Dt.tup [Dt.int 1])]] ++ [MBox.dk [(Sum.inl 0, Dt.int 0)]] ++ [MBox.nd])[(S1 ++ [MBox.dk [(Sum.inr "a", Dt.tup [Dt.int 1])]]).length]? = some (.dk [(Sum.inl 0, Dt.int 0)]) := get_pre (List.prefix_append _ _) get_last
  have f2 : (S1 ++ [MBox.dk [(Sum.inr "a", Dt.tup [Dt.int 1])]] ++ [MBox.dk [(Sum.inl 0, Dt.int 0)]] ++ [MBox.nd])[(S1 ++ [MBox.dk [(Sum.inr "a", Dt.tup [Dt.int 1])]] ++ [MBox.dk [(Sum.inl 0, Dt.int 0)]]).length]? = some .nd := get_last
  have c1 : m0 ≤ (S1 ++ [MBox.dk [(Sum.inr "a", Dt.tup [Dt.int 1])]]).length := by rw [List.length_append]; omega
  have c2 : m0 ≤ (S1 ++ [MBox.dk [(Sum.inr "a", Dt.tup [Dt.int 1])]] ++ [MBox.dk [(Sum.inl 0, Dt.int 0)]]).length := by rw [List.length_append]; omega
  have py : S1 <+: (S1 ++ [MBox.dk [(Sum.inr "a", Dt.tup [Dt.int 1])]] ++ [MBox.dk [(Sum.inl 0, Dt.int 0)]] ++ [MBox.nd]) := (List.prefix_append _ _).trans ((List.prefix_append _ _).trans (List.prefix_append _ _))
  generalize (S1 ++ [MBox.dk [(Sum.inr "a", Dt.tup [Dt.int 1])]] ++ [MBox.dk [(Sum.inl 0, Dt.int 0)]] ++ [MBox.nd]) = S2 at f0 f1 f2 py ⊢
  generalize (S1 ++ [MBox.dk [(Sum.inr "a", Dt.tup [Dt.int 1])]] ++ [MBox.dk [(Sum.inl 0, Dt.int 0)]]).length = n2 at f2 c2 ⊢
  generalize (S1 ++ [MBox.dk [(Sum.inr "a", Dt.tup [Dt.int 1])]]).length = n1 at f1 c1 ⊢
  have F2 := F1.trans (Fr.pre (b := b) py)
  have B2 := B1.pre py
  have g0 := get_pre py e0
  have g1 := get_pre py e1
  have g2 := get_pre py e2
  have g3 := get_pre py e3
  refine w_addL (lst_of (get_pre (List.prefix_append _ _) g3)) (lst_of get_last) ?_
  refine w_newL (Nat.le_of_ble_eq_true rfl) ?_
  and_intros
  refine (one_ok B2.app.app (seq_lst get_last) (by have := py.length_le; simp only [List.length_append, List.length_cons, List.length_nil]; omega) (fun z => by simp at z) (Nat.le_of_ble_eq_true rfl)).mono (fun d S3 ⟨hd, B3, F3⟩ => ?_) fun _ _ _ q => q
  have F4 := ((Fr.refl b S2).app.app).trans F3
  have fin : Xn S2 d → (∀ m, d = .box m → m0 ≤ m) → (Xn S3 d ∧ (∀ m, d = .box m → m0 ≤ m)) := fun X h => ⟨X.fr F4 fun m e => by have := h m e; omega, h⟩
  have both : Xn S2 d ∧ (∀ m, d = .box m → m0 ≤ m) := by
    have nb : ∀ {d : Dt}, (∀ m, d ≠ .box m) → (∀ m, d = .box m → m0 ≤ m) := fun h m e => absurd e (h m)
    have bx : ∀ {k : Nat}, m0 ≤ k → (∀ m, Dt.box k = .box m → m0 ≤ m) := fun h m e => by cases e; exact h
    have sa : Sm 59 (.str "a") 100 := sm_m (by simp [menuD])
    rcases List.mem_append.mp hd with hd | hd
    · simp only [List.mem_cons, List.not_mem_nil, or_false] at hd
      rcases hd with rfl | rfl | rfl | rfl | rfl | rfl | rfl | rfl | rfl | rfl | rfl | rfl | rfl | rfl | rfl | rfl | rfl | rfl | rfl
      · exact ⟨.flat rfl (fun _ => rfl) (fun _ => .non (by decide)) (fun z => by simp [PyData.eqv]), nb fun _ e => nomatch e⟩
      · exact ⟨.flat rfl (fun _ => rfl) (fun _ => .bl _ (by decide)) (fun z => by simp [PyData.eqv]), nb fun _ e => nomatch e⟩
      · exact ⟨.flat rfl (fun _ => rfl) (fun _ => .bl _ (by decide)) (fun z => by simp [PyData.eqv]), nb fun _ e => nomatch e⟩
      · exact ⟨xn_int (by decide +kernel), nb fun _ e => nomatch e⟩
      · exact ⟨xn_int (by decide +kernel), nb fun _ e => nomatch e⟩
      · exact ⟨xn_int (by decide +kernel), nb fun _ e => nomatch e⟩
      · exact ⟨xn_int (by decide +kernel), nb fun _ e => nomatch e⟩
      · exact ⟨xn_int (by decide +kernel), nb fun _ e => nomatch e⟩
      · exact ⟨.txt (by decide +kernel), nb fun _ e => nomatch e⟩
      · exact ⟨.txt (by decide +kernel), nb fun _ e => nomatch e⟩
      · exact ⟨.txt (by decide +kernel), nb fun _ e => nomatch e⟩
      · exact ⟨.txt (by decide +kernel), nb fun _ e => nomatch e⟩
      · exact ⟨.txt (by decide +kernel), nb fun _ e => nomatch e⟩
      · exact ⟨.txt (by decide +kernel), nb fun _ e => nomatch e⟩
      · exact ⟨xn_tup (fun _ z => (nomatch z)) (by decide), nb fun _ e => nomatch e⟩
      · exact ⟨xn_lst (seq_lst g0) (fun _ z => (nomatch z)) (by decide), bx b0⟩
      · exact ⟨.dct g1 (.inl rfl), bx b1⟩
      · exact ⟨xn_tup (fun d z => by rw [List.mem_singleton] at z; rw [z]; exact sa) (Nat.le_of_ble_eq_true rfl), nb fun _ e => nomatch e⟩
      · exact ⟨xn_lst (seq_lst g2) (fun d z => by rw [List.mem_singleton] at z; rw [z]; exact sm_i (by decide)) (Nat.le_of_ble_eq_true rfl), bx b2⟩
    · simp only [List.mem_cons, List.not_mem_nil, or_false] at hd
      have two : ∀ i j : Int, i.natAbs < 10 → j.natAbs < 10 → Xn S2 (.tup [.int i, .int j]) := fun i j h1 h2 => xn_tup (fun d z => by
        simp only [List.mem_cons, List.not_mem_nil, or_false] at z
        rcases z with rfl | rfl
        · exact sm_i h1
        · exact sm_i h2) (Nat.le_of_ble_eq_true rfl)
      rcases hd with rfl | rfl | rfl | rfl | rfl | rfl | rfl | rfl | rfl | rfl
      · exact ⟨two _ _ (by decide) (by decide), nb fun _ e => nomatch e⟩
      · exact ⟨two _ _ (by decide) (by decide), nb fun _ e => nomatch e⟩
      · exact ⟨two _ _ (by decide) (by decide), nb fun _ e => nomatch e⟩
      · exact ⟨two _ _ (by decide) (by decide), nb fun _ e => nomatch e⟩
      · exact ⟨.dct f0 (.inr (.inl rfl)), bx c0⟩
      · exact ⟨.dct f1 (.inr (.inr (.inl rfl))), bx c1⟩
      · exact ⟨.nd f2, bx c2⟩
      · exact ⟨xn_tup (fun d z => by
          simp only [List.mem_cons, List.not_mem_nil, or_false, or_self] at z
          rw [z]; exact sm_is (is := [0]) (fun i hi => by rw [List.mem_singleton] at hi; rw [hi]; decide) (by decide)) (Nat.le_of_ble_eq_true rfl), nb fun _ e => nomatch e⟩
      · exact ⟨xn_tup (fun d z => by
          simp only [List.mem_cons, List.not_mem_nil, or_false, or_self] at z
          rcases z with rfl | rfl
          · exact Sm.tup (n := 58) (w := 20) (fun d z => by rw [List.mem_singleton] at z; rw [z]; exact (Sm.menu (n := 57) (by simp [menuD])).mono (by decide)) 100 (by decide)
          · exact sm_is (is := []) (fun i hi => (nomatch hi)) (by decide)) (Nat.le_of_ble_eq_true rfl), nb fun _ e => nomatch e⟩
      · exact ⟨xn_tup (fun d z => by
          rw [List.mem_singleton] at z
          rw [z]; exact sm_is (is := []) (fun i hi => (nomatch hi)) (by decide)) (Nat.le_of_ble_eq_true rfl), nb fun _ e => nomatch e⟩
  obtain ⟨x1, x2⟩ := fin both.1 both.2
  exact .inl ⟨_, rfl, x1, x2, B3, F2.trans F4⟩
end
end Lw
set_option Elab.async false
set_option linter.all false
set_option maxRecDepth 100000
set_option maxHeartbeats 4000000
/-! Uk: k01: a name's place. -/
namespace Mn
open PySem PySem.Spec PyProof.Rows L2
theorem w_callTV {σ : Sg} {S : Bxs} {E : Nat → List Dt → Bxs → Prop} {i n : Nat} {x : Str} {F : FN} {L : List (Str × FN)} {fa : FA} {P : Dt → Bxs → Prop} (e1 : σ[i]? = some (some (.box n))) (e2 : S[n]? = some (.fnc x)) (e3 : L.lookup x = some F) (h : (dCallT F fa σ S).Wp P E) : (dCallTV i L fa σ S).Wp P E := by
  unfold dCallTV
  simp only [e1, e2, e3]
  exact h
end Mn
namespace Lw
open PySem PySem.Spec PyProof.Rows L2 Mn
section
variable {S : Bxs} {size : Nat} {ks hs rs : List Dt} {w : Dt} {b c n : Nat}
theorem among_ok {zs : List Str} (hm : ∀ y ∈ zs.map Dt.str, y ∈ menuD) {x : Dt} (X : Xn S x) : (F__place_among_v3 [.tup (zs.map Dt.str), x] S).Wp (fun d S' => S' = S ∧ ∃ z : Str, ∃ j : Nat, x = .str z ∧ (zs.map Dt.str)[j]? = some x ∧ d = .int (j : Int)) (fun c es S' => S' = S ∧ c = 9 ∧ es = [x] ∧ inB (zs.map Dt.str) x = false) := by
  refine w_body ?_
  unfold B__place_among_v3
  simp only [startD, List.map_cons, List.map_nil, List.length_cons, List.length_nil, List.cons_append, List.nil_append, Nat.reduceAdd, Nat.reduceSub, List.replicate, List.replicate_succ, List.replicate_zero]
  and_intros
  refine X.nin hm ?_
  refine ⟨_, rfl, fun hb => ?_, fun hb => ?_⟩
  · refine w_raise ?_
    and_intros
    exact ⟨rfl, rfl, rfl, by simpa using hb⟩
  · have hb : inB (zs.map Dt.str) x = true := by simpa using hb
    obtain ⟨y, hy, e⟩ := List.any_eq_true.mp hb
    obtain ⟨z, hz, rfl⟩ := List.mem_map.mp hy
    have ex : x = .str z := by
      cases x with
      | str y => rw [of_decide_eq_true (show decide (z = y) = true from e)]
      | _ => exact absurd e Bool.false_ne_true
    subst ex
    obtain ⟨j, hj, hj2, _⟩ := strAt_mem hz
    refine w_sNil (c_nx ?_)
    and_intros
    refine ⟨rfl, ?_⟩
    and_intros
    refine w_tindex hj ?_
    exact .inl ⟨_, rfl, rfl, z, j, rfl, by rw [List.getElem?_map, hj2]; rfl, rfl⟩
theorem eqf_eqX {z : Str} {x : Dt} : (Dt.str z).eqf x = eqX z x := by cases x <;> rfl
def hitP (ns : List Dt) (x : Dt) (d : Dt) : Bool := match d with
  | .int i => ((ns[i.toNat]?).getD .non).eqf x
  | _ => false
theorem hit_list (ns : List Dt) (x : Dt) : (rgD 0 ns.length).filter (hitP ns x) = (((List.range ns.length).filter fun i : Nat => ((ns[i]?).getD .non).eqf x).map fun i : Nat => (i : Int)).map Dt.int := by
  unfold rgD
  rw [List.filter_map, List.map_map]
  have e1 : (hitP ns x ∘ fun i : Nat => Dt.int (0 + (i : Int))) = fun i : Nat => ((ns[i]?).getD .non).eqf x := by
    funext i
    show ((ns[(0 + (i : Int)).toNat]?).getD .non).eqf x = _
    rw [show (0 + (i : Int)).toNat = i by omega]
  rw [e1]
  refine List.map_congr_left fun i _ => ?_
  show Dt.int (0 + (i : Int)) = Dt.int (i : Int)
  rw [Int.zero_add]
/-- act(works, name) stands in box k and tells the place in ns -/
structure ActOk (S : Bxs) (w : Dt) (ns : List Dt) (k : Nat) : Prop where
  ok : ∃ (y : Str) (F : FN), S[k]? = some (.fnc y) ∧ ([("kind_place", F_kind_place_v3), ("hand_place", F_hand_place_v3)] : List (Str × FN)).lookup y = some F ∧
    ∀ (x : Dt) (S' : Bxs), Xn S' x → (F [w, x] S').Wp (fun d S1 => S1 = S' ∧ ∃ z : Str, ∃ j : Nat, x = .str z ∧ ns[j]? = some x ∧ d = .int (j : Int)) (fun c es S1 => S1 = S' ∧ c = 9 ∧ es = [x] ∧ inB ns x = false)
theorem placed_ok {x : Dt} {k : Nat} {ns : List Dt} (hm : ∀ y ∈ ns, y ∈ menuD) (nd : ns.Nodup) (hl : ns.length ≤ 100) (A : ActOk S w ns k) (X : ∀ S', S <+: S' → Xn S' x) : (F__law_is_placed [.box k, w, .tup ns, x] S).Wp (fun r S' => r = .bl true ∧ S <+: S') noX := by
  obtain ⟨y, F, hk, hF, hact⟩ := A.ok
  refine w_body ?_
  unfold B__law_is_placed
  simp only [startD, List.map_cons, List.map_nil, List.length_cons, List.length_nil, List.cons_append, List.nil_append, Nat.reduceAdd, Nat.reduceSub, List.replicate, List.replicate_succ, List.replicate_zero]
  refine w_cons (w_set (w_lcP ?_))
  and_intros
  refine ⟨⟨by show -(2 ^ 62) ≤ (ns.length : Int); omega, by show (ns.length : Int) < 2 ^ 62; omega⟩, hitP ns x, fun x d => d = x, ?_, fun _ _ => trivial, fun v S' hx p => ?_, fun ds S' he hn p => ?_⟩
  · show (rgD 0 ((ns.length : Int)).toNat).length < LIM
    rw [rgD_len]
    exact Nat.lt_of_le_of_lt (show ((ns.length : Int)).toNat ≤ 100 by omega) (by decide)
  · obtain ⟨j, hj⟩ := List.mem_iff_getElem?.mp hx
    have e := rgD_get hj
    subst e
    have jl : j < ns.length := by
      have := (List.getElem?_eq_some_iff.mp hj).1
      rw [rgD_len] at this
      omega
    and_intros
    refine w_idxT (by omega) (by omega) fun d hd => ?_
    rw [show (0 + (j : Int)).toNat = j by omega] at hd
    obtain ⟨z, rfl⟩ := menu_str (hm d (List.mem_of_getElem? hd))
    and_intros
    refine ((X S' p).vs (hm _ (List.mem_of_getElem? hd))).mono (fun r S2 ⟨e1, e2⟩ => ?_) fun _ _ _ q => q
    subst e1; subst e2
    refine ⟨_, rfl, ?_, fun _ => List.prefix_refl _, fun _ => ?_⟩
    · show eqX z x = ((ns[(0 + (j : Int)).toNat]?).getD .non).eqf x
      rw [show (0 + (j : Int)).toNat = j by omega, hd]
      exact eqf_eqX.symm
    · and_intros
      exact ⟨rfl, List.prefix_refl _⟩
  have es : ds = (((List.range ns.length).filter fun i : Nat => ((ns[i]?).getD .non).eqf x).map fun i : Nat => (i : Int)).map Dt.int := by
    have := Each.map (f := id) he
    rw [List.map_id] at this
    rw [this, show ((ns.length : Int)).toNat = ns.length by omega, hit_list]
  generalize hjs : (((List.range ns.length).filter fun i : Nat => ((ns[i]?).getD .non).eqf x).map fun i : Nat => (i : Int)) = js at es
  subst es
  have jin : ∀ j ∈ js, ∃ i : Nat, j = (i : Int) ∧ i < ns.length ∧ ((ns[i]?).getD .non).eqf x = true := fun j hj => by
    rw [← hjs] at hj
    obtain ⟨i, hi, rfl⟩ := List.mem_map.mp hj
    obtain ⟨h1, h2⟩ := List.mem_filter.mp hi
    exact ⟨i, rfl, List.mem_range.mp h1, h2⟩
  have jof : ∀ i : Nat, i < ns.length → ((ns[i]?).getD .non).eqf x = true → (i : Int) ∈ js := fun i h1 h2 => by
    rw [← hjs]
    exact List.mem_map.mpr ⟨i, List.mem_filter.mpr ⟨List.mem_range.mpr h1, h2⟩, rfl⟩
  refine c_nx ?_
  refine w_cons (w_try (w_set (w_callTV rfl (get_pre p hk) hF (w_callT ?_))))
  and_intros
  refine (hact x S' (X S' p)).mono (fun d S1 ⟨eS, z, j, ex, hj, ed⟩ => ?_) fun c es S1 ⟨eS, ec, ee, hno⟩ => ?_
  · subst eS; subst ed
    have hjl : j < ns.length := (List.getElem?_eq_some_iff.mp hj).1
    have hit : ((ns[j]?).getD .non).eqf x = true := by
      rw [hj, ex]
      show decide (z = z) = true
      exact decide_eq_true rfl
    have all : ∀ i ∈ js, i = (j : Int) := fun i hi => by
      obtain ⟨k, rfl, hk, hk2⟩ := jin i hi
      have e1 : ns[k]? = some x := by
        rw [List.getElem?_eq_getElem hk] at hk2 ⊢
        obtain ⟨y, hy⟩ := menu_str (hm ns[k] (List.getElem_mem hk))
        rw [hy] at hk2 ⊢
        rw [ex] at hk2 ⊢
        rw [show y = z from of_decide_eq_true (show decide (y = z) = true from hk2)]
      have := nodup_at nd e1 hj
      omega
    have ne := jof j hjl hit
    obtain ⟨j0, jr, ejs⟩ : ∃ a l, js = a :: l := by
      cases js with
      | nil => cases ne
      | cons a l => exact ⟨a, l, rfl⟩
    have ej0 : j0 = (j : Int) := all j0 (by rw [ejs]; exact List.mem_cons_self)
    have sm : ∀ d ∈ js.map Dt.int, Sm 59 d 4 := fun d hd => by
      obtain ⟨i, hi, rfl⟩ := List.mem_map.mp hd
      rw [all i hi]
      exact Sm.int (n := 58) 3 (by decide) (by decide) (Nat.lt_of_le_of_lt (show ((j : Nat) : Int).natAbs ≤ 100 by omega) (by decide))
    have sj : Sm 60 (.int (j : Int)) 4 := Sm.int (n := 59) 3 (by decide) (by decide) (Nat.lt_of_le_of_lt (show ((j : Nat) : Int).natAbs ≤ 100 by omega) (by decide))
    and_intros
    have hn2 := get_pre (List.prefix_append S1 [MBox.lst []]) hn
    refine w_neNil (seq_lst hn2) (seq_lst get_last) sm ?_
    rw [ejs]
    refine ⟨_, rfl, fun _ => ?_, fun z => nomatch z⟩
    and_intros
    refine w_idx (seq_lst hn2) (by decide) (by rw [ejs]; simp) fun d hd => ?_
    rw [ejs] at hd
    cases hd
    and_intros
    rw [ej0]
    refine (alike3S_ok sj (by decide)).mono (fun r S3 ⟨e1, e2⟩ => ?_) fun _ _ _ q => q
    subst e1; subst e2
    exact .inl ⟨_, rfl, rfl, p.trans (List.prefix_append _ _)⟩
  · subst eS; subst ec; subst ee
    have ejs : js = [] := by
      cases js with
      | nil => rfl
      | cons a l =>
        obtain ⟨i, _, h1, h2⟩ := jin a List.mem_cons_self
        rw [List.getElem?_eq_getElem h1] at h2
        have this : inB ns x = true := List.any_eq_true.mpr ⟨ns[i], List.getElem_mem h1, h2⟩
        rw [hno] at this
        cases this
    subst ejs
    refine ⟨_, _, rfl, ?_⟩
    rw [dec_enc]
    have hn2 := get_pre (List.prefix_append S1 [MBox.lst []]) hn
    obtain ⟨d1, T1, q1, q2, q3⟩ := (w_nilNil (E := noX) (neg := false) (P := fun d S' => d = .bl true ∧ S' = S1 ++ [MBox.lst []]) (seq_lst hn2) (seq_lst get_last) ⟨rfl, rfl⟩).ok
    subst q2; subst q3
    obtain ⟨d2, T2, r1, r2, r3⟩ := (X (S1 ++ [MBox.lst []]) (p.trans (List.prefix_append _ _))).self.ok
    subst r2; subst r3
    refine .of (show pickH [(9, hAnd 6 4 0 3 F__law_alike_v3), (18, fun _ => sRet (dC (.bl false)))] 9 [x] [some (.box k), some w, some (.tup ns), some x, some (.box S.length), none, none, none] S1 = .ok (.rt (.bl true), [some (.box k), some w, some (.tup ns), some x, some (.box S.length), none, none, none]) (S1 ++ [MBox.lst []]) from ?_) ?_
    · show hAnd 6 4 0 3 F__law_alike_v3 [x] [some (.box k), some w, some (.tup ns), some x, some (.box S.length), none, none, none] S1 = _
      unfold hAnd
      simp only [List.getElem?_cons_zero, List.getElem?_cons_succ, q1, r1]
      rfl
    · exact ⟨fun z => (nomatch z), fun _ => .inl ⟨_, rfl, rfl, p.trans (List.prefix_append _ _)⟩⟩
end
end Lw
set_option Elab.async false
set_option linter.all false
set_option maxRecDepth 100000
set_option maxHeartbeats 4000000
/-! Ul: k01: names and odd values asked for. -/
namespace Lw
open PySem PySem.Spec PyProof.Rows L2 Mn
section
variable {S : Bxs} {size : Nat} {ks hs rs : List Dt} {w : Dt} {b c n : Nat}
/-- the two defs stand in boxes 1 and 2 -/
def Fns (S : Bxs) : Prop := S[1]? = some (.fnc "kind_place") ∧ S[2]? = some (.fnc "hand_place")
theorem Fns.fr {S1 : Bxs} (h : Fns S) (F : Fr b S S1) (hb : 3 ≤ b) : Fns S1 := ⟨F.at_ h.1 (by omega), F.at_ h.2 (by omega)⟩
theorem act1 (W : Works w size ks hs rs) (h : Fns S) : ActOk S w ks 1 := by
  refine ⟨"kind_place", F_kind_place_v3, h.1, rfl, fun x S' X => ?_⟩
  have km := W.km
  have hwe := W.eq
  subst hwe
  obtain ⟨zs, rfl⟩ := menu_zs km
  refine w_body ?_
  unfold B_kind_place_v3
  simp only [startD, List.map_cons, List.map_nil, List.length_cons, List.length_nil, List.cons_append, List.nil_append, Nat.reduceAdd, Nat.reduceSub, List.replicate, List.replicate_succ, List.replicate_zero]
  and_intros
  refine (among_ok km X).mono (fun d S1 ⟨eS, z, j, ex, hj, ed⟩ => ?_) fun c es S1 ⟨eS, ec, ee, hn⟩ => ⟨eS, ec, ee, hn⟩
  subst eS; subst ed
  exact .inl ⟨_, rfl, rfl, z, j, ex, hj, rfl⟩
theorem act2 (W : Works w size ks hs rs) (h : Fns S) : ActOk S w hs 2 := by
  refine ⟨"hand_place", F_hand_place_v3, h.2, rfl, fun x S' X => ?_⟩
  have km := W.hm
  have hwe := W.eq
  subst hwe
  obtain ⟨zs, rfl⟩ := menu_zs km
  refine w_body ?_
  unfold B_hand_place_v3
  simp only [startD, List.map_cons, List.map_nil, List.length_cons, List.length_nil, List.cons_append, List.nil_append, Nat.reduceAdd, Nat.reduceSub, List.replicate, List.replicate_succ, List.replicate_zero]
  and_intros
  refine (among_ok km X).mono (fun d S1 ⟨eS, z, j, ex, hj, ed⟩ => ?_) fun c es S1 ⟨eS, ec, ee, hn⟩ => ⟨eS, ec, ee, hn⟩
  subst eS; subst ed
  exact .inl ⟨_, rfl, rfl, z, j, ex, hj, rfl⟩
/-- what stands behind box l -/
def Far (l : Nat) (S : Bxs) (x : Dt) : Prop := Xn S x ∧ ∀ m, x = .box m → l < m
theorem Far.fr {l k : Nat} {S1 : Bxs} {x : Dt} (h : Far l S x) (F : Fr k S S1) (hk : k ≤ l) : Far l S1 x := ⟨h.1.fr F fun m e => by have := h.2 m e; omega, h.2⟩
def okQ (z : Str) : Bool := okTx (z ++ "q") && decide (z.length + ("q" : Str).length ≤ strLim)
theorem menu_q {z : Str} (h : z ∈ menuS) : okQ z = true := List.all_eq_true.mp (show (menuS.all okQ) = true by decide +kernel) z h
theorem menu_S {z : Str} (h : Dt.str z ∈ menuD) : z ∈ menuS := by
  obtain ⟨y, hy, e⟩ := List.mem_map.mp (show Dt.str z ∈ menuS.map Dt.str from h)
  cases e; exact hy
theorem w_addS {a z : Str} {E : Nat → List Dt → Bxs → Prop} {P : Dt → Bxs → Prop} (c : a.length + z.length ≤ strLim) (h : P (.str (a ++ z)) S) : (addG (.str a) (.str z) S).Wp P E := by
  have e : addG (.str a) (.str z) S = .ok (.str (a ++ z)) S := by
    show (if a.length + z.length ≤ strLim then Rs.ok (Dt.str (a ++ z)) S else .no) = _
    rw [if_pos c]
  rw [e]; exact ⟨h⟩
theorem w_fn {n : Nat} {x : Str} {σ : Sg} {E : Nat → List Dt → Bxs → Prop} {P : Dt → Bxs → Prop} (e : S[n]? = some (.fnc x)) (h : P (.box n) S) : (dFn n x σ S).Wp P E := by
  unfold dFn
  simp only [e]
  exact ⟨h⟩
theorem placedall_ok (B : Bag S b c) (W : Works w size ks hs rs) (Fn : Fns S) (hb : 3 ≤ b) : (F__law_are_placed [.box b, w] S).Wp (fun r S' => r = .bl true ∧ Bag S' b c ∧ Fr b S S') noX := by
  have kl := W.kl
  have s0 := W.s0
  have s1 := W.s1
  have hl := W.hl
  have km := W.km
  have hm := W.hm
  have wkn := W.kn
  have whn := W.hn
  have hwe := W.eq
  have hbl := B.lt
  refine w_body ?_
  unfold B__law_are_placed
  simp only [startD, List.map_cons, List.map_nil, List.length_cons, List.length_nil, List.cons_append, List.nil_append, Nat.reduceAdd, Nat.reduceSub, List.replicate, List.replicate_succ, List.replicate_zero]
  rw [hwe]
  and_intros
  refine w_lc ?_
  and_intros
  refine ⟨⟨by decide, by decide⟩, fun i acc S' => (∀ x ∈ acc, Far S.length S' x) ∧ acc.length = i ∧ Bag S' b c ∧ Fr b S S' ∧ S.length < S'.length, fun _ _ _ _ => trivial, fun i x acc S3 hx hL ⟨h1, h2, B3, F3, l3⟩ => ?_, ⟨fun x z => (nomatch z), rfl, B.app, (Fr.refl b S).app, by simp⟩, fun acc S3 hL ⟨h1, h2, B3, F3, l3⟩ => ?_⟩
  · refine w_tName (w_yes ⟨fun _ => ?_, fun z => nomatch z⟩)
    and_intros
    refine (odd_ok B3).mono (fun d S4 ⟨X, hX, B4, F4⟩ => ?_) fun _ _ _ q => q
    have hi : i < 4 := by
      have := (List.getElem?_eq_some_iff.mp hx).1
      rwa [show (rgD 0 (Int.toNat 4), fun (x : Bxs) => True).fst.length = 4 from rgD_len] at this
    have ne : S.length ≠ b := by omega
    have l4 : S.length < S4.length := Nat.lt_of_lt_of_le l3 F4.len
    refine ⟨F4.at_ hL ne, by rw [h2]; exact Nat.lt_trans hi (by decide), fun y hy => ?_, by rw [List.length_append, h2]; rfl, B4.own ne (by omega), (F3.trans F4).own (Nat.le_refl _), by rw [List.length_set]; exact l4⟩
    rcases List.mem_append.mp hy with z | z
    · exact ((h1 y z).fr F4 (by omega)).fr Fr.set (Nat.le_refl _)
    · rw [List.mem_singleton] at z
      subst z
      have hX2 : ∀ m, y = .box m → S.length < m := fun m e => by have := hX m e; omega
      exact ⟨X.fr Fr.set fun m e => by have := hX2 m e; omega, hX2⟩
  have hacc : acc.length = 4 := by rw [h2]; exact rgD_len
  obtain ⟨k0, kr, ek⟩ : ∃ a l, ks = a :: l := by
    cases ks with
    | nil => simp at kl; omega
    | cons a l => exact ⟨a, l, rfl⟩
  have k0m : k0 ∈ menuD := km k0 (by rw [ek]; exact List.mem_cons_self)
  obtain ⟨z0, rfl⟩ := menu_str k0m
  have oq := menu_q (menu_S k0m)
  unfold okQ at oq
  rw [Bool.and_eq_true, decide_eq_true_eq] at oq
  have ix0 : ∀ {S9 : Bxs} {P : Dt → Bxs → Prop}, P (.str z0) S9 → (ixG (.tup ks) (.int 0) S9).Wp P noX := fun {S9 P} h => w_idxT (by decide) (by rw [ek]; simp) fun d hd => by
    rw [ek] at hd
    cases hd
    exact h
  and_intros
  refine ix0 ?_
  and_intros
  refine w_addS oq.2 ?_
  and_intros
  refine ix0 ?_
  and_intros
  refine w_disp1 ?_
  and_intros
  refine ix0 ?_
  and_intros
  refine ⟨get_last, ?_⟩
  rw [set_last]
  and_intros
  have hcut : Mn.cutD ks none (some 1) = [.str z0] := by
    rw [show (some (1 : Int)) = some ((1 : Nat) : Int) from rfl, cut_to, ek]; rfl
  rw [hcut]
  have e1 : (S3 ++ [MBox.lst [Dt.str z0]] ++ [MBox.dk [(Sum.inr z0, Dt.int 1)]])[S3.length]? = some (.lst [.str z0]) := get_pre (List.prefix_append _ _) get_last
  have e2 : (S3 ++ [MBox.lst [Dt.str z0]] ++ [MBox.dk [(Sum.inr z0, Dt.int 1)]])[(S3 ++ [MBox.lst [Dt.str z0]]).length]? = some (.dk [(Sum.inr z0, Dt.int 1)]) := get_last
  have l1 : S.length < (S3 ++ [MBox.lst [Dt.str z0]]).length := by rw [List.length_append]; omega
  have px : S3 <+: (S3 ++ [MBox.lst [Dt.str z0]] ++ [MBox.dk [(Sum.inr z0, Dt.int 1)]]) := (List.prefix_append _ _).trans (List.prefix_append _ _)
  generalize (S3 ++ [MBox.lst [Dt.str z0]] ++ [MBox.dk [(Sum.inr z0, Dt.int 1)]]) = S4 at e1 e2 px ⊢
  generalize (S3 ++ [MBox.lst [Dt.str z0]]).length = m1 at e2 l1 ⊢
  generalize S3.length = m0 at e1 l3 ⊢
  have hL4 := get_pre px hL
  have B4 := B3.pre px
  have F4 := F3.trans (Fr.pre (b := b) px)
  refine w_addL (lst_of (get_pre (List.prefix_append _ _) hL4)) (lst_of get_last) ?_
  refine w_newL (by rw [List.length_append, hacc]; exact Nat.le_of_ble_eq_true rfl) ?_
  have hfar : ∀ x ∈ acc ++ [Dt.str (z0 ++ "q"), Dt.tup [Dt.str z0], Dt.box m0, Dt.box m1, Dt.int 0], Far S.length S4 x := fun x hx => by
    have sz : ∀ d ∈ [Dt.str z0], Sm 59 d 100 := fun d hd => by rw [List.mem_singleton] at hd; rw [hd]; exact sm_m k0m
    rcases List.mem_append.mp hx with z | z
    · exact (h1 x z).fr (Fr.pre (b := b) px) (by omega)
    · simp only [List.mem_cons, List.not_mem_nil, or_false] at z
      rcases z with rfl | rfl | rfl | rfl | rfl
      · exact ⟨.txt oq.1, fun m e => (nomatch e)⟩
      · exact ⟨xn_tup sz (Nat.le_of_ble_eq_true rfl), fun m e => (nomatch e)⟩
      · exact ⟨xn_lst (seq_lst e1) sz (Nat.le_of_ble_eq_true rfl), fun m e => by cases e; exact l3⟩
      · exact ⟨.dct e2 (.inr (.inr (.inr ⟨z0, menu_S k0m, rfl⟩))), fun m e => by cases e; exact l1⟩
      · exact ⟨xn_int (by decide +kernel), fun m e => (nomatch e)⟩
  have hfl : (acc ++ [Dt.str (z0 ++ "q"), Dt.tup [Dt.str z0], Dt.box m0, Dt.box m1, Dt.int 0]).length = 9 := by rw [List.length_append, hacc]; rfl
  generalize acc ++ [Dt.str (z0 ++ "q"), Dt.tup [Dt.str z0], Dt.box m0, Dt.box m1, Dt.int 0] = five at hfar hfl ⊢
  and_intros
  have p5 : S4 <+: (S4 ++ [MBox.lst [Dt.str (z0 ++ "q"), Dt.tup [Dt.str z0], Dt.box m0, Dt.box m1, Dt.int 0]] ++ [MBox.lst five]) := (List.prefix_append _ _).trans (List.prefix_append _ _)
  have hfv : (S4 ++ [MBox.lst [Dt.str (z0 ++ "q"), Dt.tup [Dt.str z0], Dt.box m0, Dt.box m1, Dt.int 0]] ++ [MBox.lst five])[(S4 ++ [MBox.lst [Dt.str (z0 ++ "q"), Dt.tup [Dt.str z0], Dt.box m0, Dt.box m1, Dt.int 0]]).length]? = some (.lst five) := get_last
  generalize (S4 ++ [MBox.lst [Dt.str (z0 ++ "q"), Dt.tup [Dt.str z0], Dt.box m0, Dt.box m1, Dt.int 0]] ++ [MBox.lst five]) = S5 at p5 hfv ⊢
  generalize (S4 ++ [MBox.lst [Dt.str (z0 ++ "q"), Dt.tup [Dt.str z0], Dt.box m0, Dt.box m1, Dt.int 0]]).length = fv at hfv ⊢
  have both := W.both
  have hal : ks.length + hs.length ≤ 8 := by rw [← List.length_append]; exact both.2.2
  refine w_addT (Nat.le_trans hal (by decide)) ?_
  and_intros
  refine w_listT ?_
  refine w_newL (by rw [List.length_append]; exact Nat.le_trans hal (by decide)) ?_
  and_intros
  refine w_addL (lst_of get_last) (lst_of (get_pre (List.prefix_append _ _) hfv)) ?_
  have htot : ((ks ++ hs) ++ five).length ≤ 17 := by rw [List.length_append, List.length_append, hfl]; omega
  refine w_newL (Nat.le_trans htot (by decide)) ?_
  have p6 : S4 <+: (S5 ++ [MBox.lst (ks ++ hs)] ++ [MBox.lst ((ks ++ hs) ++ five)]) := p5.trans ((List.prefix_append _ _).trans (List.prefix_append _ _))
  have hlst : (S5 ++ [MBox.lst (ks ++ hs)] ++ [MBox.lst ((ks ++ hs) ++ five)])[(S5 ++ [MBox.lst (ks ++ hs)]).length]? = some (.lst ((ks ++ hs) ++ five)) := get_last
  generalize (S5 ++ [MBox.lst (ks ++ hs)] ++ [MBox.lst ((ks ++ hs) ++ five)]) = S6 at p6 hlst ⊢
  generalize (S5 ++ [MBox.lst (ks ++ hs)]).length = lv at hlst ⊢
  have F6 := F4.trans (Fr.pre (b := b) p6)
  have B6 := B4.pre p6
  have Fn6 := Fn.fr F6 hb
  have hX : ∀ x ∈ (ks ++ hs) ++ five, ∀ S', S6 <+: S' → Xn S' x := fun x hx S' p => by
    rcases List.mem_append.mp hx with z | z
    · obtain ⟨y, rfl⟩ := menu_str (both.2.1 x z)
      exact .txt (tx_menu (both.2.1 _ z))
    · exact ((hfar x z).fr (Fr.pre (b := b) (p6.trans p)) (by omega)).1
  refine ⟨_, seq_lst hlst, ?_⟩
  refine w_loop (fun i σ S' => ∃ d5, σ = [some (.box b), some (.tup [.tup ks, .tup hs, .tup rs]), some (.tup ks), some (.tup hs), some (.box fv), d5, none] ∧ S6 <+: S') (fun _ _ _ ⟨_, _, p⟩ => seq_lst (get_pre p hlst))
    (fun i x σ S7 hx ⟨d5, eσ, p7⟩ => ?_) (fun σ S7 ⟨d5, eσ, p7⟩ => ?_) ⟨_, rfl, List.prefix_refl _⟩
  · subst eσ
    have hx2 : x ∈ (ks ++ hs) ++ five := List.mem_of_getElem? hx
    have Fn7 := Fn6.fr (Fr.pre (b := b) p7) hb
    and_intros
    refine w_fn Fn7.1 ?_
    and_intros
    rw [← hwe]
    refine (placed_ok km wkn (by omega) (act1 W Fn7) fun S' p => hX x hx2 S' (p7.trans p)).mono (fun r S8 ⟨e1, p8⟩ => ?_) fun _ _ _ q => q
    subst e1
    refine ⟨true, rfl, (fun z => nomatch z), fun _ => ?_⟩
    have Fn8 := Fn7.fr (Fr.pre (b := b) p8) hb
    and_intros
    refine w_fn Fn8.2 ?_
    and_intros
    refine (placed_ok hm whn (by omega) (act2 W Fn8) fun S' p => hX x hx2 S' ((p7.trans p8).trans p)).mono (fun r S9 ⟨e1, p9⟩ => ?_) fun _ _ _ q => q
    subst e1
    refine ⟨true, rfl, (fun z => nomatch z), fun _ => ?_⟩
    refine w_sNil ?_
    exact .inl ⟨rfl, _, rfl, (p7.trans p8).trans p9⟩
  · subst eσ
    refine c_nx ?_
    and_intros
    exact .inl ⟨_, rfl, rfl, B6.pre p7, F6.trans (Fr.pre p7)⟩
end
end Lw
set_option Elab.async false
set_option linter.all false
set_option maxRecDepth 100000
set_option maxHeartbeats 4000000
/-! Um: k01: a dict from names to names shown. -/
namespace Lw
open PySem PySem.Spec PyProof.Rows L2 Mn
def dlP (L : List (Str × Str)) : List (PyData × PyData) := L.map fun p => (PyData.str p.1, PyData.str p.2)
theorem dl_show : ∀ L : List (Str × Str), PyData.showableKv (dlP L) = true
  | [] => by unfold dlP; simp [PyData.showableKv]
  | p :: L => by
    show PyData.showableKv ((PyData.str p.1, PyData.str p.2) :: dlP L) = true
    simp only [PyData.showableKv, PyData.showable, dl_show L, Bool.and_self]
theorem dl_deep : ∀ L : List (Str × Str), PyData.depthKv (dlP L) ≤ 3
  | [] => by unfold dlP; simp [PyData.depthKv]
  | p :: L => by
    show PyData.depthKv ((PyData.str p.1, PyData.str p.2) :: dlP L) ≤ 3
    simp only [PyData.depthKv, PyData.depth]
    have := dl_deep L
    omega
theorem dl_kv : ∀ {L : List (Str × Str)}, (∀ p ∈ L, okTx p.1 = true ∧ okTx p.2 = true) → ∀ t ∈ PyData.shownKv (dlP L), PyData.strOk t = true ∧ t.length ≤ 100
  | [], _, t, h => by unfold dlP at h; simp [PyData.shownKv] at h
  | p :: L, hp, t, h => by
    have h : t ∈ PyData.shownKv ((PyData.str p.1, PyData.str p.2) :: dlP L) := h
    simp only [PyData.shownKv, List.mem_cons] at h
    rcases h with rfl | h
    · obtain ⟨a, b⟩ := hp p List.mem_cons_self
      unfold okTx at a b
      simp only [Bool.and_eq_true, decide_eq_true_eq] at a b
      refine ⟨ok_app (ok_app a.1.2 (ok_string _)) b.1.2, ?_⟩
      rw [strLen_append, strLen_append]
      have e : (": " : Str).length = 2 := by decide
      rw [e]
      have := a.2
      have := b.2
      omega
    · exact dl_kv (fun q hq => hp q (List.mem_cons_of_mem _ hq)) t h
theorem dl_len (L : List (Str × Str)) : (PyData.shownKv (dlP L)).length = L.length := by
  induction L with
  | nil => unfold dlP; simp [PyData.shownKv]
  | cons p L ih =>
    show (PyData.shownKv ((PyData.str p.1, PyData.str p.2) :: dlP L)).length = _
    simp only [PyData.shownKv, List.length_cons, ih]
theorem join_le (sep : Str) (hs : sep.length ≤ 2) {w : Nat} : ∀ ts : List Str, (∀ t ∈ ts, t.length ≤ w) → (Str.join sep ts).length ≤ ts.length * (w + 2)
  | [], _ => by unfold Str.join Str.empty; simp [Str.length]
  | [t], h => by
    show t.length ≤ _
    have := h t List.mem_cons_self
    simp; omega
  | t :: u :: ts, h => by
    have ih := join_le sep hs (u :: ts) fun v hv => h v (List.mem_cons_of_mem _ hv)
    have h1 := h t List.mem_cons_self
    show (t ++ sep ++ Str.join sep (u :: ts)).length ≤ _
    rw [strLen_append, strLen_append]
    rw [show (t :: u :: ts).length = (u :: ts).length + 1 from rfl, Nat.add_mul]
    omega
theorem dl_text {L : List (Str × Str)} (hp : ∀ p ∈ L, okTx p.1 = true ∧ okTx p.2 = true) (hl : L.length ≤ 20) : PyData.strOk (PyData.shown (.dict (dlP L))) = true ∧ (PyData.shown (.dict (dlP L))).length ≤ 3000 := by
  simp only [PyData.shown]
  have kv := dl_kv hp
  unfold dictText
  refine ⟨ok_app (ok_app (ok_string _) (ok_join _ (ok_string _) _ fun t h => (kv t h).1)) (ok_string _), ?_⟩
  rw [strLen_append, strLen_append]
  have h1 := join_le ", " (by decide) (w := 100) _ fun t h => (kv t h).2
  rw [dl_len] at h1
  have e1 : ("{" : Str).length = 1 := by decide
  have e2 : ("}" : Str).length = 1 := by decide
  rw [e1, e2]
  have : L.length * 102 ≤ 20 * 102 := Nat.mul_le_mul_right _ hl
  omega
theorem dl_zip : ∀ L : List (Str × Str), (((dkS L).map (·.1)).map keyP).zip (L.map fun p => PyData.str p.2) = dlP L
  | [] => rfl
  | p :: L => by
    show (PyData.str p.1, PyData.str p.2) :: (((dkS L).map (·.1)).map keyP).zip (L.map fun p => PyData.str p.2) = _
    rw [dl_zip L]; rfl
theorem dl_noL : ∀ L : List (Str × Str), noLs (L.map fun p => PyData.str p.2) = true
  | [] => by simp [noLs]
  | p :: L => by
    rw [List.map_cons]
    simp only [noLs, noL, dl_noL L, Bool.and_self]
theorem dl_opt {S : Bxs} : ∀ L : List (Str × Str), optAll ((dkS L).map fun kv => pd S 60 kv.2) = some (L.map fun p => PyData.str p.2)
  | [] => rfl
  | p :: L => by
    show optAll (some (PyData.str p.2) :: (dkS L).map fun kv => pd S 60 kv.2) = _
    unfold optAll
    rw [dl_opt L]; rfl
theorem w_reprNames {S : Bxs} {m : Nat} {L : List (Str × Str)} {E : Nat → List Dt → Bxs → Prop} {P : Dt → Bxs → Prop} (e : S[m]? = some (.dk (dkS L))) (hp : ∀ p ∈ L, okTx p.1 = true ∧ okTx p.2 = true) (hl : L.length ≤ 20) (h : P (.str (PyData.shown (.dict (dlP L)))) S) : (reprF [.box m] S).Wp P E := by
  have hs : S.seq m = none := by unfold Bxs.seq; rw [e]
  obtain ⟨h1, h2⟩ := dl_text hp hl
  have q : reprF [.box m] S = .ok (.str (PyData.shown (.dict (dlP L)))) S := by
    unfold reprF
    rw [reprD_no hs]
    simp only [e, dl_opt, dctP, dl_zip]
    rw [if_pos ⟨dl_noL L, by simp only [PyData.showable]; exact dl_show L, by simp only [PyData.depth]; have := dl_deep L; omega, Nat.le_trans h2 (by decide)⟩]
  rw [q]; exact ⟨h⟩
end Lw
set_option Elab.async false
set_option linter.all false
set_option maxRecDepth 100000
set_option maxHeartbeats 4000000
/-! Un: k01: new names, a further hand, a longer crew. -/
namespace Lw
open PySem PySem.Spec PyProof.Rows L2 Mn
section
variable {S : Bxs} {size : Nat} {ks hs rs : List Dt} {w : Dt} {b c n : Nat}
def pairD (p : Str × Str) : Dt := .tup [.str p.1, .str p.2]
def unpD : Dt → Str × Str
  | .tup [.str a, .str b] => (a, b)
  | _ => ("", "")
theorem perm_pairs {M : List (Str × Str)} {ps : List Dt} (h : ps.Perm (M.map pairD)) : ∃ L : List (Str × Str), L.Perm M ∧ ps = L.map pairD := by
  refine ⟨ps.map unpD, ?_, ?_⟩
  · have := h.map unpD
    rw [List.map_map] at this
    have e : M.map (unpD ∘ pairD) = M := by
      conv => rhs; rw [← List.map_id M]
      rfl
    rwa [e] at this
  · rw [List.map_map]
    have : ∀ d ∈ ps, (pairD ∘ unpD) d = d := fun d hd => by
      obtain ⟨p, _, rfl⟩ := List.mem_map.mp (h.mem_iff.mp hd)
      rfl
    conv => lhs; rw [← List.map_id ps]
    exact (List.map_congr_left this).symm
theorem zip_pairs (zs vs : List Str) : (((zs.map Dt.str).zip (vs.map Dt.str)).map fun (p : Dt × Dt) => Dt.tup [p.1, p.2]) = (zs.zip vs).map pairD := by
  rw [List.zip_map, List.map_map]; rfl
theorem nms_of {zs vs : List Str} {L : List (Str × Str)} {old : List Dt} (h : L.Perm (zs.zip vs)) (hl : zs.length = vs.length) (zn : zs.Nodup) (wn : vs.Nodup) (wm : ∀ y ∈ vs, Dt.str y ∈ menuD) (eo : old = zs.map Dt.str) : Nms L old := by
  have e1 : (zs.zip vs).map (·.1) = zs := List.map_fst_zip (by omega)
  have e2 : (zs.zip vs).map (·.2) = vs := List.map_snd_zip (by omega)
  refine ⟨(h.map _).nodup_iff.mpr (by rw [e1]; exact zn), (h.map _).nodup_iff.mpr (by rw [e2]; exact wn), fun p hp => wm _ ?_, fun x hx => ?_⟩
  · rw [← e2]; exact List.mem_map_of_mem (h.mem_iff.mp hp)
  · rw [eo] at hx
    obtain ⟨z, hz, rfl⟩ := List.mem_map.mp hx
    rw [← e1] at hz
    obtain ⟨p, hp, rfl⟩ := List.mem_map.mp hz
    exact ⟨p, h.mem_iff.mpr hp, rfl⟩
theorem sm_due {z : Str} (W : Works w size ks hs rs) (hz : okTx z = true) {n : Nat} : Sm 60 (handDue ks hs rs (.str z)) 8100 := by
  have kl := W.kl
  have s1 := W.s1
  have hl := W.hl
  have rl := W.rl
  have sx : ∀ {n : Nat}, Sm (n + 1) (.str z) 40 := fun {n} => ⟨_, fun S => by
    have := hz
    unfold okTx at this
    simp only [Bool.and_eq_true, decide_eq_true_eq] at this
    exact .str this.1.1 this.1.2 this.2⟩
  have told : ∀ {n : Nat} {y : String}, PyData.strOk (y : Str) = true ∧ PyData.strOk (PyData.shown (.str (y : Str))) = true ∧ (PyData.shown (.str (y : Str))).length ≤ 40 → Sm (n + 1) (.str (y : Str)) 40 := fun {n y} h => ⟨_, fun S => .str h.1 h.2.1 h.2.2⟩
  unfold handDue
  split
  · exact (Sm.t2 (n := 59) (w := 40) (told (y := "used") (by decide +kernel)) sx 100 (by decide)).mono (by decide)
  · split
    · exact (Sm.t2 (n := 59) (w := 40) (told (y := "many") (by decide +kernel)) ((Sm.int (n := 58) 1 (by decide) (by decide) (by decide)).mono (by decide)) 100 (by decide)).mono (by decide)
    · have a1 : Sm 58 (.tup ks) 1200 := (Sm.tup (n := 57) (w := 8) (fun d hd => Sm.menu (W.km d hd)) 100 (by omega)).mono (by decide)
      have a2 : Sm 58 (.tup (hs ++ [.str z])) 1200 := (Sm.tup (n := 57) (w := 40) (fun d hd => by
        rcases List.mem_append.mp hd with y | y
        · exact (Sm.menu (W.hm d y)).mono (by decide)
        · rw [List.mem_singleton] at y; rw [y]; exact sx) 200 (by rw [List.length_append]; simp; omega)).mono (by decide)
      have a3 : Sm 58 (.tup rs) 1200 := (Sm.tup (n := 57) (w := 138) (fun d hd => by
        obtain ⟨ts, us, h, R⟩ := W.rr d hd
        exact sm_recipe R W.hm (by omega)) 1200 (by omega))
      exact Sm.t2 (n := 59) (w := 4000) ((told (y := "told") (by decide +kernel)).mono (by decide)) (Sm.t3 a1 a2 a3 4000 (by decide)) 8100 (by decide)
theorem sm_led {hl : Nat} {d : Dt} {pl : Int} {as : List Dt} (A : Snd size hl d pl as) (h1 : size ≤ 10) (h2 : hl ≤ 9) {m : Int} (hm : 0 ≤ m ∧ m ≤ 9) : Sm 60 (.tup [.int pl, .tup (as.map (ledA m))]) 20000 := by
  have p0 := A.p0
  have p1 := A.p1
  have al := A.al
  have each : ∀ x ∈ as.map (ledA m), Sm 58 x 230 := fun x hx => by
    obtain ⟨a, ha, rfl⟩ := List.mem_map.mp hx
    obtain ⟨s, t, lot, crew, R⟩ := A.ar a ha
    have : Arw pl size (hl + 1) (ledA m a) s t lot (crew ++ [m]) := ⟨by unfold ledA; rw [R.src, R.tgt, R.lot, R.crew], R.s0, R.s1, R.t0, R.t1, R.ll, by rw [List.length_append, R.cl]; rfl, R.lb, fun i hi => by
      rcases List.mem_append.mp hi with z | z
      · exact R.cb i z
      · rw [List.mem_singleton] at z; rw [z]; exact hm⟩
    exact sm_arw (n := 55) this p1 h1 (by omega)
  have a1 : Sm 59 (.tup (as.map (ledA m))) 9500 := Sm.tup each 9500 (by rw [List.length_map]; omega)
  exact Sm.t2 (n := 59) (w := 9500) ((Sm.int (n := 58) 2 (by decide) (by decide) (by omega)).mono (by decide)) a1 20000 (by decide)
end
end Lw
set_option Elab.async false
set_option linter.all false
set_option maxRecDepth 100000
set_option maxHeartbeats 4000000
/-! Uo: k01: new names are right. -/
namespace Lw
open PySem PySem.Spec PyProof.Rows L2 Mn
section
variable {S : Bxs} {size : Nat} {ks hs rs : List Dt} {w : Dt} {b c n : Nat}
theorem new_ok (B : Bag S b c) (W : Works w size ks hs rs) : (F__law_are_new_right [.box b, w] S).Wp (fun r S' => r = .bl true ∧ Bag S' b c ∧ Fr b S S') noX := by
  have kl := W.kl
  have s0 := W.s0
  have s1 := W.s1
  have hl := W.hl
  obtain ⟨bn, bm, b8⟩ := W.both
  have qB := B.lt
  have hwe := W.eq
  refine w_body ?_
  unfold B__law_are_new_right
  simp only [startD, List.map_cons, List.map_nil, List.length_cons, List.length_nil, List.cons_append, List.nil_append, Nat.reduceAdd, Nat.reduceSub, List.replicate, List.replicate_succ, List.replicate_zero]
  rw [hwe]
  and_intros
  have b8' : ks.length + hs.length ≤ 8 := by rw [← List.length_append]; exact b8
  refine w_addT (Nat.le_trans b8' (by decide)) ?_
  and_intros
  refine w_listT ?_
  refine w_newL (Nat.le_trans b8 (by decide)) ?_
  and_intros
  refine w_lenB (seq_lst get_last) ?_
  and_intros
  refine (namesN_ok (m := (ks ++ hs).length) (by omega) B.app).mono (fun d S1 ⟨r, ys, ed, hr, e1, yl, yn, ym, B1, F1⟩ => ?_) fun _ _ _ q => q
  subst ed
  have l0 : (S ++ [MBox.lst (ks ++ hs)]).length = S.length + 1 := by rw [List.length_append]; rfl
  rw [l0] at hr
  have o1 : S1[S.length]? = some (.lst (ks ++ hs)) := F1.at_ get_last (by omega)
  have F1' := (Fr.refl b S).app.trans F1
  refine w_nil (w_newL (Nat.le_of_ble_eq_true rfl) ?_)
  and_intros
  have q1 := F1'.len
  refine (one_ok B1.app (seq_lst get_last) (by omega) (fun z => by simp at z) (Nat.le_of_ble_eq_true rfl)).mono (fun d S2 ⟨hd, B2, F2⟩ => ?_) fun _ _ _ q => q
  have F2' := (F1'.app).trans F2
  obtain ⟨t, xs, rfl, ht, tb, xl, xn, xm⟩ : ∃ t xs, d = .box t ∧ S2[t]? = some (.lst xs) ∧ t ≠ b ∧ xs.length = (ks ++ hs).length ∧ xs.Nodup ∧ ∀ y ∈ xs, y ∈ menuD := by
    simp only [List.mem_cons, List.not_mem_nil, or_false] at hd
    rcases hd with rfl | rfl
    · exact ⟨_, _, rfl, F2.at_ (get_pre (List.prefix_append _ _) o1) (by omega), by omega, rfl, bn, bm⟩
    · exact ⟨_, _, rfl, F2.at_ (get_pre (List.prefix_append _ _) e1) (by omega), by omega, yl, yn, ym⟩
  have o2 : S2[S.length]? = some (.lst (ks ++ hs)) := F2.at_ (get_pre (List.prefix_append _ _) o1) (by omega)
  clear hd F2 F1 B1 e1 hr yl yn ym
  and_intros
  refine (mixed_ok B2 (seq_lst ht) tb (by omega)).mono (fun d S3 ⟨q, nn, ed, hq, e3, pm, B3, F3⟩ => ?_) fun _ _ _ q => q
  subst ed
  have o3 : S3[S.length]? = some (.lst (ks ++ hs)) := F3.at_ o2 (by omega)
  have F3' := F2'.trans F3
  have q2 := F2'.len
  and_intros
  refine w_listZip ?_
  and_intros
  have nl : nn.length = (ks ++ hs).length := by rw [pm.length_eq, xl]
  refine ⟨S.length, q, ks ++ hs, nn, rfl, seq_lst o3, seq_lst e3, Nat.lt_of_le_of_lt b8 (by decide), ?_⟩
  obtain ⟨zs, ez⟩ := menu_zs bm
  have nm : ∀ y ∈ nn, y ∈ menuD := fun y hy => xm y (pm.mem_iff.mp hy)
  have nnd : nn.Nodup := pm.nodup_iff.mpr xn
  obtain ⟨vs, ew⟩ := menu_zs nm
  have zl : zs.length = (ks ++ hs).length := by rw [ez, List.length_map]
  have vl : vs.length = (ks ++ hs).length := by rw [← nl, ew, List.length_map]
  rw [show (List.map (fun (p : Dt × Dt) => Dt.tup [p.1, p.2]) ((ks ++ hs).zip nn)) = (zs.zip vs).map pairD by rw [ez, ew]; exact zip_pairs zs vs]
  have pl : ((zs.zip vs).map pairD).length ≤ 8 := by rw [List.length_map, List.length_zip]; omega
  refine w_newL (Nat.le_trans pl (by decide)) ?_
  and_intros
  have q3 := F3'.len
  refine (mixed_ok B3.app (seq_lst get_last) (by omega) (Nat.le_trans pl (by decide))).mono (fun d S4 ⟨g, ps, ed, hg, e4, pm4, B4, F4⟩ => ?_) fun _ _ _ q => q
  subst ed
  have F4' := (F3'.app).trans F4
  have o4 : S4[S.length]? = some (.lst (ks ++ hs)) := F4.at_ (get_pre (List.prefix_append _ _) o3) (by omega)
  obtain ⟨L, pmL, eps⟩ := perm_pairs pm4
  have zn : zs.Nodup := by
    rw [ez] at bn
    exact (List.pairwise_map.mp bn).imp fun h e => h (congrArg Dt.str e)
  have vn : vs.Nodup := by
    rw [ew] at nnd
    exact (List.pairwise_map.mp nnd).imp fun h e => h (congrArg Dt.str e)
  have vm : ∀ y ∈ vs, Dt.str y ∈ menuD := fun y hy => nm _ (by rw [ew]; exact List.mem_map_of_mem hy)
  have zm : ∀ y ∈ zs, Dt.str y ∈ menuD := fun y hy => bm _ (by rw [ez]; exact List.mem_map_of_mem hy)
  have N : Nms L (ks ++ hs) := nms_of pmL (by omega) zn vn vm ez
  have Lt : ∀ p ∈ L, okTx p.1 = true ∧ okTx p.2 = true := fun p hp => by
    have hp := pmL.mem_iff.mp hp
    exact ⟨tx_menu (zm _ (List.of_mem_zip hp).1), tx_menu (vm _ (List.of_mem_zip hp).2)⟩
  have Ll : L.length ≤ 20 := by rw [pmL.length_eq, List.length_zip]; omega
  and_intros
  refine w_dictP2 (seq_lst e4) (by rw [eps]; exact pairs_dkS L) ?_
  rw [merge_dkS L [] N.kn (fun _ _ z => nomatch z), List.nil_append]
  and_intros
  have B5 := B4.app (x := .dk (dkS L))
  have F5 := F4'.app (x := .dk (dkS L))
  have o5 := get_pre (List.prefix_append S4 [MBox.dk (dkS L)]) o4
  have hD : (S4 ++ [MBox.dk (dkS L)])[S4.length]? = some (.dk (dkS L)) := get_last
  generalize S4 ++ [MBox.dk (dkS L)] = S5 at B5 F5 o5 hD ⊢
  generalize S4.length = dn at hD ⊢
  clear F4' F4 B4 e4 o4 F3' F3 B3 e3 o3 F2' F1'
  refine w_reprNames hD Lt Ll ?_
  and_intros
  rw [← hwe]
  refine (prenamed_ok W N hD).mono (fun r S6 ⟨e6, p6⟩ => ?_) fun _ _ _ q => q
  subst e6
  have W' := W.renamed N
  have sw : Sm 60 (rnW L ks hs rs) 4000 := sm_works (n := 55) W'
  and_intros
  have hD6 := get_pre p6 hD
  refine (lrenamed_ok W N hD6).mono (fun r S7 ⟨e7, p7⟩ => ?_) fun _ _ _ q => q
  subst e7
  and_intros
  refine (alike3S_ok sw (by decide)).mono (fun r S8 ⟨e8, e9⟩ => ?_) fun _ _ _ q => q
  subst e8; subst e9
  refine ⟨true, rfl, (fun z => nomatch z), fun _ => ?_⟩
  and_intros
  refine w_reprNames (get_pre p7 hD6) Lt Ll ?_
  and_intros
  refine w_eqStr2 (dl_text Lt Ll).1 ?_
  refine ⟨_, rfl, (fun z => nomatch z), fun _ => ?_⟩
  and_intros
  refine (lworks_ok W').mono (fun r S9 ⟨e9, p9⟩ => ?_) fun _ _ _ q => q
  subst e9
  refine ⟨true, rfl, (fun z => nomatch z), fun _ => ?_⟩
  have p59 := (p6.trans p7).trans p9
  have B9 := B5.pre p59
  have F9 := F5.trans (Fr.pre (b := b) p59)
  have o9 := get_pre p59 o5
  clear hD6 hD p6 p7 p9 F5 B5 o5 p59 sw
  refine w_sNil (c_nx ?_)
  and_intros
  refine (one_ok B9 (seq_lst o9) (by omega) (fun z => by have := List.append_eq_nil_iff.mp z; rw [this.1] at kl; simp at kl; omega) (by omega)).mono (fun x1 S10 ⟨hx1, B10, F10⟩ => ?_) fun _ _ _ q => q
  and_intros
  have F10' := F9.trans F10
  refine (namesN_ok (m := 3) (by decide) B10).mono (fun d S11 ⟨r, ys, ed, hr, e11, yl, yn, ym, B11, F11⟩ => ?_) fun _ _ _ q => q
  subst ed
  have q10 := F10'.len
  and_intros
  refine (one_ok B11 (seq_lst e11) (by omega) (fun z => by rw [z] at yl; cases yl) (by omega)).mono (fun x3 S12 ⟨hx3, B12, F12⟩ => ?_) fun _ _ _ q => q
  have F12' := (F10'.trans F11).trans F12
  obtain ⟨z1, rfl⟩ := menu_str (bm x1 hx1)
  obtain ⟨z3, rfl⟩ := menu_str (ym x3 hx3)
  have t1 := tx_menu (bm _ hx1)
  have t3 := tx_menu (ym _ hx3)
  refine w_nil (w_newL (Nat.le_of_ble_eq_true rfl) ?_)
  have B13 := B12.app (x := .lst [.str z1, .str "hh", .str z3])
  have F13 := F12'.app (x := .lst [.str z1, .str "hh", .str z3])
  have h13 : (S12 ++ [MBox.lst [Dt.str z1, Dt.str "hh", Dt.str z3]])[S12.length]? = some (.lst [.str z1, .str "hh", .str z3]) := get_last
  have q13 := F12'.len
  generalize S12 ++ [MBox.lst [Dt.str z1, Dt.str "hh", Dt.str z3]] = S13 at B13 F13 h13 ⊢
  generalize S12.length = lv at h13 q13 ⊢
  clear F12' F12 B12 F11 B11 e11 F10' F10 B10 F9 B9 o9
  refine ⟨_, seq_lst h13, ?_⟩
  refine w_loop (fun i σ S' => ∃ d7, σ = [some (.box b), some w, some (.box S.length), some (.box q), some (.box dn), some (.str (PyData.dict (dlP L)).shown), some (rnW L ks hs rs), d7, none, none, none, none] ∧ S13 <+: S') (fun _ _ _ ⟨_, _, p⟩ => seq_lst (get_pre p h13))
    (fun i x σ S14 hx ⟨d7, eσ, p14⟩ => ?_) (fun σ S14 ⟨d7, eσ, p14⟩ => ?_) ⟨_, rfl, List.prefix_refl _⟩
  · subst eσ
    obtain ⟨z, rfl, tz⟩ : ∃ z, x = .str z ∧ okTx z = true := by
      have := List.mem_of_getElem? hx
      simp only [List.mem_cons, List.not_mem_nil, or_false] at this
      rcases this with rfl | rfl | rfl
      · exact ⟨_, rfl, t1⟩
      · exact ⟨_, rfl, by decide +kernel⟩
      · exact ⟨_, rfl, t3⟩
    and_intros
    refine (whand_ok W).mono (fun r S15 ⟨e1, e2⟩ => ?_) fun _ _ _ q => q
    subst e1; subst e2
    and_intros
    refine (lhand_ok W).mono (fun r S16 ⟨e1, e2⟩ => ?_) fun _ _ _ q => q
    subst e1; subst e2
    and_intros
    refine (alike3S_ok (sm_due (n := 0) W tz) (by decide)).mono (fun r S17 ⟨e1, e2⟩ => ?_) fun _ _ _ q => q
    subst e1; subst e2
    refine ⟨true, rfl, (fun z => nomatch z), fun _ => ?_⟩
    refine w_sNil ?_
    exact .inl ⟨rfl, _, rfl, p14⟩
  subst eσ
  refine c_nx ?_
  have B14 := B13.pre p14
  have F14 := F13.trans (Fr.pre (b := b) p14)
  and_intros
  refine (any_ok B14 W (by decide) (by decide) (by decide) (by decide)).mono (fun d S15 ⟨⟨pl, as, A⟩, B15, F15⟩ => ?_) fun _ _ _ q => q
  have F15' := F14.trans F15
  have q15 := F15'.len
  and_intros
  refine (one_ok B15.app (seq_lst get_last) (by omega) (fun z => by simp at z) (Nat.le_of_ble_eq_true rfl)).mono (fun d2 S16 ⟨hd2, B16, F16⟩ => ?_) fun _ _ _ q => q
  obtain ⟨m, rfl, m0, m9⟩ : ∃ m : Int, d2 = .int m ∧ 0 ≤ m ∧ m ≤ 9 := by
    simp only [List.mem_cons, List.not_mem_nil, or_false] at hd2
    rcases hd2 with rfl | rfl | rfl
    · exact ⟨_, rfl, by decide, by decide⟩
    · exact ⟨_, rfl, by decide, by decide⟩
    · exact ⟨_, rfl, by decide, by decide⟩
  have F16' := (F15'.app).trans F16
  have hae := A.eq
  have aal := A.al
  subst hae
  and_intros
  refine ⟨Nat.le_of_ble_eq_true rfl, ?_⟩
  and_intros
  refine w_lcD ?_
  and_intros
  refine ⟨ledA m, Nat.lt_of_le_of_lt aal (by decide), fun _ _ => rfl, fun x S17 hx p => ?_, fun S17 hn p => ?_⟩
  · obtain ⟨s, t, lot, crew, R⟩ := A.ar x hx
    have el := R.led m
    have cl := R.cl
    have ex := R.eq
    subst ex
    and_intros
    refine ⟨Nat.le_of_ble_eq_true rfl, ?_⟩
    refine w_addT (xs := crew.map Dt.int) (ys := [.int m]) (show (crew.map Dt.int).length + 1 ≤ LIM by rw [List.length_map, cl]; exact Nat.le_trans (show hs.length + 1 ≤ 4 by omega) (by decide)) ?_
    and_intros
    refine ⟨Nat.le_of_ble_eq_true rfl, ?_⟩
    rw [show (some (3 : Int)) = some ((3 : Nat) : Int) from rfl, cut_to]
    refine w_addT (xs := [.int s, .int t, iv lot]) (ys := [.tup (crew.map Dt.int ++ [.int m])]) (Nat.le_of_ble_eq_true rfl) ?_
    exact ⟨el.symm, List.prefix_refl _⟩
  and_intros
  refine w_tupB (seq_lst hn) ?_
  and_intros
  refine ⟨Nat.le_of_ble_eq_true rfl, ?_⟩
  and_intros
  refine (pled_ok A (by omega)).mono (fun r S18 ⟨e18, p18⟩ => ?_) fun _ _ _ q => q
  subst e18
  and_intros
  refine (alike3S_ok (sm_led A (by omega) (by omega) ⟨m0, m9⟩) (by decide)).mono (fun r S19 ⟨e1, e2⟩ => ?_) fun _ _ _ q => q
  subst e1; subst e2
  exact .inl ⟨_, rfl, rfl, B16.pre (p.trans p18), F16'.trans (Fr.pre (p.trans p18))⟩
end
end Lw
set_option Elab.async false
set_option linter.all false
set_option maxRecDepth 100000
set_option maxHeartbeats 4000000
/-! Up: k01: a works looked at. -/
namespace Lw
open PySem PySem.Spec PyProof.Rows L2 Mn
section
variable {S : Bxs} {size : Nat} {ks hs rs : List Dt} {w : Dt} {b c n : Nat}
theorem alikeA_ok {x y n1 n2 : Nat} {L : List Int} {d : Dt} {w : Nat} (hx : S[x]? = some (.lst [d, .box n1])) (hy : S[y]? = some (.lst [d, .box n2])) (h1 : IL S n1 L) (h2 : IL S n2 L) (hL : ∀ i ∈ L, i.natAbs < 10 ^ 5) (hl : L.length ≤ 100) (hd : Sm 59 d w) (hw : w ≤ 10000) : (F__law_alike_v3 [.box x, .box y] S).Wp (fun r S' => r = .bl true ∧ S' = S) noX := by
  obtain ⟨ps, hps⟩ := Sm.all (n := 58) (w := 6) (ds := L.map Dt.int) fun e he => by
    obtain ⟨i, hi, rfl⟩ := List.mem_map.mp he
    exact Sm.int (n := 57) 5 (by decide) (by decide) (hL i hi)
  obtain ⟨p, hp⟩ := hd
  have hll : (L.map Dt.int).length * 8 + 3 ≤ 1000 := by rw [List.length_map]; omega
  have a1 : Pl S 59 (.box n1) (.list ps) 1000 := .box h1.seq (hps S) hll
  have a2 : Pl S 59 (.box n2) (.list ps) 1000 := .box h2.seq (hps S) hll
  exact alike3P_ok (.box (seq_lst hx) (.cons (hp S) (.cons a1 .nil)) (Nat.le_refl _)) (.box (seq_lst hy) (.cons (hp S) (.cons a2 .nil)) (Nat.le_refl _)) (by omega)
theorem alikeB3_ok {x y n1 n2 : Nat} {L : List Int} {d : Dt} {w : Nat} (hx : S[x]? = some (.lst [.box n1, d])) (hy : S[y]? = some (.lst [.box n2, d])) (h1 : IL S n1 L) (h2 : IL S n2 L) (hL : ∀ i ∈ L, i.natAbs < 10 ^ 5) (hl : L.length ≤ 100) (hd : Sm 59 d w) (hw : w ≤ 100000) : (F__law_alike_v3 [.box x, .box y] S).Wp (fun r S' => r = .bl true ∧ S' = S) noX := by
  obtain ⟨ps, hps⟩ := Sm.all (n := 58) (w := 6) (ds := L.map Dt.int) fun e he => by
    obtain ⟨i, hi, rfl⟩ := List.mem_map.mp he
    exact Sm.int (n := 57) 5 (by decide) (by decide) (hL i hi)
  obtain ⟨p, hp⟩ := hd
  have hll : (L.map Dt.int).length * 8 + 3 ≤ 1000 := by rw [List.length_map]; omega
  have a1 : Pl S 59 (.box n1) (.list ps) 1000 := .box h1.seq (hps S) hll
  have a2 : Pl S 59 (.box n2) (.list ps) 1000 := .box h2.seq (hps S) hll
  exact alike3P_ok (.box (seq_lst hx) (.cons a1 (.cons (hp S) .nil)) (Nat.le_refl _)) (.box (seq_lst hy) (.cons a2 (.cons (hp S) .nil)) (Nat.le_refl _)) (by omega)
def putJ (rs : List Dt) (n : Nat) : List Int := ((List.range n).filter fun i : Nat => isPut rs i).map fun i : Nat => (i : Int)
def putP (rs : List Dt) (d : Dt) : Bool := match d with
  | .int i => isPut rs i.toNat
  | _ => false
theorem put_list (rs : List Dt) (n : Nat) : (rgD 0 n).filter (putP rs) = (putJ rs n).map Dt.int := by
  unfold putJ rgD
  rw [List.filter_map, List.map_map]
  have e1 : (putP rs ∘ fun i : Nat => Dt.int (0 + (i : Int))) = fun i : Nat => isPut rs i := by
    funext i
    show isPut rs (0 + (i : Int)).toNat = _
    rw [show (0 + (i : Int)).toNat = i by omega]
  rw [e1]
  refine List.map_congr_left fun i _ => ?_
  show Dt.int (0 + (i : Int)) = Dt.int (i : Int)
  rw [Int.zero_add]
theorem putJ_has (rs : List Dt) {n k : Nat} (hk : k < n) : (putJ rs n).contains (k : Int) = isPut rs k := by
  rw [Bool.eq_iff_iff, List.contains_iff_mem]
  unfold putJ
  constructor
  · intro h
    obtain ⟨i, hi, e⟩ := List.mem_map.mp h
    have : i = k := by omega
    subst this
    exact (List.mem_filter.mp hi).2
  · intro h
    exact List.mem_map.mpr ⟨k, List.mem_filter.mpr ⟨List.mem_range.mpr hk, h⟩, rfl⟩
def rawQ (rs : List Dt) (d : Dt) : Bool := match d with
  | .int i => !isPut rs i.toNat
  | _ => false
def atK (ks : List Dt) (d : Dt) : Dt := match d with
  | .int i => (ks[i.toNat]?).getD .non
  | _ => .non
theorem raw_list (ks rs : List Dt) : ((rgD 0 ks.length).filter (rawQ rs)).map (atK ks) = rawL ks rs := by
  unfold rawL rgD
  rw [List.filter_map, List.map_map]
  have e1 : (rawQ rs ∘ fun i : Nat => Dt.int (0 + (i : Int))) = fun i : Nat => !isPut rs i := by
    funext i
    show (!isPut rs (0 + (i : Int)).toNat) = _
    rw [show (0 + (i : Int)).toNat = i by omega]
  rw [e1]
  refine List.map_congr_left fun i _ => ?_
  show (ks[(0 + (i : Int)).toNat]?).getD .non = _
  rw [show (0 + (i : Int)).toNat = i by omega]
theorem any_filter {α : Type} (p : α → Bool) (l : List α) : (l.filter p).isEmpty = !l.any p := by
  induction l with
  | nil => rfl
  | cons a l ih =>
    rw [List.filter_cons, List.any_cons]
    cases p a with
    | true => rfl
    | false => simpa using ih
theorem rawL_mem (W : Works w size ks hs rs) : ∀ d ∈ rawL ks rs, d ∈ menuD := fun d hd => by
  obtain ⟨i, hi, rfl⟩ := List.mem_map.mp hd
  have hl := List.mem_range.mp (List.mem_filter.mp hi).1
  rw [List.getElem?_eq_getElem hl]
  exact W.km _ (List.getElem_mem hl)
theorem rawL_len : (rawL ks rs).length ≤ ks.length := by
  unfold rawL
  rw [List.length_map]
  exact Nat.le_trans (List.length_filter_le _ _) (by rw [List.length_range]; exact Nat.le_refl _)
theorem sm_raw (W : Works w size ks hs rs) : Sm 59 (.tup (rawL ks rs)) 100 := by
  have h1 := rawL_len (ks := ks) (rs := rs)
  have h2 := W.kl
  have h3 := W.s1
  exact Sm.tup (n := 58) (w := 8) (fun d hd => Sm.menu (rawL_mem W d hd)) 100 (by omega)
theorem w_notInts {pb : Nat} {js : List Int} {k : Int} {E : Nat → List Dt → Bxs → Prop} {P : Dt → Bxs → Prop} (e : S[pb]? = some (.lst (js.map Dt.int))) (h : P (.bl (!js.contains k)) S) : (inG true (.int k) (.box pb) S).Wp P E := by
  have q : inG true (.int k) (.box pb) S = .ok (.bl (!js.contains k)) S := by
    rw [inG_lst e]
    show (if true = true then inF true (.int k) (.box pb) S else _) = _
    rw [if_pos rfl]
    unfold inF
    rw [show seqOf S (.box pb) = some (js.map Dt.int) from seq_lst e]
    show (if true = true ∧ (js.map Dt.int).all Dt.flat = true then Rs.ok (Dt.bl (!((js.map Dt.int).any fun e => e.eqf (.int k)))) S else .no) = _
    rw [if_pos ⟨rfl, ints_flat js⟩, any_ints]
  rw [q]; exact ⟨h⟩
end
end Lw
set_option Elab.async false
set_option linter.all false
set_option maxRecDepth 100000
set_option maxHeartbeats 4000000
/-! Uq: k01: all of a works; the law. -/
namespace Lw
open PySem PySem.Spec PyProof.Rows L2 Mn
section
variable {S : Bxs} {size : Nat} {ks hs rs : List Dt} {w : Dt} {b c n : Nat}
theorem ok_reprChar {q c : Nat} (hq : q < 0x110000) (hc : c < 0x110000) : ∀ d ∈ Builtin.Str.reprChar q c, d < 0x110000 := by
  have hex : ∀ k : Nat, ∀ d ∈ (List.replicate (k - ((Nat.toDigits 16 c).map Char.toNat).length) 48 ++ (Nat.toDigits 16 c).map Char.toNat), d < 0x110000 := fun k d hd => by
    rcases List.mem_append.mp hd with z | z
    · rw [(List.mem_replicate.mp z).2]; decide
    · obtain ⟨ch, _, rfl⟩ := List.mem_map.mp z
      rcases (show ch.toNat.isValidChar from ch.valid) with h | h
      · omega
      · exact h.2
  intro d hd
  unfold Builtin.Str.reprChar at hd
  dsimp only at hd
  split at hd
  · simp only [List.mem_cons, List.not_mem_nil, or_false] at hd; omega
  split at hd
  · simp only [List.mem_cons, List.not_mem_nil, or_false] at hd; omega
  split at hd
  · simp only [List.mem_cons, List.not_mem_nil, or_false] at hd; omega
  split at hd
  · simp only [List.mem_cons, List.not_mem_nil, or_false] at hd; omega
  split at hd
  · simp only [List.mem_cons, List.not_mem_nil, or_false] at hd; omega
  have two : ∀ (a : Nat) (l : List Nat), a < 0x110000 → (∀ d ∈ l, d < 0x110000) → d ∈ [92, a] ++ l → d < 0x110000 := fun a l ha hl h => by
    rcases List.mem_append.mp h with z | z
    · simp only [List.mem_cons, List.not_mem_nil, or_false] at z; omega
    · exact hl d z
  split at hd
  · exact two _ _ (by decide) (hex 2) hd
  split at hd
  · exact two _ _ (by decide) (hex 4) hd
  · exact two _ _ (by decide) (hex 8) hd
theorem ok_fold {q : Nat} (hq : q < 0x110000) : ∀ (l : List Nat) (acc : Array Nat), (∀ d ∈ acc.toList, d < 0x110000) → (∀ d ∈ l, d < 0x110000) → ∀ d ∈ (l.foldl (fun out c => out ++ (Builtin.Str.reprChar q c).toArray) acc).toList, d < 0x110000
  | [], acc, ha, _ => ha
  | c :: l, acc, ha, hl => by
    rw [List.foldl_cons]
    refine ok_fold hq l _ (fun d hd => ?_) fun d hd => hl d (List.mem_cons_of_mem _ hd)
    rw [Array.toList_append] at hd
    rcases List.mem_append.mp hd with z | z
    · exact ha d z
    · exact ok_reprChar hq (hl c List.mem_cons_self) d (by simpa using z)
theorem ok_reprText {x : Str} (h : PyData.strOk x = true) : PyData.strOk (PyData.shown (.str x)) = true := by
  simp only [PyData.shown]
  unfold PyData.strOk at h ⊢
  have hq : reprQuote x < 0x110000 := by unfold reprQuote; split <;> decide
  have hx : ∀ d ∈ x.cps.toList, d < 0x110000 := fun d hd => by
    have := Array.all_eq_true'.mp h d (by simpa using hd)
    simpa using this
  refine Array.all_eq_true'.mpr fun d hd => ?_
  unfold reprText at hd
  have hd : d ∈ ((x.cps.foldl (fun out c => out ++ (Builtin.Str.reprChar (reprQuote x) c).toArray) #[reprQuote x]).push (reprQuote x)).toList := Array.mem_def.mp hd
  rw [Array.toList_push, ← Array.foldl_toList] at hd
  have : d < 0x110000 := by
    rcases List.mem_append.mp hd with z | z
    · exact ok_fold hq _ _ (fun e he => by
        have : e = reprQuote x := by simpa using he
        rw [this]; exact hq) hx d z
    · rw [List.mem_singleton] at z; rw [z]; exact hq
  exact decide_eq_true this
theorem sm_said {n : Nat} {d : Dt} {m : Nat} (h : Sm 60 d m) (hm : m ≤ 5000) : Sm (n + 1) (.str (shD d)) 51000 := by
  obtain ⟨p, hp⟩ := h
  have e : shD d = p.shown := by unfold shD pdo DEEP; rw [(hp []).pd]
  have ok := (hp []).pf.ok
  have len := (hp []).pf.len
  rw [e]
  refine ⟨_, fun S => .str ok (ok_reprText ok) ?_⟩
  simp only [PyData.shown]
  have hx : ∀ c ∈ p.shown.cps.toList, c < 16 ^ 8 := fun c hc => by
    unfold PyData.strOk at ok
    have := Array.all_eq_true'.mp ok c (by simpa using hc)
    have : c < 0x110000 := by simpa using this
    exact Nat.lt_trans this (by decide)
  have := StrLaws.reprText_len p.shown hx
  omega
theorem lev_small {L : List Int} (R : RightL rs L) (h : rs.length ≤ 8) : (∀ i ∈ L, i.natAbs < 10 ^ 5) ∧ L.length ≤ 100 := ⟨fun i hi => by
  obtain ⟨k, hk⟩ := List.mem_iff_getElem?.mp hi
  have := R.lt hk
  have := R.nonneg hk
  omega, by rw [R.len]; omega⟩
theorem right1_ok (B : Bag S b c) (W : Works w size ks hs rs) (Fn : Fns S) (hb : 3 ≤ b) : (F__law_works_right_v2 [.box b, w] S).Wp (fun r S' => r = .bl true ∧ Bag S' b c ∧ Fr b S S') noX := by
  have kl := W.kl
  have s1 := W.s1
  have rl := W.rl
  have rr := W.rr
  have smw : ∀ {n : Nat}, Sm (n + 5) w 4000 := sm_works W
  have hwe := W.eq
  refine w_body ?_
  unfold B__law_works_right_v2
  simp only [startD, List.map_cons, List.map_nil, List.length_cons, List.length_nil, List.cons_append, List.nil_append, Nat.reduceAdd, Nat.reduceSub, List.replicate, List.replicate_succ, List.replicate_zero]
  and_intros
  refine w_reprS (smw (n := 55)) (by decide) ?_
  and_intros
  rw [hwe]
  and_intros
  refine ⟨Nat.le_of_ble_eq_true rfl, ?_⟩
  and_intros
  rw [← hwe]
  refine (placedall_ok B W Fn hb).mono (fun r S1 ⟨e1, B1, F1⟩ => ?_) fun _ _ _ q => q
  subst e1
  refine ⟨true, rfl, (fun z => nomatch z), fun _ => ?_⟩
  refine w_sNil (c_nx ?_)
  refine w_cons (w_set (w_lcP ?_))
  and_intros
  rw [kl]
  refine ⟨⟨by show -(2 ^ 62) ≤ (size : Int); omega, by show (size : Int) < 2 ^ 62; omega⟩, putP rs, fun x d => d = x, ?_, fun _ _ => trivial, fun x S2 hx p2 => ?_, fun ds S2 he hn p2 => ?_⟩
  · show (rgD 0 ((size : Int)).toNat).length < LIM
    rw [rgD_len]
    exact Nat.lt_of_le_of_lt (show ((size : Int)).toNat ≤ 5 by omega) (by decide)
  · obtain ⟨j, hj⟩ := List.mem_iff_getElem?.mp hx
    have e := rgD_get hj
    subst e
    have jl : j < size := by
      have := (List.getElem?_eq_some_iff.mp hj).1
      rw [rgD_len] at this
      omega
    refine w_tName (w_true (w_bin (w_lcP ?_)))
    rw [hwe]
    and_intros
    refine ⟨fun r => putB r j, fun _ d => d = .int 1, Nat.lt_of_le_of_lt rl (by decide), fun _ _ => rfl, fun r S3 hr p3 => ?_, fun es S3 he3 hn3 p3 => ?_⟩
    · obtain ⟨ts, us, h, R⟩ := rr r hr
      have ul := R.ul
      have ep := R.pt
      have ex := R.eq
      subst ex
      and_intros
      refine w_idxT (by omega) (by rw [List.length_map, ul]; omega) fun d hd => ?_
      have hk2 : j < us.length := by omega
      rw [show (0 + (j : Int)).toNat = j by omega, List.getElem?_map, List.getElem?_eq_getElem hk2] at hd
      cases hd
      and_intros
      refine ⟨?_, fun _ => List.prefix_refl _, fun _ => ?_⟩
      · show decide (us[j] > 0) = decide (0 < ((ptD (Dt.tup [Dt.tup (List.map Dt.int ts), Dt.tup (List.map Dt.int us), h]))[j]?).getD 0)
        rw [ep, List.getElem?_eq_getElem hk2]; rfl
      · and_intros
        exact ⟨rfl, List.prefix_refl _⟩
    have ee := Each.map (f := fun _ => Dt.int 1) he3
    and_intros
    refine w_neNil (seq_lst (get_pre (List.prefix_append _ _) hn3)) (seq_lst get_last) (w := 4) (fun d hd => ?_) ?_
    · rw [ee] at hd
      obtain ⟨_, _, rfl⟩ := List.mem_map.mp hd
      exact Sm.int (n := 58) 3 (by decide) (by decide) (by decide)
    have ei : (!es.isEmpty) = putP rs (.int (0 + (j : Int))) := by
      show _ = isPut rs (0 + (j : Int)).toNat
      rw [show (0 + (j : Int)).toNat = j by omega, ee]
      have : (List.map (fun _ => Dt.int 1) (rs.filter fun r => putB r j)).isEmpty = (rs.filter fun r => putB r j).isEmpty := by cases rs.filter fun r => putB r j <;> rfl
      rw [this, any_filter, Bool.not_not]; rfl
    refine ⟨_, rfl, ei, fun _ => p3.trans (List.prefix_append _ _), fun _ => ?_⟩
    and_intros
    exact ⟨rfl, p3.trans (List.prefix_append _ _)⟩
  have es : ds = (putJ rs size).map Dt.int := by
    have := Each.map (f := id) he
    rw [List.map_id] at this
    rw [this, show ((size : Int)).toNat = size by omega, put_list]
  subst es
  refine c_nx ?_
  have B2 := B1.pre p2
  have F2 := F1.trans (Fr.pre (b := b) p2)
  refine w_cons (w_par2 ?_)
  and_intros
  refine w_lcP ?_
  and_intros
  rw [kl]
  refine ⟨⟨by show -(2 ^ 62) ≤ (size : Int); omega, by show (size : Int) < 2 ^ 62; omega⟩, rawQ rs, fun x d => d = atK ks x, ?_, fun _ _ => trivial, fun x S3 hx p3 => ?_, fun ds S3 he3 hn3 p3 => ?_⟩
  · show (rgD 0 ((size : Int)).toNat).length < LIM
    rw [rgD_len]
    exact Nat.lt_of_le_of_lt (show ((size : Int)).toNat ≤ 5 by omega) (by decide)
  · obtain ⟨j, hj⟩ := List.mem_iff_getElem?.mp hx
    have e := rgD_get hj
    subst e
    have jl : j < size := by
      have := (List.getElem?_eq_some_iff.mp hj).1
      rw [rgD_len] at this
      omega
    and_intros
    refine w_notInts (get_pre p3 hn) ?_
    refine ⟨_, rfl, ?_, fun _ => List.prefix_refl _, fun _ => ?_⟩
    · show (!(putJ rs size).contains (0 + (j : Int))) = !isPut rs (0 + (j : Int)).toNat
      rw [show (0 + (j : Int)).toNat = j by omega, show 0 + (j : Int) = (j : Int) by omega, putJ_has rs jl]
    · and_intros
      refine w_idxT (by omega) (by omega) fun d hd => ?_
      refine ⟨?_, List.prefix_refl _⟩
      show d = (ks[(0 + (j : Int)).toNat]?).getD .non
      rw [hd]; rfl
  have e5 : ds = rawL ks rs := by
    have := Each.map (f := atK ks) he3
    rw [this, show ((size : Int)).toNat = ks.length by omega, raw_list]
  subst e5
  and_intros
  refine w_tupB (seq_lst hn3) ?_
  and_intros
  refine (levels_ok W).mono (fun r S4 ⟨n1, L, e4, hn1, i1, RL, p4⟩ => ?_) fun _ _ _ q => q
  subst e4
  have sl := lev_small RL rl
  and_intros
  refine (praw_ok W).mono (fun r S5 ⟨e5, p5⟩ => ?_) fun _ _ _ q => q
  subst e5
  and_intros
  refine (law_levels_ok W RL).mono (fun r S6 ⟨n2, e6, hn2, i2, p6⟩ => ?_) fun _ _ _ q => q
  subst e6
  refine w_nil (w_newL (Nat.le_of_ble_eq_true rfl) ?_)
  have pa := List.prefix_append S5 [MBox.lst [Dt.tup (rawL ks rs), Dt.box n1]]
  have pb := List.prefix_append S6 [MBox.lst [Dt.tup (rawL ks rs), Dt.box n2]]
  and_intros
  refine (alikeA_ok (get_pre (p6.trans pb) get_last) get_last (i1.pre (p5.trans (pa.trans (p6.trans pb)))) (i2.pre pb) sl.1 sl.2 (sm_raw W) (by decide)).mono (fun r S7 ⟨e1, e2⟩ => ?_) fun _ _ _ q => q
  subst e1; subst e2
  refine ⟨true, rfl, (fun z => nomatch z), fun _ => ?_⟩
  refine w_sNil (c_nx ?_)
  have p47 := p5.trans (pa.trans (p6.trans pb))
  have i7 := i1.pre p47
  have B7 := B2.pre ((p3.trans p4).trans p47)
  have F7 := F2.trans (Fr.pre (b := b) ((p3.trans p4).trans p47))
  have q1 := B.lt
  have q2 := F1.len
  have q3 := p2.length_le
  have q4 := p3.length_le
  generalize S6 ++ [MBox.lst [Dt.tup (rawL ks rs), Dt.box n2]] = S7 at B7 F7 i7 ⊢
  clear p47 pa pb i1 i2 p6 p5 p4 p3 hn3 he3 hn p2 B2 F2 B1
  and_intros
  refine ⟨ty_list i7, ?_⟩
  and_intros
  refine w_append (lst_of i7) (by rw [List.length_map]; exact Nat.lt_of_le_of_lt sl.2 (by decide)) ?_
  have B8 : Bag (S7.set n1 (.lst (L.map Dt.int ++ [.non]))) b c := B7.own (by omega) (by omega)
  have F8 : Fr b S (S7.set n1 (.lst (L.map Dt.int ++ [.non]))) := F7.own (by omega)
  generalize S7.set n1 (.lst (L.map Dt.int ++ [.non])) = S8 at B8 F8 ⊢
  and_intros
  refine (new_ok B8 W).mono (fun r S9 ⟨e1, B9, F9⟩ => ?_) fun _ _ _ q => q
  subst e1
  refine ⟨true, rfl, (fun z => nomatch z), fun _ => ?_⟩
  refine w_sNil (c_nx ?_)
  have F9' := F8.trans F9
  and_intros
  refine (levels_ok W).mono (fun r S10 ⟨n3, L2, e4, hn3, i3, RL2, p10⟩ => ?_) fun _ _ _ q => q
  subst e4
  have sl2 := lev_small RL2 rl
  and_intros
  refine w_reprS (smw (n := 55)) (by decide) ?_
  refine w_nil (w_newL (Nat.le_of_ble_eq_true rfl) ?_)
  and_intros
  refine (law_levels_ok W RL2).mono (fun r S11 ⟨n4, e6, hn4, i4, p11⟩ => ?_) fun _ _ _ q => q
  subst e6
  and_intros
  have pa := List.prefix_append S10 [MBox.lst [Dt.box n3, Dt.str (shD w)]]
  have pb := List.prefix_append S11 [MBox.lst [Dt.box n4, Dt.str (shD w)]]
  refine (alikeB3_ok (get_pre (p11.trans pb) get_last) get_last (i3.pre (pa.trans (p11.trans pb))) (i4.pre pb) sl2.1 sl2.2 (sm_said (n := 58) (smw (n := 55)) (by decide)) (by decide)).mono (fun r S12 ⟨e1, e2⟩ => ?_) fun _ _ _ q => q
  subst e1; subst e2
  have pz := p10.trans (pa.trans (p11.trans pb))
  exact .inl ⟨_, rfl, rfl, B9.pre pz, F9'.trans (Fr.pre (b := b) pz)⟩
end
end Lw
set_option Elab.async false
set_option linter.all false
set_option maxRecDepth 100000
set_option maxHeartbeats 4000000
/-! Ur: k01's law. -/
namespace Lw
open PySem PySem.Spec PyProof.Rows L2 Mn
def kpB : Bxs := [.fnc "kind_place", .fnc "hand_place"]
theorem bagF_ok {ns : List Int} (hl : ns.length ≤ 63) : (F__law_bag [.box 0] (script0 ns ++ kpB)).Wp (fun d S' => ∃ b c, d = .box b ∧ 3 ≤ b ∧ Bag S' b c ∧ Fns S') noX := by
  refine w_body ?_
  unfold B__law_bag
  simp only [startD, List.map_cons, List.map_nil, List.length_cons, List.length_nil, List.cons_append, List.nil_append, Nat.reduceAdd, Nat.reduceSub, List.replicate, List.replicate_succ, List.replicate_zero]
  and_intros
  refine w_lcMap ?_
  and_intros
  have h63 : Mn.cutD (ns.map Dt.int) none (some 63) = ns.map Dt.int := by
    refine cutD_whole ?_
    rw [List.length_map]
    unfold wholeCut
    simp [HT.sIx, Nat.min_eq_right hl]
  refine w_slB (xs := ns.map Dt.int) rfl ?_
  rw [h63]
  have hz : (ns.map Dt.int).length ≤ 63 := by rw [List.length_map]; exact hl
  refine w_newL (Nat.le_trans hz (by decide)) ?_
  refine ⟨_, w_seqB get_last, fun d => match d with | .int i => .int (if i < 0 then -i else i) | d => d, Nat.lt_of_le_of_lt hz (by decide), fun acc => ?_, fun x acc hx => ?_, ?_⟩
  · show seqOf _ (.box _) = some _
    exact w_seqB (get_pre (List.prefix_append _ _) get_last)
  · obtain ⟨i, hi, rfl⟩ := List.mem_map.mp hx
    and_intros
    refine ⟨rfl, ?_⟩
    and_intros
    exact ⟨rfl, rfl⟩
  · and_intros
    refine .inl ⟨_, rfl, _, 4, rfl, by simp [script0, kpB], ?_, ?_⟩
    · refine ⟨0, 1234567891, 0, ns.map fun i => if i < 0 then -i else i, ?_⟩
      refine ⟨get_last, ?_, by simp [script0, kpB], by decide, by decide, by decide, by decide, fun n hn => ?_, by rw [List.length_map]; exact hl⟩
      · show some (MBox.lst _) = _
        rw [List.map_map, List.map_map]
        rfl
      · obtain ⟨i, _, rfl⟩ := List.mem_map.mp hn
        split <;> omega
    · exact ⟨rfl, rfl⟩
theorem law01_ok {ns : List Int} (hl : ns.length ≤ 63) : (F_law_v12 [.box 0] (script0 ns ++ kpB)).Wp (fun d S' => d = .bl true) noX := by
  refine w_body ?_
  unfold B_law_v12
  simp only [startD, List.map_cons, List.map_nil, List.length_cons, List.length_nil, List.cons_append, List.nil_append, Nat.reduceAdd, Nat.reduceSub, List.replicate, List.replicate_succ, List.replicate_zero]
  and_intros
  refine (bagF_ok hl).mono (fun d S0 ⟨b, c, ed, b3, B0, t0⟩ => ?_) fun _ _ _ q => q
  subst ed
  and_intros
  repeat (refine ⟨Nat.le_of_ble_eq_true rfl, ?_⟩; and_intros)
  refine w_loop (fun i σ S' => ∃ d2, σ = [some (.box 0), some (.box b), d2] ∧ Bag S' b c ∧ Fns S') (fun _ _ _ _ => rfl) (fun i x σ S1 hx ⟨d2, eσ, B1, t1⟩ => ?_) (fun σ S1 ⟨d2, eσ, B1, t1⟩ => ?_) ⟨_, rfl, B0, t0⟩
  · subst eσ
    obtain ⟨k, h, r, rfl, k0, k5, h0, h3, r0, r8⟩ : ∃ k h r : Int, x = .tup [.int k, .int h, .int r] ∧ 0 < k ∧ k ≤ 5 ∧ 0 ≤ h ∧ h ≤ 3 ∧ 0 ≤ r ∧ r ≤ 8 := by
      have := List.mem_of_getElem? hx
      simp only [List.mem_cons, List.not_mem_nil, or_false] at this
      rcases this with rfl | rfl | rfl | rfl | rfl | rfl <;> exact ⟨_, _, _, rfl, by decide, by decide, by decide, by decide, by decide, by decide⟩
    and_intros
    refine (works_ok B1 k0 k5 h0 h3 r0 r8).mono (fun w S2 ⟨⟨size, ks, hs, rs, W⟩, B2, F2⟩ => ?_) fun _ _ _ q => q
    have t2 := t1.fr F2 b3
    and_intros
    refine (right1_ok B2 W t2 b3).mono (fun r S3 ⟨e1, B3, F3⟩ => ?_) fun _ _ _ q => q
    subst e1
    refine ⟨true, rfl, (fun z => nomatch z), fun _ => ?_⟩
    refine w_sNil ?_
    exact .inl ⟨rfl, _, rfl, B3, t2.fr F3 b3⟩
  · subst eσ
    refine c_nx ?_
    and_intros
    exact .inl ⟨_, rfl, rfl⟩
end Lw
set_option Elab.async false
set_option linter.all false
set_option maxRecDepth 100000
set_option maxHeartbeats 4000000
namespace K01
open PySem PySem.Spec PyProof.Rows L2 Mn
def topS (i : Nat) : Stmt := PySem.Challenge.pw_neverheaps_k01_works_looked_at.main.body.getD i (.Pass ⟨0, 0, 0, 0⟩)
abbrev s__law_bag : Stmt := topS 19
theorem sc__law_bag : FnScope ["script", "cell"] ["script"] (defScope s__law_bag) := ⟨rfl, rfl, rfl, by decide +kernel, rfl, by decide +kernel, by decide +kernel⟩
noncomputable abbrev F__law_bag : FN := Lw.F__law_bag
abbrev s__law_alike : Stmt := topS 23
theorem sc__law_alike : FnScope ["found", "due"] ["found", "due"] (defScope s__law_alike) := ⟨rfl, rfl, rfl, by decide +kernel, rfl, by decide +kernel, by decide +kernel⟩
noncomputable abbrev F__law_alike : FN := Lw.F__law_alike_v3
abbrev s__law_take : Stmt := topS 20
theorem sc__law_take : FnScope ["bag", "many", "cell", "stirred", "value", "begin", "second"] ["bag", "many"] (defScope s__law_take) := ⟨rfl, rfl, rfl, by decide +kernel, rfl, by decide +kernel, by decide +kernel⟩
noncomputable abbrev F__law_take : FN := Lw.F__law_take
abbrev s__law_one : Stmt := topS 21
theorem sc__law_one : FnScope ["bag", "things"] ["bag", "things"] (defScope s__law_one) := ⟨rfl, rfl, rfl, by decide +kernel, rfl, by decide +kernel, by decide +kernel⟩
noncomputable abbrev F__law_one : FN := Lw.F__law_one
abbrev s__law_odd : Stmt := topS 30
theorem sc__law_odd : FnScope ["bag", "menu"] ["bag"] (defScope s__law_odd) := ⟨rfl, rfl, rfl, by decide +kernel, rfl, by decide +kernel, by decide +kernel⟩
noncomputable abbrev F__law_odd : FN := Lw.F__law_odd
abbrev s__place_among : Stmt := topS 7
theorem sc__place_among : FnScope ["names", "name"] ["names", "name"] (defScope s__place_among) := ⟨rfl, rfl, rfl, by decide +kernel, rfl, by decide +kernel, by decide +kernel⟩
noncomputable abbrev F__place_among : FN := Lw.F__place_among_v3
abbrev s_kind_place : Stmt := topS 8
theorem sc_kind_place : FnScope ["works", "name"] ["works", "name"] (defScope s_kind_place) := ⟨rfl, rfl, rfl, by decide +kernel, rfl, by decide +kernel, by decide +kernel⟩
noncomputable abbrev F_kind_place : FN := Lw.F_kind_place_v3
abbrev s_hand_place : Stmt := topS 9
theorem sc_hand_place : FnScope ["works", "name"] ["works", "name"] (defScope s_hand_place) := ⟨rfl, rfl, rfl, by decide +kernel, rfl, by decide +kernel, by decide +kernel⟩
noncomputable abbrev F_hand_place : FN := Lw.F_hand_place_v3
abbrev s__law_is_placed : Stmt := topS 37
theorem sc__law_is_placed : FnScope ["act", "works", "names", "name", "due", "found", "e", "place"] ["act", "works", "names", "name"] (defScope s__law_is_placed) := ⟨rfl, rfl, rfl, by decide +kernel, rfl, by decide +kernel, by decide +kernel⟩
noncomputable abbrev F__law_is_placed : FN := Lw.F__law_is_placed
abbrev s__law_are_placed : Stmt := topS 41
theorem sc__law_are_placed : FnScope ["bag", "works", "kinds", "hands", "odd", "name", "k"] ["bag", "works"] (defScope s__law_are_placed) := ⟨rfl, rfl, rfl, by decide +kernel, rfl, by decide +kernel, by decide +kernel⟩
noncomputable abbrev F__law_are_placed : FN := Lw.F__law_are_placed
abbrev s__depth : Stmt := topS 12
theorem sc__depth : FnScope ["takes", "kind_depths", "taken", "depth"] ["takes", "kind_depths"] (defScope s__depth) := ⟨rfl, rfl, rfl, by decide +kernel, rfl, by decide +kernel, by decide +kernel⟩
noncomputable abbrev F__depth : FN := Lw.F__depth
abbrev s__kind_depths : Stmt := topS 13
theorem sc__kind_depths : FnScope ["works", "depths", "kind", "takes", "puts", "_"] ["works"] (defScope s__kind_depths) := ⟨rfl, rfl, rfl, by decide +kernel, rfl, by decide +kernel, by decide +kernel⟩
noncomputable abbrev F__kind_depths : FN := Lw.F__kind_depths
abbrev s_levels : Stmt := topS 14
theorem sc_levels : FnScope ["works", "depths", "takes", "_"] ["works"] (defScope s_levels) := ⟨rfl, rfl, rfl, by decide +kernel, rfl, by decide +kernel, by decide +kernel⟩
noncomputable abbrev F_levels : FN := Lw.F_levels
abbrev s__law_mixed : Stmt := topS 22
theorem sc__law_mixed : FnScope ["bag", "things", "found", "thing"] ["bag", "things"] (defScope s__law_mixed) := ⟨rfl, rfl, rfl, by decide +kernel, rfl, by decide +kernel, by decide +kernel⟩
noncomputable abbrev F__law_mixed : FN := Lw.F__law_mixed
abbrev s_renamed_works : Stmt := topS 15
theorem sc_renamed_works : FnScope ["works", "names", "kinds", "hands", "recipes", "renamed", "takes", "puts", "hand", "kind"] ["works", "names"] (defScope s_renamed_works) := ⟨rfl, rfl, rfl, by decide +kernel, rfl, by decide +kernel, by decide +kernel⟩
noncomputable abbrev F_renamed_works : FN := Lw.F_renamed_works
abbrev s__law_links : Stmt := topS 28
theorem sc__law_links : FnScope ["bag", "places", "more", "order", "found", "turn"] ["bag", "places", "more"] (defScope s__law_links) := ⟨rfl, rfl, rfl, by decide +kernel, rfl, by decide +kernel, by decide +kernel⟩
noncomputable abbrev F__law_links : FN := Lw.F__law_links
abbrev s__law_any_sender : Stmt := topS 29
theorem sc__law_any_sender : FnScope ["bag", "works", "places", "more", "many", "arrows", "links", "source", "target", "lot", "kind", "hand"] ["bag", "works", "places", "more"] (defScope s__law_any_sender) := ⟨rfl, rfl, rfl, by decide +kernel, rfl, by decide +kernel, by decide +kernel⟩
noncomputable abbrev F__law_any_sender : FN := Lw.F__law_any_sender
abbrev s_led_sender : Stmt := topS 17
theorem sc_led_sender : FnScope ["sender", "many", "places", "arrows", "led", "source", "target", "amounts", "crew"] ["sender", "many"] (defScope s_led_sender) := ⟨rfl, rfl, rfl, by decide +kernel, rfl, by decide +kernel, by decide +kernel⟩
noncomputable abbrev F_led_sender : FN := Lw.F_led_sender
abbrev s__law_is_int : Stmt := topS 31
theorem sc__law_is_int : FnScope ["thing"] ["thing"] (defScope s__law_is_int) := ⟨rfl, rfl, rfl, by decide +kernel, rfl, by decide +kernel, by decide +kernel⟩
noncomputable abbrev F__law_is_int : FN := Lw.F__law_is_int
abbrev s__law_is_lot : Stmt := topS 33
theorem sc__law_is_lot : FnScope ["size", "thing", "number"] ["size", "thing"] (defScope s__law_is_lot) := ⟨rfl, rfl, rfl, by decide +kernel, rfl, by decide +kernel, by decide +kernel⟩
noncomputable abbrev F__law_is_lot : FN := Lw.F__law_is_lot
abbrev s__law_is_recipe : Stmt := topS 34
theorem sc__law_is_recipe : FnScope ["kinds", "hands", "thing", "taken", "place"] ["kinds", "hands", "thing"] (defScope s__law_is_recipe) := ⟨rfl, rfl, rfl, by decide +kernel, rfl, by decide +kernel, by decide +kernel⟩
noncomputable abbrev F__law_is_recipe : FN := Lw.F__law_is_recipe
abbrev s__law_is_name : Stmt := topS 32
theorem sc__law_is_name : FnScope ["thing", "sign"] ["thing"] (defScope s__law_is_name) := ⟨rfl, rfl, rfl, by decide +kernel, rfl, by decide +kernel, by decide +kernel⟩
noncomputable abbrev F__law_is_name : FN := Lw.F__law_is_name
abbrev s__law_is_works : Stmt := topS 35
theorem sc__law_is_works : FnScope ["thing", "kinds", "hands", "recipes", "part", "name", "recipe"] ["thing"] (defScope s__law_is_works) := ⟨rfl, rfl, rfl, by decide +kernel, rfl, by decide +kernel, by decide +kernel⟩
noncomputable abbrev F__law_is_works : FN := Lw.F__law_is_works
abbrev s__law_names : Stmt := topS 24
theorem sc__law_names : FnScope ["bag", "many", "menu"] ["bag", "many"] (defScope s__law_names) := ⟨rfl, rfl, rfl, by decide +kernel, rfl, by decide +kernel, by decide +kernel⟩
noncomputable abbrev F__law_names : FN := Lw.F__law_names
abbrev s__law_renamed : Stmt := topS 40
theorem sc__law_renamed : FnScope ["works", "names", "found", "takes", "puts", "hand", "name"] ["works", "names"] (defScope s__law_renamed) := ⟨rfl, rfl, rfl, by decide +kernel, rfl, by decide +kernel, by decide +kernel⟩
noncomputable abbrev F__law_renamed : FN := Lw.F__law_renamed
abbrev s_with_hand : Stmt := topS 16
theorem sc_with_hand : FnScope ["works", "name", "kinds", "hands", "recipes"] ["works", "name"] (defScope s_with_hand) := ⟨rfl, rfl, rfl, by decide +kernel, rfl, by decide +kernel, by decide +kernel⟩
noncomputable abbrev F_with_hand : FN := Lw.F_with_hand
abbrev s__law_with_hand : Stmt := topS 38
theorem sc__law_with_hand : FnScope ["works", "name", "e"] ["works", "name"] (defScope s__law_with_hand) := ⟨rfl, rfl, rfl, by decide +kernel, rfl, by decide +kernel, by decide +kernel⟩
noncomputable abbrev F__law_with_hand : FN := Lw.F__law_with_hand
abbrev s__law_hand_due : Stmt := topS 39
theorem sc__law_hand_due : FnScope ["works", "name", "kinds", "hands", "recipes"] ["works", "name"] (defScope s__law_hand_due) := ⟨rfl, rfl, rfl, by decide +kernel, rfl, by decide +kernel, by decide +kernel⟩
noncomputable abbrev F__law_hand_due : FN := Lw.F__law_hand_due
abbrev s__law_are_new_right : Stmt := topS 42
theorem sc__law_are_new_right : FnScope ["bag", "works", "old", "new", "names", "kept", "made", "name", "sender", "many", "led", "arrow"] ["bag", "works"] (defScope s__law_are_new_right) := ⟨rfl, rfl, rfl, by decide +kernel, rfl, by decide +kernel, by decide +kernel⟩
noncomputable abbrev F__law_are_new_right : FN := Lw.F__law_are_new_right
abbrev s__law_levels : Stmt := topS 36
theorem sc__law_levels : FnScope ["works", "found", "turn", "index", "recipe", "makers", "k", "one", "other"] ["works"] (defScope s__law_levels) := ⟨rfl, rfl, rfl, by decide +kernel, rfl, by decide +kernel, by decide +kernel⟩
noncomputable abbrev F__law_levels : FN := Lw.F__law_levels
abbrev s__is_put : Stmt := topS 10
theorem sc__is_put : FnScope ["works", "kind", "_", "puts"] ["works", "kind"] (defScope s__is_put) := ⟨rfl, rfl, rfl, by decide +kernel, rfl, by decide +kernel, by decide +kernel⟩
noncomputable abbrev F__is_put : FN := Lw.F__is_put
abbrev s_raw_kinds : Stmt := topS 11
theorem sc_raw_kinds : FnScope ["works", "kind", "name"] ["works"] (defScope s_raw_kinds) := ⟨rfl, rfl, rfl, by decide +kernel, rfl, by decide +kernel, by decide +kernel⟩
noncomputable abbrev F_raw_kinds : FN := Lw.F_raw_kinds
abbrev s__law_works_right : Stmt := topS 43
theorem sc__law_works_right : FnScope ["bag", "works", "said", "kinds", "put", "raw", "depths", "place", "recipe"] ["bag", "works"] (defScope s__law_works_right) := ⟨rfl, rfl, rfl, by decide +kernel, rfl, by decide +kernel, by decide +kernel⟩
noncomputable abbrev F__law_works_right : FN := Lw.F__law_works_right_v2
abbrev s__law_recipe : Stmt := topS 25
theorem sc__law_recipe : FnScope ["bag", "size", "hands", "most", "last", "menu", "takes", "puts", "place"] ["bag", "size", "hands", "most"] (defScope s__law_recipe) := ⟨rfl, rfl, rfl, by decide +kernel, rfl, by decide +kernel, by decide +kernel⟩
noncomputable abbrev F__law_recipe : FN := Lw.F__law_recipe
abbrev s__law_out : Stmt := topS 26
theorem sc__law_out : FnScope ["bag", "size", "place", "hands", "takes"] ["bag", "size", "place", "hands"] (defScope s__law_out) := ⟨rfl, rfl, rfl, by decide +kernel, rfl, by decide +kernel, by decide +kernel⟩
noncomputable abbrev F__law_out : FN := Lw.F__law_out
abbrev s__law_works : Stmt := topS 27
theorem sc__law_works : FnScope ["bag", "kinds", "hands", "recipes", "names", "size", "many", "crew", "found", "most", "turn", "place"] ["bag", "kinds", "hands", "recipes"] (defScope s__law_works) := ⟨rfl, rfl, rfl, by decide +kernel, rfl, by decide +kernel, by decide +kernel⟩
noncomputable abbrev F__law_works : FN := Lw.F__law_works
abbrev s_law : Stmt := topS 44
theorem sc_law : FnScope ["script", "bag", "sizes"] ["script"] (defScope s_law) := ⟨rfl, rfl, rfl, by decide +kernel, rfl, by decide +kernel, by decide +kernel⟩
noncomputable abbrev F_law : FN := Lw.F_law_v12
/-- what the top has written -/
structure Top (K : PySem.W.Frag) (mg : Str → Option Value) where
  f__law_bag : Addr
  fd__law_bag : FuncData
  fn__law_bag : Fun K "_law_bag" "_law_bag" s__law_bag f__law_bag fd__law_bag
  bn__law_bag : Binds K fd__law_bag ["script"] []
  g__law_bag : mg "_law_bag" = some (.ref f__law_bag)
  f__law_alike : Addr
  fd__law_alike : FuncData
  fn__law_alike : Fun K "_law_alike" "_law_alike" s__law_alike f__law_alike fd__law_alike
  bn__law_alike : Binds K fd__law_alike ["found", "due"] []
  g__law_alike : mg "_law_alike" = some (.ref f__law_alike)
  f__law_take : Addr
  fd__law_take : FuncData
  fn__law_take : Fun K "_law_take" "_law_take" s__law_take f__law_take fd__law_take
  bn__law_take : Binds K fd__law_take ["bag", "many"] []
  g__law_take : mg "_law_take" = some (.ref f__law_take)
  f__law_one : Addr
  fd__law_one : FuncData
  fn__law_one : Fun K "_law_one" "_law_one" s__law_one f__law_one fd__law_one
  bn__law_one : Binds K fd__law_one ["bag", "things"] []
  g__law_one : mg "_law_one" = some (.ref f__law_one)
  f__law_odd : Addr
  fd__law_odd : FuncData
  fn__law_odd : Fun K "_law_odd" "_law_odd" s__law_odd f__law_odd fd__law_odd
  bn__law_odd : Binds K fd__law_odd ["bag"] []
  g__law_odd : mg "_law_odd" = some (.ref f__law_odd)
  f__place_among : Addr
  fd__place_among : FuncData
  fn__place_among : Fun K "_place_among" "_place_among" s__place_among f__place_among fd__place_among
  bn__place_among : Binds K fd__place_among ["names", "name"] []
  g__place_among : mg "_place_among" = some (.ref f__place_among)
  f_kind_place : Addr
  fd_kind_place : FuncData
  fn_kind_place : Fun K "kind_place" "kind_place" s_kind_place f_kind_place fd_kind_place
  bn_kind_place : Binds K fd_kind_place ["works", "name"] []
  g_kind_place : mg "kind_place" = some (.ref f_kind_place)
  f_hand_place : Addr
  fd_hand_place : FuncData
  fn_hand_place : Fun K "hand_place" "hand_place" s_hand_place f_hand_place fd_hand_place
  bn_hand_place : Binds K fd_hand_place ["works", "name"] []
  g_hand_place : mg "hand_place" = some (.ref f_hand_place)
  f__law_is_placed : Addr
  fd__law_is_placed : FuncData
  fn__law_is_placed : Fun K "_law_is_placed" "_law_is_placed" s__law_is_placed f__law_is_placed fd__law_is_placed
  bn__law_is_placed : Binds K fd__law_is_placed ["act", "works", "names", "name"] []
  g__law_is_placed : mg "_law_is_placed" = some (.ref f__law_is_placed)
  f__law_are_placed : Addr
  fd__law_are_placed : FuncData
  fn__law_are_placed : Fun K "_law_are_placed" "_law_are_placed" s__law_are_placed f__law_are_placed fd__law_are_placed
  bn__law_are_placed : Binds K fd__law_are_placed ["bag", "works"] []
  g__law_are_placed : mg "_law_are_placed" = some (.ref f__law_are_placed)
  f__depth : Addr
  fd__depth : FuncData
  fn__depth : Fun K "_depth" "_depth" s__depth f__depth fd__depth
  bn__depth : Binds K fd__depth ["takes", "kind_depths"] []
  g__depth : mg "_depth" = some (.ref f__depth)
  f__kind_depths : Addr
  fd__kind_depths : FuncData
  fn__kind_depths : Fun K "_kind_depths" "_kind_depths" s__kind_depths f__kind_depths fd__kind_depths
  bn__kind_depths : Binds K fd__kind_depths ["works"] []
  g__kind_depths : mg "_kind_depths" = some (.ref f__kind_depths)
  f_levels : Addr
  fd_levels : FuncData
  fn_levels : Fun K "levels" "levels" s_levels f_levels fd_levels
  bn_levels : Binds K fd_levels ["works"] []
  g_levels : mg "levels" = some (.ref f_levels)
  f__law_mixed : Addr
  fd__law_mixed : FuncData
  fn__law_mixed : Fun K "_law_mixed" "_law_mixed" s__law_mixed f__law_mixed fd__law_mixed
  bn__law_mixed : Binds K fd__law_mixed ["bag", "things"] []
  g__law_mixed : mg "_law_mixed" = some (.ref f__law_mixed)
  f_renamed_works : Addr
  fd_renamed_works : FuncData
  fn_renamed_works : Fun K "renamed_works" "renamed_works" s_renamed_works f_renamed_works fd_renamed_works
  bn_renamed_works : Binds K fd_renamed_works ["works", "names"] []
  g_renamed_works : mg "renamed_works" = some (.ref f_renamed_works)
  f__law_links : Addr
  fd__law_links : FuncData
  fn__law_links : Fun K "_law_links" "_law_links" s__law_links f__law_links fd__law_links
  bn__law_links : Binds K fd__law_links ["bag", "places", "more"] []
  g__law_links : mg "_law_links" = some (.ref f__law_links)
  f__law_any_sender : Addr
  fd__law_any_sender : FuncData
  fn__law_any_sender : Fun K "_law_any_sender" "_law_any_sender" s__law_any_sender f__law_any_sender fd__law_any_sender
  bn__law_any_sender : Binds K fd__law_any_sender ["bag", "works", "places", "more"] []
  g__law_any_sender : mg "_law_any_sender" = some (.ref f__law_any_sender)
  f_led_sender : Addr
  fd_led_sender : FuncData
  fn_led_sender : Fun K "led_sender" "led_sender" s_led_sender f_led_sender fd_led_sender
  bn_led_sender : Binds K fd_led_sender ["sender", "many"] []
  g_led_sender : mg "led_sender" = some (.ref f_led_sender)
  f__law_is_int : Addr
  fd__law_is_int : FuncData
  fn__law_is_int : Fun K "_law_is_int" "_law_is_int" s__law_is_int f__law_is_int fd__law_is_int
  bn__law_is_int : Binds K fd__law_is_int ["thing"] []
  g__law_is_int : mg "_law_is_int" = some (.ref f__law_is_int)
  f__law_is_lot : Addr
  fd__law_is_lot : FuncData
  fn__law_is_lot : Fun K "_law_is_lot" "_law_is_lot" s__law_is_lot f__law_is_lot fd__law_is_lot
  bn__law_is_lot : Binds K fd__law_is_lot ["size", "thing"] []
  g__law_is_lot : mg "_law_is_lot" = some (.ref f__law_is_lot)
  f__law_is_recipe : Addr
  fd__law_is_recipe : FuncData
  fn__law_is_recipe : Fun K "_law_is_recipe" "_law_is_recipe" s__law_is_recipe f__law_is_recipe fd__law_is_recipe
  bn__law_is_recipe : Binds K fd__law_is_recipe ["kinds", "hands", "thing"] []
  g__law_is_recipe : mg "_law_is_recipe" = some (.ref f__law_is_recipe)
  f__law_is_name : Addr
  fd__law_is_name : FuncData
  fn__law_is_name : Fun K "_law_is_name" "_law_is_name" s__law_is_name f__law_is_name fd__law_is_name
  bn__law_is_name : Binds K fd__law_is_name ["thing"] []
  g__law_is_name : mg "_law_is_name" = some (.ref f__law_is_name)
  f__law_is_works : Addr
  fd__law_is_works : FuncData
  fn__law_is_works : Fun K "_law_is_works" "_law_is_works" s__law_is_works f__law_is_works fd__law_is_works
  bn__law_is_works : Binds K fd__law_is_works ["thing"] []
  g__law_is_works : mg "_law_is_works" = some (.ref f__law_is_works)
  f__law_names : Addr
  fd__law_names : FuncData
  fn__law_names : Fun K "_law_names" "_law_names" s__law_names f__law_names fd__law_names
  bn__law_names : Binds K fd__law_names ["bag", "many"] []
  g__law_names : mg "_law_names" = some (.ref f__law_names)
  f__law_renamed : Addr
  fd__law_renamed : FuncData
  fn__law_renamed : Fun K "_law_renamed" "_law_renamed" s__law_renamed f__law_renamed fd__law_renamed
  bn__law_renamed : Binds K fd__law_renamed ["works", "names"] []
  g__law_renamed : mg "_law_renamed" = some (.ref f__law_renamed)
  f_with_hand : Addr
  fd_with_hand : FuncData
  fn_with_hand : Fun K "with_hand" "with_hand" s_with_hand f_with_hand fd_with_hand
  bn_with_hand : Binds K fd_with_hand ["works", "name"] []
  g_with_hand : mg "with_hand" = some (.ref f_with_hand)
  f__law_with_hand : Addr
  fd__law_with_hand : FuncData
  fn__law_with_hand : Fun K "_law_with_hand" "_law_with_hand" s__law_with_hand f__law_with_hand fd__law_with_hand
  bn__law_with_hand : Binds K fd__law_with_hand ["works", "name"] []
  g__law_with_hand : mg "_law_with_hand" = some (.ref f__law_with_hand)
  f__law_hand_due : Addr
  fd__law_hand_due : FuncData
  fn__law_hand_due : Fun K "_law_hand_due" "_law_hand_due" s__law_hand_due f__law_hand_due fd__law_hand_due
  bn__law_hand_due : Binds K fd__law_hand_due ["works", "name"] []
  g__law_hand_due : mg "_law_hand_due" = some (.ref f__law_hand_due)
  f__law_are_new_right : Addr
  fd__law_are_new_right : FuncData
  fn__law_are_new_right : Fun K "_law_are_new_right" "_law_are_new_right" s__law_are_new_right f__law_are_new_right fd__law_are_new_right
  bn__law_are_new_right : Binds K fd__law_are_new_right ["bag", "works"] []
  g__law_are_new_right : mg "_law_are_new_right" = some (.ref f__law_are_new_right)
  f__law_levels : Addr
  fd__law_levels : FuncData
  fn__law_levels : Fun K "_law_levels" "_law_levels" s__law_levels f__law_levels fd__law_levels
  bn__law_levels : Binds K fd__law_levels ["works"] []
  g__law_levels : mg "_law_levels" = some (.ref f__law_levels)
  f__is_put : Addr
  fd__is_put : FuncData
  fn__is_put : Fun K "_is_put" "_is_put" s__is_put f__is_put fd__is_put
  bn__is_put : Binds K fd__is_put ["works", "kind"] []
  g__is_put : mg "_is_put" = some (.ref f__is_put)
  f_raw_kinds : Addr
  fd_raw_kinds : FuncData
  fn_raw_kinds : Fun K "raw_kinds" "raw_kinds" s_raw_kinds f_raw_kinds fd_raw_kinds
  bn_raw_kinds : Binds K fd_raw_kinds ["works"] []
  g_raw_kinds : mg "raw_kinds" = some (.ref f_raw_kinds)
  f__law_works_right : Addr
  fd__law_works_right : FuncData
  fn__law_works_right : Fun K "_law_works_right" "_law_works_right" s__law_works_right f__law_works_right fd__law_works_right
  bn__law_works_right : Binds K fd__law_works_right ["bag", "works"] []
  g__law_works_right : mg "_law_works_right" = some (.ref f__law_works_right)
  f__law_recipe : Addr
  fd__law_recipe : FuncData
  fn__law_recipe : Fun K "_law_recipe" "_law_recipe" s__law_recipe f__law_recipe fd__law_recipe
  bn__law_recipe : Binds K fd__law_recipe ["bag", "size", "hands", "most"] []
  g__law_recipe : mg "_law_recipe" = some (.ref f__law_recipe)
  f__law_out : Addr
  fd__law_out : FuncData
  fn__law_out : Fun K "_law_out" "_law_out" s__law_out f__law_out fd__law_out
  bn__law_out : Binds K fd__law_out ["bag", "size", "place", "hands"] []
  g__law_out : mg "_law_out" = some (.ref f__law_out)
  f__law_works : Addr
  fd__law_works : FuncData
  fn__law_works : Fun K "_law_works" "_law_works" s__law_works f__law_works fd__law_works
  bn__law_works : Binds K fd__law_works ["bag", "kinds", "hands", "recipes"] []
  g__law_works : mg "_law_works" = some (.ref f__law_works)
  f_law : Addr
  fd_law : FuncData
  fn_law : Fun K "law" "law" s_law f_law fd_law
  bn_law : Binds K fd_law ["script"] []
  g_law : mg "law" = some (.ref f_law)
  n_kind_place : PySem.W.nsIn K mainGlobals "kind_place" = some (some (.ref f_kind_place))
  n_hand_place : PySem.W.nsIn K mainGlobals "hand_place" = some (some (.ref f_hand_place))
  bl_law : ∀ s u, BindsTo s fd_law ⟨[u], []⟩ [("script", u)]
  m_abs : mg "abs" = none
  m_any : mg "any" = none
  m_bool : mg "bool" = none
  m_dict : mg "dict" = none
  m_enumerate : mg "enumerate" = none
  m_int : mg "int" = none
  m_isinstance : mg "isinstance" = none
  m_len : mg "len" = none
  m_list : mg "list" = none
  m_max : mg "max" = none
  m_min : mg "min" = none
  m_range : mg "range" = none
  m_repr : mg "repr" = none
  m_set : mg "set" = none
  m_str : mg "str" = none
  m_tuple : mg "tuple" = none
  m_zip : mg "zip" = none
  t_MOST_HANDS : Tok
  c_MOST_HANDS : mg "MOST_HANDS" = some (.int 3 t_MOST_HANDS)
  C_NoName : Addr
  g_NoName : mg "NoName" = some (.ref C_NoName)
  C_TooMany : Addr
  g_TooMany : mg "TooMany" = some (.ref C_TooMany)
  C_Used : Addr
  g_Used : mg "Used" = some (.ref C_Used)
  C_HeapError : Addr
  g_HeapError : mg "HeapError" = some (.ref C_HeapError)
  o_NoName : OexC K C_NoName
  I_NoName : Addr
  i_NoName : PySem.W.findIn K (.ref C_NoName) "__init__" = some (some (.ref I_NoName))
  ti_NoName : PySem.W.typeIn K (.ref I_NoName) = some (.type "function")
  fdi_NoName : FuncData
  fni_NoName : Fun K "__init__" "NoName.__init__" (methS (topS 2) 0) I_NoName fdi_NoName
  bi_NoName : Binds K fdi_NoName ["self", "name"] []
  no_NoName : PySem.W.findIn K (.ref C_NoName) "name" = some none
  xf_NoName : XfC K C_NoName
  o_TooMany : OexC K C_TooMany
  I_TooMany : Addr
  i_TooMany : PySem.W.findIn K (.ref C_TooMany) "__init__" = some (some (.ref I_TooMany))
  ti_TooMany : PySem.W.typeIn K (.ref I_TooMany) = some (.type "function")
  fdi_TooMany : FuncData
  fni_TooMany : Fun K "__init__" "TooMany.__init__" (methS (topS 3) 0) I_TooMany fdi_TooMany
  bi_TooMany : Binds K fdi_TooMany ["self", "most"] []
  no_TooMany : PySem.W.findIn K (.ref C_TooMany) "most" = some none
  xf_TooMany : XfC K C_TooMany
  o_Used : OexC K C_Used
  I_Used : Addr
  i_Used : PySem.W.findIn K (.ref C_Used) "__init__" = some (some (.ref I_Used))
  ti_Used : PySem.W.typeIn K (.ref I_Used) = some (.type "function")
  fdi_Used : FuncData
  fni_Used : Fun K "__init__" "Used.__init__" (methS (topS 4) 0) I_Used fdi_Used
  bi_Used : Binds K fdi_Used ["self", "name"] []
  no_Used : PySem.W.findIn K (.ref C_Used) "name" = some none
  xf_Used : XfC K C_Used
  x_NoName_NoName : PySem.W.exmOne K (.ref C_NoName) (.ref C_NoName) = some true
  x_NoName_TooMany : PySem.W.exmOne K (.ref C_NoName) (.ref C_TooMany) = some false
  x_NoName_Used : PySem.W.exmOne K (.ref C_NoName) (.ref C_Used) = some false
  x_NoName_HeapError : PySem.W.exmOne K (.ref C_NoName) (.ref C_HeapError) = some true
  x_TooMany_NoName : PySem.W.exmOne K (.ref C_TooMany) (.ref C_NoName) = some false
  x_TooMany_TooMany : PySem.W.exmOne K (.ref C_TooMany) (.ref C_TooMany) = some true
  x_TooMany_Used : PySem.W.exmOne K (.ref C_TooMany) (.ref C_Used) = some false
  x_TooMany_HeapError : PySem.W.exmOne K (.ref C_TooMany) (.ref C_HeapError) = some true
  x_Used_NoName : PySem.W.exmOne K (.ref C_Used) (.ref C_NoName) = some false
  x_Used_TooMany : PySem.W.exmOne K (.ref C_Used) (.ref C_TooMany) = some false
  x_Used_Used : PySem.W.exmOne K (.ref C_Used) (.ref C_Used) = some true
  x_Used_HeapError : PySem.W.exmOne K (.ref C_Used) (.ref C_HeapError) = some true
abbrev eo0 : XK → ER := fun _ => noEr
def ctT {K : PySem.W.Frag} {mg : Str → Option Value} (T : Top K mg) : CT := ctL [(9, T.C_NoName, ["name"]), (15, T.C_TooMany, ["most"]), (16, T.C_Used, ["name"])]
theorem xm_NoName {K : PySem.W.Frag} {mg : Str → Option Value} (T : Top K mg) : ∀ c C ns, ctT T c = some (C, ns) → PySem.W.exmOne K (.ref C) (.ref T.C_NoName) = some (subC c 9) := ctL_all (P := fun c C => PySem.W.exmOne K (.ref C) (.ref T.C_NoName) = some (subC c 9)) (List.forall_mem_cons.2 ⟨T.x_NoName_NoName, List.forall_mem_cons.2 ⟨T.x_TooMany_NoName, List.forall_mem_cons.2 ⟨T.x_Used_NoName, fun _ z => nomatch z⟩⟩⟩)
theorem xm_TooMany {K : PySem.W.Frag} {mg : Str → Option Value} (T : Top K mg) : ∀ c C ns, ctT T c = some (C, ns) → PySem.W.exmOne K (.ref C) (.ref T.C_TooMany) = some (subC c 15) := ctL_all (P := fun c C => PySem.W.exmOne K (.ref C) (.ref T.C_TooMany) = some (subC c 15)) (List.forall_mem_cons.2 ⟨T.x_NoName_TooMany, List.forall_mem_cons.2 ⟨T.x_TooMany_TooMany, List.forall_mem_cons.2 ⟨T.x_Used_TooMany, fun _ z => nomatch z⟩⟩⟩)
theorem xm_Used {K : PySem.W.Frag} {mg : Str → Option Value} (T : Top K mg) : ∀ c C ns, ctT T c = some (C, ns) → PySem.W.exmOne K (.ref C) (.ref T.C_Used) = some (subC c 16) := ctL_all (P := fun c C => PySem.W.exmOne K (.ref C) (.ref T.C_Used) = some (subC c 16)) (List.forall_mem_cons.2 ⟨T.x_NoName_Used, List.forall_mem_cons.2 ⟨T.x_TooMany_Used, List.forall_mem_cons.2 ⟨T.x_Used_Used, fun _ z => nomatch z⟩⟩⟩)
theorem xm_HeapError {K : PySem.W.Frag} {mg : Str → Option Value} (T : Top K mg) : ∀ c C ns, ctT T c = some (C, ns) → PySem.W.exmOne K (.ref C) (.ref T.C_HeapError) = some (subC c 18) := ctL_all (P := fun c C => PySem.W.exmOne K (.ref C) (.ref T.C_HeapError) = some (subC c 18)) (List.forall_mem_cons.2 ⟨T.x_NoName_HeapError, List.forall_mem_cons.2 ⟨T.x_TooMany_HeapError, List.forall_mem_cons.2 ⟨T.x_Used_HeapError, fun _ z => nomatch z⟩⟩⟩)
theorem sci_NoName : FnScope ["self", "name"] ["self", "name"] (defScope (methS (topS 2) 0)) := ⟨rfl, rfl, rfl, by decide +kernel, rfl, by decide +kernel, by decide +kernel⟩
theorem init_NoName {P : Program} {w : World} {K : PySem.W.Frag} {mg : Str → Option Value} {base : Heap} (T : Top K mg) : FnOk P w K mg base CX0 1 T.I_NoName T.fdi_NoName ["self", "name"] (spI T.C_NoName ["name"]) :=
  T.fni_NoName.ok sci_NoName (fun vs H Q E h => by obtain ⟨a, ws, rfl, hl, _⟩ := h; simpa using hl) fun cdv A outer s H vs Q E hr h => ⟨_, pss_one (ps_ost (pv 0) (pv 1)), init_pure1 T.o_NoName T.no_NoName h⟩
theorem sci_TooMany : FnScope ["self", "most"] ["self", "most"] (defScope (methS (topS 3) 0)) := ⟨rfl, rfl, rfl, by decide +kernel, rfl, by decide +kernel, by decide +kernel⟩
theorem init_TooMany {P : Program} {w : World} {K : PySem.W.Frag} {mg : Str → Option Value} {base : Heap} (T : Top K mg) : FnOk P w K mg base CX0 1 T.I_TooMany T.fdi_TooMany ["self", "most"] (spI T.C_TooMany ["most"]) :=
  T.fni_TooMany.ok sci_TooMany (fun vs H Q E h => by obtain ⟨a, ws, rfl, hl, _⟩ := h; simpa using hl) fun cdv A outer s H vs Q E hr h => ⟨_, pss_one (ps_ost (pv 0) (pv 1)), init_pure1 T.o_TooMany T.no_TooMany h⟩
theorem sci_Used : FnScope ["self", "name"] ["self", "name"] (defScope (methS (topS 4) 0)) := ⟨rfl, rfl, rfl, by decide +kernel, rfl, by decide +kernel, by decide +kernel⟩
theorem init_Used {P : Program} {w : World} {K : PySem.W.Frag} {mg : Str → Option Value} {base : Heap} (T : Top K mg) : FnOk P w K mg base CX0 1 T.I_Used T.fdi_Used ["self", "name"] (spI T.C_Used ["name"]) :=
  T.fni_Used.ok sci_Used (fun vs H Q E h => by obtain ⟨a, ws, rfl, hl, _⟩ := h; simpa using hl) fun cdv A outer s H vs Q E hr h => ⟨_, pss_one (ps_ost (pv 0) (pv 1)), init_pure1 T.o_Used T.no_Used h⟩
section
variable {P : Program} {w : World} {K : PySem.W.Frag} {mg : Str → Option Value} {base : Heap}
theorem dv__law_bag (T : Top K mg) : FnD P w K mg base CX0 eo0 1 T.f__law_bag T.fd__law_bag ["script"] F__law_bag :=
  fnD_of T.fn__law_bag sc__law_bag fun cdv hcode A outer s H E hr hg => SSs.nox (
    ss_one (ss_ret (se_lst (sa_cons (se_int) (sa_cons (se_int) (sa_cons (se_int) (sa_cons (se_lc [("cell", 1)] rfl sc__law_bag.nd (si_seq (se_slice (se_var 0) (so_none) (so_some (se_int)))) (blkOk_by (by kernel_rfl)) (fun _ _ _ _ _ => svi_one (sv_name 1 sc__law_bag.nd)) (fun _ _ _ _ _ => sts_nil) (fun _ _ _ _ _ => se_callB call_abs rc_abs absG_calm (by rfl) T.m_abs (by decide +kernel) (sa_cons (se_var 1) (sa_nil)))) (sa_nil))))))))
theorem dvH__law_alike (T : Top K mg) : FnDH P w K mg base 1 T.f__law_alike T.fd__law_alike ["found", "due"] F__law_alike :=
  fnDH_of T.fn__law_alike sc__law_alike fun cdv hcode A outer s H E p hr hg => SSs.nox (
    ss_one (ss_ret (se_and (se_cmp (op_eqF (u128H hr)) ro_eqF eqF_calm (se_var 0) (se_var 1)) (se_one (se_cmp (op_eqF (u128H hr)) ro_eqF eqF_calm (se_callB (call_reprF hg (u64H hr)) rc_reprF reprF_calm (by rfl) T.m_repr (by decide +kernel) (sa_cons (se_var 0) (sa_nil))) (se_callB (call_reprF hg (u64H hr)) rc_reprF reprF_calm (by rfl) T.m_repr (by decide +kernel) (sa_cons (se_var 1) (sa_nil))))))))
theorem dv__law_alike (T : Top K mg) : FnD P w K mg base CX0 eo0 1 T.f__law_alike T.fd__law_alike ["found", "due"] F__law_alike :=
  fnD_of T.fn__law_alike sc__law_alike fun cdv hcode A outer s H E hr hg => SSs.nox (
    ss_one (ss_ret (se_and (se_cmp (op_eqF (u128 hr)) ro_eqF eqF_calm (se_var 0) (se_var 1)) (se_one (se_cmp (op_eqF (u128 hr)) ro_eqF eqF_calm (se_callB (call_reprF hg hr.units) rc_reprF reprF_calm (by rfl) T.m_repr (by decide +kernel) (sa_cons (se_var 0) (sa_nil))) (se_callB (call_reprF hg hr.units) rc_reprF reprF_calm (by rfl) T.m_repr (by decide +kernel) (sa_cons (se_var 1) (sa_nil))))))))
theorem dv__law_take (T : Top K mg) : FnD P w K mg base CX0 eo0 1 T.f__law_take T.fd__law_take ["bag", "many"] F__law_take :=
  fnD_of T.fn__law_take sc__law_take fun cdv hcode A outer s H E hr hg => SSs.nox (
    ss_cons (ss_if (st_cmp (op_eqN (u128 hr)) ro_eq (eqG_calm false) (se_ix (u128 hr) (se_var 0) (se_int)) (se_int)) (ss_cons (ss_set 2 sc__law_take.nd (se_ix (u128 hr) (se_bin op_addA ro_add addG_calm (se_slice (se_ix (u128 hr) (se_var 0) (se_int)) (so_some (se_ix (u128 hr) (se_var 0) (se_int))) (so_none)) (se_lst (sa_cons (se_int) (sa_nil)))) (se_int))) (ss_cons (ss_augS (u128 hr) ip_addI ro_addI addI_calm (se_var 0) (se_int) (se_int)) (ss_cons (ss_if (st_cmp op_ge ro_cmp (cmpG_calm _) (se_var 2) (se_bin op_pow ro_pow powG_calm (se_int) (se_int))) (ss_one (ss_asg (se_var 2) (sg_sub (u128 hr) (se_var 0) (se_int)))) (ss_nil)) (ss_cons (ss_set 3 sc__law_take.nd (se_bin op_addA ro_add addG_calm (se_bin op_addA ro_add addG_calm (se_bin op_mulA ro_mul mulG_calm (se_ix (u128 hr) (se_var 0) (se_int)) (se_int)) (se_bin op_mod ro_mod modG_calm (se_callTy call_int1 rc_int intG_calm (by rfl) T.m_int (by decide +kernel) (sa_cons (se_var 2) (sa_nil))) (se_int))) (se_bin op_mulA ro_mul mulG_calm (se_int) (se_ix (u128 hr) (se_var 0) (se_int))))) (ss_one (ss_asg (se_bin op_mod ro_mod modG_calm (se_callTy call_int1 rc_int intG_calm (by rfl) T.m_int (by decide +kernel) (sa_cons (se_var 3) (sa_nil))) (se_int)) (sg_sub (u128 hr) (se_var 0) (se_int)))))))) (ss_nil)) (ss_cons (ss_if (st_cmp op_gt ro_cmp (cmpG_calm _) (se_ix (u128 hr) (se_var 0) (se_int)) (se_int)) (ss_cons (ss_set 4 sc__law_take.nd (se_bin op_mod ro_mod modG_calm (se_callTy call_int1 rc_int intG_calm (by rfl) T.m_int (by decide +kernel) (sa_cons (se_ix (u128 hr) (se_var 0) (se_int)) (sa_nil))) (se_var 1))) (ss_cons (ss_asg (se_bin op_fdivW ro_fdiv fdivG_calm (se_callTy call_int1 rc_int intG_calm (by rfl) T.m_int (by decide +kernel) (sa_cons (se_ix (u128 hr) (se_var 0) (se_int)) (sa_nil))) (se_var 1)) (sg_sub (u128 hr) (se_var 0) (se_int))) (ss_one (ss_ret (se_var 4))))) (ss_nil)) (ss_cons (ss_set 5 sc__law_take.nd (se_bin op_mod ro_mod modG_calm (se_callTy call_int1 rc_int intG_calm (by rfl) T.m_int (by decide +kernel) (sa_cons (se_bin op_mulA ro_mul mulG_calm (se_bin op_addA ro_add addG_calm (se_ix (u128 hr) (se_var 0) (se_int)) (se_int)) (se_int)) (sa_nil))) (se_int))) (ss_cons (ss_set 6 sc__law_take.nd (se_bin op_mod ro_mod modG_calm (se_callTy call_int1 rc_int intG_calm (by rfl) T.m_int (by decide +kernel) (sa_cons (se_bin op_mulA ro_mul mulG_calm (se_bin op_mod ro_mod modG_calm (se_callTy call_int1 rc_int intG_calm (by rfl) T.m_int (by decide +kernel) (sa_cons (se_bin op_mulA ro_mul mulG_calm (se_var 5) (se_var 5)) (sa_nil))) (se_int)) (se_int)) (sa_nil))) (se_int))) (ss_one (ss_ret (se_bin op_mod ro_mod modG_calm (se_callTy call_int1 rc_int intG_calm (by rfl) T.m_int (by decide +kernel) (sa_cons (se_bin op_fdivW ro_fdiv fdivG_calm (se_var 6) (se_int)) (sa_nil))) (se_var 1))))))))
theorem dv__law_one (T : Top K mg) : FnD P w K mg base CX0 eo0 2 T.f__law_one T.fd__law_one ["bag", "things"] F__law_one :=
  fnD_of T.fn__law_one sc__law_one fun cdv hcode A outer s H E hr hg => SSs.nox (
    ss_one (ss_ret (se_ix (u128 hr) (se_var 1) (se_call 2 (dv__law_take T) hg (hr.mono (by decide)) (by rfl) T.g__law_take T.fn__law_take.kp T.bn__law_take pass0 (fun _ _ _ _ _ h => h) (sa_cons (se_var 0) (sa_cons (se_callB call_len rc_len lenG_calm (by rfl) T.m_len (by decide +kernel) (sa_cons (se_var 1) (sa_nil))) (sa_nil))) (len_cons (len_cons len_nil)) rfl))))
theorem dv__law_odd (T : Top K mg) : FnD P w K mg base CX0 eo0 3 T.f__law_odd T.fd__law_odd ["bag"] F__law_odd :=
  fnD_of T.fn__law_odd sc__law_odd fun cdv hcode A outer s H E hr hg => SSs.nox (
    ss_cons (ss_set 1 sc__law_odd.nd (se_lst (sa_cons (se_non) (sa_cons (se_bl) (sa_cons (se_bl) (sa_cons (se_int) (sa_cons (se_int) (sa_cons (se_neg (se_int)) (sa_cons (se_bin op_pow ro_pow powG_calm (se_int) (se_int)) (sa_cons (se_neg (se_bin op_pow ro_pow powG_calm (se_int) (se_int))) (sa_cons (se_str) (sa_cons (se_str) (sa_cons (se_str) (sa_cons (se_str) (sa_cons (se_str) (sa_cons (se_str) (sa_cons (se_tup (sa_nil)) (sa_cons (se_lst (sa_nil)) (sa_cons (se_newD) (sa_cons (se_tup (sa_cons (se_str) (sa_nil))) (sa_cons (se_lst (sa_cons (se_int) (sa_nil))) (sa_nil)))))))))))))))))))))) (ss_cons (ss_set 1 sc__law_odd.nd (se_bin op_addA ro_add addG_calm (se_var 1) (se_lst (sa_cons (se_tup (sa_cons (se_int) (sa_cons (se_int) (sa_nil)))) (sa_cons (se_tup (sa_cons (se_int) (sa_cons (se_int) (sa_nil)))) (sa_cons (se_tup (sa_cons (se_int) (sa_cons (se_int) (sa_nil)))) (sa_cons (se_tup (sa_cons (se_int) (sa_cons (se_int) (sa_nil)))) (sa_cons (se_disp (sps_cons (se_str) (se_tup (sa_cons (se_int) (sa_nil))) (sps_nil))) (sa_cons (se_disp (sps_cons (se_int) (se_int) (sps_nil))) (sa_cons (se_nd) (sa_cons (se_tup (sa_cons (se_tup (sa_cons (se_int) (sa_nil))) (sa_cons (se_tup (sa_cons (se_int) (sa_nil))) (sa_nil)))) (sa_cons (se_tup (sa_cons (se_tup (sa_cons (se_str) (sa_nil))) (sa_cons (se_tup (sa_nil)) (sa_cons (se_tup (sa_nil)) (sa_nil))))) (sa_cons (se_tup (sa_cons (se_tup (sa_nil)) (sa_nil))) (sa_nil)))))))))))))) (ss_one (ss_ret (se_call 2 (dv__law_one T) hg (hr.mono (by decide)) (by rfl) T.g__law_one T.fn__law_one.kp T.bn__law_one pass0 (fun _ _ _ _ _ h => h) (sa_cons (se_var 0) (sa_cons (se_var 1) (sa_nil))) (len_cons (len_cons len_nil)) rfl)))))
theorem dv__place_among (T : Top K mg) : FnD P w K mg base (L2.CX P w) (eoX K (ctT T)) 3 T.f__place_among T.fd__place_among ["names", "name"] F__place_among :=
  fnD_of T.fn__place_among sc__place_among fun cdv hcode A outer s H E hr hg =>
    ss_cons (ss_if (st_cmp (op_ninF (u128 hr)) ro_ninF ninF_calm (se_var 1) (se_var 0)) (ss_one (ss_raise 1 9 rfl (takes_of rfl rfl rfl rfl) T.o_NoName T.i_NoName T.ti_NoName (init_NoName T) (hr.mono (by decide)) T.bi_NoName (by rfl) T.g_NoName rfl (sa_cons (se_var 1) (sa_nil)) (len_cons len_nil) rfl (by decide))) (ss_nil)) (ss_one (ss_ret (se_meth PySem.F.plainAttrs_tuple PySem.F.slot_tuple_index PySem.F.type_tuple_index mt_tup_index rm_tindex tindexG_calm (se_var 0) (sa_cons (se_var 1) (sa_nil)))))
theorem dv_kind_place (T : Top K mg) : FnD P w K mg base (L2.CX P w) (eoX K (ctT T)) 4 T.f_kind_place T.fd_kind_place ["works", "name"] F_kind_place :=
  fnD_of T.fn_kind_place sc_kind_place fun cdv hcode A outer s H E hr hg =>
    ss_one (ss_ret (se_call 2 (dv__place_among T) hg (hr.mono (by decide)) (by rfl) T.g__place_among T.fn__place_among.kp T.bn__place_among (passes_call (takes_of rfl rfl rfl rfl) (fun _ _ _ _ h => h)) (fun _ _ _ _ _ h => h) (sa_cons (se_ix (u128 hr) (se_var 0) (se_int)) (sa_cons (se_var 1) (sa_nil))) (len_cons (len_cons len_nil)) rfl))
theorem dv_hand_place (T : Top K mg) : FnD P w K mg base (L2.CX P w) (eoX K (ctT T)) 4 T.f_hand_place T.fd_hand_place ["works", "name"] F_hand_place :=
  fnD_of T.fn_hand_place sc_hand_place fun cdv hcode A outer s H E hr hg =>
    ss_one (ss_ret (se_call 2 (dv__place_among T) hg (hr.mono (by decide)) (by rfl) T.g__place_among T.fn__place_among.kp T.bn__place_among (passes_call (takes_of rfl rfl rfl rfl) (fun _ _ _ _ h => h)) (fun _ _ _ _ _ h => h) (sa_cons (se_ix (u128 hr) (se_var 0) (se_int)) (sa_cons (se_var 1) (sa_nil))) (len_cons (len_cons len_nil)) rfl))
theorem dv__law_is_placed (T : Top K mg) : FnD P w K mg base CX0 eo0 5 T.f__law_is_placed T.fd__law_is_placed ["act", "works", "names", "name"] F__law_is_placed :=
  fnD_of T.fn__law_is_placed sc__law_is_placed fun cdv hcode A outer s H E hr hg => SSs.nox (
    ss_cons (ss_setLc 4 [("place", 7)] rfl sc__law_is_placed.nd (si_r1 (by rfl) T.m_range (sa_cons (se_callB call_len rc_len lenG_calm (by rfl) T.m_len (by decide +kernel) (sa_cons (se_var 2) (sa_nil))) (sa_nil))) (blkOk_by (by kernel_rfl)) (sw_true rfl rfl rfl (by decide +kernel)) (fun _ _ _ _ _ => svi_one (sv_name 7 sc__law_is_placed.nd)) (fun _ _ _ _ _ => sts_one (st_val (se_call 2 (dv__law_alike T) hg (hr.mono (by decide)) (by rfl) T.g__law_alike T.fn__law_alike.kp T.bn__law_alike pass0 (fun _ _ _ _ _ h => h) (sa_cons (se_ix (u128 hr) (se_var 2) (se_var 7)) (sa_cons (se_var 3) (sa_nil))) (len_cons (len_cons len_nil)) rfl))) (fun _ _ _ _ _ => se_var 7)) (ss_cons (ss_try (ct := ctT T) rfl rfl (fun W pn xe tk po => ss_one (ss_set 5 sc__law_is_placed.nd (se_callTV (i := 0) (k := 4) 2 (fd_cons T.n_kind_place ((dv_kind_place T).mono (by decide)) T.fn_kind_place.kp T.bn_kind_place (fd_cons T.n_hand_place ((dv_hand_place T).mono (by decide)) T.fn_hand_place.kp T.bn_hand_place (fd_nil))) tk hg (hr.mono (by decide)) (sa_cons (se_var 1) (sa_cons (se_var 3) (sa_nil))) (len_cons (len_cons len_nil)) rfl))) (hd_and 9 6 4 0 3 ⟨rfl, by decide, .inl T.g_NoName⟩ (xm_NoName T) (by intro c h; simpa [subC] using h) rfl rfl T.xf_NoName T.no_NoName sc__law_is_placed.nd rfl rfl (.inl rfl) (by decide) (by decide) rfl rfl (by first | exact Or.inl rfl | exact Or.inr (Or.inl rfl) | exact Or.inr (Or.inr rfl)) (by decide) (by decide) rfl (by first | exact Or.inl rfl | exact Or.inr (Or.inl rfl) | exact Or.inr (Or.inr rfl)) (by decide) (by decide) (dvH__law_alike T) hg (hr.mono (by decide)) (by rfl) T.g__law_alike T.fn__law_alike.kp T.bn__law_alike rfl (by decide) (u128 hr) (hd_only 18 ⟨rfl, by decide, .inl T.g_HeapError⟩ (xm_HeapError T) (fun _ _ => ss_one (ss_ret (se_bl))) (hd_nil)))) (ss_one (ss_ret (se_and (se_cmp (op_neN (u128 hr)) ro_eq (eqG_calm true) (se_var 4) (se_lst (sa_nil))) (se_one (se_call 2 (dv__law_alike T) hg (hr.mono (by decide)) (by rfl) T.g__law_alike T.fn__law_alike.kp T.bn__law_alike pass0 (fun _ _ _ _ _ h => h) (sa_cons (se_var 5) (sa_cons (se_ix (u128 hr) (se_var 4) (se_int)) (sa_nil))) (len_cons (len_cons len_nil)) rfl)))))))
theorem dv__law_are_placed (T : Top K mg) : FnD P w K mg base CX0 eo0 6 T.f__law_are_placed T.fd__law_are_placed ["bag", "works"] F__law_are_placed :=
  fnD_of T.fn__law_are_placed sc__law_are_placed fun cdv hcode A outer s H E hr hg => SSs.nox (
    ss_cons (ss_par2 2 3 rfl sc__law_are_placed.nd (sa_cons (se_ix (u128 hr) (se_var 1) (se_int)) (sa_cons (se_ix (u128 hr) (se_var 1) (se_int)) (sa_nil)))) (ss_cons (ss_set 4 sc__law_are_placed.nd (se_bin op_addA ro_add addG_calm (se_lc [("k", 6)] rfl sc__law_are_placed.nd (si_r1 (by rfl) T.m_range (sa_cons (se_int) (sa_nil))) (blkOk_by (by kernel_rfl)) (fun _ _ _ _ _ => svi_one (sv_name 6 sc__law_are_placed.nd)) (fun _ _ _ _ _ => sts_nil) (fun _ _ _ _ _ => se_call 1 (dv__law_odd T) hg (hr.mono (by decide)) (by rfl) T.g__law_odd T.fn__law_odd.kp T.bn__law_odd pass0 (fun _ _ _ _ _ h => h) (sa_cons (se_var 0) (sa_nil)) (len_cons len_nil) rfl)) (se_lst (sa_cons (se_bin op_addA ro_add addG_calm (se_ix (u128 hr) (se_var 2) (se_int)) (se_str)) (sa_cons (se_slice (se_var 2) (so_none) (so_some (se_int))) (sa_cons (se_lst (sa_cons (se_ix (u128 hr) (se_var 2) (se_int)) (sa_nil))) (sa_cons (se_disp (sps_cons (se_ix (u128 hr) (se_var 2) (se_int)) (se_int) (sps_nil))) (sa_cons (se_int) (sa_nil))))))))) (ss_cons (ss_for PassesOwn.never rfl (si_seq (se_bin op_addA ro_add addG_calm (se_callTy call_list_of rc_list listG_calm (by rfl) T.m_list (by decide +kernel) (sa_cons (se_bin op_addA ro_add addG_calm (se_var 2) (se_var 3)) (sa_nil))) (se_var 4))) (sgi_one (sg_name 5 sc__law_are_placed.nd)) (ss_one (ss_if (SW.st (sw_or (st_not (st_val (se_call 4 (dv__law_is_placed T) hg (hr.mono (by decide)) (by rfl) T.g__law_is_placed T.fn__law_is_placed.kp T.bn__law_is_placed pass0 (fun _ _ _ _ _ h => h) (sa_cons (se_fn 1 (by rfl) T.g_kind_place T.n_kind_place) (sa_cons (se_var 1) (sa_cons (se_var 2) (sa_cons (se_var 5) (sa_nil))))) (len_cons (len_cons (len_cons (len_cons len_nil)))) rfl))) (sw_or1 (st_not (st_val (se_call 4 (dv__law_is_placed T) hg (hr.mono (by decide)) (by rfl) T.g__law_is_placed T.fn__law_is_placed.kp T.bn__law_is_placed pass0 (fun _ _ _ _ _ h => h) (sa_cons (se_fn 2 (by rfl) T.g_hand_place T.n_hand_place) (sa_cons (se_var 1) (sa_cons (se_var 3) (sa_cons (se_var 5) (sa_nil))))) (len_cons (len_cons (len_cons (len_cons len_nil)))) rfl)))))) (ss_one (ss_ret (se_bl))) (ss_nil)))) (ss_one (ss_ret (se_bl))))))
theorem dv__depth (T : Top K mg) : FnD P w K mg base CX0 eo0 1 T.f__depth T.fd__depth ["takes", "kind_depths"] F__depth :=
  fnD_of T.fn__depth sc__depth fun cdv hcode A outer s H E hr hg => SSs.nox (
    ss_one (ss_ret (se_callB (call_maxA rfl) rc_max maxG_calm (by rfl) T.m_max (by decide +kernel) (sa_cons (se_lc [("taken", 2), ("depth", 3)] rfl sc__depth.nd (si_zip (by rfl) T.m_zip (sa_cons (se_var 0) (sa_cons (se_var 1) (sa_nil)))) (blkOk_by (by kernel_rfl)) (fun _ _ _ _ _ => svi_pair rfl (svs_cons (sv_name 2 sc__depth.nd) (svs_cons (sv_name 3 sc__depth.nd) (svs_nil)))) (fun _ _ _ _ _ => sts_one (st_cmp op_gt ro_cmp (cmpG_calm _) (se_var 2) (se_int))) (fun _ _ _ _ _ => se_var 3)) (sa_nil)))))
theorem dv__kind_depths (T : Top K mg) : FnD P w K mg base CX0 eo0 2 T.f__kind_depths T.fd__kind_depths ["works"] F__kind_depths :=
  fnD_of T.fn__kind_depths sc__kind_depths fun cdv hcode A outer s H E hr hg => SSs.nox (
    ss_cons (ss_set 1 sc__kind_depths.nd (se_bin op_mulA ro_mul mulG_calm (se_lst (sa_cons (se_int) (sa_nil))) (se_callB call_len rc_len lenG_calm (by rfl) T.m_len (by decide +kernel) (sa_cons (se_ix (u128 hr) (se_var 0) (se_int)) (sa_nil))))) (ss_cons (ss_for PassesOwn.never rfl (si_r1 (by rfl) T.m_range (sa_cons (se_callB call_len rc_len lenG_calm (by rfl) T.m_len (by decide +kernel) (sa_cons (se_var 1) (sa_nil))) (sa_nil))) (sgi_one (sg_name 2 sc__kind_depths.nd)) (ss_one (ss_for PassesOwn.never rfl (si_seq (se_ix (u128 hr) (se_var 0) (se_int))) (sgi_one (sg_tup rfl (sgs_cons (sg_name 3 sc__kind_depths.nd) (sgs_cons (sg_name 4 sc__kind_depths.nd) (sgs_cons (sg_name 5 sc__kind_depths.nd) (sgs_nil)))))) (ss_one (ss_if (st_cmp op_gt ro_cmp (cmpG_calm _) (se_ix (u128 hr) (se_var 4) (se_var 2)) (se_int)) (ss_one (ss_asg (se_callB (call_maxA rfl) rc_max maxG_calm (by rfl) T.m_max (by decide +kernel) (sa_cons (se_ix (u128 hr) (se_var 1) (se_var 2)) (sa_cons (se_bin op_addA ro_add addG_calm (se_int) (se_call 2 (dv__depth T) hg (hr.mono (by decide)) (by rfl) T.g__depth T.fn__depth.kp T.bn__depth pass0 (fun _ _ _ _ _ h => h) (sa_cons (se_var 3) (sa_cons (se_var 1) (sa_nil))) (len_cons (len_cons len_nil)) rfl)) (sa_nil)))) (sg_sub (u128 hr) (se_var 1) (se_var 2)))) (ss_nil)))))) (ss_one (ss_ret (se_var 1)))))
theorem dv_levels (T : Top K mg) : FnD P w K mg base CX0 eo0 3 T.f_levels T.fd_levels ["works"] F_levels :=
  fnD_of T.fn_levels sc_levels fun cdv hcode A outer s H E hr hg => SSs.nox (
    ss_cons (ss_set 1 sc_levels.nd (se_call 1 (dv__kind_depths T) hg (hr.mono (by decide)) (by rfl) T.g__kind_depths T.fn__kind_depths.kp T.bn__kind_depths pass0 (fun _ _ _ _ _ h => h) (sa_cons (se_var 0) (sa_nil)) (len_cons len_nil) rfl)) (ss_one (ss_ret (se_lc [("takes", 2), ("_", 3)] rfl sc_levels.nd (si_seq (se_ix (u128 hr) (se_var 0) (se_int))) (blkOk_by (by kernel_rfl)) (fun _ _ _ _ _ => svi_one (sv_tup rfl (svs_cons (sv_name 2 sc_levels.nd) (svs_cons (sv_name 3 sc_levels.nd) (svs_cons (sv_name 3 sc_levels.nd) (svs_nil)))))) (fun _ _ _ _ _ => sts_nil) (fun _ _ _ _ _ => se_call 2 (dv__depth T) hg (hr.mono (by decide)) (by rfl) T.g__depth T.fn__depth.kp T.bn__depth pass0 (fun _ _ _ _ _ h => h) (sa_cons (se_var 2) (sa_cons (se_var 1) (sa_nil))) (len_cons (len_cons len_nil)) rfl)))))
theorem dv__law_mixed (T : Top K mg) : FnD P w K mg base CX0 eo0 2 T.f__law_mixed T.fd__law_mixed ["bag", "things"] F__law_mixed :=
  fnD_of T.fn__law_mixed sc__law_mixed fun cdv hcode A outer s H E hr hg => SSs.nox (
    ss_cons (ss_set 2 sc__law_mixed.nd (se_lst (sa_nil))) (ss_cons (ss_for PassesOwn.never rfl (si_seq (se_var 1)) (sgi_one (sg_name 3 sc__law_mixed.nd)) (ss_one (ss_expr (se_meth PySem.F.plainAttrs_list PySem.F.slot_list_insert PySem.F.type_list_insert mt_insert rm_insert insertG_calm (se_var 2) (sa_cons (se_call 2 (dv__law_take T) hg (hr.mono (by decide)) (by rfl) T.g__law_take T.fn__law_take.kp T.bn__law_take pass0 (fun _ _ _ _ _ h => h) (sa_cons (se_var 0) (sa_cons (se_bin op_addA ro_add addG_calm (se_callB call_len rc_len lenG_calm (by rfl) T.m_len (by decide +kernel) (sa_cons (se_var 2) (sa_nil))) (se_int)) (sa_nil))) (len_cons (len_cons len_nil)) rfl) (sa_cons (se_var 3) (sa_nil))))))) (ss_one (ss_ret (se_var 2)))))
theorem dv_renamed_works (T : Top K mg) : FnD P w K mg base CX0 eo0 1 T.f_renamed_works T.fd_renamed_works ["works", "names"] F_renamed_works :=
  fnD_of T.fn_renamed_works sc_renamed_works fun cdv hcode A outer s H E hr hg => SSs.nox (
    ss_cons (ss_asg (se_var 0) (sg_tup rfl (sgs_cons (sg_name 2 sc_renamed_works.nd) (sgs_cons (sg_name 3 sc_renamed_works.nd) (sgs_cons (sg_name 4 sc_renamed_works.nd) (sgs_nil)))))) (ss_cons (ss_set 5 sc_renamed_works.nd (se_lst (sa_nil))) (ss_cons (ss_for PassesOwn.never rfl (si_seq (se_var 4)) (sgi_one (sg_tup rfl (sgs_cons (sg_name 6 sc_renamed_works.nd) (sgs_cons (sg_name 7 sc_renamed_works.nd) (sgs_cons (sg_name 8 sc_renamed_works.nd) (sgs_nil)))))) (ss_one (ss_expr (se_meth PySem.F.plainAttrs_list PySem.F.slot_list_append PySem.F.type_list_append mt_append rm_append appendG_calm (se_var 5) (sa_cons (se_tup (sa_cons (se_var 6) (sa_cons (se_var 7) (sa_cons (se_if (st_isN (se_var 8)) (se_non) (se_ix (u128 hr) (se_var 1) (se_var 8))) (sa_nil))))) (sa_nil)))))) (ss_one (ss_ret (se_tup (sa_cons (se_callTy call_tupleZ rc_tuple tupleG_calm (by rfl) T.m_tuple (by decide +kernel) (sa_cons (se_lc [("kind", 9)] rfl sc_renamed_works.nd (si_seq (se_var 2)) (blkOk_by (by kernel_rfl)) (fun _ _ _ _ _ => svi_one (sv_name 9 sc_renamed_works.nd)) (fun _ _ _ _ _ => sts_nil) (fun _ _ _ _ _ => se_ix (u128 hr) (se_var 1) (se_var 9))) (sa_nil))) (sa_cons (se_callTy call_tupleZ rc_tuple tupleG_calm (by rfl) T.m_tuple (by decide +kernel) (sa_cons (se_lc [("hand", 8)] rfl sc_renamed_works.nd (si_seq (se_var 3)) (blkOk_by (by kernel_rfl)) (fun _ _ _ _ _ => svi_one (sv_name 8 sc_renamed_works.nd)) (fun _ _ _ _ _ => sts_nil) (fun _ _ _ _ _ => se_ix (u128 hr) (se_var 1) (se_var 8))) (sa_nil))) (sa_cons (se_callTy call_tupleZ rc_tuple tupleG_calm (by rfl) T.m_tuple (by decide +kernel) (sa_cons (se_var 5) (sa_nil))) (sa_nil))))))))))
theorem dv__law_links (T : Top K mg) : FnD P w K mg base CX0 eo0 3 T.f__law_links T.fd__law_links ["bag", "places", "more"] F__law_links :=
  fnD_of T.fn__law_links sc__law_links fun cdv hcode A outer s H E hr hg => SSs.nox (
    ss_cons (ss_set 3 sc__law_links.nd (se_bin op_addA ro_add addG_calm (se_lst (sa_cons (se_int) (sa_nil))) (se_call 2 (dv__law_mixed T) hg (hr.mono (by decide)) (by rfl) T.g__law_mixed T.fn__law_mixed.kp T.bn__law_mixed pass0 (fun _ _ _ _ _ h => h) (sa_cons (se_var 0) (sa_cons (se_listR2 rfl (by rfl) T.m_list (by rfl) T.m_range (se_int) (se_var 1)) (sa_nil))) (len_cons (len_cons len_nil)) rfl))) (ss_cons (ss_set 4 sc__law_links.nd (se_bin op_addA ro_add addG_calm (se_listZip rfl (by rfl) T.m_list (by rfl) T.m_zip (sa_cons (se_var 3) (sa_cons (se_slice (se_var 3) (so_some (se_int)) (so_none)) (sa_nil)))) (se_lst (sa_cons (se_tup (sa_cons (se_ix (u128 hr) (se_var 3) (se_neg (se_int))) (sa_cons (se_call 2 (dv__law_one T) hg (hr.mono (by decide)) (by rfl) T.g__law_one T.fn__law_one.kp T.bn__law_one pass0 (fun _ _ _ _ _ h => h) (sa_cons (se_var 0) (sa_cons (se_var 3) (sa_nil))) (len_cons (len_cons len_nil)) rfl) (sa_nil)))) (sa_nil))))) (ss_cons (ss_for PassesOwn.never rfl (si_r1 (by rfl) T.m_range (sa_cons (se_call 2 (dv__law_take T) hg (hr.mono (by decide)) (by rfl) T.g__law_take T.fn__law_take.kp T.bn__law_take pass0 (fun _ _ _ _ _ h => h) (sa_cons (se_var 0) (sa_cons (se_bin op_addA ro_add addG_calm (se_var 2) (se_int)) (sa_nil))) (len_cons (len_cons len_nil)) rfl) (sa_nil))) (sgi_one (sg_name 5 sc__law_links.nd)) (ss_one (ss_expr (se_meth PySem.F.plainAttrs_list PySem.F.slot_list_append PySem.F.type_list_append mt_append rm_append appendG_calm (se_var 4) (sa_cons (se_tup (sa_cons (se_call 2 (dv__law_take T) hg (hr.mono (by decide)) (by rfl) T.g__law_take T.fn__law_take.kp T.bn__law_take pass0 (fun _ _ _ _ _ h => h) (sa_cons (se_var 0) (sa_cons (se_var 1) (sa_nil))) (len_cons (len_cons len_nil)) rfl) (sa_cons (se_call 2 (dv__law_take T) hg (hr.mono (by decide)) (by rfl) T.g__law_take T.fn__law_take.kp T.bn__law_take pass0 (fun _ _ _ _ _ h => h) (sa_cons (se_var 0) (sa_cons (se_var 1) (sa_nil))) (len_cons (len_cons len_nil)) rfl) (sa_nil)))) (sa_nil)))))) (ss_one (ss_ret (se_call 2 (dv__law_mixed T) hg (hr.mono (by decide)) (by rfl) T.g__law_mixed T.fn__law_mixed.kp T.bn__law_mixed pass0 (fun _ _ _ _ _ h => h) (sa_cons (se_var 0) (sa_cons (se_var 4) (sa_nil))) (len_cons (len_cons len_nil)) rfl))))))
theorem dv__law_any_sender (T : Top K mg) : FnD P w K mg base CX0 eo0 4 T.f__law_any_sender T.fd__law_any_sender ["bag", "works", "places", "more"] F__law_any_sender :=
  fnD_of T.fn__law_any_sender sc__law_any_sender fun cdv hcode A outer s H E hr hg => SSs.nox (
    ss_cons (ss_par2 4 5 rfl sc__law_any_sender.nd (sa_cons (se_bin op_addA ro_add addG_calm (se_int) (se_call 2 (dv__law_take T) hg (hr.mono (by decide)) (by rfl) T.g__law_take T.fn__law_take.kp T.bn__law_take pass0 (fun _ _ _ _ _ h => h) (sa_cons (se_var 0) (sa_cons (se_var 2) (sa_nil))) (len_cons (len_cons len_nil)) rfl)) (sa_cons (se_lst (sa_nil)) (sa_nil)))) (ss_cons (ss_set 6 sc__law_any_sender.nd (se_call 3 (dv__law_links T) hg (hr.mono (by decide)) (by rfl) T.g__law_links T.fn__law_links.kp T.bn__law_links pass0 (fun _ _ _ _ _ h => h) (sa_cons (se_var 0) (sa_cons (se_var 4) (sa_cons (se_var 3) (sa_nil)))) (len_cons (len_cons (len_cons len_nil))) rfl)) (ss_cons (ss_for PassesOwn.never rfl (si_seq (se_slice (se_var 6) (so_none) (so_some (se_call 2 (dv__law_one T) hg (hr.mono (by decide)) (by rfl) T.g__law_one T.fn__law_one.kp T.bn__law_one pass0 (fun _ _ _ _ _ h => h) (sa_cons (se_var 0) (sa_cons (se_lst (sa_cons (se_callB call_len rc_len lenG_calm (by rfl) T.m_len (by decide +kernel) (sa_cons (se_var 6) (sa_nil))) (sa_cons (se_callB call_len rc_len lenG_calm (by rfl) T.m_len (by decide +kernel) (sa_cons (se_var 6) (sa_nil))) (sa_cons (se_call 2 (dv__law_take T) hg (hr.mono (by decide)) (by rfl) T.g__law_take T.fn__law_take.kp T.bn__law_take pass0 (fun _ _ _ _ _ h => h) (sa_cons (se_var 0) (sa_cons (se_bin op_addA ro_add addG_calm (se_callB call_len rc_len lenG_calm (by rfl) T.m_len (by decide +kernel) (sa_cons (se_var 6) (sa_nil))) (se_int)) (sa_nil))) (len_cons (len_cons len_nil)) rfl) (sa_nil))))) (sa_nil))) (len_cons (len_cons len_nil)) rfl)))) (sgi_one (sg_tup rfl (sgs_cons (sg_name 7 sc__law_any_sender.nd) (sgs_cons (sg_name 8 sc__law_any_sender.nd) (sgs_nil))))) (ss_cons (ss_set 9 sc__law_any_sender.nd (se_callTy call_tupleZ rc_tuple tupleG_calm (by rfl) T.m_tuple (by decide +kernel) (sa_cons (se_lc [("kind", 10)] rfl sc__law_any_sender.nd (si_seq (se_ix (u128 hr) (se_var 1) (se_int))) (blkOk_by (by kernel_rfl)) (fun _ _ _ _ _ => svi_one (sv_name 10 sc__law_any_sender.nd)) (fun _ _ _ _ _ => sts_nil) (fun _ _ _ _ _ => se_call 2 (dv__law_one T) hg (hr.mono (by decide)) (by rfl) T.g__law_one T.fn__law_one.kp T.bn__law_one pass0 (fun _ _ _ _ _ h => h) (sa_cons (se_var 0) (sa_cons (se_lst (sa_cons (se_int) (sa_cons (se_int) (sa_cons (se_int) (sa_cons (se_int) (sa_cons (se_int) (sa_nil))))))) (sa_nil))) (len_cons (len_cons len_nil)) rfl)) (sa_nil)))) (ss_one (ss_expr (se_meth PySem.F.plainAttrs_list PySem.F.slot_list_append PySem.F.type_list_append mt_append rm_append appendG_calm (se_var 5) (sa_cons (se_tup (sa_cons (se_var 7) (sa_cons (se_var 8) (sa_cons (se_var 9) (sa_cons (se_callTy call_tupleZ rc_tuple tupleG_calm (by rfl) T.m_tuple (by decide +kernel) (sa_cons (se_lc [("hand", 11)] rfl sc__law_any_sender.nd (si_seq (se_ix (u128 hr) (se_var 1) (se_int))) (blkOk_by (by kernel_rfl)) (fun _ _ _ _ _ => svi_one (sv_name 11 sc__law_any_sender.nd)) (fun _ _ _ _ _ => sts_nil) (fun _ _ _ _ _ => se_call 2 (dv__law_one T) hg (hr.mono (by decide)) (by rfl) T.g__law_one T.fn__law_one.kp T.bn__law_one pass0 (fun _ _ _ _ _ h => h) (sa_cons (se_var 0) (sa_cons (se_lst (sa_cons (se_int) (sa_cons (se_int) (sa_cons (se_int) (sa_cons (se_int) (sa_nil)))))) (sa_nil))) (len_cons (len_cons len_nil)) rfl)) (sa_nil))) (sa_nil)))))) (sa_nil))))))) (ss_one (ss_ret (se_tup (sa_cons (se_var 4) (sa_cons (se_callTy call_tupleZ rc_tuple tupleG_calm (by rfl) T.m_tuple (by decide +kernel) (sa_cons (se_var 5) (sa_nil))) (sa_nil)))))))))
theorem dv_led_sender (T : Top K mg) : FnD P w K mg base CX0 eo0 1 T.f_led_sender T.fd_led_sender ["sender", "many"] F_led_sender :=
  fnD_of T.fn_led_sender sc_led_sender fun cdv hcode A outer s H E hr hg => SSs.nox (
    ss_cons (ss_asg (se_var 0) (sg_tup rfl (sgs_cons (sg_name 2 sc_led_sender.nd) (sgs_cons (sg_name 3 sc_led_sender.nd) (sgs_nil))))) (ss_cons (ss_setLc 4 [("source", 5), ("target", 6), ("amounts", 7), ("crew", 8)] rfl sc_led_sender.nd (si_seq (se_var 3)) (blkOk_by (by kernel_rfl)) (sw_true rfl rfl rfl (by decide +kernel)) (fun _ _ _ _ _ => svi_one (sv_tup rfl (svs_cons (sv_name 5 sc_led_sender.nd) (svs_cons (sv_name 6 sc_led_sender.nd) (svs_cons (sv_name 7 sc_led_sender.nd) (svs_cons (sv_name 8 sc_led_sender.nd) (svs_nil))))))) (fun _ _ _ _ _ => sts_nil) (fun _ _ _ _ _ => se_tup (sa_cons (se_var 5) (sa_cons (se_var 6) (sa_cons (se_var 7) (sa_cons (se_bin op_addA ro_add addG_calm (se_var 8) (se_tup (sa_cons (se_var 1) (sa_nil)))) (sa_nil))))))) (ss_one (ss_ret (se_tup (sa_cons (se_var 2) (sa_cons (se_callTy call_tupleZ rc_tuple tupleG_calm (by rfl) T.m_tuple (by decide +kernel) (sa_cons (se_var 4) (sa_nil))) (sa_nil))))))))
theorem dv__law_is_int (T : Top K mg) : FnD P w K mg base CX0 eo0 1 T.f__law_is_int T.fd__law_is_int ["thing"] F__law_is_int :=
  fnD_of T.fn__law_is_int sc__law_is_int fun cdv hcode A outer s H E hr hg => SSs.nox (
    ss_one (ss_ret (se_and (se_isi (by rfl) T.m_isinstance (by rfl) T.m_int (by decide +kernel) (se_var 0)) (se_one (se_not (se_isi (by rfl) T.m_isinstance (by rfl) T.m_bool (by decide +kernel) (se_var 0)))))))
theorem dv__law_is_lot (T : Top K mg) : FnD P w K mg base CX0 eo0 2 T.f__law_is_lot T.fd__law_is_lot ["size", "thing"] F__law_is_lot :=
  fnD_of T.fn__law_is_lot sc__law_is_lot fun cdv hcode A outer s H E hr hg => SSs.nox (
    ss_cons (ss_if (SW.st (sw_or (st_not (st_val (se_isi (by rfl) T.m_isinstance (by rfl) T.m_tuple (by decide +kernel) (se_var 1)))) (sw_or1 (st_cmp (op_neN (u128 hr)) ro_eq (eqG_calm true) (se_callB call_len rc_len lenG_calm (by rfl) T.m_len (by decide +kernel) (sa_cons (se_var 1) (sa_nil))) (se_var 0))))) (ss_one (ss_ret (se_bl))) (ss_nil)) (ss_one (ss_ret (se_cmp (op_eqN (u128 hr)) ro_eq (eqG_calm false) (se_lc [("number", 2)] rfl sc__law_is_lot.nd (si_seq (se_var 1)) (blkOk_by (by kernel_rfl)) (fun _ _ _ _ _ => svi_one (sv_name 2 sc__law_is_lot.nd)) (fun _ _ _ _ _ => sts_one (SW.st (sw_or (st_not (st_val (se_call 1 (dv__law_is_int T) hg (hr.mono (by decide)) (by rfl) T.g__law_is_int T.fn__law_is_int.kp T.bn__law_is_int pass0 (fun _ _ _ _ _ h => h) (sa_cons (se_var 2) (sa_nil)) (len_cons len_nil) rfl))) (sw_or1 (st_cmp op_lt ro_cmp (cmpG_calm _) (se_var 2) (se_int)))))) (fun _ _ _ _ _ => se_int)) (se_lst (sa_nil))))))
theorem dv__law_is_recipe (T : Top K mg) : FnD P w K mg base CX0 eo0 3 T.f__law_is_recipe T.fd__law_is_recipe ["kinds", "hands", "thing"] F__law_is_recipe :=
  fnD_of T.fn__law_is_recipe sc__law_is_recipe fun cdv hcode A outer s H E hr hg => SSs.nox (
    ss_cons (ss_if (SW.st (sw_or (st_not (st_val (se_isi (by rfl) T.m_isinstance (by rfl) T.m_tuple (by decide +kernel) (se_var 2)))) (sw_or (st_cmp (op_neN (u128 hr)) ro_eq (eqG_calm true) (se_callB call_len rc_len lenG_calm (by rfl) T.m_len (by decide +kernel) (sa_cons (se_var 2) (sa_nil))) (se_int)) (sw_or (st_not (st_val (se_call 2 (dv__law_is_lot T) hg (hr.mono (by decide)) (by rfl) T.g__law_is_lot T.fn__law_is_lot.kp T.bn__law_is_lot pass0 (fun _ _ _ _ _ h => h) (sa_cons (se_callB call_len rc_len lenG_calm (by rfl) T.m_len (by decide +kernel) (sa_cons (se_var 0) (sa_nil))) (sa_cons (se_ix (u128 hr) (se_var 2) (se_int)) (sa_nil))) (len_cons (len_cons len_nil)) rfl))) (sw_or1 (st_not (st_val (se_call 2 (dv__law_is_lot T) hg (hr.mono (by decide)) (by rfl) T.g__law_is_lot T.fn__law_is_lot.kp T.bn__law_is_lot pass0 (fun _ _ _ _ _ h => h) (sa_cons (se_callB call_len rc_len lenG_calm (by rfl) T.m_len (by decide +kernel) (sa_cons (se_var 0) (sa_nil))) (sa_cons (se_ix (u128 hr) (se_var 2) (se_int)) (sa_nil))) (len_cons (len_cons len_nil)) rfl)))))))) (ss_one (ss_ret (se_bl))) (ss_nil)) (ss_cons (ss_setLc 3 [("place", 4)] rfl sc__law_is_recipe.nd (si_r1 (by rfl) T.m_range (sa_cons (se_callB call_len rc_len lenG_calm (by rfl) T.m_len (by decide +kernel) (sa_cons (se_var 0) (sa_nil))) (sa_nil))) (blkOk_by (by kernel_rfl)) (sw_true rfl rfl rfl (by decide +kernel)) (fun _ _ _ _ _ => svi_one (sv_name 4 sc__law_is_recipe.nd)) (fun _ _ _ _ _ => sts_one (st_cmp op_gt ro_cmp (cmpG_calm _) (se_ix (u128 hr) (se_ix (u128 hr) (se_var 2) (se_int)) (se_var 4)) (se_int))) (fun _ _ _ _ _ => se_var 4)) (ss_cons (ss_if (SW.st (sw_or (st_cmp (op_eqN (u128 hr)) ro_eq (eqG_calm false) (se_var 3) (se_lst (sa_nil))) (sw_or1 (st_cmp (op_neN (u128 hr)) ro_eq (eqG_calm true) (se_lc [("place", 4)] rfl sc__law_is_recipe.nd (si_r1 (by rfl) T.m_range (sa_cons (se_bin op_addA ro_add addG_calm (se_callB (call_maxA rfl) rc_max maxG_calm (by rfl) T.m_max (by decide +kernel) (sa_cons (se_var 3) (sa_nil))) (se_int)) (sa_nil))) (blkOk_by (by kernel_rfl)) (fun _ _ _ _ _ => svi_one (sv_name 4 sc__law_is_recipe.nd)) (fun _ _ _ _ _ => sts_one (st_cmp op_gt ro_cmp (cmpG_calm _) (se_ix (u128 hr) (se_ix (u128 hr) (se_var 2) (se_int)) (se_var 4)) (se_int))) (fun _ _ _ _ _ => se_int)) (se_lst (sa_nil)))))) (ss_one (ss_ret (se_bl))) (ss_nil)) (ss_one (ss_ret (se_or (se_isN (se_ix (u128 hr) (se_var 2) (se_int))) (se_one (se_and (se_isi (by rfl) T.m_isinstance (by rfl) T.m_str (by decide +kernel) (se_ix (u128 hr) (se_var 2) (se_int))) (se_one (se_cmp (op_inA (u128 hr)) ro_in (inG_calm false) (se_ix (u128 hr) (se_var 2) (se_int)) (se_var 1)))))))))))
theorem dv__law_is_name (T : Top K mg) : FnD P w K mg base CX0 eo0 1 T.f__law_is_name T.fd__law_is_name ["thing"] F__law_is_name :=
  fnD_of T.fn__law_is_name sc__law_is_name fun cdv hcode A outer s H E hr hg => SSs.nox (
    ss_cons (ss_if (SW.st (sw_or (st_not (st_val (se_isi (by rfl) T.m_isinstance (by rfl) T.m_str (by decide +kernel) (se_var 0)))) (sw_or1 (st_not (st_chain op_le ro_cmp (cmpG_calm _) op_le ro_cmp (cmpG_calm _) (se_int) (se_callB call_len rc_len lenG_calm (by rfl) T.m_len (by decide +kernel) (sa_cons (se_var 0) (sa_nil))) (se_int)))))) (ss_one (ss_ret (se_bl))) (ss_nil)) (ss_one (ss_ret (se_cmp (op_eqN (u128 hr)) ro_eq (eqG_calm false) (se_lc [("sign", 1)] rfl sc__law_is_name.nd (si_str (se_var 0)) (blkOk_by (by kernel_rfl)) (fun _ _ _ _ _ => svi_one (sv_name 1 sc__law_is_name.nd)) (fun _ _ _ _ _ => sts_one (st_cmp op_ninSt ro_inS (inSG_calm true) (se_var 1) (se_str))) (fun _ _ _ _ _ => se_var 1)) (se_lst (sa_nil))))))
theorem dv__law_is_works (T : Top K mg) : FnD P w K mg base CX0 eo0 4 T.f__law_is_works T.fd__law_is_works ["thing"] F__law_is_works :=
  fnD_of T.fn__law_is_works sc__law_is_works fun cdv hcode A outer s H E hr hg => SSs.nox (
    ss_cons (ss_if (SW.st (sw_or (st_not (st_val (se_isi (by rfl) T.m_isinstance (by rfl) T.m_tuple (by decide +kernel) (se_var 0)))) (sw_or (st_cmp (op_neN (u128 hr)) ro_eq (eqG_calm true) (se_callB call_len rc_len lenG_calm (by rfl) T.m_len (by decide +kernel) (sa_cons (se_var 0) (sa_nil))) (se_int)) (sw_or1 (st_cmp (op_neN (u128 hr)) ro_eq (eqG_calm true) (se_lc [("part", 4)] rfl sc__law_is_works.nd (si_seq (se_var 0)) (blkOk_by (by kernel_rfl)) (fun _ _ _ _ _ => svi_one (sv_name 4 sc__law_is_works.nd)) (fun _ _ _ _ _ => sts_one (st_not (st_val (se_isi (by rfl) T.m_isinstance (by rfl) T.m_tuple (by decide +kernel) (se_var 4))))) (fun _ _ _ _ _ => se_int)) (se_lst (sa_nil))))))) (ss_one (ss_ret (se_bl))) (ss_nil)) (ss_cons (ss_asg (se_var 0) (sg_tup rfl (sgs_cons (sg_name 1 sc__law_is_works.nd) (sgs_cons (sg_name 2 sc__law_is_works.nd) (sgs_cons (sg_name 3 sc__law_is_works.nd) (sgs_nil)))))) (ss_cons (ss_if (SW.st (sw_or (st_not (st_chain op_le ro_cmp (cmpG_calm _) op_le ro_cmp (cmpG_calm _) (se_int) (se_callB call_len rc_len lenG_calm (by rfl) T.m_len (by decide +kernel) (sa_cons (se_var 1) (sa_nil))) (se_int))) (sw_or (st_cmp op_gt ro_cmp (cmpG_calm _) (se_callB call_len rc_len lenG_calm (by rfl) T.m_len (by decide +kernel) (sa_cons (se_var 2) (sa_nil))) (se_int)) (sw_or (st_cmp op_gt ro_cmp (cmpG_calm _) (se_callB call_len rc_len lenG_calm (by rfl) T.m_len (by decide +kernel) (sa_cons (se_var 3) (sa_nil))) (se_int)) (sw_or1 (st_cmp (op_neN (u128 hr)) ro_eq (eqG_calm true) (se_lc [("name", 5)] rfl sc__law_is_works.nd (si_seq (se_bin op_addA ro_add addG_calm (se_var 1) (se_var 2))) (blkOk_by (by kernel_rfl)) (fun _ _ _ _ _ => svi_one (sv_name 5 sc__law_is_works.nd)) (fun _ _ _ _ _ => sts_one (st_not (st_val (se_call 1 (dv__law_is_name T) hg (hr.mono (by decide)) (by rfl) T.g__law_is_name T.fn__law_is_name.kp T.bn__law_is_name pass0 (fun _ _ _ _ _ h => h) (sa_cons (se_var 5) (sa_nil)) (len_cons len_nil) rfl)))) (fun _ _ _ _ _ => se_int)) (se_lst (sa_nil)))))))) (ss_one (ss_ret (se_bl))) (ss_nil)) (ss_cons (ss_if (st_cmp (op_neN (u128 hr)) ro_eq (eqG_calm true) (se_lenSetS rfl (by rfl) T.m_len (by rfl) T.m_set (se_bin op_addA ro_add addG_calm (se_var 1) (se_var 2))) (se_callB call_len rc_len lenG_calm (by rfl) T.m_len (by decide +kernel) (sa_cons (se_bin op_addA ro_add addG_calm (se_var 1) (se_var 2)) (sa_nil)))) (ss_one (ss_ret (se_bl))) (ss_nil)) (ss_one (ss_ret (se_cmp (op_eqN (u128 hr)) ro_eq (eqG_calm false) (se_lc [("recipe", 6)] rfl sc__law_is_works.nd (si_seq (se_var 3)) (blkOk_by (by kernel_rfl)) (fun _ _ _ _ _ => svi_one (sv_name 6 sc__law_is_works.nd)) (fun _ _ _ _ _ => sts_one (st_not (st_val (se_call 3 (dv__law_is_recipe T) hg (hr.mono (by decide)) (by rfl) T.g__law_is_recipe T.fn__law_is_recipe.kp T.bn__law_is_recipe pass0 (fun _ _ _ _ _ h => h) (sa_cons (se_var 1) (sa_cons (se_var 2) (sa_cons (se_var 6) (sa_nil)))) (len_cons (len_cons (len_cons len_nil))) rfl)))) (fun _ _ _ _ _ => se_int)) (se_lst (sa_nil)))))))))
theorem dv__law_names (T : Top K mg) : FnD P w K mg base CX0 eo0 3 T.f__law_names T.fd__law_names ["bag", "many"] F__law_names :=
  fnD_of T.fn__law_names sc__law_names fun cdv hcode A outer s H E hr hg => SSs.nox (
    ss_cons (ss_set 2 sc__law_names.nd (se_lst (sa_cons (se_str) (sa_cons (se_str) (sa_cons (se_str) (sa_cons (se_str) (sa_cons (se_str) (sa_cons (se_str) (sa_cons (se_str) (sa_cons (se_str) (sa_cons (se_str) (sa_cons (se_str) (sa_cons (se_str) (sa_cons (se_str) (sa_cons (se_str) (sa_nil)))))))))))))))) (ss_one (ss_ret (se_slice (se_call 2 (dv__law_mixed T) hg (hr.mono (by decide)) (by rfl) T.g__law_mixed T.fn__law_mixed.kp T.bn__law_mixed pass0 (fun _ _ _ _ _ h => h) (sa_cons (se_var 0) (sa_cons (se_bin op_addA ro_add addG_calm (se_var 2) (se_lst (sa_cons (se_str) (sa_cons (se_str) (sa_cons (se_str) (sa_cons (se_str) (sa_cons (se_str) (sa_cons (se_str) (sa_nil))))))))) (sa_nil))) (len_cons (len_cons len_nil)) rfl) (so_none) (so_some (se_var 1))))))
theorem dv__law_renamed (T : Top K mg) : FnD P w K mg base CX0 eo0 1 T.f__law_renamed T.fd__law_renamed ["works", "names"] F__law_renamed :=
  fnD_of T.fn__law_renamed sc__law_renamed fun cdv hcode A outer s H E hr hg => SSs.nox (
    ss_cons (ss_setLc 2 [("takes", 3), ("puts", 4), ("hand", 5)] rfl sc__law_renamed.nd (si_seq (se_ix (u128 hr) (se_var 0) (se_int))) (blkOk_by (by kernel_rfl)) (sw_true rfl rfl rfl (by decide +kernel)) (fun _ _ _ _ _ => svi_one (sv_tup rfl (svs_cons (sv_name 3 sc__law_renamed.nd) (svs_cons (sv_name 4 sc__law_renamed.nd) (svs_cons (sv_name 5 sc__law_renamed.nd) (svs_nil)))))) (fun _ _ _ _ _ => sts_nil) (fun _ _ _ _ _ => se_tup (sa_cons (se_var 3) (sa_cons (se_var 4) (sa_cons (se_if (st_isN (se_var 5)) (se_non) (se_ix (u128 hr) (se_var 1) (se_var 5))) (sa_nil)))))) (ss_one (ss_ret (se_tup (sa_cons (se_callTy call_tupleZ rc_tuple tupleG_calm (by rfl) T.m_tuple (by decide +kernel) (sa_cons (se_lc [("name", 6)] rfl sc__law_renamed.nd (si_seq (se_ix (u128 hr) (se_var 0) (se_int))) (blkOk_by (by kernel_rfl)) (fun _ _ _ _ _ => svi_one (sv_name 6 sc__law_renamed.nd)) (fun _ _ _ _ _ => sts_nil) (fun _ _ _ _ _ => se_ix (u128 hr) (se_var 1) (se_var 6))) (sa_nil))) (sa_cons (se_callTy call_tupleZ rc_tuple tupleG_calm (by rfl) T.m_tuple (by decide +kernel) (sa_cons (se_lc [("name", 6)] rfl sc__law_renamed.nd (si_seq (se_ix (u128 hr) (se_var 0) (se_int))) (blkOk_by (by kernel_rfl)) (fun _ _ _ _ _ => svi_one (sv_name 6 sc__law_renamed.nd)) (fun _ _ _ _ _ => sts_nil) (fun _ _ _ _ _ => se_ix (u128 hr) (se_var 1) (se_var 6))) (sa_nil))) (sa_cons (se_callTy call_tupleZ rc_tuple tupleG_calm (by rfl) T.m_tuple (by decide +kernel) (sa_cons (se_var 2) (sa_nil))) (sa_nil))))))))
theorem dv_with_hand (T : Top K mg) : FnD P w K mg base (L2.CX P w) (eoX K (ctT T)) 3 T.f_with_hand T.fd_with_hand ["works", "name"] F_with_hand :=
  fnD_of T.fn_with_hand sc_with_hand fun cdv hcode A outer s H E hr hg =>
    ss_cons (ss_asg (se_var 0) (sg_tup rfl (sgs_cons (sg_name 2 sc_with_hand.nd) (sgs_cons (sg_name 3 sc_with_hand.nd) (sgs_cons (sg_name 4 sc_with_hand.nd) (sgs_nil)))))) (ss_cons (ss_if (SW.st (sw_or (st_cmp (op_inA (u128 hr)) ro_in (inG_calm false) (se_var 1) (se_var 2)) (sw_or1 (st_cmp (op_inA (u128 hr)) ro_in (inG_calm false) (se_var 1) (se_var 3))))) (ss_one (ss_raise 1 16 rfl (takes_of rfl rfl rfl rfl) T.o_Used T.i_Used T.ti_Used (init_Used T) (hr.mono (by decide)) T.bi_Used (by rfl) T.g_Used rfl (sa_cons (se_var 1) (sa_nil)) (len_cons len_nil) rfl (by decide))) (ss_nil)) (ss_cons (ss_if (st_cmp op_ge ro_cmp (cmpG_calm _) (se_callB call_len rc_len lenG_calm (by rfl) T.m_len (by decide +kernel) (sa_cons (se_var 3) (sa_nil))) (se_glob (by rfl) T.c_MOST_HANDS)) (ss_one (ss_raise 1 15 rfl (takes_of rfl rfl rfl rfl) T.o_TooMany T.i_TooMany T.ti_TooMany (init_TooMany T) (hr.mono (by decide)) T.bi_TooMany (by rfl) T.g_TooMany rfl (sa_cons (se_glob (by rfl) T.c_MOST_HANDS) (sa_nil)) (len_cons len_nil) rfl (by decide))) (ss_nil)) (ss_one (ss_ret (se_tup (sa_cons (se_var 2) (sa_cons (se_bin op_addA ro_add addG_calm (se_var 3) (se_tup (sa_cons (se_var 1) (sa_nil)))) (sa_cons (se_var 4) (sa_nil)))))))))
theorem dv__law_with_hand (T : Top K mg) : FnD P w K mg base CX0 eo0 4 T.f__law_with_hand T.fd__law_with_hand ["works", "name"] F__law_with_hand :=
  fnD_of T.fn__law_with_hand sc__law_with_hand fun cdv hcode A outer s H E hr hg => SSs.nox (
    ss_one (ss_try (ct := ctT T) rfl rfl (fun W pn xe tk po => ss_one (ss_ret (se_tup (sa_cons (se_str) (sa_cons (se_callT 2 (dv_with_hand T) tk hg (hr.mono (by decide)) (by rfl) T.g_with_hand T.fn_with_hand.kp T.bn_with_hand (sa_cons (se_var 0) (sa_cons (se_var 1) (sa_nil))) (len_cons (len_cons len_nil)) rfl) (sa_nil)))))) (hd_ret 16 2 0 ⟨rfl, by decide, .inl T.g_Used⟩ (xm_Used T) (by intro c h; simpa [subC] using h) rfl rfl T.xf_Used T.no_Used sc__law_with_hand.nd rfl rfl (.inl rfl) (by decide) (by decide) rfl (hd_ret 15 2 0 ⟨rfl, by decide, .inl T.g_TooMany⟩ (xm_TooMany T) (by intro c h; simpa [subC] using h) rfl rfl T.xf_TooMany T.no_TooMany sc__law_with_hand.nd rfl rfl (.inl rfl) (by decide) (by decide) rfl (hd_only 18 ⟨rfl, by decide, .inl T.g_HeapError⟩ (xm_HeapError T) (fun _ _ => ss_one (ss_ret (se_tup (sa_cons (se_str) (sa_cons (se_non) (sa_nil)))))) (hd_nil))))))
theorem dv__law_hand_due (T : Top K mg) : FnD P w K mg base CX0 eo0 1 T.f__law_hand_due T.fd__law_hand_due ["works", "name"] F__law_hand_due :=
  fnD_of T.fn__law_hand_due sc__law_hand_due fun cdv hcode A outer s H E hr hg => SSs.nox (
    ss_cons (ss_asg (se_var 0) (sg_tup rfl (sgs_cons (sg_name 2 sc__law_hand_due.nd) (sgs_cons (sg_name 3 sc__law_hand_due.nd) (sgs_cons (sg_name 4 sc__law_hand_due.nd) (sgs_nil)))))) (ss_cons (ss_if (st_cmp (op_inA (u128 hr)) ro_in (inG_calm false) (se_var 1) (se_bin op_addA ro_add addG_calm (se_var 2) (se_var 3))) (ss_one (ss_ret (se_tup (sa_cons (se_str) (sa_cons (se_var 1) (sa_nil)))))) (ss_nil)) (ss_one (ss_ret (se_if (st_cmp (op_eqN (u128 hr)) ro_eq (eqG_calm false) (se_callB call_len rc_len lenG_calm (by rfl) T.m_len (by decide +kernel) (sa_cons (se_var 3) (sa_nil))) (se_int)) (se_tup (sa_cons (se_str) (sa_cons (se_int) (sa_nil)))) (se_tup (sa_cons (se_str) (sa_cons (se_tup (sa_cons (se_var 2) (sa_cons (se_bin op_addA ro_add addG_calm (se_var 3) (se_tup (sa_cons (se_var 1) (sa_nil)))) (sa_cons (se_var 4) (sa_nil))))) (sa_nil)))))))))
theorem dv__law_are_new_right (T : Top K mg) : FnD P w K mg base CX0 eo0 5 T.f__law_are_new_right T.fd__law_are_new_right ["bag", "works"] F__law_are_new_right :=
  fnD_of T.fn__law_are_new_right sc__law_are_new_right fun cdv hcode A outer s H E hr hg => SSs.nox (
    ss_cons (ss_set 2 sc__law_are_new_right.nd (se_callTy call_list_of rc_list listG_calm (by rfl) T.m_list (by decide +kernel) (sa_cons (se_bin op_addA ro_add addG_calm (se_ix (u128 hr) (se_var 1) (se_int)) (se_ix (u128 hr) (se_var 1) (se_int))) (sa_nil)))) (ss_cons (ss_set 3 sc__law_are_new_right.nd (se_call 2 (dv__law_mixed T) hg (hr.mono (by decide)) (by rfl) T.g__law_mixed T.fn__law_mixed.kp T.bn__law_mixed pass0 (fun _ _ _ _ _ h => h) (sa_cons (se_var 0) (sa_cons (se_call 2 (dv__law_one T) hg (hr.mono (by decide)) (by rfl) T.g__law_one T.fn__law_one.kp T.bn__law_one pass0 (fun _ _ _ _ _ h => h) (sa_cons (se_var 0) (sa_cons (se_lst (sa_cons (se_var 2) (sa_cons (se_call 2 (dv__law_names T) hg (hr.mono (by decide)) (by rfl) T.g__law_names T.fn__law_names.kp T.bn__law_names pass0 (fun _ _ _ _ _ h => h) (sa_cons (se_var 0) (sa_cons (se_callB call_len rc_len lenG_calm (by rfl) T.m_len (by decide +kernel) (sa_cons (se_var 2) (sa_nil))) (sa_nil))) (len_cons (len_cons len_nil)) rfl) (sa_nil)))) (sa_nil))) (len_cons (len_cons len_nil)) rfl) (sa_nil))) (len_cons (len_cons len_nil)) rfl)) (ss_cons (ss_set 4 sc__law_are_new_right.nd (se_callTy (call_dictP rfl) rc_dictP dictPG_calm (by rfl) T.m_dict (by decide +kernel) (sa_cons (se_call 2 (dv__law_mixed T) hg (hr.mono (by decide)) (by rfl) T.g__law_mixed T.fn__law_mixed.kp T.bn__law_mixed pass0 (fun _ _ _ _ _ h => h) (sa_cons (se_var 0) (sa_cons (se_listZip rfl (by rfl) T.m_list (by rfl) T.m_zip (sa_cons (se_var 2) (sa_cons (se_var 3) (sa_nil)))) (sa_nil))) (len_cons (len_cons len_nil)) rfl) (sa_nil)))) (ss_cons (ss_par2 5 6 rfl sc__law_are_new_right.nd (sa_cons (se_callB (call_reprF hg hr.units) rc_reprF reprF_calm (by rfl) T.m_repr (by decide +kernel) (sa_cons (se_var 4) (sa_nil))) (sa_cons (se_call 2 (dv_renamed_works T) hg (hr.mono (by decide)) (by rfl) T.g_renamed_works T.fn_renamed_works.kp T.bn_renamed_works pass0 (fun _ _ _ _ _ h => h) (sa_cons (se_var 1) (sa_cons (se_var 4) (sa_nil))) (len_cons (len_cons len_nil)) rfl) (sa_nil)))) (ss_cons (ss_if (SW.st (sw_or (st_not (st_val (se_call 2 (dv__law_alike T) hg (hr.mono (by decide)) (by rfl) T.g__law_alike T.fn__law_alike.kp T.bn__law_alike pass0 (fun _ _ _ _ _ h => h) (sa_cons (se_var 6) (sa_cons (se_call 2 (dv__law_renamed T) hg (hr.mono (by decide)) (by rfl) T.g__law_renamed T.fn__law_renamed.kp T.bn__law_renamed pass0 (fun _ _ _ _ _ h => h) (sa_cons (se_var 1) (sa_cons (se_var 4) (sa_nil))) (len_cons (len_cons len_nil)) rfl) (sa_nil))) (len_cons (len_cons len_nil)) rfl))) (sw_or (st_cmp (op_neN (u128 hr)) ro_eq (eqG_calm true) (se_callB (call_reprF hg hr.units) rc_reprF reprF_calm (by rfl) T.m_repr (by decide +kernel) (sa_cons (se_var 4) (sa_nil))) (se_var 5)) (sw_or1 (st_not (st_val (se_call 1 (dv__law_is_works T) hg (hr.mono (by decide)) (by rfl) T.g__law_is_works T.fn__law_is_works.kp T.bn__law_is_works pass0 (fun _ _ _ _ _ h => h) (sa_cons (se_var 6) (sa_nil)) (len_cons len_nil) rfl))))))) (ss_one (ss_ret (se_bl))) (ss_nil)) (ss_cons (ss_for PassesOwn.never rfl (si_seq (se_lst (sa_cons (se_call 2 (dv__law_one T) hg (hr.mono (by decide)) (by rfl) T.g__law_one T.fn__law_one.kp T.bn__law_one pass0 (fun _ _ _ _ _ h => h) (sa_cons (se_var 0) (sa_cons (se_var 2) (sa_nil))) (len_cons (len_cons len_nil)) rfl) (sa_cons (se_str) (sa_cons (se_call 2 (dv__law_one T) hg (hr.mono (by decide)) (by rfl) T.g__law_one T.fn__law_one.kp T.bn__law_one pass0 (fun _ _ _ _ _ h => h) (sa_cons (se_var 0) (sa_cons (se_call 2 (dv__law_names T) hg (hr.mono (by decide)) (by rfl) T.g__law_names T.fn__law_names.kp T.bn__law_names pass0 (fun _ _ _ _ _ h => h) (sa_cons (se_var 0) (sa_cons (se_int) (sa_nil))) (len_cons (len_cons len_nil)) rfl) (sa_nil))) (len_cons (len_cons len_nil)) rfl) (sa_nil)))))) (sgi_one (sg_name 7 sc__law_are_new_right.nd)) (ss_one (ss_if (st_not (st_val (se_call 2 (dv__law_alike T) hg (hr.mono (by decide)) (by rfl) T.g__law_alike T.fn__law_alike.kp T.bn__law_alike pass0 (fun _ _ _ _ _ h => h) (sa_cons (se_call 2 (dv__law_with_hand T) hg (hr.mono (by decide)) (by rfl) T.g__law_with_hand T.fn__law_with_hand.kp T.bn__law_with_hand pass0 (fun _ _ _ _ _ h => h) (sa_cons (se_var 1) (sa_cons (se_var 7) (sa_nil))) (len_cons (len_cons len_nil)) rfl) (sa_cons (se_call 2 (dv__law_hand_due T) hg (hr.mono (by decide)) (by rfl) T.g__law_hand_due T.fn__law_hand_due.kp T.bn__law_hand_due pass0 (fun _ _ _ _ _ h => h) (sa_cons (se_var 1) (sa_cons (se_var 7) (sa_nil))) (len_cons (len_cons len_nil)) rfl) (sa_nil))) (len_cons (len_cons len_nil)) rfl))) (ss_one (ss_ret (se_bl))) (ss_nil)))) (ss_cons (ss_asg (se_tup (sa_cons (se_call 4 (dv__law_any_sender T) hg (hr.mono (by decide)) (by rfl) T.g__law_any_sender T.fn__law_any_sender.kp T.bn__law_any_sender pass0 (fun _ _ _ _ _ h => h) (sa_cons (se_var 0) (sa_cons (se_var 1) (sa_cons (se_int) (sa_cons (se_int) (sa_nil))))) (len_cons (len_cons (len_cons (len_cons len_nil)))) rfl) (sa_cons (se_call 2 (dv__law_one T) hg (hr.mono (by decide)) (by rfl) T.g__law_one T.fn__law_one.kp T.bn__law_one pass0 (fun _ _ _ _ _ h => h) (sa_cons (se_var 0) (sa_cons (se_lst (sa_cons (se_int) (sa_cons (se_int) (sa_cons (se_int) (sa_nil))))) (sa_nil))) (len_cons (len_cons len_nil)) rfl) (sa_nil)))) (sg_tup rfl (sgs_cons (sg_name 8 sc__law_are_new_right.nd) (sgs_cons (sg_name 9 sc__law_are_new_right.nd) (sgs_nil))))) (ss_cons (ss_set 10 sc__law_are_new_right.nd (se_tup (sa_cons (se_ix (u128 hr) (se_var 8) (se_int)) (sa_cons (se_callTy call_tupleZ rc_tuple tupleG_calm (by rfl) T.m_tuple (by decide +kernel) (sa_cons (se_lc [("arrow", 11)] rfl sc__law_are_new_right.nd (si_seq (se_ix (u128 hr) (se_var 8) (se_int))) (blkOk_by (by kernel_rfl)) (fun _ _ _ _ _ => svi_one (sv_name 11 sc__law_are_new_right.nd)) (fun _ _ _ _ _ => sts_nil) (fun _ _ _ _ _ => se_bin op_addA ro_add addG_calm (se_slice (se_var 11) (so_none) (so_some (se_int))) (se_tup (sa_cons (se_bin op_addA ro_add addG_calm (se_ix (u128 hr) (se_var 11) (se_int)) (se_tup (sa_cons (se_var 9) (sa_nil)))) (sa_nil))))) (sa_nil))) (sa_nil))))) (ss_one (ss_ret (se_call 2 (dv__law_alike T) hg (hr.mono (by decide)) (by rfl) T.g__law_alike T.fn__law_alike.kp T.bn__law_alike pass0 (fun _ _ _ _ _ h => h) (sa_cons (se_call 2 (dv_led_sender T) hg (hr.mono (by decide)) (by rfl) T.g_led_sender T.fn_led_sender.kp T.bn_led_sender pass0 (fun _ _ _ _ _ h => h) (sa_cons (se_var 8) (sa_cons (se_var 9) (sa_nil))) (len_cons (len_cons len_nil)) rfl) (sa_cons (se_var 10) (sa_nil))) (len_cons (len_cons len_nil)) rfl)))))))))))
theorem dv__law_levels (T : Top K mg) : FnD P w K mg base CX0 eo0 1 T.f__law_levels T.fd__law_levels ["works"] F__law_levels :=
  fnD_of T.fn__law_levels sc__law_levels fun cdv hcode A outer s H E hr hg => SSs.nox (
    ss_cons (ss_set 1 sc__law_levels.nd (se_bin op_mulA ro_mul mulG_calm (se_lst (sa_cons (se_int) (sa_nil))) (se_callB call_len rc_len lenG_calm (by rfl) T.m_len (by decide +kernel) (sa_cons (se_ix (u128 hr) (se_var 0) (se_int)) (sa_nil))))) (ss_cons (ss_for PassesOwn.never rfl (si_r1 (by rfl) T.m_range (sa_cons (se_callB call_len rc_len lenG_calm (by rfl) T.m_len (by decide +kernel) (sa_cons (se_ix (u128 hr) (se_var 0) (se_int)) (sa_nil))) (sa_nil))) (sgi_one (sg_name 2 sc__law_levels.nd)) (ss_one (ss_for PassesOwn.never rfl (si_enum (by rfl) T.m_enumerate (sa_cons (se_ix (u128 hr) (se_var 0) (se_int)) (sa_nil))) (sgi_pair rfl (sgs_cons (sg_name 3 sc__law_levels.nd) (sgs_cons (sg_name 4 sc__law_levels.nd) (sgs_nil)))) (ss_cons (ss_setLc 5 [("k", 6)] rfl sc__law_levels.nd (si_r1 (by rfl) T.m_range (sa_cons (se_callB call_len rc_len lenG_calm (by rfl) T.m_len (by decide +kernel) (sa_cons (se_var 1) (sa_nil))) (sa_nil))) (blkOk_by (by kernel_rfl)) (sw_true rfl rfl rfl (by decide +kernel)) (fun _ _ _ _ _ => svi_one (sv_name 6 sc__law_levels.nd)) (fun _ _ _ _ _ => sts_one (st_cmp (op_neN (u128 hr)) ro_eq (eqG_calm true) (se_lc [("one", 7), ("other", 8)] rfl sc__law_levels.nd (si_zip (by rfl) T.m_zip (sa_cons (se_ix (u128 hr) (se_ix (u128 hr) (se_ix (u128 hr) (se_var 0) (se_int)) (se_var 6)) (se_int)) (sa_cons (se_ix (u128 hr) (se_var 4) (se_int)) (sa_nil)))) (blkOk_by (by kernel_rfl)) (fun _ _ _ _ _ => svi_pair rfl (svs_cons (sv_name 7 sc__law_levels.nd) (svs_cons (sv_name 8 sc__law_levels.nd) (svs_nil)))) (fun _ _ _ _ _ => sts_one (st_cmp op_gt ro_cmp (cmpG_calm _) (se_callB (call_minA rfl) rc_min minG_calm (by rfl) T.m_min (by decide +kernel) (sa_cons (se_var 7) (sa_cons (se_var 8) (sa_nil)))) (se_int))) (fun _ _ _ _ _ => se_int)) (se_lst (sa_nil)))) (fun _ _ _ _ _ => se_var 6)) (ss_one (ss_asg (se_if (st_cmp (op_neN (u128 hr)) ro_eq (eqG_calm true) (se_var 5) (se_lst (sa_nil))) (se_bin op_addA ro_add addG_calm (se_int) (se_callB (call_maxA rfl) rc_max maxG_calm (by rfl) T.m_max (by decide +kernel) (sa_cons (se_lc [("k", 6)] rfl sc__law_levels.nd (si_seq (se_var 5)) (blkOk_by (by kernel_rfl)) (fun _ _ _ _ _ => svi_one (sv_name 6 sc__law_levels.nd)) (fun _ _ _ _ _ => sts_nil) (fun _ _ _ _ _ => se_ix (u128 hr) (se_var 1) (se_var 6))) (sa_nil)))) (se_int)) (sg_sub (u128 hr) (se_var 1) (se_var 3)))))))) (ss_one (ss_ret (se_var 1)))))
theorem dv__is_put (T : Top K mg) : FnD P w K mg base CX0 eo0 1 T.f__is_put T.fd__is_put ["works", "kind"] F__is_put :=
  fnD_of T.fn__is_put sc__is_put fun cdv hcode A outer s H E hr hg => SSs.nox (
    ss_one (ss_ret (se_callB (cr_any rfl) rc_any (allG_calm true) (by rfl) T.m_any (by decide +kernel) (sa_cons (se_lc [("_", 2), ("puts", 3)] rfl sc__is_put.nd (si_seq (se_ix (u128 hr) (se_var 0) (se_int))) (blkOk_by (by kernel_rfl)) (fun _ _ _ _ _ => svi_one (sv_tup rfl (svs_cons (sv_name 2 sc__is_put.nd) (svs_cons (sv_name 3 sc__is_put.nd) (svs_cons (sv_name 2 sc__is_put.nd) (svs_nil)))))) (fun _ _ _ _ _ => sts_nil) (fun _ _ _ _ _ => se_cmp op_gt ro_cmp (cmpG_calm _) (se_ix (u128 hr) (se_var 3) (se_var 1)) (se_int))) (sa_nil)))))
theorem dv_raw_kinds (T : Top K mg) : FnD P w K mg base CX0 eo0 2 T.f_raw_kinds T.fd_raw_kinds ["works"] F_raw_kinds :=
  fnD_of T.fn_raw_kinds sc_raw_kinds fun cdv hcode A outer s H E hr hg => SSs.nox (
    ss_one (ss_ret (se_callTy call_tupleZ rc_tuple tupleG_calm (by rfl) T.m_tuple (by decide +kernel) (sa_cons (se_lc [("kind", 1), ("name", 2)] rfl sc_raw_kinds.nd (si_enum (by rfl) T.m_enumerate (sa_cons (se_ix (u128 hr) (se_var 0) (se_int)) (sa_nil))) (blkOk_by (by kernel_rfl)) (fun _ _ _ _ _ => svi_pair rfl (svs_cons (sv_name 1 sc_raw_kinds.nd) (svs_cons (sv_name 2 sc_raw_kinds.nd) (svs_nil)))) (fun _ _ _ _ _ => sts_one (st_not (st_val (se_call 2 (dv__is_put T) hg (hr.mono (by decide)) (by rfl) T.g__is_put T.fn__is_put.kp T.bn__is_put pass0 (fun _ _ _ _ _ h => h) (sa_cons (se_var 0) (sa_cons (se_var 1) (sa_nil))) (len_cons (len_cons len_nil)) rfl)))) (fun _ _ _ _ _ => se_var 2)) (sa_nil)))))
theorem dv__law_works_right (T : Top K mg) : FnD P w K mg base CX0 eo0 7 T.f__law_works_right T.fd__law_works_right ["bag", "works"] F__law_works_right :=
  fnD_of T.fn__law_works_right sc__law_works_right fun cdv hcode A outer s H E hr hg => SSs.nox (
    ss_cons (ss_asg (se_tup (sa_cons (se_callB (call_repr hg hr.units) rc_repr reprG_calm (by rfl) T.m_repr (by decide +kernel) (sa_cons (se_var 1) (sa_nil))) (sa_cons (se_ix (u128 hr) (se_var 1) (se_int)) (sa_nil)))) (sg_tup rfl (sgs_cons (sg_name 2 sc__law_works_right.nd) (sgs_cons (sg_name 3 sc__law_works_right.nd) (sgs_nil))))) (ss_cons (ss_if (st_not (st_val (se_call 2 (dv__law_are_placed T) hg (hr.mono (by decide)) (by rfl) T.g__law_are_placed T.fn__law_are_placed.kp T.bn__law_are_placed pass0 (fun _ _ _ _ _ h => h) (sa_cons (se_var 0) (sa_cons (se_var 1) (sa_nil))) (len_cons (len_cons len_nil)) rfl))) (ss_one (ss_ret (se_bl))) (ss_nil)) (ss_cons (ss_set 4 sc__law_works_right.nd (se_lc [("place", 7)] rfl sc__law_works_right.nd (si_r1 (by rfl) T.m_range (sa_cons (se_callB call_len rc_len lenG_calm (by rfl) T.m_len (by decide +kernel) (sa_cons (se_var 3) (sa_nil))) (sa_nil))) (blkOk_by (by kernel_rfl)) (fun _ _ _ _ _ => svi_one (sv_name 7 sc__law_works_right.nd)) (fun _ _ _ _ _ => sts_one (st_cmp (op_neN (u128 hr)) ro_eq (eqG_calm true) (se_lc [("recipe", 8)] rfl sc__law_works_right.nd (si_seq (se_ix (u128 hr) (se_var 1) (se_int))) (blkOk_by (by kernel_rfl)) (fun _ _ _ _ _ => svi_one (sv_name 8 sc__law_works_right.nd)) (fun _ _ _ _ _ => sts_one (st_cmp op_gt ro_cmp (cmpG_calm _) (se_ix (u128 hr) (se_ix (u128 hr) (se_var 8) (se_int)) (se_var 7)) (se_int))) (fun _ _ _ _ _ => se_int)) (se_lst (sa_nil)))) (fun _ _ _ _ _ => se_var 7))) (ss_cons (ss_par2 5 6 rfl sc__law_works_right.nd (sa_cons (se_callTy call_tupleZ rc_tuple tupleG_calm (by rfl) T.m_tuple (by decide +kernel) (sa_cons (se_lc [("place", 7)] rfl sc__law_works_right.nd (si_r1 (by rfl) T.m_range (sa_cons (se_callB call_len rc_len lenG_calm (by rfl) T.m_len (by decide +kernel) (sa_cons (se_var 3) (sa_nil))) (sa_nil))) (blkOk_by (by kernel_rfl)) (fun _ _ _ _ _ => svi_one (sv_name 7 sc__law_works_right.nd)) (fun _ _ _ _ _ => sts_one (st_cmp (op_ninA (u128 hr)) ro_in (inG_calm true) (se_var 7) (se_var 4))) (fun _ _ _ _ _ => se_ix (u128 hr) (se_var 3) (se_var 7))) (sa_nil))) (sa_cons (se_call 1 (dv_levels T) hg (hr.mono (by decide)) (by rfl) T.g_levels T.fn_levels.kp T.bn_levels pass0 (fun _ _ _ _ _ h => h) (sa_cons (se_var 1) (sa_nil)) (len_cons len_nil) rfl) (sa_nil)))) (ss_cons (ss_if (st_not (st_val (se_call 2 (dv__law_alike T) hg (hr.mono (by decide)) (by rfl) T.g__law_alike T.fn__law_alike.kp T.bn__law_alike pass0 (fun _ _ _ _ _ h => h) (sa_cons (se_lst (sa_cons (se_call 1 (dv_raw_kinds T) hg (hr.mono (by decide)) (by rfl) T.g_raw_kinds T.fn_raw_kinds.kp T.bn_raw_kinds pass0 (fun _ _ _ _ _ h => h) (sa_cons (se_var 1) (sa_nil)) (len_cons len_nil) rfl) (sa_cons (se_var 6) (sa_nil)))) (sa_cons (se_lst (sa_cons (se_var 5) (sa_cons (se_call 1 (dv__law_levels T) hg (hr.mono (by decide)) (by rfl) T.g__law_levels T.fn__law_levels.kp T.bn__law_levels pass0 (fun _ _ _ _ _ h => h) (sa_cons (se_var 1) (sa_nil)) (len_cons len_nil) rfl) (sa_nil)))) (sa_nil))) (len_cons (len_cons len_nil)) rfl))) (ss_one (ss_ret (se_bl))) (ss_nil)) (ss_cons (ss_expr (se_meth PySem.F.plainAttrs_list PySem.F.slot_list_append PySem.F.type_list_append mt_append rm_append appendG_calm (se_var 6) (sa_cons (se_non) (sa_nil)))) (ss_cons (ss_if (st_not (st_val (se_call 2 (dv__law_are_new_right T) hg (hr.mono (by decide)) (by rfl) T.g__law_are_new_right T.fn__law_are_new_right.kp T.bn__law_are_new_right pass0 (fun _ _ _ _ _ h => h) (sa_cons (se_var 0) (sa_cons (se_var 1) (sa_nil))) (len_cons (len_cons len_nil)) rfl))) (ss_one (ss_ret (se_bl))) (ss_nil)) (ss_one (ss_ret (se_call 2 (dv__law_alike T) hg (hr.mono (by decide)) (by rfl) T.g__law_alike T.fn__law_alike.kp T.bn__law_alike pass0 (fun _ _ _ _ _ h => h) (sa_cons (se_lst (sa_cons (se_call 1 (dv_levels T) hg (hr.mono (by decide)) (by rfl) T.g_levels T.fn_levels.kp T.bn_levels pass0 (fun _ _ _ _ _ h => h) (sa_cons (se_var 1) (sa_nil)) (len_cons len_nil) rfl) (sa_cons (se_callB (call_repr hg hr.units) rc_repr reprG_calm (by rfl) T.m_repr (by decide +kernel) (sa_cons (se_var 1) (sa_nil))) (sa_nil)))) (sa_cons (se_lst (sa_cons (se_call 1 (dv__law_levels T) hg (hr.mono (by decide)) (by rfl) T.g__law_levels T.fn__law_levels.kp T.bn__law_levels pass0 (fun _ _ _ _ _ h => h) (sa_cons (se_var 1) (sa_nil)) (len_cons len_nil) rfl) (sa_cons (se_var 2) (sa_nil)))) (sa_nil))) (len_cons (len_cons len_nil)) rfl))))))))))
theorem dv__law_recipe (T : Top K mg) : FnD P w K mg base CX0 eo0 3 T.f__law_recipe T.fd__law_recipe ["bag", "size", "hands", "most"] F__law_recipe :=
  fnD_of T.fn__law_recipe sc__law_recipe fun cdv hcode A outer s H E hr hg => SSs.nox (
    ss_cons (ss_set 4 sc__law_recipe.nd (se_call 2 (dv__law_take T) hg (hr.mono (by decide)) (by rfl) T.g__law_take T.fn__law_take.kp T.bn__law_take pass0 (fun _ _ _ _ _ h => h) (sa_cons (se_var 0) (sa_cons (se_var 1) (sa_nil))) (len_cons (len_cons len_nil)) rfl)) (ss_cons (ss_par3 5 6 7 rfl sc__law_recipe.nd (sa_cons (se_lst (sa_cons (se_int) (sa_cons (se_int) (sa_cons (se_int) (sa_cons (se_bin op_addA ro_add addG_calm (se_int) (se_call 2 (dv__law_take T) hg (hr.mono (by decide)) (by rfl) T.g__law_take T.fn__law_take.kp T.bn__law_take pass0 (fun _ _ _ _ _ h => h) (sa_cons (se_var 0) (sa_cons (se_var 3) (sa_nil))) (len_cons (len_cons len_nil)) rfl)) (sa_nil)))))) (sa_cons (se_bin op_mulA ro_mul mulG_calm (se_lst (sa_cons (se_int) (sa_nil))) (se_var 1)) (sa_cons (se_bin op_mulA ro_mul mulG_calm (se_lst (sa_cons (se_int) (sa_nil))) (se_var 1)) (sa_nil))))) (ss_cons (ss_for PassesOwn.never rfl (si_r1 (by rfl) T.m_range (sa_cons (se_var 1) (sa_nil))) (sgi_one (sg_name 8 sc__law_recipe.nd)) (ss_one (ss_if (st_cmp op_lt ro_cmp (cmpG_calm _) (se_var 8) (se_var 4)) (ss_one (ss_asg (se_call 2 (dv__law_one T) hg (hr.mono (by decide)) (by rfl) T.g__law_one T.fn__law_one.kp T.bn__law_one pass0 (fun _ _ _ _ _ h => h) (sa_cons (se_var 0) (sa_cons (se_var 5) (sa_nil))) (len_cons (len_cons len_nil)) rfl) (sg_sub (u128 hr) (se_var 6) (se_var 8)))) (ss_one (ss_if (SW.st (sw_and (st_cmp op_gt ro_cmp (cmpG_calm _) (se_var 8) (se_var 4)) (sw_and1 (st_cmp (op_eqN (u128 hr)) ro_eq (eqG_calm false) (se_call 2 (dv__law_take T) hg (hr.mono (by decide)) (by rfl) T.g__law_take T.fn__law_take.kp T.bn__law_take pass0 (fun _ _ _ _ _ h => h) (sa_cons (se_var 0) (sa_cons (se_int) (sa_nil))) (len_cons (len_cons len_nil)) rfl) (se_int))))) (ss_one (ss_asg (se_call 2 (dv__law_one T) hg (hr.mono (by decide)) (by rfl) T.g__law_one T.fn__law_one.kp T.bn__law_one pass0 (fun _ _ _ _ _ h => h) (sa_cons (se_var 0) (sa_cons (se_var 5) (sa_nil))) (len_cons (len_cons len_nil)) rfl) (sg_sub (u128 hr) (se_var 7) (se_var 8)))) (ss_nil)))))) (ss_cons (ss_asg (se_call 2 (dv__law_one T) hg (hr.mono (by decide)) (by rfl) T.g__law_one T.fn__law_one.kp T.bn__law_one pass0 (fun _ _ _ _ _ h => h) (sa_cons (se_var 0) (sa_cons (se_lst (sa_cons (se_int) (sa_cons (se_int) (sa_cons (se_int) (sa_cons (se_int) (sa_cons (se_bin op_addA ro_add addG_calm (se_int) (se_call 2 (dv__law_take T) hg (hr.mono (by decide)) (by rfl) T.g__law_take T.fn__law_take.kp T.bn__law_take pass0 (fun _ _ _ _ _ h => h) (sa_cons (se_var 0) (sa_cons (se_var 3) (sa_nil))) (len_cons (len_cons len_nil)) rfl)) (sa_nil))))))) (sa_nil))) (len_cons (len_cons len_nil)) rfl) (sg_sub (u128 hr) (se_var 6) (se_var 4))) (ss_one (ss_ret (se_tup (sa_cons (se_callTy call_tupleZ rc_tuple tupleG_calm (by rfl) T.m_tuple (by decide +kernel) (sa_cons (se_var 6) (sa_nil))) (sa_cons (se_callTy call_tupleZ rc_tuple tupleG_calm (by rfl) T.m_tuple (by decide +kernel) (sa_cons (se_var 7) (sa_nil))) (sa_cons (se_call 2 (dv__law_one T) hg (hr.mono (by decide)) (by rfl) T.g__law_one T.fn__law_one.kp T.bn__law_one pass0 (fun _ _ _ _ _ h => h) (sa_cons (se_var 0) (sa_cons (se_bin op_addA ro_add addG_calm (se_bin op_mulA ro_mul mulG_calm (se_callTy call_list_of rc_list listG_calm (by rfl) T.m_list (by decide +kernel) (sa_cons (se_var 2) (sa_nil))) (se_int)) (se_lst (sa_cons (se_non) (sa_nil)))) (sa_nil))) (len_cons (len_cons len_nil)) rfl) (sa_nil)))))))))))
theorem dv__law_out (T : Top K mg) : FnD P w K mg base CX0 eo0 3 T.f__law_out T.fd__law_out ["bag", "size", "place", "hands"] F__law_out :=
  fnD_of T.fn__law_out sc__law_out fun cdv hcode A outer s H E hr hg => SSs.nox (
    ss_cons (ss_set 4 sc__law_out.nd (se_bin op_mulA ro_mul mulG_calm (se_lst (sa_cons (se_int) (sa_nil))) (se_var 1))) (ss_cons (ss_asg (se_int) (sg_sub (u128 hr) (se_var 4) (se_var 2))) (ss_one (ss_ret (se_tup (sa_cons (se_callTy call_tupleZ rc_tuple tupleG_calm (by rfl) T.m_tuple (by decide +kernel) (sa_cons (se_var 4) (sa_nil))) (sa_cons (se_bin op_mulA ro_mul mulG_calm (se_tup (sa_cons (se_int) (sa_nil))) (se_var 1)) (sa_cons (se_call 2 (dv__law_one T) hg (hr.mono (by decide)) (by rfl) T.g__law_one T.fn__law_one.kp T.bn__law_one pass0 (fun _ _ _ _ _ h => h) (sa_cons (se_var 0) (sa_cons (se_bin op_addA ro_add addG_calm (se_bin op_mulA ro_mul mulG_calm (se_callTy call_list_of rc_list listG_calm (by rfl) T.m_list (by decide +kernel) (sa_cons (se_var 3) (sa_nil))) (se_int)) (se_lst (sa_cons (se_non) (sa_nil)))) (sa_nil))) (len_cons (len_cons len_nil)) rfl) (sa_nil)))))))))
theorem dv__law_works (T : Top K mg) : FnD P w K mg base CX0 eo0 4 T.f__law_works T.fd__law_works ["bag", "kinds", "hands", "recipes"] F__law_works :=
  fnD_of T.fn__law_works sc__law_works fun cdv hcode A outer s H E hr hg => SSs.nox (
    ss_cons (ss_par3 4 5 6 rfl sc__law_works.nd (sa_cons (se_call 2 (dv__law_names T) hg (hr.mono (by decide)) (by rfl) T.g__law_names T.fn__law_names.kp T.bn__law_names pass0 (fun _ _ _ _ _ h => h) (sa_cons (se_var 0) (sa_cons (se_int) (sa_nil))) (len_cons (len_cons len_nil)) rfl) (sa_cons (se_bin op_addA ro_add addG_calm (se_int) (se_call 2 (dv__law_take T) hg (hr.mono (by decide)) (by rfl) T.g__law_take T.fn__law_take.kp T.bn__law_take pass0 (fun _ _ _ _ _ h => h) (sa_cons (se_var 0) (sa_cons (se_var 1) (sa_nil))) (len_cons (len_cons len_nil)) rfl)) (sa_cons (se_call 2 (dv__law_take T) hg (hr.mono (by decide)) (by rfl) T.g__law_take T.fn__law_take.kp T.bn__law_take pass0 (fun _ _ _ _ _ h => h) (sa_cons (se_var 0) (sa_cons (se_bin op_addA ro_add addG_calm (se_var 2) (se_int)) (sa_nil))) (len_cons (len_cons len_nil)) rfl) (sa_nil))))) (ss_cons (ss_par2 7 8 rfl sc__law_works.nd (sa_cons (se_callTy call_tupleZ rc_tuple tupleG_calm (by rfl) T.m_tuple (by decide +kernel) (sa_cons (se_slice (se_var 4) (so_some (se_var 5)) (so_some (se_bin op_addA ro_add addG_calm (se_var 5) (se_var 6)))) (sa_nil))) (sa_cons (se_lst (sa_nil)) (sa_nil)))) (ss_cons (ss_set 9 sc__law_works.nd (se_call 2 (dv__law_one T) hg (hr.mono (by decide)) (by rfl) T.g__law_one T.fn__law_one.kp T.bn__law_one pass0 (fun _ _ _ _ _ h => h) (sa_cons (se_var 0) (sa_cons (se_lst (sa_cons (se_int) (sa_cons (se_int) (sa_cons (se_int) (sa_cons (se_int) (sa_nil)))))) (sa_nil))) (len_cons (len_cons len_nil)) rfl)) (ss_cons (ss_for PassesOwn.never rfl (si_r1 (by rfl) T.m_range (sa_cons (se_call 2 (dv__law_take T) hg (hr.mono (by decide)) (by rfl) T.g__law_take T.fn__law_take.kp T.bn__law_take pass0 (fun _ _ _ _ _ h => h) (sa_cons (se_var 0) (sa_cons (se_bin op_addA ro_add addG_calm (se_var 3) (se_int)) (sa_nil))) (len_cons (len_cons len_nil)) rfl) (sa_nil))) (sgi_one (sg_name 10 sc__law_works.nd)) (ss_one (ss_expr (se_meth PySem.F.plainAttrs_list PySem.F.slot_list_append PySem.F.type_list_append mt_append rm_append appendG_calm (se_var 8) (sa_cons (se_call 4 (dv__law_recipe T) hg (hr.mono (by decide)) (by rfl) T.g__law_recipe T.fn__law_recipe.kp T.bn__law_recipe pass0 (fun _ _ _ _ _ h => h) (sa_cons (se_var 0) (sa_cons (se_var 5) (sa_cons (se_var 7) (sa_cons (se_var 9) (sa_nil))))) (len_cons (len_cons (len_cons (len_cons len_nil)))) rfl) (sa_nil)))))) (ss_cons (ss_for PassesOwn.never rfl (si_r1 (by rfl) T.m_range (sa_cons (se_var 5) (sa_nil))) (sgi_one (sg_name 11 sc__law_works.nd)) (ss_one (ss_if (st_cmp op_gt ro_cmp (cmpG_calm _) (se_call 2 (dv__law_take T) hg (hr.mono (by decide)) (by rfl) T.g__law_take T.fn__law_take.kp T.bn__law_take pass0 (fun _ _ _ _ _ h => h) (sa_cons (se_var 0) (sa_cons (se_int) (sa_nil))) (len_cons (len_cons len_nil)) rfl) (se_int)) (ss_one (ss_expr (se_meth PySem.F.plainAttrs_list PySem.F.slot_list_append PySem.F.type_list_append mt_append rm_append appendG_calm (se_var 8) (sa_cons (se_call 4 (dv__law_out T) hg (hr.mono (by decide)) (by rfl) T.g__law_out T.fn__law_out.kp T.bn__law_out pass0 (fun _ _ _ _ _ h => h) (sa_cons (se_var 0) (sa_cons (se_var 5) (sa_cons (se_var 11) (sa_cons (se_var 7) (sa_nil))))) (len_cons (len_cons (len_cons (len_cons len_nil)))) rfl) (sa_nil))))) (ss_nil)))) (ss_cons (ss_if (SW.st (sw_and (st_cmp (op_neN (u128 hr)) ro_eq (eqG_calm true) (se_var 8) (se_lst (sa_nil))) (sw_and1 (st_cmp (op_eqN (u128 hr)) ro_eq (eqG_calm false) (se_call 2 (dv__law_take T) hg (hr.mono (by decide)) (by rfl) T.g__law_take T.fn__law_take.kp T.bn__law_take pass0 (fun _ _ _ _ _ h => h) (sa_cons (se_var 0) (sa_cons (se_int) (sa_nil))) (len_cons (len_cons len_nil)) rfl) (se_int))))) (ss_one (ss_expr (se_meth PySem.F.plainAttrs_list PySem.F.slot_list_append PySem.F.type_list_append mt_append rm_append appendG_calm (se_var 8) (sa_cons (se_call 2 (dv__law_one T) hg (hr.mono (by decide)) (by rfl) T.g__law_one T.fn__law_one.kp T.bn__law_one pass0 (fun _ _ _ _ _ h => h) (sa_cons (se_var 0) (sa_cons (se_var 8) (sa_nil))) (len_cons (len_cons len_nil)) rfl) (sa_nil))))) (ss_nil)) (ss_one (ss_ret (se_tup (sa_cons (se_callTy call_tupleZ rc_tuple tupleG_calm (by rfl) T.m_tuple (by decide +kernel) (sa_cons (se_slice (se_var 4) (so_none) (so_some (se_var 5))) (sa_nil))) (sa_cons (se_var 7) (sa_cons (se_callTy call_tupleZ rc_tuple tupleG_calm (by rfl) T.m_tuple (by decide +kernel) (sa_cons (se_slice (se_call 2 (dv__law_mixed T) hg (hr.mono (by decide)) (by rfl) T.g__law_mixed T.fn__law_mixed.kp T.bn__law_mixed pass0 (fun _ _ _ _ _ h => h) (sa_cons (se_var 0) (sa_cons (se_var 8) (sa_nil))) (len_cons (len_cons len_nil)) rfl) (so_none) (so_some (se_var 3))) (sa_nil))) (sa_nil)))))))))))))
theorem dv_law (T : Top K mg) : FnD P w K mg base CX0 eo0 8 T.f_law T.fd_law ["script"] F_law :=
  fnD_of T.fn_law sc_law fun cdv hcode A outer s H E hr hg => SSs.nox (
    ss_cons (ss_set 1 sc_law.nd (se_call 1 (dv__law_bag T) hg (hr.mono (by decide)) (by rfl) T.g__law_bag T.fn__law_bag.kp T.bn__law_bag pass0 (fun _ _ _ _ _ h => h) (sa_cons (se_var 0) (sa_nil)) (len_cons len_nil) rfl)) (ss_cons (ss_for PassesOwn.never rfl (si_seq (se_tup (sa_cons (se_tup (sa_cons (se_int) (sa_cons (se_int) (sa_cons (se_int) (sa_nil))))) (sa_cons (se_tup (sa_cons (se_int) (sa_cons (se_int) (sa_cons (se_int) (sa_nil))))) (sa_cons (se_tup (sa_cons (se_int) (sa_cons (se_int) (sa_cons (se_int) (sa_nil))))) (sa_cons (se_tup (sa_cons (se_int) (sa_cons (se_int) (sa_cons (se_int) (sa_nil))))) (sa_cons (se_tup (sa_cons (se_int) (sa_cons (se_int) (sa_cons (se_int) (sa_nil))))) (sa_cons (se_tup (sa_cons (se_int) (sa_cons (se_int) (sa_cons (se_int) (sa_nil))))) (sa_nil))))))))) (sgi_one (sg_name 2 sc_law.nd)) (ss_one (ss_if (st_not (st_val (se_call 2 (dv__law_works_right T) hg (hr.mono (by decide)) (by rfl) T.g__law_works_right T.fn__law_works_right.kp T.bn__law_works_right pass0 (fun _ _ _ _ _ h => h) (sa_cons (se_var 1) (sa_cons (se_call 4 (dv__law_works T) hg (hr.mono (by decide)) (by rfl) T.g__law_works T.fn__law_works.kp T.bn__law_works pass0 (fun _ _ _ _ _ h => h) (sa_cons (se_var 1) (sa_cons (se_ix (u128 hr) (se_var 2) (se_int)) (sa_cons (se_ix (u128 hr) (se_var 2) (se_int)) (sa_cons (se_ix (u128 hr) (se_var 2) (se_int)) (sa_nil))))) (len_cons (len_cons (len_cons (len_cons len_nil)))) rfl) (sa_nil))) (len_cons (len_cons len_nil)) rfl))) (ss_one (ss_ret (se_bl))) (ss_nil)))) (ss_one (ss_ret (se_bl)))))
end
/-! ### the head -/
def top_mk {K : PySem.W.Frag} {h : Heap} {mg : Str → Option Value} (X : K.In h) (G : h.Ns mainGlobals mg) {f0 f1 f2 f3 f4 f5 f6 f7 f8 f9 f10 f11 f12 f13 f14 f15 f16 f17 f18 f19 f20 f21 f22 f23 f24 f25 f26 f27 f28 f29 f30 f31 f32 f33 f34 f35 f36 : Addr}
    {od0 an0 od1 an1 od2 an2 od3 an3 od4 an4 od5 an5 od6 an6 od7 an7 od8 an8 od9 an9 od10 an10 od11 an11 od12 an12 od13 an13 od14 an14 od15 an15 od16 an16 od17 an17 od18 an18 od19 an19 od20 an20 od21 an21 od22 an22 od23 an23 od24 an24 od25 an25 od26 an26 od27 an27 od28 an28 od29 an29 od30 an30 od31 an31 od32 an32 od33 an33 od34 an34 od35 an35 od36 an36 : Option Addr} {sl0 sl1 sl2 sl3 sl4 sl5 sl6 sl7 sl8 sl9 sl10 sl11 sl12 sl13 sl14 sl15 sl16 sl17 sl18 sl19 sl20 sl21 sl22 sl23 sl24 sl25 sl26 sl27 sl28 sl29 sl30 sl31 sl32 sl33 sl34 sl35 sl36 : Array (Option Value)} {oc0 kV0 dc0 pm0 cd0 ct0 oc1 kV1 dc1 pm1 cd1 ct1 oc2 kV2 dc2 pm2 cd2 ct2 oc3 kV3 dc3 pm3 cd3 ct3 oc4 kV4 dc4 pm4 cd4 ct4 oc5 kV5 dc5 pm5 cd5 ct5 oc6 kV6 dc6 pm6 cd6 ct6 oc7 kV7 dc7 pm7 cd7 ct7 oc8 kV8 dc8 pm8 cd8 ct8 oc9 kV9 dc9 pm9 cd9 ct9 oc10 kV10 dc10 pm10 cd10 ct10 oc11 kV11 dc11 pm11 cd11 ct11 oc12 kV12 dc12 pm12 cd12 ct12 oc13 kV13 dc13 pm13 cd13 ct13 oc14 kV14 dc14 pm14 cd14 ct14 oc15 kV15 dc15 pm15 cd15 ct15 oc16 kV16 dc16 pm16 cd16 ct16 oc17 kV17 dc17 pm17 cd17 ct17 oc18 kV18 dc18 pm18 cd18 ct18 oc19 kV19 dc19 pm19 cd19 ct19 oc20 kV20 dc20 pm20 cd20 ct20 oc21 kV21 dc21 pm21 cd21 ct21 oc22 kV22 dc22 pm22 cd22 ct22 oc23 kV23 dc23 pm23 cd23 ct23 oc24 kV24 dc24 pm24 cd24 ct24 oc25 kV25 dc25 pm25 cd25 ct25 oc26 kV26 dc26 pm26 cd26 ct26 oc27 kV27 dc27 pm27 cd27 ct27 oc28 kV28 dc28 pm28 cd28 ct28 oc29 kV29 dc29 pm29 cd29 ct29 oc30 kV30 dc30 pm30 cd30 ct30 oc31 kV31 dc31 pm31 cd31 ct31 oc32 kV32 dc32 pm32 cd32 ct32 oc33 kV33 dc33 pm33 cd33 ct33 oc34 kV34 dc34 pm34 cd34 ct34 oc35 kV35 dc35 pm35 cd35 ct35 oc36 kV36 dc36 pm36 cd36 ct36 : Value} {tk0 : Tok}
    {C0 C1 C2 C3 : Addr}
    {nm0 q0_ : Str} {N0 J0 : Addr} {bs0 sub0 : List Value} {sn0 : List Str} {ab0 : Bool} {col0 : Option Bool} {dd0 : Option Addr} {ma0 mb0 mc0 md0 me0 : Option Value} {ioc0 ikV0 idc0 ipm0 icd0 ict0 : Value} {iod0 ian0 : Option Addr} {isl0 : Array (Option Value)}
    {nm1 q1_ : Str} {N1 J1 : Addr} {bs1 sub1 : List Value} {sn1 : List Str} {ab1 : Bool} {col1 : Option Bool} {dd1 : Option Addr} {ma1 mb1 mc1 md1 me1 : Option Value} {ioc1 ikV1 idc1 ipm1 icd1 ict1 : Value} {iod1 ian1 : Option Addr} {isl1 : Array (Option Value)}
    {nm2 q2_ : Str} {N2 J2 : Addr} {bs2 sub2 : List Value} {sn2 : List Str} {ab2 : Bool} {col2 : Option Bool} {dd2 : Option Addr} {ma2 mb2 mc2 md2 me2 : Option Value} {ioc2 ikV2 idc2 ipm2 icd2 ict2 : Value} {iod2 ian2 : Option Addr} {isl2 : Array (Option Value)}
    (a0 : PySem.W.nsIn K mainGlobals "_law_bag" = some (some (.ref f0))) (l0 : K.lookup f0 = some ⟨oc0, od0, .func (PySem.W.fnOf "_law_bag" "_law_bag" (defArgs s__law_bag) (defBody s__law_bag) (defScope s__law_bag) .none kV0 dc0 pm0 an0 cd0 ct0), sl0⟩) (c0 : PySem.W.codeIn K cd0 "_law_bag" = true) (k0 : PySem.W.keepIn K (.ref f0) = true)
    (a1 : PySem.W.nsIn K mainGlobals "_law_alike" = some (some (.ref f1))) (l1 : K.lookup f1 = some ⟨oc1, od1, .func (PySem.W.fnOf "_law_alike" "_law_alike" (defArgs s__law_alike) (defBody s__law_alike) (defScope s__law_alike) .none kV1 dc1 pm1 an1 cd1 ct1), sl1⟩) (c1 : PySem.W.codeIn K cd1 "_law_alike" = true) (k1 : PySem.W.keepIn K (.ref f1) = true)
    (a2 : PySem.W.nsIn K mainGlobals "_law_take" = some (some (.ref f2))) (l2 : K.lookup f2 = some ⟨oc2, od2, .func (PySem.W.fnOf "_law_take" "_law_take" (defArgs s__law_take) (defBody s__law_take) (defScope s__law_take) .none kV2 dc2 pm2 an2 cd2 ct2), sl2⟩) (c2 : PySem.W.codeIn K cd2 "_law_take" = true) (k2 : PySem.W.keepIn K (.ref f2) = true)
    (a3 : PySem.W.nsIn K mainGlobals "_law_one" = some (some (.ref f3))) (l3 : K.lookup f3 = some ⟨oc3, od3, .func (PySem.W.fnOf "_law_one" "_law_one" (defArgs s__law_one) (defBody s__law_one) (defScope s__law_one) .none kV3 dc3 pm3 an3 cd3 ct3), sl3⟩) (c3 : PySem.W.codeIn K cd3 "_law_one" = true) (k3 : PySem.W.keepIn K (.ref f3) = true)
    (a4 : PySem.W.nsIn K mainGlobals "_law_odd" = some (some (.ref f4))) (l4 : K.lookup f4 = some ⟨oc4, od4, .func (PySem.W.fnOf "_law_odd" "_law_odd" (defArgs s__law_odd) (defBody s__law_odd) (defScope s__law_odd) .none kV4 dc4 pm4 an4 cd4 ct4), sl4⟩) (c4 : PySem.W.codeIn K cd4 "_law_odd" = true) (k4 : PySem.W.keepIn K (.ref f4) = true)
    (a5 : PySem.W.nsIn K mainGlobals "_place_among" = some (some (.ref f5))) (l5 : K.lookup f5 = some ⟨oc5, od5, .func (PySem.W.fnOf "_place_among" "_place_among" (defArgs s__place_among) (defBody s__place_among) (defScope s__place_among) .none kV5 dc5 pm5 an5 cd5 ct5), sl5⟩) (c5 : PySem.W.codeIn K cd5 "_place_among" = true) (k5 : PySem.W.keepIn K (.ref f5) = true)
    (a6 : PySem.W.nsIn K mainGlobals "kind_place" = some (some (.ref f6))) (l6 : K.lookup f6 = some ⟨oc6, od6, .func (PySem.W.fnOf "kind_place" "kind_place" (defArgs s_kind_place) (defBody s_kind_place) (defScope s_kind_place) .none kV6 dc6 pm6 an6 cd6 ct6), sl6⟩) (c6 : PySem.W.codeIn K cd6 "kind_place" = true) (k6 : PySem.W.keepIn K (.ref f6) = true)
    (a7 : PySem.W.nsIn K mainGlobals "hand_place" = some (some (.ref f7))) (l7 : K.lookup f7 = some ⟨oc7, od7, .func (PySem.W.fnOf "hand_place" "hand_place" (defArgs s_hand_place) (defBody s_hand_place) (defScope s_hand_place) .none kV7 dc7 pm7 an7 cd7 ct7), sl7⟩) (c7 : PySem.W.codeIn K cd7 "hand_place" = true) (k7 : PySem.W.keepIn K (.ref f7) = true)
    (a8 : PySem.W.nsIn K mainGlobals "_law_is_placed" = some (some (.ref f8))) (l8 : K.lookup f8 = some ⟨oc8, od8, .func (PySem.W.fnOf "_law_is_placed" "_law_is_placed" (defArgs s__law_is_placed) (defBody s__law_is_placed) (defScope s__law_is_placed) .none kV8 dc8 pm8 an8 cd8 ct8), sl8⟩) (c8 : PySem.W.codeIn K cd8 "_law_is_placed" = true) (k8 : PySem.W.keepIn K (.ref f8) = true)
    (a9 : PySem.W.nsIn K mainGlobals "_law_are_placed" = some (some (.ref f9))) (l9 : K.lookup f9 = some ⟨oc9, od9, .func (PySem.W.fnOf "_law_are_placed" "_law_are_placed" (defArgs s__law_are_placed) (defBody s__law_are_placed) (defScope s__law_are_placed) .none kV9 dc9 pm9 an9 cd9 ct9), sl9⟩) (c9 : PySem.W.codeIn K cd9 "_law_are_placed" = true) (k9 : PySem.W.keepIn K (.ref f9) = true)
    (a10 : PySem.W.nsIn K mainGlobals "_depth" = some (some (.ref f10))) (l10 : K.lookup f10 = some ⟨oc10, od10, .func (PySem.W.fnOf "_depth" "_depth" (defArgs s__depth) (defBody s__depth) (defScope s__depth) .none kV10 dc10 pm10 an10 cd10 ct10), sl10⟩) (c10 : PySem.W.codeIn K cd10 "_depth" = true) (k10 : PySem.W.keepIn K (.ref f10) = true)
    (a11 : PySem.W.nsIn K mainGlobals "_kind_depths" = some (some (.ref f11))) (l11 : K.lookup f11 = some ⟨oc11, od11, .func (PySem.W.fnOf "_kind_depths" "_kind_depths" (defArgs s__kind_depths) (defBody s__kind_depths) (defScope s__kind_depths) .none kV11 dc11 pm11 an11 cd11 ct11), sl11⟩) (c11 : PySem.W.codeIn K cd11 "_kind_depths" = true) (k11 : PySem.W.keepIn K (.ref f11) = true)
    (a12 : PySem.W.nsIn K mainGlobals "levels" = some (some (.ref f12))) (l12 : K.lookup f12 = some ⟨oc12, od12, .func (PySem.W.fnOf "levels" "levels" (defArgs s_levels) (defBody s_levels) (defScope s_levels) .none kV12 dc12 pm12 an12 cd12 ct12), sl12⟩) (c12 : PySem.W.codeIn K cd12 "levels" = true) (k12 : PySem.W.keepIn K (.ref f12) = true)
    (a13 : PySem.W.nsIn K mainGlobals "_law_mixed" = some (some (.ref f13))) (l13 : K.lookup f13 = some ⟨oc13, od13, .func (PySem.W.fnOf "_law_mixed" "_law_mixed" (defArgs s__law_mixed) (defBody s__law_mixed) (defScope s__law_mixed) .none kV13 dc13 pm13 an13 cd13 ct13), sl13⟩) (c13 : PySem.W.codeIn K cd13 "_law_mixed" = true) (k13 : PySem.W.keepIn K (.ref f13) = true)
    (a14 : PySem.W.nsIn K mainGlobals "renamed_works" = some (some (.ref f14))) (l14 : K.lookup f14 = some ⟨oc14, od14, .func (PySem.W.fnOf "renamed_works" "renamed_works" (defArgs s_renamed_works) (defBody s_renamed_works) (defScope s_renamed_works) .none kV14 dc14 pm14 an14 cd14 ct14), sl14⟩) (c14 : PySem.W.codeIn K cd14 "renamed_works" = true) (k14 : PySem.W.keepIn K (.ref f14) = true)
    (a15 : PySem.W.nsIn K mainGlobals "_law_links" = some (some (.ref f15))) (l15 : K.lookup f15 = some ⟨oc15, od15, .func (PySem.W.fnOf "_law_links" "_law_links" (defArgs s__law_links) (defBody s__law_links) (defScope s__law_links) .none kV15 dc15 pm15 an15 cd15 ct15), sl15⟩) (c15 : PySem.W.codeIn K cd15 "_law_links" = true) (k15 : PySem.W.keepIn K (.ref f15) = true)
    (a16 : PySem.W.nsIn K mainGlobals "_law_any_sender" = some (some (.ref f16))) (l16 : K.lookup f16 = some ⟨oc16, od16, .func (PySem.W.fnOf "_law_any_sender" "_law_any_sender" (defArgs s__law_any_sender) (defBody s__law_any_sender) (defScope s__law_any_sender) .none kV16 dc16 pm16 an16 cd16 ct16), sl16⟩) (c16 : PySem.W.codeIn K cd16 "_law_any_sender" = true) (k16 : PySem.W.keepIn K (.ref f16) = true)
    (a17 : PySem.W.nsIn K mainGlobals "led_sender" = some (some (.ref f17))) (l17 : K.lookup f17 = some ⟨oc17, od17, .func (PySem.W.fnOf "led_sender" "led_sender" (defArgs s_led_sender) (defBody s_led_sender) (defScope s_led_sender) .none kV17 dc17 pm17 an17 cd17 ct17), sl17⟩) (c17 : PySem.W.codeIn K cd17 "led_sender" = true) (k17 : PySem.W.keepIn K (.ref f17) = true)
    (a18 : PySem.W.nsIn K mainGlobals "_law_is_int" = some (some (.ref f18))) (l18 : K.lookup f18 = some ⟨oc18, od18, .func (PySem.W.fnOf "_law_is_int" "_law_is_int" (defArgs s__law_is_int) (defBody s__law_is_int) (defScope s__law_is_int) .none kV18 dc18 pm18 an18 cd18 ct18), sl18⟩) (c18 : PySem.W.codeIn K cd18 "_law_is_int" = true) (k18 : PySem.W.keepIn K (.ref f18) = true)
    (a19 : PySem.W.nsIn K mainGlobals "_law_is_lot" = some (some (.ref f19))) (l19 : K.lookup f19 = some ⟨oc19, od19, .func (PySem.W.fnOf "_law_is_lot" "_law_is_lot" (defArgs s__law_is_lot) (defBody s__law_is_lot) (defScope s__law_is_lot) .none kV19 dc19 pm19 an19 cd19 ct19), sl19⟩) (c19 : PySem.W.codeIn K cd19 "_law_is_lot" = true) (k19 : PySem.W.keepIn K (.ref f19) = true)
    (a20 : PySem.W.nsIn K mainGlobals "_law_is_recipe" = some (some (.ref f20))) (l20 : K.lookup f20 = some ⟨oc20, od20, .func (PySem.W.fnOf "_law_is_recipe" "_law_is_recipe" (defArgs s__law_is_recipe) (defBody s__law_is_recipe) (defScope s__law_is_recipe) .none kV20 dc20 pm20 an20 cd20 ct20), sl20⟩) (c20 : PySem.W.codeIn K cd20 "_law_is_recipe" = true) (k20 : PySem.W.keepIn K (.ref f20) = true)
    (a21 : PySem.W.nsIn K mainGlobals "_law_is_name" = some (some (.ref f21))) (l21 : K.lookup f21 = some ⟨oc21, od21, .func (PySem.W.fnOf "_law_is_name" "_law_is_name" (defArgs s__law_is_name) (defBody s__law_is_name) (defScope s__law_is_name) .none kV21 dc21 pm21 an21 cd21 ct21), sl21⟩) (c21 : PySem.W.codeIn K cd21 "_law_is_name" = true) (k21 : PySem.W.keepIn K (.ref f21) = true)
    (a22 : PySem.W.nsIn K mainGlobals "_law_is_works" = some (some (.ref f22))) (l22 : K.lookup f22 = some ⟨oc22, od22, .func (PySem.W.fnOf "_law_is_works" "_law_is_works" (defArgs s__law_is_works) (defBody s__law_is_works) (defScope s__law_is_works) .none kV22 dc22 pm22 an22 cd22 ct22), sl22⟩) (c22 : PySem.W.codeIn K cd22 "_law_is_works" = true) (k22 : PySem.W.keepIn K (.ref f22) = true)
    (a23 : PySem.W.nsIn K mainGlobals "_law_names" = some (some (.ref f23))) (l23 : K.lookup f23 = some ⟨oc23, od23, .func (PySem.W.fnOf "_law_names" "_law_names" (defArgs s__law_names) (defBody s__law_names) (defScope s__law_names) .none kV23 dc23 pm23 an23 cd23 ct23), sl23⟩) (c23 : PySem.W.codeIn K cd23 "_law_names" = true) (k23 : PySem.W.keepIn K (.ref f23) = true)
    (a24 : PySem.W.nsIn K mainGlobals "_law_renamed" = some (some (.ref f24))) (l24 : K.lookup f24 = some ⟨oc24, od24, .func (PySem.W.fnOf "_law_renamed" "_law_renamed" (defArgs s__law_renamed) (defBody s__law_renamed) (defScope s__law_renamed) .none kV24 dc24 pm24 an24 cd24 ct24), sl24⟩) (c24 : PySem.W.codeIn K cd24 "_law_renamed" = true) (k24 : PySem.W.keepIn K (.ref f24) = true)
    (a25 : PySem.W.nsIn K mainGlobals "with_hand" = some (some (.ref f25))) (l25 : K.lookup f25 = some ⟨oc25, od25, .func (PySem.W.fnOf "with_hand" "with_hand" (defArgs s_with_hand) (defBody s_with_hand) (defScope s_with_hand) .none kV25 dc25 pm25 an25 cd25 ct25), sl25⟩) (c25 : PySem.W.codeIn K cd25 "with_hand" = true) (k25 : PySem.W.keepIn K (.ref f25) = true)
    (a26 : PySem.W.nsIn K mainGlobals "_law_with_hand" = some (some (.ref f26))) (l26 : K.lookup f26 = some ⟨oc26, od26, .func (PySem.W.fnOf "_law_with_hand" "_law_with_hand" (defArgs s__law_with_hand) (defBody s__law_with_hand) (defScope s__law_with_hand) .none kV26 dc26 pm26 an26 cd26 ct26), sl26⟩) (c26 : PySem.W.codeIn K cd26 "_law_with_hand" = true) (k26 : PySem.W.keepIn K (.ref f26) = true)
    (a27 : PySem.W.nsIn K mainGlobals "_law_hand_due" = some (some (.ref f27))) (l27 : K.lookup f27 = some ⟨oc27, od27, .func (PySem.W.fnOf "_law_hand_due" "_law_hand_due" (defArgs s__law_hand_due) (defBody s__law_hand_due) (defScope s__law_hand_due) .none kV27 dc27 pm27 an27 cd27 ct27), sl27⟩) (c27 : PySem.W.codeIn K cd27 "_law_hand_due" = true) (k27 : PySem.W.keepIn K (.ref f27) = true)
    (a28 : PySem.W.nsIn K mainGlobals "_law_are_new_right" = some (some (.ref f28))) (l28 : K.lookup f28 = some ⟨oc28, od28, .func (PySem.W.fnOf "_law_are_new_right" "_law_are_new_right" (defArgs s__law_are_new_right) (defBody s__law_are_new_right) (defScope s__law_are_new_right) .none kV28 dc28 pm28 an28 cd28 ct28), sl28⟩) (c28 : PySem.W.codeIn K cd28 "_law_are_new_right" = true) (k28 : PySem.W.keepIn K (.ref f28) = true)
    (a29 : PySem.W.nsIn K mainGlobals "_law_levels" = some (some (.ref f29))) (l29 : K.lookup f29 = some ⟨oc29, od29, .func (PySem.W.fnOf "_law_levels" "_law_levels" (defArgs s__law_levels) (defBody s__law_levels) (defScope s__law_levels) .none kV29 dc29 pm29 an29 cd29 ct29), sl29⟩) (c29 : PySem.W.codeIn K cd29 "_law_levels" = true) (k29 : PySem.W.keepIn K (.ref f29) = true)
    (a30 : PySem.W.nsIn K mainGlobals "_is_put" = some (some (.ref f30))) (l30 : K.lookup f30 = some ⟨oc30, od30, .func (PySem.W.fnOf "_is_put" "_is_put" (defArgs s__is_put) (defBody s__is_put) (defScope s__is_put) .none kV30 dc30 pm30 an30 cd30 ct30), sl30⟩) (c30 : PySem.W.codeIn K cd30 "_is_put" = true) (k30 : PySem.W.keepIn K (.ref f30) = true)
    (a31 : PySem.W.nsIn K mainGlobals "raw_kinds" = some (some (.ref f31))) (l31 : K.lookup f31 = some ⟨oc31, od31, .func (PySem.W.fnOf "raw_kinds" "raw_kinds" (defArgs s_raw_kinds) (defBody s_raw_kinds) (defScope s_raw_kinds) .none kV31 dc31 pm31 an31 cd31 ct31), sl31⟩) (c31 : PySem.W.codeIn K cd31 "raw_kinds" = true) (k31 : PySem.W.keepIn K (.ref f31) = true)
    (a32 : PySem.W.nsIn K mainGlobals "_law_works_right" = some (some (.ref f32))) (l32 : K.lookup f32 = some ⟨oc32, od32, .func (PySem.W.fnOf "_law_works_right" "_law_works_right" (defArgs s__law_works_right) (defBody s__law_works_right) (defScope s__law_works_right) .none kV32 dc32 pm32 an32 cd32 ct32), sl32⟩) (c32 : PySem.W.codeIn K cd32 "_law_works_right" = true) (k32 : PySem.W.keepIn K (.ref f32) = true)
    (a33 : PySem.W.nsIn K mainGlobals "_law_recipe" = some (some (.ref f33))) (l33 : K.lookup f33 = some ⟨oc33, od33, .func (PySem.W.fnOf "_law_recipe" "_law_recipe" (defArgs s__law_recipe) (defBody s__law_recipe) (defScope s__law_recipe) .none kV33 dc33 pm33 an33 cd33 ct33), sl33⟩) (c33 : PySem.W.codeIn K cd33 "_law_recipe" = true) (k33 : PySem.W.keepIn K (.ref f33) = true)
    (a34 : PySem.W.nsIn K mainGlobals "_law_out" = some (some (.ref f34))) (l34 : K.lookup f34 = some ⟨oc34, od34, .func (PySem.W.fnOf "_law_out" "_law_out" (defArgs s__law_out) (defBody s__law_out) (defScope s__law_out) .none kV34 dc34 pm34 an34 cd34 ct34), sl34⟩) (c34 : PySem.W.codeIn K cd34 "_law_out" = true) (k34 : PySem.W.keepIn K (.ref f34) = true)
    (a35 : PySem.W.nsIn K mainGlobals "_law_works" = some (some (.ref f35))) (l35 : K.lookup f35 = some ⟨oc35, od35, .func (PySem.W.fnOf "_law_works" "_law_works" (defArgs s__law_works) (defBody s__law_works) (defScope s__law_works) .none kV35 dc35 pm35 an35 cd35 ct35), sl35⟩) (c35 : PySem.W.codeIn K cd35 "_law_works" = true) (k35 : PySem.W.keepIn K (.ref f35) = true)
    (a36 : PySem.W.nsIn K mainGlobals "law" = some (some (.ref f36))) (l36 : K.lookup f36 = some ⟨oc36, od36, .func (PySem.W.fnOf "law" "law" (defArgs s_law) (defBody s_law) (defScope s_law) .none kV36 dc36 pm36 an36 cd36 ct36), sl36⟩) (c36 : PySem.W.codeIn K cd36 "law" = true) (k36 : PySem.W.keepIn K (.ref f36) = true)
    (z0 : PySem.W.nsIn K mainGlobals "abs" = some none)
    (z1 : PySem.W.nsIn K mainGlobals "any" = some none)
    (z2 : PySem.W.nsIn K mainGlobals "bool" = some none)
    (z3 : PySem.W.nsIn K mainGlobals "dict" = some none)
    (z4 : PySem.W.nsIn K mainGlobals "enumerate" = some none)
    (z5 : PySem.W.nsIn K mainGlobals "int" = some none)
    (z6 : PySem.W.nsIn K mainGlobals "isinstance" = some none)
    (z7 : PySem.W.nsIn K mainGlobals "len" = some none)
    (z8 : PySem.W.nsIn K mainGlobals "list" = some none)
    (z9 : PySem.W.nsIn K mainGlobals "max" = some none)
    (z10 : PySem.W.nsIn K mainGlobals "min" = some none)
    (z11 : PySem.W.nsIn K mainGlobals "range" = some none)
    (z12 : PySem.W.nsIn K mainGlobals "repr" = some none)
    (z13 : PySem.W.nsIn K mainGlobals "set" = some none)
    (z14 : PySem.W.nsIn K mainGlobals "str" = some none)
    (z15 : PySem.W.nsIn K mainGlobals "tuple" = some none)
    (z16 : PySem.W.nsIn K mainGlobals "zip" = some none)
    (q0 : PySem.W.nsIn K mainGlobals "MOST_HANDS" = some (some (.int 3 tk0)))
    (ca0 : PySem.W.nsIn K mainGlobals "NoName" = some (some (.ref C0)))
    (ca1 : PySem.W.nsIn K mainGlobals "TooMany" = some (some (.ref C1)))
    (ca2 : PySem.W.nsIn K mainGlobals "Used" = some (some (.ref C2)))
    (ca3 : PySem.W.nsIn K mainGlobals "HeapError" = some (some (.ref C3)))
    (cx0 : K.lookup C0 = some (excClassObj nm0 q0_ C0 N0 bs0 [.ref C3, .type "ValueError", .type "Exception", .type "BaseException", .type "object"] true sn0 sub0 ab0 col0 dd0 ma0 mb0 mc0 md0 me0 "ValueError.__new__"))
    (cs0 : PySem.W.findIn K (.ref C0) "__setattr__" = some (some (.builtin "object.__setattr__")))
    (cg0 : PySem.W.findIn K (.ref C0) "__getattribute__" = some (some (.builtin "BaseException.__getattribute__")))
    (ch0 : PySem.W.findIn K (.ref C0) "__getattr__" = some none)
    (cn0 : PySem.W.findIn K (.ref C0) "name" = some none)
    (ci0 : PySem.W.findIn K (.ref C0) "__init__" = some (some (.ref J0)))
    (cj0 : PySem.W.typeIn K (.ref J0) = some (.type "function"))
    (cl0 : K.lookup J0 = some ⟨ioc0, iod0, .func (PySem.W.fnOf "__init__" "NoName.__init__" (defArgs (methS (topS 2) 0)) (defBody (methS (topS 2) 0)) (defScope (methS (topS 2) 0)) .none ikV0 idc0 ipm0 ian0 icd0 ict0), isl0⟩)
    (cc0 : PySem.W.codeIn K icd0 "NoName.__init__" = true)
    (cf0 : PySem.W.keepIn K (.ref J0) = true)
    (ck0 : PySem.W.keepIn K (.ref C0) = true)
    (cd0 : PySem.W.hasDictIn K C0 = true)
    (cx1 : K.lookup C1 = some (excClassObj nm1 q1_ C1 N1 bs1 [.ref C3, .type "ValueError", .type "Exception", .type "BaseException", .type "object"] true sn1 sub1 ab1 col1 dd1 ma1 mb1 mc1 md1 me1 "ValueError.__new__"))
    (cs1 : PySem.W.findIn K (.ref C1) "__setattr__" = some (some (.builtin "object.__setattr__")))
    (cg1 : PySem.W.findIn K (.ref C1) "__getattribute__" = some (some (.builtin "BaseException.__getattribute__")))
    (ch1 : PySem.W.findIn K (.ref C1) "__getattr__" = some none)
    (cn1 : PySem.W.findIn K (.ref C1) "most" = some none)
    (ci1 : PySem.W.findIn K (.ref C1) "__init__" = some (some (.ref J1)))
    (cj1 : PySem.W.typeIn K (.ref J1) = some (.type "function"))
    (cl1 : K.lookup J1 = some ⟨ioc1, iod1, .func (PySem.W.fnOf "__init__" "TooMany.__init__" (defArgs (methS (topS 3) 0)) (defBody (methS (topS 3) 0)) (defScope (methS (topS 3) 0)) .none ikV1 idc1 ipm1 ian1 icd1 ict1), isl1⟩)
    (cc1 : PySem.W.codeIn K icd1 "TooMany.__init__" = true)
    (cf1 : PySem.W.keepIn K (.ref J1) = true)
    (ck1 : PySem.W.keepIn K (.ref C1) = true)
    (cd1 : PySem.W.hasDictIn K C1 = true)
    (cx2 : K.lookup C2 = some (excClassObj nm2 q2_ C2 N2 bs2 [.ref C3, .type "ValueError", .type "Exception", .type "BaseException", .type "object"] true sn2 sub2 ab2 col2 dd2 ma2 mb2 mc2 md2 me2 "ValueError.__new__"))
    (cs2 : PySem.W.findIn K (.ref C2) "__setattr__" = some (some (.builtin "object.__setattr__")))
    (cg2 : PySem.W.findIn K (.ref C2) "__getattribute__" = some (some (.builtin "BaseException.__getattribute__")))
    (ch2 : PySem.W.findIn K (.ref C2) "__getattr__" = some none)
    (cn2 : PySem.W.findIn K (.ref C2) "name" = some none)
    (ci2 : PySem.W.findIn K (.ref C2) "__init__" = some (some (.ref J2)))
    (cj2 : PySem.W.typeIn K (.ref J2) = some (.type "function"))
    (cl2 : K.lookup J2 = some ⟨ioc2, iod2, .func (PySem.W.fnOf "__init__" "Used.__init__" (defArgs (methS (topS 4) 0)) (defBody (methS (topS 4) 0)) (defScope (methS (topS 4) 0)) .none ikV2 idc2 ipm2 ian2 icd2 ict2), isl2⟩)
    (cc2 : PySem.W.codeIn K icd2 "Used.__init__" = true)
    (cf2 : PySem.W.keepIn K (.ref J2) = true)
    (ck2 : PySem.W.keepIn K (.ref C2) = true)
    (cd2 : PySem.W.hasDictIn K C2 = true)
    (ce0 : PySem.W.subIn K (.ref C0) (.type "BaseException") = some true)
    (ct0 : PySem.W.typeIn K (.ref C0) = some (.type "type"))
    (cq0 : PySem.W.isClsIn K C0 = true)
    (ce1 : PySem.W.subIn K (.ref C1) (.type "BaseException") = some true)
    (ct1 : PySem.W.typeIn K (.ref C1) = some (.type "type"))
    (cq1 : PySem.W.isClsIn K C1 = true)
    (ce2 : PySem.W.subIn K (.ref C2) (.type "BaseException") = some true)
    (ct2 : PySem.W.typeIn K (.ref C2) = some (.type "type"))
    (cq2 : PySem.W.isClsIn K C2 = true)
    (ce3 : PySem.W.subIn K (.ref C3) (.type "BaseException") = some true)
    (ct3 : PySem.W.typeIn K (.ref C3) = some (.type "type"))
    (cq3 : PySem.W.isClsIn K C3 = true)
    (cp0_0 : PySem.W.subIn K (.ref C0) (.ref C0) = some true)
    (cp0_1 : PySem.W.subIn K (.ref C0) (.ref C1) = some false)
    (cp0_2 : PySem.W.subIn K (.ref C0) (.ref C2) = some false)
    (cp0_3 : PySem.W.subIn K (.ref C0) (.ref C3) = some true)
    (cp1_0 : PySem.W.subIn K (.ref C1) (.ref C0) = some false)
    (cp1_1 : PySem.W.subIn K (.ref C1) (.ref C1) = some true)
    (cp1_2 : PySem.W.subIn K (.ref C1) (.ref C2) = some false)
    (cp1_3 : PySem.W.subIn K (.ref C1) (.ref C3) = some true)
    (cp2_0 : PySem.W.subIn K (.ref C2) (.ref C0) = some false)
    (cp2_1 : PySem.W.subIn K (.ref C2) (.ref C1) = some false)
    (cp2_2 : PySem.W.subIn K (.ref C2) (.ref C2) = some true)
    (cp2_3 : PySem.W.subIn K (.ref C2) (.ref C3) = some true) : Top K mg :=
  {
    f__law_bag := f0, fd__law_bag := _, fn__law_bag := fun_mk (st := s__law_bag) l0 c0 k0, bn__law_bag := (fun_mk (st := s__law_bag) l0 c0 k0).binds fun _ _ _ _ _ _ us hl => match us, hl with | [_], _ => rfl, g__law_bag := PySem.W.mg_of X G a0,
    f__law_alike := f1, fd__law_alike := _, fn__law_alike := fun_mk (st := s__law_alike) l1 c1 k1, bn__law_alike := (fun_mk (st := s__law_alike) l1 c1 k1).binds fun _ _ _ _ _ _ us hl => match us, hl with | [_, _], _ => rfl, g__law_alike := PySem.W.mg_of X G a1,
    f__law_take := f2, fd__law_take := _, fn__law_take := fun_mk (st := s__law_take) l2 c2 k2, bn__law_take := (fun_mk (st := s__law_take) l2 c2 k2).binds fun _ _ _ _ _ _ us hl => match us, hl with | [_, _], _ => rfl, g__law_take := PySem.W.mg_of X G a2,
    f__law_one := f3, fd__law_one := _, fn__law_one := fun_mk (st := s__law_one) l3 c3 k3, bn__law_one := (fun_mk (st := s__law_one) l3 c3 k3).binds fun _ _ _ _ _ _ us hl => match us, hl with | [_, _], _ => rfl, g__law_one := PySem.W.mg_of X G a3,
    f__law_odd := f4, fd__law_odd := _, fn__law_odd := fun_mk (st := s__law_odd) l4 c4 k4, bn__law_odd := (fun_mk (st := s__law_odd) l4 c4 k4).binds fun _ _ _ _ _ _ us hl => match us, hl with | [_], _ => rfl, g__law_odd := PySem.W.mg_of X G a4,
    f__place_among := f5, fd__place_among := _, fn__place_among := fun_mk (st := s__place_among) l5 c5 k5, bn__place_among := (fun_mk (st := s__place_among) l5 c5 k5).binds fun _ _ _ _ _ _ us hl => match us, hl with | [_, _], _ => rfl, g__place_among := PySem.W.mg_of X G a5,
    f_kind_place := f6, fd_kind_place := _, fn_kind_place := fun_mk (st := s_kind_place) l6 c6 k6, bn_kind_place := (fun_mk (st := s_kind_place) l6 c6 k6).binds fun _ _ _ _ _ _ us hl => match us, hl with | [_, _], _ => rfl, g_kind_place := PySem.W.mg_of X G a6,
    f_hand_place := f7, fd_hand_place := _, fn_hand_place := fun_mk (st := s_hand_place) l7 c7 k7, bn_hand_place := (fun_mk (st := s_hand_place) l7 c7 k7).binds fun _ _ _ _ _ _ us hl => match us, hl with | [_, _], _ => rfl, g_hand_place := PySem.W.mg_of X G a7,
    f__law_is_placed := f8, fd__law_is_placed := _, fn__law_is_placed := fun_mk (st := s__law_is_placed) l8 c8 k8, bn__law_is_placed := (fun_mk (st := s__law_is_placed) l8 c8 k8).binds fun _ _ _ _ _ _ us hl => match us, hl with | [_, _, _, _], _ => rfl, g__law_is_placed := PySem.W.mg_of X G a8,
    f__law_are_placed := f9, fd__law_are_placed := _, fn__law_are_placed := fun_mk (st := s__law_are_placed) l9 c9 k9, bn__law_are_placed := (fun_mk (st := s__law_are_placed) l9 c9 k9).binds fun _ _ _ _ _ _ us hl => match us, hl with | [_, _], _ => rfl, g__law_are_placed := PySem.W.mg_of X G a9,
    f__depth := f10, fd__depth := _, fn__depth := fun_mk (st := s__depth) l10 c10 k10, bn__depth := (fun_mk (st := s__depth) l10 c10 k10).binds fun _ _ _ _ _ _ us hl => match us, hl with | [_, _], _ => rfl, g__depth := PySem.W.mg_of X G a10,
    f__kind_depths := f11, fd__kind_depths := _, fn__kind_depths := fun_mk (st := s__kind_depths) l11 c11 k11, bn__kind_depths := (fun_mk (st := s__kind_depths) l11 c11 k11).binds fun _ _ _ _ _ _ us hl => match us, hl with | [_], _ => rfl, g__kind_depths := PySem.W.mg_of X G a11,
    f_levels := f12, fd_levels := _, fn_levels := fun_mk (st := s_levels) l12 c12 k12, bn_levels := (fun_mk (st := s_levels) l12 c12 k12).binds fun _ _ _ _ _ _ us hl => match us, hl with | [_], _ => rfl, g_levels := PySem.W.mg_of X G a12,
    f__law_mixed := f13, fd__law_mixed := _, fn__law_mixed := fun_mk (st := s__law_mixed) l13 c13 k13, bn__law_mixed := (fun_mk (st := s__law_mixed) l13 c13 k13).binds fun _ _ _ _ _ _ us hl => match us, hl with | [_, _], _ => rfl, g__law_mixed := PySem.W.mg_of X G a13,
    f_renamed_works := f14, fd_renamed_works := _, fn_renamed_works := fun_mk (st := s_renamed_works) l14 c14 k14, bn_renamed_works := (fun_mk (st := s_renamed_works) l14 c14 k14).binds fun _ _ _ _ _ _ us hl => match us, hl with | [_, _], _ => rfl, g_renamed_works := PySem.W.mg_of X G a14,
    f__law_links := f15, fd__law_links := _, fn__law_links := fun_mk (st := s__law_links) l15 c15 k15, bn__law_links := (fun_mk (st := s__law_links) l15 c15 k15).binds fun _ _ _ _ _ _ us hl => match us, hl with | [_, _, _], _ => rfl, g__law_links := PySem.W.mg_of X G a15,
    f__law_any_sender := f16, fd__law_any_sender := _, fn__law_any_sender := fun_mk (st := s__law_any_sender) l16 c16 k16, bn__law_any_sender := (fun_mk (st := s__law_any_sender) l16 c16 k16).binds fun _ _ _ _ _ _ us hl => match us, hl with | [_, _, _, _], _ => rfl, g__law_any_sender := PySem.W.mg_of X G a16,
    f_led_sender := f17, fd_led_sender := _, fn_led_sender := fun_mk (st := s_led_sender) l17 c17 k17, bn_led_sender := (fun_mk (st := s_led_sender) l17 c17 k17).binds fun _ _ _ _ _ _ us hl => match us, hl with | [_, _], _ => rfl, g_led_sender := PySem.W.mg_of X G a17,
    f__law_is_int := f18, fd__law_is_int := _, fn__law_is_int := fun_mk (st := s__law_is_int) l18 c18 k18, bn__law_is_int := (fun_mk (st := s__law_is_int) l18 c18 k18).binds fun _ _ _ _ _ _ us hl => match us, hl with | [_], _ => rfl, g__law_is_int := PySem.W.mg_of X G a18,
    f__law_is_lot := f19, fd__law_is_lot := _, fn__law_is_lot := fun_mk (st := s__law_is_lot) l19 c19 k19, bn__law_is_lot := (fun_mk (st := s__law_is_lot) l19 c19 k19).binds fun _ _ _ _ _ _ us hl => match us, hl with | [_, _], _ => rfl, g__law_is_lot := PySem.W.mg_of X G a19,
    f__law_is_recipe := f20, fd__law_is_recipe := _, fn__law_is_recipe := fun_mk (st := s__law_is_recipe) l20 c20 k20, bn__law_is_recipe := (fun_mk (st := s__law_is_recipe) l20 c20 k20).binds fun _ _ _ _ _ _ us hl => match us, hl with | [_, _, _], _ => rfl, g__law_is_recipe := PySem.W.mg_of X G a20,
    f__law_is_name := f21, fd__law_is_name := _, fn__law_is_name := fun_mk (st := s__law_is_name) l21 c21 k21, bn__law_is_name := (fun_mk (st := s__law_is_name) l21 c21 k21).binds fun _ _ _ _ _ _ us hl => match us, hl with | [_], _ => rfl, g__law_is_name := PySem.W.mg_of X G a21,
    f__law_is_works := f22, fd__law_is_works := _, fn__law_is_works := fun_mk (st := s__law_is_works) l22 c22 k22, bn__law_is_works := (fun_mk (st := s__law_is_works) l22 c22 k22).binds fun _ _ _ _ _ _ us hl => match us, hl with | [_], _ => rfl, g__law_is_works := PySem.W.mg_of X G a22,
    f__law_names := f23, fd__law_names := _, fn__law_names := fun_mk (st := s__law_names) l23 c23 k23, bn__law_names := (fun_mk (st := s__law_names) l23 c23 k23).binds fun _ _ _ _ _ _ us hl => match us, hl with | [_, _], _ => rfl, g__law_names := PySem.W.mg_of X G a23,
    f__law_renamed := f24, fd__law_renamed := _, fn__law_renamed := fun_mk (st := s__law_renamed) l24 c24 k24, bn__law_renamed := (fun_mk (st := s__law_renamed) l24 c24 k24).binds fun _ _ _ _ _ _ us hl => match us, hl with | [_, _], _ => rfl, g__law_renamed := PySem.W.mg_of X G a24,
    f_with_hand := f25, fd_with_hand := _, fn_with_hand := fun_mk (st := s_with_hand) l25 c25 k25, bn_with_hand := (fun_mk (st := s_with_hand) l25 c25 k25).binds fun _ _ _ _ _ _ us hl => match us, hl with | [_, _], _ => rfl, g_with_hand := PySem.W.mg_of X G a25,
    f__law_with_hand := f26, fd__law_with_hand := _, fn__law_with_hand := fun_mk (st := s__law_with_hand) l26 c26 k26, bn__law_with_hand := (fun_mk (st := s__law_with_hand) l26 c26 k26).binds fun _ _ _ _ _ _ us hl => match us, hl with | [_, _], _ => rfl, g__law_with_hand := PySem.W.mg_of X G a26,
    f__law_hand_due := f27, fd__law_hand_due := _, fn__law_hand_due := fun_mk (st := s__law_hand_due) l27 c27 k27, bn__law_hand_due := (fun_mk (st := s__law_hand_due) l27 c27 k27).binds fun _ _ _ _ _ _ us hl => match us, hl with | [_, _], _ => rfl, g__law_hand_due := PySem.W.mg_of X G a27,
    f__law_are_new_right := f28, fd__law_are_new_right := _, fn__law_are_new_right := fun_mk (st := s__law_are_new_right) l28 c28 k28, bn__law_are_new_right := (fun_mk (st := s__law_are_new_right) l28 c28 k28).binds fun _ _ _ _ _ _ us hl => match us, hl with | [_, _], _ => rfl, g__law_are_new_right := PySem.W.mg_of X G a28,
    f__law_levels := f29, fd__law_levels := _, fn__law_levels := fun_mk (st := s__law_levels) l29 c29 k29, bn__law_levels := (fun_mk (st := s__law_levels) l29 c29 k29).binds fun _ _ _ _ _ _ us hl => match us, hl with | [_], _ => rfl, g__law_levels := PySem.W.mg_of X G a29,
    f__is_put := f30, fd__is_put := _, fn__is_put := fun_mk (st := s__is_put) l30 c30 k30, bn__is_put := (fun_mk (st := s__is_put) l30 c30 k30).binds fun _ _ _ _ _ _ us hl => match us, hl with | [_, _], _ => rfl, g__is_put := PySem.W.mg_of X G a30,
    f_raw_kinds := f31, fd_raw_kinds := _, fn_raw_kinds := fun_mk (st := s_raw_kinds) l31 c31 k31, bn_raw_kinds := (fun_mk (st := s_raw_kinds) l31 c31 k31).binds fun _ _ _ _ _ _ us hl => match us, hl with | [_], _ => rfl, g_raw_kinds := PySem.W.mg_of X G a31,
    f__law_works_right := f32, fd__law_works_right := _, fn__law_works_right := fun_mk (st := s__law_works_right) l32 c32 k32, bn__law_works_right := (fun_mk (st := s__law_works_right) l32 c32 k32).binds fun _ _ _ _ _ _ us hl => match us, hl with | [_, _], _ => rfl, g__law_works_right := PySem.W.mg_of X G a32,
    f__law_recipe := f33, fd__law_recipe := _, fn__law_recipe := fun_mk (st := s__law_recipe) l33 c33 k33, bn__law_recipe := (fun_mk (st := s__law_recipe) l33 c33 k33).binds fun _ _ _ _ _ _ us hl => match us, hl with | [_, _, _, _], _ => rfl, g__law_recipe := PySem.W.mg_of X G a33,
    f__law_out := f34, fd__law_out := _, fn__law_out := fun_mk (st := s__law_out) l34 c34 k34, bn__law_out := (fun_mk (st := s__law_out) l34 c34 k34).binds fun _ _ _ _ _ _ us hl => match us, hl with | [_, _, _, _], _ => rfl, g__law_out := PySem.W.mg_of X G a34,
    f__law_works := f35, fd__law_works := _, fn__law_works := fun_mk (st := s__law_works) l35 c35 k35, bn__law_works := (fun_mk (st := s__law_works) l35 c35 k35).binds fun _ _ _ _ _ _ us hl => match us, hl with | [_, _, _, _], _ => rfl, g__law_works := PySem.W.mg_of X G a35,
    f_law := f36, fd_law := _, fn_law := fun_mk (st := s_law) l36 c36 k36, bn_law := (fun_mk (st := s_law) l36 c36 k36).binds fun _ _ _ _ _ _ us hl => match us, hl with | [_], _ => rfl, g_law := PySem.W.mg_of X G a36,
    n_kind_place := a6,
    n_hand_place := a7,
    bl_law := fun _ _ => .of_eq rfl,
    m_abs := PySem.W.mg_none_of X G z0,
    m_any := PySem.W.mg_none_of X G z1,
    m_bool := PySem.W.mg_none_of X G z2,
    m_dict := PySem.W.mg_none_of X G z3,
    m_enumerate := PySem.W.mg_none_of X G z4,
    m_int := PySem.W.mg_none_of X G z5,
    m_isinstance := PySem.W.mg_none_of X G z6,
    m_len := PySem.W.mg_none_of X G z7,
    m_list := PySem.W.mg_none_of X G z8,
    m_max := PySem.W.mg_none_of X G z9,
    m_min := PySem.W.mg_none_of X G z10,
    m_range := PySem.W.mg_none_of X G z11,
    m_repr := PySem.W.mg_none_of X G z12,
    m_set := PySem.W.mg_none_of X G z13,
    m_str := PySem.W.mg_none_of X G z14,
    m_tuple := PySem.W.mg_none_of X G z15,
    m_zip := PySem.W.mg_none_of X G z16,
    t_MOST_HANDS := tk0, c_MOST_HANDS := PySem.W.mg_of X G q0,
    C_NoName := C0, g_NoName := PySem.W.mg_of X G ca0,
    C_TooMany := C1, g_TooMany := PySem.W.mg_of X G ca1,
    C_Used := C2, g_Used := PySem.W.mg_of X G ca2,
    C_HeapError := C3, g_HeapError := PySem.W.mg_of X G ca3,
    o_NoName := ⟨⟨nm0, q0_, N0, bs0, _, sn0, sub0, ab0, col0, dd0, ma0, mb0, mc0, md0, me0, cx0, rfl⟩, cs0, ce0, ct0, ck0⟩,
    I_NoName := J0, i_NoName := ci0, ti_NoName := cj0, fdi_NoName := _, fni_NoName := fun_mk (st := (methS (topS 2) 0)) cl0 cc0 cf0, bi_NoName := (fun_mk (st := (methS (topS 2) 0)) cl0 cc0 cf0).binds fun _ _ _ _ _ _ us hl => match us, hl with | [_, _], _ => rfl, no_NoName := cn0, xf_NoName := ⟨cg0, ch0, ce0, cd0⟩,
    x_NoName_NoName := exm_of ce0 cq0 ct0 cp0_0,
    x_NoName_TooMany := exm_of ce1 cq1 ct1 cp0_1,
    x_NoName_Used := exm_of ce2 cq2 ct2 cp0_2,
    x_NoName_HeapError := exm_of ce3 cq3 ct3 cp0_3,
    o_TooMany := ⟨⟨nm1, q1_, N1, bs1, _, sn1, sub1, ab1, col1, dd1, ma1, mb1, mc1, md1, me1, cx1, rfl⟩, cs1, ce1, ct1, ck1⟩,
    I_TooMany := J1, i_TooMany := ci1, ti_TooMany := cj1, fdi_TooMany := _, fni_TooMany := fun_mk (st := (methS (topS 3) 0)) cl1 cc1 cf1, bi_TooMany := (fun_mk (st := (methS (topS 3) 0)) cl1 cc1 cf1).binds fun _ _ _ _ _ _ us hl => match us, hl with | [_, _], _ => rfl, no_TooMany := cn1, xf_TooMany := ⟨cg1, ch1, ce1, cd1⟩,
    x_TooMany_NoName := exm_of ce0 cq0 ct0 cp1_0,
    x_TooMany_TooMany := exm_of ce1 cq1 ct1 cp1_1,
    x_TooMany_Used := exm_of ce2 cq2 ct2 cp1_2,
    x_TooMany_HeapError := exm_of ce3 cq3 ct3 cp1_3,
    o_Used := ⟨⟨nm2, q2_, N2, bs2, _, sn2, sub2, ab2, col2, dd2, ma2, mb2, mc2, md2, me2, cx2, rfl⟩, cs2, ce2, ct2, ck2⟩,
    I_Used := J2, i_Used := ci2, ti_Used := cj2, fdi_Used := _, fni_Used := fun_mk (st := (methS (topS 4) 0)) cl2 cc2 cf2, bi_Used := (fun_mk (st := (methS (topS 4) 0)) cl2 cc2 cf2).binds fun _ _ _ _ _ _ us hl => match us, hl with | [_, _], _ => rfl, no_Used := cn2, xf_Used := ⟨cg2, ch2, ce2, cd2⟩,
    x_Used_NoName := exm_of ce0 cq0 ct0 cp2_0,
    x_Used_TooMany := exm_of ce1 cq1 ct1 cp2_1,
    x_Used_Used := exm_of ce2 cq2 ct2 cp2_2,
    x_Used_HeapError := exm_of ce3 cq3 ct3 cp2_3 }
theorem fin {P : Program} {w : World} {K : PySem.W.Frag} {mg : Str → Option Value} {fa : Addr} (hfa : mg "law" = some (.ref fa)) (T : Top K mg) : ∃ fd : FuncData, (∀ (s : Shared) (u : Value), BindsTo s fd ⟨[u], []⟩ [("script", u)]) ∧ ∀ base : Heap, K.In base → base.Ns mainGlobals mg → FnD P w K mg base CX0 eo0 8 fa fd ["script"] (withFns ["kind_place", "hand_place"] F_law) := by
  cases hfa.symm.trans T.g_law
  exact ⟨_, T.bl_law, fun base _ _ => (dv_law T).fns [("kind_place", T.f_kind_place), ("hand_place", T.f_hand_place)] (List.forall_mem_cons.2 ⟨T.n_kind_place, List.forall_mem_cons.2 ⟨T.n_hand_place, fun _ z => nomatch z⟩⟩)⟩
end K01
set_option Elab.async false
set_option linter.all false
namespace K01
open PySem PySem.Spec PyProof.Rows L2 Mn
theorem true_law : ∀ ns : List Int, ns.length ≤ 63 → ∃ S', withFns ["kind_place", "hand_place"] F_law [.box 0] (script0 ns) = .ok (.bl true) S' := fun ns h => by
  obtain ⟨d, S', e, rfl⟩ := (Lw.law01_ok h).ok
  exact ⟨S', e⟩
end K01
open PySem PySem.W PyProof.Rows
set_option maxHeartbeats 0 in
set_option maxRecDepth 100000 in
theorem PySem.Challenge.cw_neverheaps_k01_works_looked_at_holds : PySem.Challenge.rw_neverheaps_k01_works_looked_at.Holds := by
  w_on; o_law; k_head; (case hw => w_witness2)
  k_fill
  refine Mn.walkD (l := PySem.Challenge.rw_neverheaps_k01_works_looked_at) (n := 63) (k := 8) (x := "script") (CX := fun _ => L2.CX0) (eo := fun _ => K01.eo0) (F := (Mn.withFns ["kind_place", "hand_place"] K01.F_law)) rfl (by decide) rfl ⟨rfl, by decide, by decide⟩ (fun w h Y => PySem.W.kIn_of Y) ?F K01.true_law (fun _ _ _ _ _ h => h)
  case F =>
    intro w mg fa h KX G hmg
    refine K01.fin (show mg "law" = some (.ref fa) from hmg) ?T
    refine' K01.top_mk KX G ?a0 ?l0 ?c0 ?k0 ?a1 ?l1 ?c1 ?k1 ?a2 ?l2 ?c2 ?k2 ?a3 ?l3 ?c3 ?k3 ?a4 ?l4 ?c4 ?k4 ?a5 ?l5 ?c5 ?k5 ?a6 ?l6 ?c6 ?k6 ?a7 ?l7 ?c7 ?k7 ?a8 ?l8 ?c8 ?k8 ?a9 ?l9 ?c9 ?k9 ?a10 ?l10 ?c10 ?k10 ?a11 ?l11 ?c11 ?k11 ?a12 ?l12 ?c12 ?k12 ?a13 ?l13 ?c13 ?k13 ?a14 ?l14 ?c14 ?k14 ?a15 ?l15 ?c15 ?k15 ?a16 ?l16 ?c16 ?k16 ?a17 ?l17 ?c17 ?k17 ?a18 ?l18 ?c18 ?k18 ?a19 ?l19 ?c19 ?k19 ?a20 ?l20 ?c20 ?k20 ?a21 ?l21 ?c21 ?k21 ?a22 ?l22 ?c22 ?k22 ?a23 ?l23 ?c23 ?k23 ?a24 ?l24 ?c24 ?k24 ?a25 ?l25 ?c25 ?k25 ?a26 ?l26 ?c26 ?k26 ?a27 ?l27 ?c27 ?k27 ?a28 ?l28 ?c28 ?k28 ?a29 ?l29 ?c29 ?k29 ?a30 ?l30 ?c30 ?k30 ?a31 ?l31 ?c31 ?k31 ?a32 ?l32 ?c32 ?k32 ?a33 ?l33 ?c33 ?k33 ?a34 ?l34 ?c34 ?k34 ?a35 ?l35 ?c35 ?k35 ?a36 ?l36 ?c36 ?k36 ?z0 ?z1 ?z2 ?z3 ?z4 ?z5 ?z6 ?z7 ?z8 ?z9 ?z10 ?z11 ?z12 ?z13 ?z14 ?z15 ?z16 ?q0 ?ca0 ?ca1 ?ca2 ?ca3 ?cx0 ?cs0 ?cg0 ?ch0 ?cn0 ?ci0 ?cj0 ?cl0 ?cc0 ?cf0 ?ck0 ?cd0 ?cx1 ?cs1 ?cg1 ?ch1 ?cn1 ?ci1 ?cj1 ?cl1 ?cc1 ?cf1 ?ck1 ?cd1 ?cx2 ?cs2 ?cg2 ?ch2 ?cn2 ?ci2 ?cj2 ?cl2 ?cc2 ?cf2 ?ck2 ?cd2 ?ce0 ?ct0 ?cq0 ?ce1 ?ct1 ?cq1 ?ce2 ?ct2 ?cq2 ?ce3 ?ct3 ?cq3 ?cp0_0 ?cp0_1 ?cp0_2 ?cp0_3 ?cp1_0 ?cp1_1 ?cp1_2 ?cp1_3 ?cp2_0 ?cp2_1 ?cp2_2 ?cp2_3
    (case a0 => k_is); (case l0 => k_is); (case c0 => k_is); (case k0 => k_is); (case a1 => k_is); (case l1 => k_is); (case c1 => k_is); (case k1 => k_is); (case a2 => k_is); (case l2 => k_is); (case c2 => k_is); (case k2 => k_is); (case a3 => k_is); (case l3 => k_is); (case c3 => k_is); (case k3 => k_is); (case a4 => k_is); (case l4 => k_is); (case c4 => k_is); (case k4 => k_is); (case a5 => k_is); (case l5 => k_is); (case c5 => k_is); (case k5 => k_is); (case a6 => k_is); (case l6 => k_is); (case c6 => k_is); (case k6 => k_is); (case a7 => k_is); (case l7 => k_is); (case c7 => k_is); (case k7 => k_is); (case a8 => k_is); (case l8 => k_is); (case c8 => k_is); (case k8 => k_is); (case a9 => k_is); (case l9 => k_is); (case c9 => k_is); (case k9 => k_is); (case a10 => k_is); (case l10 => k_is); (case c10 => k_is); (case k10 => k_is); (case a11 => k_is); (case l11 => k_is); (case c11 => k_is); (case k11 => k_is); (case a12 => k_is); (case l12 => k_is); (case c12 => k_is); (case k12 => k_is); (case a13 => k_is); (case l13 => k_is); (case c13 => k_is); (case k13 => k_is); (case a14 => k_is); (case l14 => k_is); (case c14 => k_is); (case k14 => k_is); (case a15 => k_is); (case l15 => k_is); (case c15 => k_is); (case k15 => k_is); (case a16 => k_is); (case l16 => k_is); (case c16 => k_is); (case k16 => k_is); (case a17 => k_is); (case l17 => k_is); (case c17 => k_is); (case k17 => k_is); (case a18 => k_is); (case l18 => k_is); (case c18 => k_is); (case k18 => k_is); (case a19 => k_is); (case l19 => k_is); (case c19 => k_is); (case k19 => k_is); (case a20 => k_is); (case l20 => k_is); (case c20 => k_is); (case k20 => k_is); (case a21 => k_is); (case l21 => k_is); (case c21 => k_is); (case k21 => k_is); (case a22 => k_is); (case l22 => k_is); (case c22 => k_is); (case k22 => k_is); (case a23 => k_is); (case l23 => k_is); (case c23 => k_is); (case k23 => k_is); (case a24 => k_is); (case l24 => k_is); (case c24 => k_is); (case k24 => k_is); (case a25 => k_is); (case l25 => k_is); (case c25 => k_is); (case k25 => k_is); (case a26 => k_is); (case l26 => k_is); (case c26 => k_is); (case k26 => k_is); (case a27 => k_is); (case l27 => k_is); (case c27 => k_is); (case k27 => k_is); (case a28 => k_is); (case l28 => k_is); (case c28 => k_is); (case k28 => k_is); (case a29 => k_is); (case l29 => k_is); (case c29 => k_is); (case k29 => k_is); (case a30 => k_is); (case l30 => k_is); (case c30 => k_is); (case k30 => k_is); (case a31 => k_is); (case l31 => k_is); (case c31 => k_is); (case k31 => k_is); (case a32 => k_is); (case l32 => k_is); (case c32 => k_is); (case k32 => k_is); (case a33 => k_is); (case l33 => k_is); (case c33 => k_is); (case k33 => k_is); (case a34 => k_is); (case l34 => k_is); (case c34 => k_is); (case k34 => k_is); (case a35 => k_is); (case l35 => k_is); (case c35 => k_is); (case k35 => k_is); (case a36 => k_is); (case l36 => k_is); (case c36 => k_is); (case k36 => k_is); (case z0 => k_is); (case z1 => k_is); (case z2 => k_is); (case z3 => k_is); (case z4 => k_is); (case z5 => k_is); (case z6 => k_is); (case z7 => k_is); (case z8 => k_is); (case z9 => k_is); (case z10 => k_is); (case z11 => k_is); (case z12 => k_is); (case z13 => k_is); (case z14 => k_is); (case z15 => k_is); (case z16 => k_is); (case q0 => k_is); (case ca0 => k_is); (case ca1 => k_is); (case ca2 => k_is); (case ca3 => k_is); (case cx0 => k_is); (case cs0 => k_is); (case cg0 => k_is); (case ch0 => k_is); (case cn0 => k_is); (case ci0 => k_is); (case cj0 => k_is); (case cl0 => k_is); (case cc0 => k_is); (case cf0 => k_is); (case ck0 => k_is); (case cd0 => k_is); (case cx1 => k_is); (case cs1 => k_is); (case cg1 => k_is); (case ch1 => k_is); (case cn1 => k_is); (case ci1 => k_is); (case cj1 => k_is); (case cl1 => k_is); (case cc1 => k_is); (case cf1 => k_is); (case ck1 => k_is); (case cd1 => k_is); (case cx2 => k_is); (case cs2 => k_is); (case cg2 => k_is); (case ch2 => k_is); (case cn2 => k_is); (case ci2 => k_is); (case cj2 => k_is); (case cl2 => k_is); (case cc2 => k_is); (case cf2 => k_is); (case ck2 => k_is); (case cd2 => k_is); (case ce0 => k_is); (case ct0 => k_is); (case cq0 => k_is); (case ce1 => k_is); (case ct1 => k_is); (case cq1 => k_is); (case ce2 => k_is); (case ct2 => k_is); (case cq2 => k_is); (case ce3 => k_is); (case ct3 => k_is); (case cq3 => k_is); (case cp0_0 => k_is); (case cp0_1 => k_is); (case cp0_2 => k_is); (case cp0_3 => k_is); (case cp1_0 => k_is); (case cp1_1 => k_is); (case cp1_2 => k_is); (case cp1_3 => k_is); (case cp2_0 => k_is); (case cp2_1 => k_is); (case cp2_2 => k_is); (case cp2_3 => k_is)
