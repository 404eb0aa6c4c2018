import PyProof.Rows.All
import Wide.All
import OpenK.AllK
import Wide.FinOn
import HandS.ForMost
import HandS.Walk
import HandS.Zip
import HandS.Lambda
import KE.KNestM
import KE.KDictCopyH
import HandS.Wide
import HandS.TupAny
import HandS.TupMul
import HandS.Flow
import HandS.Style
import HandS.Comp
import HandS.Strs
import HandS.Dict
import HandS.Deep
import PyProof.TupleKey
import PyProof.DictRoadsH
import KE.GoesZip
import KE.GoesEnum
import KE.GoesMore
import HandS.Ends
import HandS.Words
import PyProof.WalksMore
import PyProof.WalkInts
import HandS.SortKw
import KE.SortKeyHeap
import PyProof.TupleOfSeq
import HandS.IsInst
import KE.KDictZip
import HandS.Conv
import HandS.ExcInit
import HandS.ExcField
import HandS.TryMany
import HandS.ExcOwn
import HandS.WordsExc
import HandS.Text
import HandS.Iter
import HandS.SetFor
import PyProof.ReprLen
import PyProof.Rows.StrBin
import HandS.DictComp
import HandS.More
import KE.SortData
import HandS.Gcd
import HandS.Set
import PyProof.Rows.SetFrom
import HandS.TupLen
import KE.KEqNest
import PyProof.EqKinds
import PyProof.StrBlock2
import HandS.HotCalls
import HandS.SetKeys
import PySem.Challenge.RW_neverheaps_k28_rings_told
set_option Elab.async false
set_option linter.all false
set_option maxRecDepth 100000
set_option maxHeartbeats 4000000
/-! MnA: values as plain data with numbered boxes, their tie to the abstract heap. -/
namespace Mn
open PySem PySem.Spec PyProof.Rows L2
/-- plain data; box n is the n-th mutable thing -/
inductive Dt where
  | non | bl (b : Bool) | int (i : Int) | str (x : Str) | tup (xs : List Dt) | box (n : Nat)
  deriving Inhabited
/-- what a box holds: a list, a list that nobody changes, a dict by ints and texts, an instance of the class at C -/
inductive MBox where
  | lst (xs : List Dt) | ro (xs : List Dt) | dk (kvs : List (Key × Dt)) | dkr (kvs : List (Key × Dt)) | dt (kvs : List (List Int × Dt)) | obj (C : Addr) (fs : List (Str × Dt)) | tab (x : Str) | fnc (x : Str) | nd
def MBox.mu : MBox → Bool
  | .ro _ => false
  | .fnc _ => false
  | _ => true
abbrev Bxs := List MBox
/-- a result -/
inductive Rs (α : Type) where
  | ok (a : α) (s : Bxs) | ex (c : Nat) (ds : List Dt) (s : Bxs) | no
def Rs.bind {α β : Type} (r : Rs α) (k : α → Bxs → Rs β) : Rs β := match r with
  | .ok a s => k a s
  | .ex c ds s => .ex c ds s
  | .no => .no
@[simp] theorem Rs.bind_ok {α β : Type} (a : α) (s : Bxs) (k : α → Bxs → Rs β) : (Rs.ok a s).bind k = k a s := rfl
@[simp] theorem Rs.bind_ex {α β : Type} (c : Nat) (ds : List Dt) (s : Bxs) (k : α → Bxs → Rs β) : (Rs.ex c ds s).bind k = .ex c ds s := rfl
@[simp] theorem Rs.bind_no {α β : Type} (k : α → Bxs → Rs β) : (Rs.no).bind k = .no := rfl
def Rs.Sat {α : Type} (r : Rs α) (P : α → Bxs → Prop) (E : Nat → List Dt → Bxs → Prop) : Prop := match r with
  | .ok a s => P a s
  | .ex c ds s => E c ds s
  | .no => False
theorem Rs.sat_bind {α β : Type} {r : Rs α} {k : α → Bxs → Rs β} {P : β → Bxs → Prop} {E : Nat → List Dt → Bxs → Prop} :
    (r.bind k).Sat P E ↔ r.Sat (fun a s => (k a s).Sat P E) E := by
  cases r <;> rfl
theorem Rs.Sat.mono {α : Type} {r : Rs α} {P P' : α → Bxs → Prop} {E E' : Nat → List Dt → Bxs → Prop} (h : r.Sat P E) (hp : ∀ a s, P a s → P' a s) (he : ∀ c ds s, E c ds s → E' c ds s) : r.Sat P' E' := by
  cases r with
  | ok a s => exact hp _ _ h
  | ex c ds s => exact he _ _ _ h
  | no => exact h
/-! ### the tie -/
/-- a plain tuple's object -/
def PT0 (o : Obj) : Prop := o.cls = .type "tuple" ∧ o.dict = none
/-- a tuple that is known to have no dict -/
def Tp (K : PySem.W.Frag) (H : Hp) (a : Addr) (vs : List V) : Prop :=
  (∃ o, H a = some (.frz o (.tup vs)) ∧ PT0 o) ∨ ∃ (o : Obj) (its : Array Value) (n : Nat), K.lookup a = some o ∧ PT0 o ∧ o.data = .seq its n ∧ its.size ≤ sizeLine ∧ Vals vs its.toList
theorem Tp.sqt {K : PySem.W.Frag} {H : Hp} {a : Addr} {vs : List V} (h : Tp K H a vs) : SqT K H a vs := by
  rcases h with ⟨o, h, _⟩ | ⟨o, its, n, h, p, d, z, r⟩
  · exact .inl (.inr ⟨o, h⟩)
  · exact .inr ⟨o, its, n, h, p.1, d, z, r⟩
mutual
inductive DV (K : PySem.W.Frag) (H : Hp) (ρ : List Addr) : Dt → V → Prop
  | non : DV K H ρ .non .non
  | bl (b : Bool) : DV K H ρ (.bl b) (.bl b)
  | int (i : Int) : DV K H ρ (.int i) (.int i)
  | str (x : Str) : DV K H ρ (.str x) (.str x)
  | tup {a : Addr} {ds : List Dt} {vs : List V} : Tp K H a vs → DVs K H ρ ds vs → DV K H ρ (.tup ds) (.ref a)
  | box {n : Nat} {a : Addr} : ρ[n]? = some a → DV K H ρ (.box n) (.ref a)
inductive DVs (K : PySem.W.Frag) (H : Hp) (ρ : List Addr) : List Dt → List V → Prop
  | nil : DVs K H ρ [] []
  | cons {d : Dt} {v : V} {ds : List Dt} {vs : List V} : DV K H ρ d v → DVs K H ρ ds vs → DVs K H ρ (d :: ds) (v :: vs)
end
/-- what never changes stays: tuples, locked things -/
structure Ext (H H' : Hp) : Prop where
  tup : ∀ a xs, H a = some (.tup xs) → H' a = some (.tup xs)
  frz : ∀ a o u, H a = some (.frz o u) → H' a = some (.frz o u)
  cod : ∀ a q, H a = some (LamX.CodeO a q) → H' a = some (LamX.CodeO a q)
theorem Ext.of {H H' : Hp} (h : ∀ a u, H a = some u → H' a = some u) : Ext H H' := ⟨fun _ _ z => h _ _ z, fun _ _ _ z => h _ _ z, fun _ _ z => h _ _ z⟩
theorem Ext.refl (H : Hp) : Ext H H := .of fun _ _ h => h
theorem Ext.trans {H H1 H2 : Hp} (a : Ext H H1) (b : Ext H1 H2) : Ext H H2 := ⟨fun x o h => b.tup x o (a.tup x o h), fun x o u h => b.frz x o u (a.frz x o u h), fun x q h => b.cod x q (a.cod x q h)⟩
theorem Ext.new {H : Hp} {p : Addr} {o : HO} (h : H p = none) : Ext H (upd H p o) := .of fun a u e => by rw [upd_ne (ne_of_none e h)]; exact e
theorem codeO_is {a : Addr} {q : Str} {o : HO} (h : ∀ φ, o ≠ .ext φ) : LamX.CodeO a q ≠ o := fun z => h _ z.symm
theorem Ext.upd_of {H : Hp} {p : Addr} {o0 o : HO} (h : H p = some o0) (h1 : ∀ xs, o0 ≠ .tup xs) (h2 : ∀ ob u, o0 ≠ .frz ob u) (h3 : ∀ a q, LamX.CodeO a q ≠ o0) : Ext H (upd H p o) :=
  ⟨fun a ys e => by rw [upd_ne (ne_of e h (fun z => h1 _ z.symm))]; exact e, fun a o u e => by rw [upd_ne (ne_of e h (fun z => h2 _ _ z.symm))]; exact e, fun a q e => by rw [upd_ne (ne_of e h (fun z => h3 _ _ z))]; exact e⟩
theorem Ext.set {H : Hp} {p : Addr} {xs : List V} {o : HO} (h : H p = some (.lst xs)) : Ext H (upd H p o) := .upd_of h (fun _ z => nomatch z) (fun _ _ z => nomatch z) fun _ _ => codeO_is fun _ z => nomatch z
theorem Ext.tp {K : PySem.W.Frag} {H H' : Hp} {a : Addr} {xs : List V} (e : Ext H H') (h : Tp K H a xs) : Tp K H' a xs := by
  rcases h with ⟨o, h, p⟩ | h
  · exact .inl ⟨o, e.frz _ _ _ h, p⟩
  · exact .inr h
theorem pre_get {α : Type} {l m : List α} {n : Nat} {a : α} (p : l <+: m) (h : l[n]? = some a) : m[n]? = some a := by
  obtain ⟨t, rfl⟩ := p
  rw [List.getElem?_append_left (List.getElem?_eq_some_iff.mp h).1]
  exact h
mutual
theorem DV.mono {K : PySem.W.Frag} {H H' : Hp} {ρ ρ' : List Addr} (e : Ext H H') (p : ρ <+: ρ') : ∀ {d : Dt} {v : V}, DV K H ρ d v → DV K H' ρ' d v
  | _, _, .non => .non
  | _, _, .bl b => .bl b
  | _, _, .int i => .int i
  | _, _, .str x => .str x
  | _, _, .tup h hs => .tup (e.tp h) (DVs.mono e p hs)
  | _, _, .box h => .box (pre_get p h)
theorem DVs.mono {K : PySem.W.Frag} {H H' : Hp} {ρ ρ' : List Addr} (e : Ext H H') (p : ρ <+: ρ') : ∀ {ds : List Dt} {vs : List V}, DVs K H ρ ds vs → DVs K H' ρ' ds vs
  | _, _, .nil => .nil
  | _, _, .cons h hs => .cons (DV.mono e p h) (DVs.mono e p hs)
end
section
variable {K : PySem.W.Frag} {H : Hp} {ρ : List Addr}
theorem DVs.length : ∀ {ds : List Dt} {vs : List V}, DVs K H ρ ds vs → ds.length = vs.length
  | _, _, .nil => rfl
  | _, _, .cons _ t => congrArg (· + 1) (DVs.length t)
theorem DVs.get : ∀ {ds : List Dt} {vs : List V} {i : Nat} {d : Dt}, DVs K H ρ ds vs → ds[i]? = some d → ∃ v, vs[i]? = some v ∧ DV K H ρ d v
  | _, _, _, _, .nil, e => by simp at e
  | _, _, 0, _, .cons r _, e => by simp at e; subst e; exact ⟨_, rfl, r⟩
  | _, _, i + 1, d, .cons _ t, e => by
    obtain ⟨u, h1, h2⟩ := DVs.get (i := i) (d := d) t (by simpa using e)
    exact ⟨u, by simpa using h1, h2⟩
theorem DVs.get' : ∀ {ds : List Dt} {vs : List V} {i : Nat} {v : V}, DVs K H ρ ds vs → vs[i]? = some v → ∃ d, ds[i]? = some d ∧ DV K H ρ d v
  | _, _, _, _, .nil, e => by simp at e
  | _, _, 0, _, .cons r _, e => by simp at e; subst e; exact ⟨_, rfl, r⟩
  | _, _, i + 1, d, .cons _ t, e => by
    obtain ⟨u, h1, h2⟩ := DVs.get' (i := i) (v := d) t (by simpa using e)
    exact ⟨u, by simpa using h1, h2⟩
theorem DVs.app : ∀ {ds es : List Dt} {vs ws : List V}, DVs K H ρ ds vs → DVs K H ρ es ws → DVs K H ρ (ds ++ es) (vs ++ ws)
  | _, _, _, _, .nil, s => s
  | _, _, _, _, .cons r t, s => .cons r (DVs.app t s)
theorem DVs.set {d : Dt} {v : V} (r : DV K H ρ d v) : ∀ {ds : List Dt} {vs : List V} (i : Nat), DVs K H ρ ds vs → DVs K H ρ (ds.set i d) (vs.set i v)
  | _, _, _, .nil => .nil
  | _, _, 0, .cons _ t => .cons r t
  | _, _, i + 1, .cons q t => .cons q (DVs.set r i t)
theorem DVs.take : ∀ {ds : List Dt} {vs : List V} (n : Nat), DVs K H ρ ds vs → DVs K H ρ (ds.take n) (vs.take n)
  | _, _, 0, _ => by rw [List.take_zero, List.take_zero]; exact .nil
  | _, _, _ + 1, .nil => .nil
  | _, _, n + 1, .cons r t => .cons r (DVs.take n t)
theorem DVs.drop : ∀ {ds : List Dt} {vs : List V} (n : Nat), DVs K H ρ ds vs → DVs K H ρ (ds.drop n) (vs.drop n)
  | _, _, 0, r => r
  | _, _, _ + 1, .nil => .nil
  | _, _, n + 1, .cons _ t => DVs.drop n t
theorem DVs.rep {d : Dt} {v : V} (r : DV K H ρ d v) : ∀ n : Nat, DVs K H ρ (List.replicate n d) (List.replicate n v)
  | 0 => .nil
  | n + 1 => .cons r (DVs.rep r n)
end
/-- a list that nobody changes -/
def Ro (K : PySem.W.Frag) (H : Hp) (a : Addr) (vs : List V) : Prop := (∃ o, H a = some (.frz o (.lst vs))) ∨ ∀ H', SqL K H' a vs
theorem Ro.mono {K : PySem.W.Frag} {H H' : Hp} {a : Addr} {vs : List V} (e : Ext H H') (h : Ro K H a vs) : Ro K H' a vs := by
  rcases h with ⟨o, h⟩ | h
  · exact .inl ⟨o, e.frz _ _ _ h⟩
  · exact .inr h
theorem Ro.sql {K : PySem.W.Frag} {H : Hp} {a : Addr} {vs : List V} (h : Ro K H a vs) : SqL K H a vs := by
  rcases h with ⟨o, h⟩ | h
  · exact .inl (.inr ⟨o, h⟩)
  · exact h H
/-- pairs, their second parts data -/
inductive DPs {κ : Type} (K : PySem.W.Frag) (H : Hp) (ρ : List Addr) : List (κ × Dt) → List (κ × V) → Prop
  | nil : DPs K H ρ [] []
  | cons {k : κ} {d : Dt} {v : V} {ds : List (κ × Dt)} {vs : List (κ × V)} : DV K H ρ d v → DPs K H ρ ds vs → DPs K H ρ ((k, d) :: ds) ((k, v) :: vs)
theorem DPs.mono {κ : Type} {K : PySem.W.Frag} {H H' : Hp} {ρ ρ' : List Addr} (e : Ext H H') (p : ρ <+: ρ') : ∀ {ds : List (κ × Dt)} {vs : List (κ × V)}, DPs K H ρ ds vs → DPs K H' ρ' ds vs
  | _, _, .nil => .nil
  | _, _, .cons h hs => .cons (h.mono e p) (DPs.mono e p hs)
theorem DPs.length {κ : Type} {K : PySem.W.Frag} {H : Hp} {ρ : List Addr} : ∀ {ds : List (κ × Dt)} {vs : List (κ × V)}, DPs K H ρ ds vs → ds.length = vs.length
  | _, _, .nil => rfl
  | _, _, .cons _ t => congrArg (· + 1) (DPs.length t)
/-! ### dicts whose keys are tuples of ints -/
abbrev TE3 := List Int × Addr × Value
def tiHash (ks : List Int) : Int := reduceHash (Builtin.Tuple.tupleHashOf (ks.map hashInt))
def tiEntry (x : TE3) : DictEntry := ⟨tiHash x.1, .ref x.2.1, x.2.2⟩
/-- the dict's object -/
def DtP (a : Addr) (xs : List TE3) (h : Heap) : Prop := (a == sysModules) = false ∧ ∃ o es ep, h.get? a = some o ∧ o.ExactDict ∧ o.data = .dict es ep ∧ es.toList = xs.map tiEntry ∧ (xs.map (·.1)).Nodup
def DtO (a : Addr) (xs : List TE3) : HO := .ext (DtP a xs)
/-- the dict {None: None} -/
def NdP (a : Addr) (h : Heap) : Prop := (a == sysModules) = false ∧ ∀ (P : Program) (w : World), h.DictOf (leafKind P w) a [(Leaf.none, Value.none)]
def NdO (a : Addr) : HO := .ext (NdP a)
inductive KTp (K : PySem.W.Frag) (H : Hp) (ρ : List Addr) : List (List Int × Dt) → List TE3 → Prop
  | nil : KTp K H ρ [] []
  | cons {k : List Int} {d : Dt} {v : V} {u : Value} {b : Addr} {ds : List (List Int × Dt)} {xs : List TE3} : Tp K H b (k.map V.int) → DV K H ρ d v → RelV v u → KTp K H ρ ds xs → KTp K H ρ ((k, d) :: ds) ((k, b, u) :: xs)
theorem KTp.mono {K : PySem.W.Frag} {H H' : Hp} {ρ ρ' : List Addr} (e : Ext H H') (p : ρ <+: ρ') : ∀ {ds : List (List Int × Dt)} {xs : List TE3}, KTp K H ρ ds xs → KTp K H' ρ' ds xs
  | _, _, .nil => .nil
  | _, _, .cons t h r hs => .cons (e.tp t) (h.mono e p) r (KTp.mono e p hs)
theorem KTp.length {K : PySem.W.Frag} {H : Hp} {ρ : List Addr} : ∀ {ds : List (List Int × Dt)} {xs : List TE3}, KTp K H ρ ds xs → ds.length = xs.length
  | _, _, .nil => rfl
  | _, _, .cons _ _ _ t => congrArg (· + 1) (KTp.length t)
/-- what a box holds stands at a -/
def BoxAt (K : PySem.W.Frag) (H : Hp) (ρ : List Addr) (a : Addr) : MBox → Prop
  | .lst xs => ∃ vs, H a = some (.lst vs) ∧ DVs K H ρ xs vs
  | .ro xs => ∃ vs, Ro K H a vs ∧ DVs K H ρ xs vs
  | .dk kvs => ∃ ws, H a = some (.dK ws) ∧ DPs K H ρ kvs ws
  | .dkr kvs => ∃ (ws : List (Key × V)) (o : Obj), H a = some (HO.frz o (.dK ws)) ∧ DPs K H ρ kvs ws
  | .dt kvs => ∃ xs, H a = some (DtO a xs) ∧ KTp K H ρ kvs xs
  | .obj C fs => ∃ dx ws, H a = some (.ins C dx ws) ∧ DPs K H ρ fs ws
  | .tab x => (∃ c, PySem.W.tabIn K x = some (c, a)) ∧ LamX.TabS H a (x ++ ".<locals>." ++ "<lambda>")
  | .fnc x => PySem.W.nsIn K mainGlobals x = some (some (.ref a))
  | .nd => H a = some (NdO a)
/-- the part of the heap that a box leans on -/
theorem BoxAt.mono {K : PySem.W.Frag} {H H' : Hp} {ρ ρ' : List Addr} {a : Addr} {b : MBox} (e : Ext H H') (p : ρ <+: ρ') (ha : b.mu = true → H' a = H a) (h : BoxAt K H ρ a b) : BoxAt K H' ρ' a b := by
  cases b with
  | lst xs => obtain ⟨vs, h1, h2⟩ := h; exact ⟨vs, (ha rfl).trans h1, h2.mono e p⟩
  | ro xs => obtain ⟨vs, h1, h2⟩ := h; exact ⟨vs, h1.mono e, h2.mono e p⟩
  | dk kvs => obtain ⟨vs, h1, h2⟩ := h; exact ⟨vs, (ha rfl).trans h1, h2.mono e p⟩
  | dkr kvs => obtain ⟨vs, o, h1, h2⟩ := h; exact ⟨vs, o, (ha rfl).trans h1, h2.mono e p⟩
  | dt kvs => obtain ⟨vs, h1, h2⟩ := h; exact ⟨vs, (ha rfl).trans h1, h2.mono e p⟩
  | obj C fs => obtain ⟨dx, vs, h1, h2⟩ := h; exact ⟨dx, vs, (ha rfl).trans h1, h2.mono e p⟩
  | tab x =>
    obtain ⟨h1, ps, h2, h3, h4⟩ := h
    exact ⟨h1, ps, (ha rfl).trans h2, h3, fun pos cv hc => let ⟨c, e1, e2⟩ := h4 pos cv hc; ⟨c, e1, e.cod _ _ e2⟩⟩
  | fnc x => exact h
  | nd => exact (ha rfl).trans h
theorem BoxAt.some {K : PySem.W.Frag} {H : Hp} {ρ : List Addr} {a : Addr} {b : MBox} (h : BoxAt K H ρ a b) (hb : b.mu = true) : ∃ o, H a = .some o := by
  cases b with
  | lst xs => obtain ⟨vs, h1, _⟩ := h; exact ⟨_, h1⟩
  | ro xs => cases hb
  | dk kvs => obtain ⟨vs, h1, _⟩ := h; exact ⟨_, h1⟩
  | dkr kvs => obtain ⟨vs, o, h1, _⟩ := h; exact ⟨_, h1⟩
  | dt kvs => obtain ⟨vs, h1, _⟩ := h; exact ⟨_, h1⟩
  | obj C fs => obtain ⟨dx, vs, h1, _⟩ := h; exact ⟨_, h1⟩
  | tab x => obtain ⟨_, ps, h1, _⟩ := h; exact ⟨_, h1⟩
  | fnc x => cases hb
  | nd => exact ⟨_, h⟩
/-- the boxes stand in the heap -/
structure HR (K : PySem.W.Frag) (H : Hp) (ρ : List Addr) (S : Bxs) : Prop where
  len : ρ.length = S.length
  at_ : ∀ (n : Nat) b, S[n]? = some b → ∃ a, ρ[n]? = some a ∧ BoxAt K H ρ a b
  inj : ∀ (n m : Nat) b c a, S[n]? = some b → S[m]? = some c → b.mu = true → c.mu = true → ρ[n]? = some a → ρ[m]? = some a → n = m
theorem HR.lst {K : PySem.W.Frag} {H : Hp} {ρ : List Addr} {S : Bxs} (h : HR K H ρ S) (n : Nat) (xs : List Dt) (e : S[n]? = some (MBox.lst xs)) : ∃ a vs, ρ[n]? = some a ∧ H a = some (.lst vs) ∧ DVs K H ρ xs vs := by
  obtain ⟨a, h1, vs, h2, h3⟩ := h.at_ n _ e
  exact ⟨a, vs, h1, h2, h3⟩
theorem HR.ro {K : PySem.W.Frag} {H : Hp} {ρ : List Addr} {S : Bxs} (h : HR K H ρ S) (n : Nat) (xs : List Dt) (e : S[n]? = some (MBox.ro xs)) : ∃ a vs, ρ[n]? = some a ∧ Ro K H a vs ∧ DVs K H ρ xs vs := by
  obtain ⟨a, h1, vs, h2, h3⟩ := h.at_ n _ e
  exact ⟨a, vs, h1, h2, h3⟩
theorem HR.dk {K : PySem.W.Frag} {H : Hp} {ρ : List Addr} {S : Bxs} (h : HR K H ρ S) (n : Nat) (xs : List (Key × Dt)) (e : S[n]? = some (MBox.dk xs)) : ∃ a vs, ρ[n]? = some a ∧ H a = some (.dK vs) ∧ DPs K H ρ xs vs := by
  obtain ⟨a, h1, vs, h2, h3⟩ := h.at_ n _ e
  exact ⟨a, vs, h1, h2, h3⟩
theorem HR.dkr {K : PySem.W.Frag} {H : Hp} {ρ : List Addr} {S : Bxs} (h : HR K H ρ S) (n : Nat) (xs : List (Key × Dt)) (e : S[n]? = some (MBox.dkr xs)) : ∃ a vs o, ρ[n]? = some a ∧ H a = some (.frz o (.dK vs)) ∧ DPs K H ρ xs vs := by
  obtain ⟨a, h1, vs, o, h2, h3⟩ := h.at_ n _ e
  exact ⟨a, vs, o, h1, h2, h3⟩
theorem HR.dt {K : PySem.W.Frag} {H : Hp} {ρ : List Addr} {S : Bxs} (h : HR K H ρ S) (n : Nat) (xs : List (List Int × Dt)) (e : S[n]? = some (MBox.dt xs)) : ∃ a vs, ρ[n]? = some a ∧ H a = some (DtO a vs) ∧ KTp K H ρ xs vs := by
  obtain ⟨a, h1, vs, h2, h3⟩ := h.at_ n _ e
  exact ⟨a, vs, h1, h2, h3⟩
/-- a new box -/
theorem HR.grown {K : PySem.W.Frag} {H H' : Hp} {ρ : List Addr} {S : Bxs} {p : Addr} {b : MBox} (h : HR K H ρ S) (hk : ∀ a u, H a = some u → H' a = some u) (hp : H p = none) (hb : BoxAt K H' (ρ ++ [p]) p b) :
    HR K H' (ρ ++ [p]) (S ++ [b]) := by
  have e : Ext H H' := .of hk
  have pre : ρ <+: ρ ++ [p] := List.prefix_append _ _
  have cut : ∀ (n : Nat) (x : MBox), (S ++ [b])[n]? = some x → (n < S.length ∧ S[n]? = some x) ∨ (n = S.length ∧ x = b) := fun n x hx => by
    by_cases hn : n < S.length
    · rw [List.getElem?_append_left hn] at hx
      exact .inl ⟨hn, hx⟩
    · rw [List.getElem?_append_right (by omega)] at hx
      by_cases h0 : n - S.length = 0
      · rw [h0] at hx
        exact .inr ⟨by omega, (Option.some.inj hx).symm⟩
      · rw [List.getElem?_eq_none (by simp; omega)] at hx
        cases hx
  have last : (ρ ++ [p])[S.length]? = some p := by
    rw [← h.len, List.getElem?_append_right (Nat.le_refl _), Nat.sub_self]; rfl
  have old : ∀ (n : Nat) (x : MBox), S[n]? = some x → x.mu = true → ∃ a, ρ[n]? = some a ∧ a ≠ p := fun n x hx hm => by
    obtain ⟨a, h1, h2⟩ := h.at_ n x hx
    obtain ⟨u, hu⟩ := h2.some hm
    exact ⟨a, h1, ne_of_none hu hp⟩
  refine ⟨by simp [h.len], fun n x hx => ?_, fun n m x y a h1 h2 mx my h3 h4 => ?_⟩
  · rcases cut n _ hx with ⟨hn, hx⟩ | ⟨en, ex⟩
    · obtain ⟨a, h1, h2⟩ := h.at_ n x hx
      refine ⟨a, pre_get pre h1, h2.mono e pre fun hm => ?_⟩
      obtain ⟨u, hu⟩ := h2.some hm
      rw [hu]; exact hk _ _ hu
    · subst en; subst ex
      exact ⟨p, last, hb⟩
  · rcases cut n x h1 with ⟨hn, g1⟩ | ⟨rfl, _⟩
    · rcases cut m y h2 with ⟨hm, g2⟩ | ⟨rfl, _⟩
      · obtain ⟨a1, q1, _⟩ := old n x g1 mx
        obtain ⟨a2, q2, _⟩ := old m y g2 my
        rw [pre_get pre q1] at h3
        rw [pre_get pre q2] at h4
        cases h3; cases h4
        exact h.inj n m x y a g1 g2 mx my q1 q2
      · obtain ⟨a1, q1, q2⟩ := old n x g1 mx
        rw [pre_get pre q1] at h3
        rw [last] at h4
        cases h3; cases h4
        exact absurd rfl q2
    · rcases cut m y h2 with ⟨hm, g2⟩ | ⟨rfl, _⟩
      · obtain ⟨a1, q1, q2⟩ := old m y g2 my
        rw [pre_get pre q1] at h4
        rw [last] at h3
        cases h3; cases h4
        exact absurd rfl q2
      · rfl
theorem upd_keeps {H : Hp} {p : Addr} {o : HO} (hp : H p = none) : ∀ a u, H a = some u → upd H p o a = some u := fun a u e => by rw [upd_ne (ne_of_none e hp)]; exact e
theorem HR.newB {K : PySem.W.Frag} {H : Hp} {ρ : List Addr} {S : Bxs} {p : Addr} {b : MBox} {o : HO} (h : HR K H ρ S) (hp : H p = none) (hb : BoxAt K (upd H p o) (ρ ++ [p]) p b) :
    HR K (upd H p o) (ρ ++ [p]) (S ++ [b]) := h.grown (upd_keeps hp) hp hb
theorem HR.new {K : PySem.W.Frag} {H : Hp} {ρ : List Addr} {S : Bxs} {p : Addr} {xs : List Dt} {vs : List V} (h : HR K H ρ S) (hp : H p = none) (hd : DVs K H ρ xs vs) :
    HR K (upd H p (.lst vs)) (ρ ++ [p]) (S ++ [MBox.lst xs]) := h.newB hp ⟨vs, upd_same, hd.mono (Ext.new hp) (List.prefix_append _ _)⟩
/-- a box changed; what changes is no tuple, nothing locked -/
theorem HR.setB {K : PySem.W.Frag} {H : Hp} {ρ : List Addr} {S : Bxs} {n : Nat} {a : Addr} {b c : MBox} {o : HO} (h : HR K H ρ S) (hn : S[n]? = some b) (mb : b.mu = true) (mc : c.mu = true) (ha : ρ[n]? = some a) (e : Ext H (upd H a o)) (hc : BoxAt K (upd H a o) ρ a c) :
    HR K (upd H a o) ρ (S.set n c) := by
  have hl : n < S.length := (List.getElem?_eq_some_iff.mp hn).1
  have same : ∀ (m : Nat) y, (S.set n c)[m]? = some y → y.mu = true → ∃ z, S[m]? = some z ∧ z.mu = true := fun m y hy hm => by
    by_cases hmn : n = m
    · subst hmn; exact ⟨b, hn, mb⟩
    · rw [List.getElem?_set_ne hmn] at hy
      exact ⟨y, hy, hm⟩
  refine ⟨by simp [h.len], fun m y hy => ?_, fun k m y z x h1 h2 my mz h3 h4 => ?_⟩
  · by_cases hm : n = m
    · subst hm
      rw [List.getElem?_set_self hl] at hy
      cases hy
      exact ⟨a, ha, hc⟩
    · rw [List.getElem?_set_ne hm] at hy
      obtain ⟨x, h1, h2⟩ := h.at_ m y hy
      exact ⟨x, h1, h2.mono e (List.prefix_refl _) fun my => upd_ne fun q => hm (h.inj n m b y a hn hy mb my ha (q ▸ h1))⟩
  · obtain ⟨y', h1', m1⟩ := same k y h1 my
    obtain ⟨z', h2', m2⟩ := same m z h2 mz
    exact h.inj k m y' z' x h1' h2' m1 m2 h3 h4
/-- a box's list changed -/
theorem HR.set {K : PySem.W.Frag} {H : Hp} {ρ : List Addr} {S : Bxs} {n : Nat} {a : Addr} {xs0 xs : List Dt} {vs0 vs : List V} (h : HR K H ρ S) (hn : S[n]? = some (MBox.lst xs0)) (ha : ρ[n]? = some a) (hH : H a = some (.lst vs0)) (hd : DVs K H ρ xs vs) :
    HR K (upd H a (.lst vs)) ρ (S.set n (MBox.lst xs)) := h.setB hn rfl rfl ha (Ext.set hH) ⟨vs, upd_same, hd.mono (Ext.set hH) (List.prefix_refl _)⟩
theorem Ext.setD {H : Hp} {p : Addr} {xs : List (Key × V)} {o : HO} (h : H p = some (.dK xs)) : Ext H (upd H p o) := .upd_of h (fun _ z => nomatch z) (fun _ _ z => nomatch z) fun _ _ => codeO_is fun _ z => nomatch z
/-- a heap with code objects alone up to a -/
def codeHeap (a : Addr) (q : Str) : Heap := { objs := Array.replicate (a + 1) { cls := .none, data := .fields #[.none, .str q 0] } }
theorem codeHeap_get {a b : Addr} {q : Str} {o : Obj} (h : (codeHeap a q).get? b = some o) : o.data = .fields #[.none, .str q 0] := by
  unfold codeHeap Heap.get? at h
  rw [Array.getElem?_replicate] at h
  split at h
  · rename_i e; split at e <;> cases e
  · split at h
    · cases h; rfl
    · cases h
theorem codeHeap_at (a : Addr) (q : Str) : (codeHeap a q).get? a = some { cls := .none, data := .fields #[.none, .str q 0] } := by
  unfold codeHeap Heap.get?
  rw [Array.getElem?_replicate, if_pos (Nat.lt_succ_self a)]
theorem codeO_dt {a p : Addr} {q : Str} {xs : List TE3} : LamX.CodeO a q ≠ DtO p xs := fun z => by
  unfold LamX.CodeO DtO at z
  injection z with z
  have h : DtP p xs (codeHeap a q) := by
    rw [← z]
    exact ⟨_, _, 0, codeHeap_at a q, rfl, rfl⟩
  obtain ⟨_, o, es, ep, h1, _, h2, _⟩ := h
  rw [codeHeap_get h1] at h2
  cases h2
theorem Ext.setT {H : Hp} {p : Addr} {xs : List TE3} {o : HO} (h : H p = some (DtO p xs)) : Ext H (upd H p o) := .upd_of h (fun _ z => nomatch z) (fun _ _ z => nomatch z) fun _ _ => codeO_dt
/-- a box's dict changed -/
theorem HR.setD {K : PySem.W.Frag} {H : Hp} {ρ : List Addr} {S : Bxs} {n : Nat} {a : Addr} {xs0 xs : List (Key × Dt)} {vs0 vs : List (Key × V)} (h : HR K H ρ S) (hn : S[n]? = some (MBox.dk xs0)) (ha : ρ[n]? = some a) (hH : H a = some (.dK vs0)) (hd : DPs K H ρ xs vs) :
    HR K (upd H a (.dK vs)) ρ (S.set n (MBox.dk xs)) := h.setB hn rfl rfl ha (Ext.setD hH) ⟨vs, upd_same, hd.mono (Ext.setD hH) (List.prefix_refl _)⟩
/-- the heap grows otherwise (a new tuple) -/
theorem HR.tup {K : PySem.W.Frag} {H : Hp} {ρ : List Addr} {S : Bxs} {p : Addr} {o : HO} (h : HR K H ρ S) (hp : H p = none) : HR K (upd H p o) ρ S := by
  refine ⟨h.len, fun n y hy => ?_, h.inj⟩
  obtain ⟨a, h1, h2⟩ := h.at_ n y hy
  refine ⟨a, h1, h2.mono (Ext.new hp) (List.prefix_refl _) fun hm => ?_⟩
  obtain ⟨u, hu⟩ := h2.some hm
  exact upd_ne (ne_of_none hu hp)
/-! ### the slots -/
abbrev Sg := List (Option Dt)
structure Sl (K : PySem.W.Frag) (H : Hp) (ρ : List Addr) (σ : Sg) (τ : L2.St) : Prop where
  len : σ.length = τ.length
  at_ : ∀ (i : Nat) d, σ[i]? = some (some d) → ∃ v, τ[i]? = some (some v) ∧ DV K H ρ d v
theorem Sl.mono {K : PySem.W.Frag} {H H' : Hp} {ρ ρ' : List Addr} {σ : Sg} {τ : L2.St} (e : Ext H H') (p : ρ <+: ρ') (h : Sl K H ρ σ τ) : Sl K H' ρ' σ τ :=
  ⟨h.len, fun i d q => let ⟨v, h1, h2⟩ := h.at_ i d q; ⟨v, h1, h2.mono e p⟩⟩
theorem Sl.set {K : PySem.W.Frag} {H : Hp} {ρ : List Addr} {σ : Sg} {τ : L2.St} (h : Sl K H ρ σ τ) {d : Dt} {v : V} (i : Nat) (r : DV K H ρ d v) : Sl K H ρ (σ.set i (some d)) (τ.set i (some v)) := by
  refine ⟨by simp [h.len], fun j e q => ?_⟩
  by_cases hj : i = j
  · subst hj
    by_cases hi : i < σ.length
    · rw [List.getElem?_set_self hi] at q
      cases q
      exact ⟨v, by rw [List.getElem?_set_self (by rw [← h.len]; exact hi)], r⟩
    · rw [List.getElem?_eq_none (by simpa using hi)] at q
      cases q
  · rw [List.getElem?_set_ne hj] at q
    rw [List.getElem?_set_ne hj]
    exact h.at_ j e q
theorem Sl.forget {K : PySem.W.Frag} {H : Hp} {ρ : List Addr} {σ : Sg} {τ : L2.St} (h : Sl K H ρ σ τ) (i : Nat) : Sl K H ρ (σ.set i none) (τ.set i none) := by
  refine ⟨by simp [h.len], fun j e q => ?_⟩
  by_cases hj : i = j
  · subst hj
    by_cases hi : i < σ.length
    · rw [List.getElem?_set_self hi] at q
      cases q
    · rw [List.getElem?_eq_none (by simpa using hi)] at q
      cases q
  · rw [List.getElem?_set_ne hj] at q
    rw [List.getElem?_set_ne hj]
    exact h.at_ j e q
def wipeD (σ : Sg) : List Nat → Sg
  | [] => σ
  | v :: vs => (wipeD σ vs).set v none
theorem Sl.wipe {K : PySem.W.Frag} {H : Hp} {ρ : List Addr} {σ : Sg} {τ : L2.St} (h : Sl K H ρ σ τ) : ∀ vs : List Nat, Sl K H ρ (wipeD σ vs) (L2.wipe τ vs)
  | [] => h
  | v :: vs => (Sl.wipe h vs).forget v
/-- the state of both sides -/
structure Ty (K : PySem.W.Frag) (H : Hp) (ρ : List Addr) (σ : Sg) (S : Bxs) (τ : L2.St) : Prop where
  hr : HR K H ρ S
  sl : Sl K H ρ σ τ
/-- a way on -/
structure To (H H' : Hp) (ρ ρ' : List Addr) : Prop where
  ext : Ext H H'
  pre : ρ <+: ρ'
theorem To.refl (H : Hp) (ρ : List Addr) : To H H ρ ρ := ⟨Ext.refl H, List.prefix_refl _⟩
theorem To.trans {H H1 H2 : Hp} {ρ ρ1 ρ2 : List Addr} (a : To H H1 ρ ρ1) (b : To H1 H2 ρ1 ρ2) : To H H2 ρ ρ2 := ⟨a.ext.trans b.ext, a.pre.trans b.pre⟩
theorem DV.to {K : PySem.W.Frag} {H H' : Hp} {ρ ρ' : List Addr} {d : Dt} {v : V} (t : To H H' ρ ρ') (h : DV K H ρ d v) : DV K H' ρ' d v := h.mono t.ext t.pre
theorem DVs.to {K : PySem.W.Frag} {H H' : Hp} {ρ ρ' : List Addr} {d : List Dt} {v : List V} (t : To H H' ρ ρ') (h : DVs K H ρ d v) : DVs K H' ρ' d v := h.mono t.ext t.pre
theorem Sl.to {K : PySem.W.Frag} {H H' : Hp} {ρ ρ' : List Addr} {σ : Sg} {τ : L2.St} (t : To H H' ρ ρ') (h : Sl K H ρ σ τ) : Sl K H' ρ' σ τ := h.mono t.ext t.pre
/-! ### a dict is locked, and unlocked -/
end Mn
set_option Elab.async false
set_option linter.all false
set_option maxRecDepth 100000
set_option maxHeartbeats 4000000
/-! MnT: tuples that are tracked with their object: no dict. -/
namespace Mn
open PySem PySem.Spec PyProof.Rows L2
/-- «for a new tuple of ys» -/
def NewT (ys : List V) (H : Hp) (Q : VK) : Prop := ∀ p o, H p = none → PT0 o → Q (.ref p) (upd H p (.frz o (.tup ys)))
section
variable {X : Cx} {pins : List (Addr × Obj)} {σ : L2.St} {H : Hp} {s : Shared}
theorem laidT {ys : List V} {us : List Value} {tk : Nat} {Q : VK} (I : Inv X pins σ H s) (r : Vals ys us) (hz : ys.length ≤ sizeLine) (q : NewT ys H Q) :
    EP X pins σ Q (.ref s.heap.objs.size) { s with heap := s.heap.push { cls := .type "tuple", data := .seq us.toArray }, toks := tk } := by
  have nf : H s.heap.objs.size = none := I.hok.fresh (Nat.le_refl _)
  refine ⟨.ref s.heap.objs.size, _, ?_, rfl, q _ { cls := .type "tuple", data := .seq us.toArray } nf ⟨rfl, rfl⟩⟩
  refine I.laid (t' := tk) (fun b u e => Heap.get?_push_of_some _ e) (Nat.le_refl _) ?_
  exact ⟨Heap.get?_push_size _ rfl, hz, us, r, ⟨_, Heap.get?_push_size _ rfl, rfl, _, rfl⟩⟩
def tTupZ (t : TA) : TE := fun σ H Q => t σ H fun xs H1 => xs.length ≤ sizeLine ∧ NewT xs H1 Q
theorem pe_tupZ {es : List Expr} {k : Nat} {pos : Pos} {t : TA} (h : PA X es t) : PE X (.Tuple es k pos) (tTupZ t) := by
  constructor
  intro pins s σ H Q I hq
  refine wpAny_Tuple_spliced (thn (h.run pos pins s σ H _ I hq) ?_)
  rintro us s1 ⟨xs, H1, I1, r, z, q⟩
  exact ⟨by rw [← r.length]; exact z, laidT I1 r z q⟩
/-- tuple(x) -/
def rTupZ (K : PySem.W.Frag) : List V → Hp → VK → Prop := fun xs H Q => ∃ p ys, xs = [.ref p] ∧ ((SqL K H p ys ∧ NewT ys H Q) ∨ (SqT K H p ys ∧ Q (.ref p) H))
theorem call_tupleZ : CallR X (.type "tuple") (rTupZ X.K) := by
  rintro pins s σ H xs us Q I r ⟨p, ys, rfl, h⟩
  obtain ⟨u, rfl, rx⟩ := vals1 r
  cases rx
  rcases h with ⟨hq, q⟩ | ⟨hq, q⟩
  · obtain ⟨its, r', pl, hz⟩ := I.list hq
    have hn := r'.length
    refine call_tuple_list pl.isList (fun h' kp => ?_) (by rw [List.size_toArray]; omega)
    have I1 : Inv X pins σ H { s with heap := h' } := I.kept (t' := s.toks) kp
    exact laidT (tk := s.toks) I1 r' hz q
  · obtain ⟨its, r', pl, hz⟩ := I.tuple hq
    exact call_tuple_same pl ⟨.ref p, H, I, rfl, q⟩
/-- t + u -/
def rCatZ (K : PySem.W.Frag) : R2 := fun x y H Q => ∃ a b xs ys, x = .ref a ∧ y = .ref b ∧ SqT K H a xs ∧ SqT K H b ys ∧ xs.length + ys.length ≤ sizeLine ∧
  (xs = [] → Q (.ref b) H) ∧ (xs ≠ [] → ys = [] → Q (.ref a) H) ∧ (xs ≠ [] → ys ≠ [] → NewT (xs ++ ys) H Q)
theorem op_catZ : OpR X (binaryOp .Add) (rCatZ X.K) := by
  rintro pins s σ H x y v u Q I rx ry ⟨a, b, xs, ys, rfl, rfl, ha, hb, hz, q0, q1, q2⟩
  cases rx
  cases ry
  obtain ⟨its, r1, p1, _⟩ := I.tuple ha
  obtain ⟨its2, r2, p2, _⟩ := I.tuple hb
  by_cases hx : xs = []
  · subst hx
    cases r1
    exact cat_tup0 p1 p2 ⟨.ref b, H, I, rfl, q0 rfl⟩
  · have hx' : its ≠ [] := fun z => hx (r1.nil_iff.mp z)
    have hsz : its.length + its2.length ≤ sizeLine := by rw [← r1.length, ← r2.length]; exact hz
    refine HT.cat_tup p1 p2 hx' (fun z => ⟨.ref a, H, I, rfl, q1 hx (r2.nil_iff.mp z)⟩) (fun z => ?_) hsz
    exact laidT (tk := s.toks) I (r1.append r2) (by rw [List.length_append]; exact hz) (q2 hx fun w => z (r2.nil_iff.mpr w))
/-- t[lo:hi] -/
def wholeCut (n : Nat) (lo hi : Option Int) : Bool := decide (HT.sIx n 0 lo = 0) && decide (HT.sIx n n hi = n)
def rSlZ (K : PySem.W.Frag) : V → Option Int → Option Int → Hp → VK → Prop := fun x lo hi H Q => ∃ a xs, x = .ref a ∧ SqT K H a xs ∧
  (wholeCut xs.length lo hi = true → Q (.ref a) H) ∧ (wholeCut xs.length lo hi = false → NewT (cutV xs lo hi) H Q)
theorem sl_tupZ : SlR X (rSlZ X.K) := by
  rintro pins s σ H x v vl vu lo hi sl Q I rx hs pl pu ⟨a, xs, rfl, hx, q1, q2⟩
  cases rx
  obtain ⟨its, r, ht, hz⟩ := I.tuple hx
  have hlen : its.toArray.size = xs.length := by rw [List.size_toArray]; exact r.length.symm
  refine ⟨"tuple", _, PyProof.Rows.slot_tuple_getitem.lookup, ht.typeIs, ?_⟩
  cases hw : wholeCut xs.length lo hi with
  | true =>
    have hw' : HT.sIx xs.length 0 lo = 0 ∧ HT.sIx xs.length xs.length hi = xs.length := by
      unfold wholeCut at hw
      rw [Bool.and_eq_true, decide_eq_true_eq, decide_eq_true_eq] at hw
      exact hw
    exact getItem_tuple_whole ht hs pl pu (by rw [hlen]; exact hw') ⟨.ref a, H, I, rfl, q1 hw⟩
  | false =>
    have hw' : ¬ (HT.sIx xs.length 0 lo = 0 ∧ HT.sIx xs.length xs.length hi = xs.length) := fun z => by
      unfold wholeCut at hw
      rw [decide_eq_true z.1, decide_eq_true z.2] at hw
      cases hw
    refine HT.getItem_tuple_cut ht hs pl pu (by rw [hlen]; exact hw') ?_ (by rw [hlen]; exact hz)
    rw [hlen]
    have rr : Vals (cutV xs lo hi) ((its.drop (HT.sIx xs.length 0 lo)).take (HT.sIx xs.length xs.length hi - HT.sIx xs.length 0 lo)) := (r.drop _).take _
    exact laidT (tk := s.toks) I rr (Nat.le_trans (cutV_length xs lo hi) hz) (q2 hw)
end
/-! ### t * k -/
section
theorem tmul_same (l : Addr) (items : Array Value) (n : Nat) (dd : Option Addr) (sl : Array (Option Value)) (x : Int) (u : Tok)
    (c0 : (decide (x < -(2 ^ 63)) || decide (x ≥ 2 ^ 63)) = false) (c1 : (items.isEmpty || x == 1) = true) :
    Meets (Builtin.«tuple.__mul__» ⟨[.ref l, .int x u], []⟩) (fun _ Z s =>
      s.heap.get? l = some { cls := .type "tuple", dict := dd, data := .seq items n, slots := sl } ∧ Z (.ok (.ret (Value.ref l))) s) :=
  .of_wp fun prog w A Z s h => by
    obtain ⟨hp, g, d, tk, os⟩ := s
    obtain ⟨hl, h⟩ := h
    have f1 := AutoSeq1.idx_int
    wp_walk using wpAny_loadPart' hl
    repeat (first
      | (refine wpAny_ite_false (decide_eq_false (by rw [c0]; exact Bool.false_ne_true)) ?_; wp_walk using wpAny_loadPart' hl)
      | (refine wpAny_ite_true (decide_eq_true c1) ?_; wp_walk using wpAny_loadPart' hl))
    exact ⟨_, rfl, h⟩
theorem tmul_none (l : Addr) (items : Array Value) (n : Nat) (dd : Option Addr) (sl : Array (Option Value)) (x : Int) (u : Tok)
    (c0 : (decide (x < -(2 ^ 63)) || decide (x ≥ 2 ^ 63)) = false) (c1 : (items.isEmpty || x == 1) = false) (c2 : (decide (x ≤ 0) || items.isEmpty) = true) :
    Meets (Builtin.«tuple.__mul__» ⟨[.ref l, .int x u], []⟩) (fun _ Z s =>
      s.heap.get? l = some { cls := .type "tuple", dict := dd, data := .seq items n, slots := sl } ∧
        Z (.ok (.ret (Value.ref s.heap.objs.size))) { s with heap := s.heap.push { cls := Value.type "tuple", data := Data.seq #[] }, toks := s.toks }) :=
  .of_wp fun prog w A Z s h => by
    obtain ⟨hp, g, d, tk, os⟩ := s
    obtain ⟨hl, h⟩ := h
    have f1 := AutoSeq1.idx_int
    wp_walk using wpAny_loadPart' hl
    repeat (first
      | (refine wpAny_ite_false (decide_eq_false (by rw [c0]; exact Bool.false_ne_true)) ?_; wp_walk using wpAny_loadPart' hl)
      | (refine wpAny_ite_false (decide_eq_false (by rw [c1]; exact Bool.false_ne_true)) ?_; wp_walk using wpAny_loadPart' hl)
      | (refine wpAny_ite_true (decide_eq_true c2) ?_; wp_walk using wpAny_loadPart' hl))
    exact ⟨_, rfl, h⟩
def rRepZ (K : PySem.W.Frag) : R2 := fun x y H Q => ∃ l k xs, x = .ref l ∧ y = .int k ∧ SqT K H l xs ∧ xs ≠ [] ∧ -1000 ≤ k ∧ k ≤ 1000 ∧ xs.length ≤ 100 ∧
  (k = 1 → Q (.ref l) H) ∧ (k ≤ 0 → NewT [] H Q) ∧ (2 ≤ k → NewT (List.replicate k.toNat xs).flatten H Q)
variable {X : Cx}
theorem op_repZ : OpR X (binaryOp .Mult) (rRepZ X.K) := by
  rintro pins s σ H x y v u Q I rx ry ⟨l, k, xs, rfl, rfl, hT, hne, h1, h2, hz, q1, q0, q2⟩
  cases rx
  obtain ⟨t, rfl⟩ := ry
  obtain ⟨its, r, ⟨⟨cls, dd, data, sl⟩, ho, hc, n, hd⟩, hs⟩ := I.tuple hT
  simp only at hc hd
  subst hc hd
  have hle : its.length = xs.length := r.length.symm
  have hi : its.toArray.isEmpty = false := by
    cases its with
    | nil => exact absurd (List.eq_nil_of_length_eq_zero hle.symm) hne
    | cons a b => rfl
  have c0 : (decide (k < -(2 ^ 63)) || decide (k ≥ 2 ^ 63)) = false := by
    rw [decide_eq_false (by omega), decide_eq_false (by omega)] <;> rfl
  by_cases hk1 : k = 1
  · have c1 : (its.toArray.isEmpty || k == 1) = true := by rw [hk1]; simp
    refine wpAny_binaryOp_repeat_ref (T := "tuple") (U := "int") (by decide) ⟨_, ho, rfl⟩ (fun s' => typeIs_int s' k t) noFill_tuple_mul F.fills_int_mul F.slot_int_rmul repeat_tuple F.slot_int_index.lookup
      (call_meets F.slot_int_rmul (typeIs_int s k t) F.entry_int_rmul (F.args_int_rmul_2 _ _) (int_rmul_tuple k t l its.toArray n dd sl)
        ⟨ho, rfl, ⟨_, ho, rfl⟩, call_meets F.slot_tuple_mul ⟨_, ho, rfl⟩ F.entry_tuple_mul (F.args_tuple_mul_2 _ _) (tmul_same l its.toArray n dd sl k t c0 c1) ⟨ho, ?_⟩⟩)
    exact ⟨.ref l, H, I, rfl, q1 hk1⟩
  · have c1 : (its.toArray.isEmpty || k == 1) = false := by
      rw [hi, Bool.false_or]
      exact beq_eq_false_iff_ne.mpr hk1
    by_cases hk0 : k ≤ 0
    · have c2 : (decide (k ≤ 0) || its.toArray.isEmpty) = true := by rw [decide_eq_true hk0]; rfl
      refine wpAny_binaryOp_repeat_ref (T := "tuple") (U := "int") (by decide) ⟨_, ho, rfl⟩ (fun s' => typeIs_int s' k t) noFill_tuple_mul F.fills_int_mul F.slot_int_rmul repeat_tuple F.slot_int_index.lookup
        (call_meets F.slot_int_rmul (typeIs_int s k t) F.entry_int_rmul (F.args_int_rmul_2 _ _) (int_rmul_tuple k t l its.toArray n dd sl)
          ⟨ho, rfl, ⟨_, ho, rfl⟩, call_meets F.slot_tuple_mul ⟨_, ho, rfl⟩ F.entry_tuple_mul (F.args_tuple_mul_2 _ _) (tmul_none l its.toArray n dd sl k t c0 c1 c2) ⟨ho, ?_⟩⟩)
      exact laidT (us := []) (tk := s.toks) I .nil (by decide) (q0 hk0)
    · have hsz0 : its.toArray.size = xs.length := by rw [List.size_toArray, hle]
      have hm : ((its.toArray.size : Nat) : Int) * k ≤ 100000 := by
        rw [hsz0]
        have a1 : ((xs.length : Nat) : Int) * k ≤ 100 * k := Int.mul_le_mul_of_nonneg_right (by omega) (by omega)
        omega
      have a2 : k.toNat * xs.length ≤ 1000 * 100 := Nat.mul_le_mul (by omega) hz
      have flen : (List.replicate k.toNat its).flatten.length ≤ sizeLine := by
        rw [PyProof.Rows.lm_len_rep_flat, hle, sizeLine_eq]
        omega
      have c2 : (decide (k ≤ 0) || its.toArray.isEmpty) = false := by
        rw [hi, Bool.or_false]
        exact decide_eq_false hk0
      have c4 : Builtin.Tuple.tupleTooMany (((its.toArray.size : Nat) : Int) * k) = false := by
        unfold Builtin.Tuple.tupleTooMany
        rw [sizeLine_eq]
        exact decide_eq_false (by omega)
      refine wpAny_binaryOp_repeat_ref (T := "tuple") (U := "int") (by decide) ⟨_, ho, rfl⟩ (fun s' => typeIs_int s' k t) noFill_tuple_mul F.fills_int_mul F.slot_int_rmul repeat_tuple F.slot_int_index.lookup
        (call_meets F.slot_int_rmul (typeIs_int s k t) F.entry_int_rmul (F.args_int_rmul_2 _ _) (int_rmul_tuple k t l its.toArray n dd sl)
          ⟨ho, rfl, ⟨_, ho, rfl⟩, call_meets F.slot_tuple_mul ⟨_, ho, rfl⟩ F.entry_tuple_mul (F.args_tuple_mul_2 _ _) (tuple_mulW l its.toArray n dd sl k t c0 c1 c2 (by omega) c4 (by rw [size_rep, List.size_toArray]; exact flen)) ⟨ho, ?_⟩⟩)
      rw [size_rep]
      exact laidT (tk := s.toks) I (r.rep k.toNat) (by rw [PyProof.Rows.lm_len_rep_flat, sizeLine_eq]; omega) (q2 (by omega))
end
end Mn
set_option Elab.async false
set_option linter.all false
set_option maxRecDepth 100000
set_option maxHeartbeats 4000000
/-! MnB: what an expression comes to, on plain data. -/
namespace Mn
open PySem PySem.Spec PyProof.Rows L2
/-- what is wanted of an exception, at the data: its class's number, its fields, the boxes; the heap, the boxes' places -/
abbrev ER := Nat → List Dt → Bxs → Hp → List Addr → Prop
def KO (K : PySem.W.Frag) (H : Hp) (ρ : List Addr) (Q : VK) : Dt → Bxs → Prop := fun d S' => ∀ v H' ρ', To H H' ρ ρ' → HR K H' ρ' S' → DV K H' ρ' d v → Q v H'
def KB (K : PySem.W.Frag) (H : Hp) (ρ : List Addr) (Q : Bool → Hp → Prop) : Bool → Bxs → Prop := fun b S' => ∀ H' ρ', To H H' ρ ρ' → HR K H' ρ' S' → Q b H'
def KA (K : PySem.W.Frag) (H : Hp) (ρ : List Addr) (Q : List V → Hp → Prop) : List Dt → Bxs → Prop := fun ds S' => ∀ vs H' ρ', To H H' ρ ρ' → HR K H' ρ' S' → DVs K H' ρ' ds vs → Q vs H'
def KX (Er : ER) (H : Hp) (ρ : List Addr) : Nat → List Dt → Bxs → Prop := fun c ds S' => ∀ H' ρ', To H H' ρ ρ' → Er c ds S' H' ρ'
theorem KX.to {Er : ER} {H H1 : Hp} {ρ ρ1 : List Addr} (t : To H H1 ρ ρ1) {c : Nat} {ds : List Dt} {S : Bxs} (h : KX Er H ρ c ds S) : KX Er H1 ρ1 c ds S := fun H' ρ' t' => h H' ρ' (t.trans t')
abbrev noX : Nat → List Dt → Bxs → Prop := fun _ _ _ => False
abbrev FE := Sg → Bxs → Rs Dt
abbrev FB := Sg → Bxs → Rs Bool
abbrev FA := Sg → Bxs → Rs (List Dt)
structure SE (X : Cx) (Er : ER) (e : Expr) (f : FE) : Prop where
  ex : ∃ te, PE X e te ∧ ∀ τ H ρ σ S Q, Ty X.K H ρ σ S τ → (f σ S).Sat (KO X.K H ρ Q) (KX Er H ρ) → te τ H Q
structure ST (X : Cx) (Er : ER) (e : Expr) (f : FB) : Prop where
  ex : ∃ tt, PT X e tt ∧ ∀ τ H ρ σ S Q, Ty X.K H ρ σ S τ → (f σ S).Sat (KB X.K H ρ Q) (KX Er H ρ) → tt τ H Q
structure SA (X : Cx) (Er : ER) (es : List Expr) (f : FA) : Prop where
  ex : ∃ ta, PA X es ta ∧ ∀ τ H ρ σ S Q, Ty X.K H ρ σ S τ → (f σ S).Sat (KA X.K H ρ Q) (KX Er H ρ) → ta τ H Q
/-- one step of a chain: from the first part's answer to the second's -/
theorem link {α β : Type} {r : Rs α} {k : α → Bxs → Rs β} {P : β → Bxs → Prop} {E : Nat → List Dt → Bxs → Prop} (h : (r.bind k).Sat P E) : r.Sat (fun a s => (k a s).Sat P E) E := Rs.sat_bind.mp h
section
variable {X : Cx} {Er : ER} {K : PySem.W.Frag} {H H1 : Hp} {ρ ρ1 : List Addr} {σ : Sg} {S S1 : Bxs} {τ : L2.St}
theorem Ty.to (t : To H H1 ρ ρ1) (h : Ty K H ρ σ S τ) (hr : HR K H1 ρ1 S1) : Ty K H1 ρ1 σ S1 τ := ⟨hr, h.sl.to t⟩
theorem Rs.Sat.toO {r : Rs Dt} {Q : VK} (t : To H H1 ρ ρ1) (h : r.Sat (KO K H ρ Q) (KX Er H ρ)) : r.Sat (KO K H1 ρ1 Q) (KX Er H1 ρ1) :=
  h.mono (fun _ _ q v H' ρ' t' => q v H' ρ' (t.trans t')) fun _ _ _ q => q.to t
theorem Rs.Sat.toB {r : Rs Bool} {Q : Bool → Hp → Prop} (t : To H H1 ρ ρ1) (h : r.Sat (KB K H ρ Q) (KX Er H ρ)) : r.Sat (KB K H1 ρ1 Q) (KX Er H1 ρ1) :=
  h.mono (fun _ _ q H' ρ' t' => q H' ρ' (t.trans t')) fun _ _ _ q => q.to t
/-! ### names, constants -/
def dVar (i : Nat) : FE := fun σ S => match σ[i]? with
  | some (some d) => .ok d S
  | _ => .no
theorem se_var (i : Nat) {x : Str} {pos : Pos} (hN : X.N[i]? = some x := by rfl) (hv : Vis X.env.scope x := by first | exact Or.inl rfl | exact Or.inr (Or.inl rfl) | exact Or.inr (Or.inr rfl)) (hd : (x == ("__debug__" : Str)) = false := by decide)
    (hcd : (x == ("__classdict__" : Str)) = false := by decide) : SE X Er (.Name x pos) (dVar i) := by
  refine ⟨_, pe_var hN hv hd hcd, fun τ H ρ σ S Q T h => ?_⟩
  unfold dVar at h
  cases e : σ[i]? with
  | none => rw [e] at h; exact h.elim
  | some o =>
    cases o with
    | none => rw [e] at h; exact h.elim
    | some d =>
      rw [e] at h
      obtain ⟨v, h1, h2⟩ := T.sl.at_ i d e
      exact ⟨v, h1, h v H ρ (To.refl _ _) T.hr h2⟩
def dC (d : Dt) : FE := fun _ S => .ok d S
theorem se_int {i j pos} : SE X Er (.Constant (.int i) j pos) (dC (.int i)) := ⟨_, pe_int, fun τ H ρ σ S Q T h => h _ H ρ (To.refl _ _) T.hr (.int i)⟩
theorem se_bl {b j pos} : SE X Er (.Constant (.bool b) j pos) (dC (.bl b)) := ⟨_, pe_bl, fun τ H ρ σ S Q T h => h _ H ρ (To.refl _ _) T.hr (.bl b)⟩
theorem se_non {j pos} : SE X Er (.Constant .none j pos) (dC .non) := ⟨_, pe_non, fun τ H ρ σ S Q T h => h _ H ρ (To.refl _ _) T.hr .non⟩
theorem se_str {x j pos} : SE X Er (.Constant (.str x) j pos) (dC (.str x)) := ⟨_, pe_str, fun τ H ρ σ S Q T h => h _ H ρ (To.refl _ _) T.hr (.str x)⟩
/-- a module's constant -/
theorem se_glob {x : Str} {i : Int} {t : Tok} {pos : Pos} (hg : Gl X x) (hm : X.mg x = some (.int i t)) (hd : (x == ("__debug__" : Str)) = false := by decide) : SE X Er (.Name x pos) (dC (.int i)) :=
  ⟨_, pe_glob (v := .int i) hg hm ⟨t, rfl⟩ hd, fun τ H ρ σ S Q T h => h _ H ρ (To.refl _ _) T.hr (.int i)⟩
/-! ### two places -/
abbrev G2 := Dt → Dt → Bxs → Rs Dt
def dBin (g : G2) (a b : FE) : FE := fun σ S => (a σ S).bind fun x S1 => (b σ S1).bind fun y S2 => g x y S2
/-- the operation by values keeps to g -/
def RO (K : PySem.W.Frag) (r : R2) (g : G2) : Prop := ∀ H ρ S x y xv yv Q, HR K H ρ S → DV K H ρ x xv → DV K H ρ y yv → (g x y S).Sat (KO K H ρ Q) noX → r xv yv H Q
/-- nothing is raised by g -/
def Calm2 (g : G2) : Prop := ∀ x y S c ds S', g x y S ≠ .ex c ds S'
theorem sat_calm {α : Type} {r : Rs α} {P : α → Bxs → Prop} {E : Nat → List Dt → Bxs → Prop} (hc : ∀ c ds S', r ≠ .ex c ds S') (h : r.Sat P E) : r.Sat P noX := by
  cases r with
  | ok a s => exact h
  | ex c ds s => exact absurd rfl (hc c ds s)
  | no => exact h
theorem bin_sat {fa fb : FE} {g : G2} {ta tb : TE} {r : R2} (ha : ∀ τ H ρ σ S Q, Ty X.K H ρ σ S τ → (fa σ S).Sat (KO X.K H ρ Q) (KX Er H ρ) → ta τ H Q) (hb : ∀ τ H ρ σ S Q, Ty X.K H ρ σ S τ → (fb σ S).Sat (KO X.K H ρ Q) (KX Er H ρ) → tb τ H Q)
    (hr : RO X.K r g) (hc : Calm2 g) {τ : L2.St} {Q : VK} (T : Ty X.K H ρ σ S τ) (h : (dBin g fa fb σ S).Sat (KO X.K H ρ Q) (KX Er H ρ)) : ta τ H fun x H1 => tb τ H1 fun y H2 => r x y H2 Q := by
  refine ha τ H ρ σ S _ T ((link h).mono (fun x S1 h1 => ?_) fun _ _ _ q => q)
  intro xv H1 ρ1 t1 hr1 dx
  refine hb τ H1 ρ1 σ S1 _ (T.to t1 hr1) ((link h1).mono (fun y S2 h2 => ?_) fun _ _ _ q => q.to t1)
  intro yv H2 ρ2 t2 hr2 dy
  exact hr H2 ρ2 S2 x y xv yv Q hr2 (dx.to t2) dy (sat_calm (hc x y S2) (Rs.Sat.toO (t1.trans t2) h2))
theorem se_bin {a b : Expr} {op : Operator} {pos : Pos} {fa fb : FE} {g : G2} {r : R2} (ho : OpR X (binaryOp op) r) (hr : RO X.K r g) (hc : Calm2 g) (ha : SE X Er a fa) (hb : SE X Er b fb) : SE X Er (.BinOp a op b pos) (dBin g fa fb) := by
  obtain ⟨ta, pa, qa⟩ := ha.ex
  obtain ⟨tb, pb, qb⟩ := hb.ex
  exact ⟨_, pe_op ho pa pb, fun τ H ρ σ S Q T h => bin_sat qa qb hr hc T h⟩
theorem se_cmp {a b : Expr} {op : CmpOp} {pos : Pos} {fa fb : FE} {g : G2} {r : R2} (ho : OpR X (compareOp op) r) (hr : RO X.K r g) (hc : Calm2 g) (ha : SE X Er a fa) (hb : SE X Er b fb) (hm : behindInMarks op b = false := by rfl) : SE X Er (.Compare a [op] [b] pos) (dBin g fa fb) := by
  obtain ⟨ta, pa, qa⟩ := ha.ex
  obtain ⟨tb, pb, qb⟩ := hb.ex
  exact ⟨_, pe_cmpR ho pa pb hm, fun τ H ρ σ S Q T h => bin_sat qa qb hr hc T h⟩
/-- a comparison as a test -/
def dTrue (f : FE) : FB := fun σ S => (f σ S).bind fun d S1 => match d with
  | .bl b => .ok b S1
  | _ => .no
theorem true_sat {f : FE} {Q : Bool → Hp → Prop} (h : (dTrue f σ S).Sat (KB K H ρ Q) (KX Er H ρ)) : (f σ S).Sat (KO K H ρ fun x H1 => ∃ c, x = V.bl c ∧ Q c H1) (KX Er H ρ) :=
  (link h).mono (fun d S1 h1 => by
    intro v H' ρ' t hr dv
    cases dv with
    | bl b => exact ⟨b, rfl, h1 H' ρ' t hr⟩
    | _ => exact h1.elim) fun _ _ _ q => q
theorem st_cmp {a b : Expr} {op : CmpOp} {pos : Pos} {fa fb : FE} {g : G2} {r : R2} (ho : OpR X (compareOp op) r) (hr : RO X.K r g) (hc : Calm2 g) (ha : SE X Er a fa) (hb : SE X Er b fb) (hm : behindInMarks op b = false := by rfl) : ST X Er (.Compare a [op] [b] pos) (dTrue (dBin g fa fb)) := by
  obtain ⟨ta, pa, qa⟩ := ha.ex
  obtain ⟨tb, pb, qb⟩ := hb.ex
  exact ⟨_, pt_cmpR ho pa pb hm, fun τ H ρ σ S Q T h => bin_sat qa qb hr hc T (true_sat h)⟩
/-- an expression that gives True or False, as a test -/
theorem st_val {e : Expr} {f : FE} (h : SE X Er e f) (he : ∀ whole, isTrue e X.env whole = (do let v ← whole; standAt e.pos; holding [v] (truthy v)) := by intro _; rfl) : ST X Er e (dTrue f) := by
  obtain ⟨te, p, q⟩ := h.ex
  exact ⟨_, pt_val p he, fun τ H ρ σ S Q T h => q τ H ρ σ S _ T (true_sat h)⟩
/-- is None, is not None -/
def Dt.isN : Dt → Bool
  | .non => true
  | _ => false
def dIsN (a : FE) : FE := fun σ S => (a σ S).bind fun d S1 => .ok (.bl d.isN) S1
def dNotN (a : FE) : FE := fun σ S => (a σ S).bind fun d S1 => .ok (.bl (!d.isN)) S1
theorem non_iff {d : Dt} {v : V} (h : DV K H ρ d v) : decide (v = .non) = d.isN := by
  cases h <;> first | rfl | exact decide_eq_false (fun z => nomatch z)
/-! ### and, or, not, if else -/
def dAnd (a b : FB) : FB := fun σ S => (a σ S).bind fun c S1 => if c = true then b σ S1 else .ok false S1
def dOr (a b : FB) : FB := fun σ S => (a σ S).bind fun c S1 => if c = true then .ok true S1 else b σ S1
def dNot (a : FB) : FB := fun σ S => (a σ S).bind fun c S1 => .ok (!c) S1
structure SW (X : Cx) (Er : ER) (e : Expr) (f : FB) : Prop where
  ex : ∃ tt, PW X e tt ∧ ∀ τ H ρ σ S Q, Ty X.K H ρ σ S τ → (f σ S).Sat (KB X.K H ρ Q) (KX Er H ρ) → tt τ H Q
theorem SW.st {e : Expr} {f : FB} (h : SW X Er e f) : ST X Er e f := let ⟨t, p, q⟩ := h.ex; ⟨t, p.pt, q⟩
theorem sw_and1 {a : Expr} {fa : FB} {pos : Pos} (h : ST X Er a fa) : SW X Er (.BoolOp .And [a] pos) fa := let ⟨_, p, q⟩ := h.ex; ⟨_, pw_and1 p, q⟩
theorem sw_or1 {a : Expr} {fa : FB} {pos : Pos} (h : ST X Er a fa) : SW X Er (.BoolOp .Or [a] pos) fa := let ⟨_, p, q⟩ := h.ex; ⟨_, pw_or1 p, q⟩
theorem sw_and {a b : Expr} {rest : List Expr} {fa fb : FB} {pos : Pos} (ha : ST X Er a fa) (hb : SW X Er (.BoolOp .And (b :: rest) pos) fb) : SW X Er (.BoolOp .And (a :: b :: rest) pos) (dAnd fa fb) := by
  obtain ⟨ta, pa, qa⟩ := ha.ex
  obtain ⟨tb, pb, qb⟩ := hb.ex
  refine ⟨_, pw_and pa pb, fun τ H ρ σ S Q T h => qa τ H ρ σ S _ T ((link h).mono (fun c S1 h1 => ?_) fun _ _ _ q => q)⟩
  intro H' ρ' t hr
  cases c with
  | true =>
    rw [if_pos rfl] at h1 ⊢
    exact qb τ H' ρ' σ S1 Q (T.to t hr) (Rs.Sat.toB t h1)
  | false =>
    rw [if_neg Bool.false_ne_true] at h1 ⊢
    exact h1 H' ρ' t hr
theorem sw_or {a b : Expr} {rest : List Expr} {fa fb : FB} {pos : Pos} (ha : ST X Er a fa) (hb : SW X Er (.BoolOp .Or (b :: rest) pos) fb) : SW X Er (.BoolOp .Or (a :: b :: rest) pos) (dOr fa fb) := by
  obtain ⟨ta, pa, qa⟩ := ha.ex
  obtain ⟨tb, pb, qb⟩ := hb.ex
  refine ⟨_, pw_or pa pb, fun τ H ρ σ S Q T h => qa τ H ρ σ S _ T ((link h).mono (fun c S1 h1 => ?_) fun _ _ _ q => q)⟩
  intro H' ρ' t hr
  cases c with
  | false =>
    rw [if_neg Bool.false_ne_true] at h1 ⊢
    exact qb τ H' ρ' σ S1 Q (T.to t hr) (Rs.Sat.toB t h1)
  | true =>
    rw [if_pos rfl] at h1 ⊢
    exact h1 H' ρ' t hr
theorem st_not {a : Expr} {fa : FB} {pos : Pos} (ha : ST X Er a fa) : ST X Er (.UnaryOp .Not a pos) (dNot fa) := by
  obtain ⟨ta, pa, qa⟩ := ha.ex
  refine ⟨_, pt_not pa, fun τ H ρ σ S Q T h => qa τ H ρ σ S _ T ((link h).mono (fun c S1 h1 => ?_) fun _ _ _ q => q)⟩
  intro H' ρ' t hr
  exact h1 H' ρ' t hr
def dAndV (a b : FE) : FE := fun σ S => (a σ S).bind fun d S1 => match d with
  | .bl true => b σ S1
  | .bl false => .ok (.bl false) S1
  | _ => .no
def dOrV (a b : FE) : FE := fun σ S => (a σ S).bind fun d S1 => match d with
  | .bl true => .ok (.bl true) S1
  | .bl false => b σ S1
  | _ => .no
theorem se_one {op} {a : Expr} {fa : FE} {pos : Pos} (h : SE X Er a fa) : SE X Er (.BoolOp op [a] pos) fa := let ⟨_, p, q⟩ := h.ex; ⟨_, pe_one p, q⟩
theorem se_and {a b : Expr} {rest : List Expr} {fa fb : FE} {pos : Pos} (ha : SE X Er a fa) (hb : SE X Er (.BoolOp .And (b :: rest) pos) fb) : SE X Er (.BoolOp .And (a :: b :: rest) pos) (dAndV fa fb) := by
  obtain ⟨ta, pa, qa⟩ := ha.ex
  obtain ⟨tb, pb, qb⟩ := hb.ex
  refine ⟨_, pe_and pa pb, fun τ H ρ σ S Q T h => qa τ H ρ σ S _ T ((link h).mono (fun d S1 h1 => ?_) fun _ _ _ q => q)⟩
  intro v H' ρ' t hr dv
  cases dv with
  | bl b =>
    refine ⟨b, rfl, ?_⟩
    cases b with
    | true =>
      rw [if_pos rfl]
      exact qb τ H' ρ' σ S1 Q (T.to t hr) (Rs.Sat.toO t h1)
    | false =>
      rw [if_neg Bool.false_ne_true]
      exact h1 _ H' ρ' t hr (.bl _)
  | _ => exact h1.elim
theorem se_or {a b : Expr} {rest : List Expr} {fa fb : FE} {pos : Pos} (ha : SE X Er a fa) (hb : SE X Er (.BoolOp .Or (b :: rest) pos) fb) : SE X Er (.BoolOp .Or (a :: b :: rest) pos) (dOrV fa fb) := by
  obtain ⟨ta, pa, qa⟩ := ha.ex
  obtain ⟨tb, pb, qb⟩ := hb.ex
  refine ⟨_, pe_or pa pb, fun τ H ρ σ S Q T h => qa τ H ρ σ S _ T ((link h).mono (fun d S1 h1 => ?_) fun _ _ _ q => q)⟩
  intro v H' ρ' t hr dv
  cases dv with
  | bl b =>
    refine ⟨b, rfl, ?_⟩
    cases b with
    | true =>
      rw [if_pos rfl]
      exact h1 _ H' ρ' t hr (.bl _)
    | false =>
      rw [if_neg Bool.false_ne_true]
      exact qb τ H' ρ' σ S1 Q (T.to t hr) (Rs.Sat.toO t h1)
  | _ => exact h1.elim
def dIf (c : FB) (a b : FE) : FE := fun σ S => (c σ S).bind fun k S1 => if k = true then a σ S1 else b σ S1
theorem se_if {c a b : Expr} {fc : FB} {fa fb : FE} {pos : Pos} (hc : ST X Er c fc) (ha : SE X Er a fa) (hb : SE X Er b fb) : SE X Er (.IfExp c a b pos) (dIf fc fa fb) := by
  obtain ⟨tc, pc, qc⟩ := hc.ex
  obtain ⟨ta, pa, qa⟩ := ha.ex
  obtain ⟨tb, pb, qb⟩ := hb.ex
  refine ⟨_, pe_ifExp pc pa pb, fun τ H ρ σ S Q T h => qc τ H ρ σ S _ T ((link h).mono (fun k S1 h1 => ?_) fun _ _ _ q => q)⟩
  intro H' ρ' t hr
  cases k with
  | true =>
    rw [if_pos rfl] at h1 ⊢
    exact qa τ H' ρ' σ S1 Q (T.to t hr) (Rs.Sat.toO t h1)
  | false =>
    rw [if_neg Bool.false_ne_true] at h1 ⊢
    exact qb τ H' ρ' σ S1 Q (T.to t hr) (Rs.Sat.toO t h1)
/-! ### argument lists, displays -/
def aNil : FA := fun _ S => .ok [] S
def aCons (a : FE) (r : FA) : FA := fun σ S => (a σ S).bind fun d S1 => (r σ S1).bind fun ds S2 => .ok (d :: ds) S2
theorem sa_nil : SA X Er [] aNil := ⟨_, pa_nil, fun τ H ρ σ S Q T h => h [] H ρ (To.refl _ _) T.hr .nil⟩
theorem sa_cons {e : Expr} {es : List Expr} {f : FE} {g : FA} (ha : SE X Er e f) (hr : SA X Er es g) (hs : starEach (e :: es) X.env = (false, eval e X.env) :: starEach es X.env := by rfl) : SA X Er (e :: es) (aCons f g) := by
  obtain ⟨ta, pa, qa⟩ := ha.ex
  obtain ⟨tr, pr, qr⟩ := hr.ex
  refine ⟨_, pa_cons pa pr hs, fun τ H ρ σ S Q T h => qa τ H ρ σ S _ T ((link h).mono (fun d S1 h1 => ?_) fun _ _ _ q => q)⟩
  intro v H1 ρ1 t1 hr1 dv
  refine qr τ H1 ρ1 σ S1 _ (T.to t1 hr1) ((link h1).mono (fun ds S2 h2 => ?_) fun _ _ _ q => q.to t1)
  intro vs H2 ρ2 t2 hr2 dvs
  exact h2 (v :: vs) H2 ρ2 (t1.trans t2) hr2 (.cons (dv.to t2) dvs)
/-- lists of this length may stand anywhere -/
def LIM : Nat := 100000
theorem lim_le {n : Nat} (h : n ≤ LIM) : n ≤ sizeLine := Nat.le_trans h (by decide)
theorem lim_lt {n : Nat} (h : n < LIM) : n < sizeLine := Nat.lt_of_lt_of_le h (by decide)
def dTup (a : FA) : FE := fun σ S => (a σ S).bind fun ds S1 => if ds.length ≤ LIM then .ok (.tup ds) S1 else .no
/-- a new list -/
def newL (ds : List Dt) (S : Bxs) : Rs Dt := if ds.length ≤ LIM then .ok (.box S.length) (S ++ [.lst ds]) else .no
def dLst (a : FA) : FE := fun σ S => (a σ S).bind newL
theorem new_tup {Q : VK} {ds : List Dt} {vs : List V} (hr : HR K H ρ S) (dvs : DVs K H ρ ds vs) (h : KO K H ρ Q (.tup ds) S) : NewT vs H Q := fun p o hp po =>
  h _ _ ρ ⟨Ext.new hp, List.prefix_refl _⟩ (hr.tup hp) (.tup (.inl ⟨o, upd_same, po⟩) (dvs.mono (Ext.new hp) (List.prefix_refl _)))
theorem new_lst {Q : VK} {ds : List Dt} {vs : List V} {p : Addr} (hr : HR K H ρ S) (dvs : DVs K H ρ ds vs) (hp : H p = none) (h : KO K H ρ Q (.box S.length) (S ++ [.lst ds])) : Q (.ref p) (upd H p (.lst vs)) := by
  refine h _ _ (ρ ++ [p]) ⟨Ext.new hp, List.prefix_append _ _⟩ (hr.new hp dvs) (.box ?_)
  rw [← hr.len, List.getElem?_append_right (Nat.le_refl _), Nat.sub_self]; rfl
theorem se_tup {es : List Expr} {x1} {f : FA} {pos : Pos} (h : SA X Er es f) : SE X Er (.Tuple es x1 pos) (dTup f) := by
  obtain ⟨ta, pa, qa⟩ := h.ex
  refine ⟨_, pe_tupZ pa, fun τ H ρ σ S Q T h => qa τ H ρ σ S _ T ((link h).mono (fun ds S1 h1 => ?_) fun _ _ _ q => q)⟩
  intro vs H1 ρ1 t1 hr1 dvs
  by_cases hl : ds.length ≤ LIM
  · rw [if_pos hl] at h1
    refine ⟨by rw [← dvs.length]; exact lim_le hl, new_tup hr1 dvs ?_⟩
    exact fun v H' ρ' t' => h1 v H' ρ' (t1.trans t')
  · rw [if_neg hl] at h1
    exact h1.elim
theorem se_lst {es : List Expr} {f : FA} {pos : Pos} (h : SA X Er es f) : SE X Er (.List es pos) (dLst f) := by
  obtain ⟨ta, pa, qa⟩ := h.ex
  refine ⟨_, pe_lst pa, fun τ H ρ σ S Q T h => qa τ H ρ σ S _ T ((link h).mono (fun ds S1 h1 => ?_) fun _ _ _ q => q)⟩
  intro vs H1 ρ1 t1 hr1 dvs
  unfold newL at h1
  by_cases hl : ds.length ≤ LIM
  · rw [if_pos hl] at h1
    refine ⟨by rw [← dvs.length]; exact lim_le hl, fun p hp => new_lst hr1 dvs hp ?_⟩
    exact fun v H' ρ' t' => h1 v H' ρ' (t1.trans t')
  · rw [if_neg hl] at h1
    exact h1.elim
end
end Mn
set_option Elab.async false
set_option linter.all false
set_option maxRecDepth 100000
set_option maxHeartbeats 4000000
/-! MnC: the operations on plain data. -/
namespace Mn
open PySem PySem.Spec PyProof.Rows L2
section
variable {X : Cx} {Er : ER} {K : PySem.W.Frag} {H H1 : Hp} {ρ ρ1 : List Addr} {σ : Sg} {S S1 : Bxs} {τ : L2.St}
/-! ### what a box holds -/
def Bxs.lst (S : Bxs) (n : Nat) : Option (List Dt) := match S[n]? with
  | some (.lst xs) => some xs
  | _ => none
/-- .. to be read -/
def Bxs.seq (S : Bxs) (n : Nat) : Option (List Dt) := match S[n]? with
  | some (.lst xs) => some xs
  | some (.ro xs) => some xs
  | _ => none
theorem lst_get {n : Nat} {xs : List Dt} (h : S.lst n = some xs) : S[n]? = some (MBox.lst xs) := by
  unfold Bxs.lst at h
  cases e : S[n]? with
  | none => rw [e] at h; cases h
  | some b =>
    rw [e] at h
    cases b <;> cases h
    rfl
theorem HR.rd {n : Nat} {a : Addr} {xs : List Dt} (hr : HR K H ρ S) (ha : ρ[n]? = some a) (h : S.seq n = some xs) : ∃ vs, SqL K H a vs ∧ DVs K H ρ xs vs := by
  unfold Bxs.seq at h
  cases e : S[n]? with
  | none => rw [e] at h; cases h
  | some b =>
    rw [e] at h
    cases b with
    | lst ys =>
      cases h
      obtain ⟨a', vs, h1, h2, h3⟩ := hr.lst n _ e
      rw [ha] at h1; cases h1
      exact ⟨vs, SqL.of h2, h3⟩
    | ro ys =>
      cases h
      obtain ⟨a', vs, h1, h2, h3⟩ := hr.ro n _ e
      rw [ha] at h1; cases h1
      exact ⟨vs, h2.sql, h3⟩
    | dk _ => cases h
    | dkr _ => cases h
    | dt _ => cases h
    | obj _ _ => cases h
    | tab _ => cases h
    | fnc _ => cases h
    | nd => cases h
theorem HR.mu {n : Nat} {a : Addr} {xs : List Dt} (hr : HR K H ρ S) (ha : ρ[n]? = some a) (h : S.lst n = some xs) : ∃ vs, H a = some (.lst vs) ∧ DVs K H ρ xs vs := by
  obtain ⟨a', vs, h1, h2, h3⟩ := hr.lst n _ (lst_get h)
  rw [ha] at h1; cases h1
  exact ⟨vs, h2, h3⟩
theorem newL_ok {ds : List Dt} {P : Dt → Bxs → Prop} {E : Nat → List Dt → Bxs → Prop} (h : (newL ds S).Sat P E) : ds.length ≤ LIM ∧ P (.box S.length) (S ++ [.lst ds]) := by
  unfold newL at h
  by_cases hl : ds.length ≤ LIM
  · rw [if_pos hl] at h; exact ⟨hl, h⟩
  · rw [if_neg hl] at h; exact h.elim
theorem newL_calm (ds : List Dt) (S : Bxs) (c : Nat) (es : List Dt) (S' : Bxs) : newL ds S ≠ .ex c es S' := by
  unfold newL
  split <;> (intro z; cases z)
/-! ### numbers -/
def mulOk (i j : Int) : Prop := CMul i j ∨ CMulW i j
instance (i j : Int) : Decidable (mulOk i j) := by unfold mulOk CMul CMulW; infer_instance
theorem mulOk.small {i j : Int} (h1 : -(2 ^ 64) < i) (h2 : i < 2 ^ 64) : mulOk i j := .inl (.inl ⟨h1, h2⟩)
theorem mulOk.small2 {i j : Int} (h1 : -(2 ^ 64) < j) (h2 : j < 2 ^ 64) : mulOk i j := .inl (.inr ⟨h1, h2⟩)
def divOk (j : Int) : Prop := 0 < j ∧ j.natAbs.log2 < 9000
instance (j : Int) : Decidable (divOk j) := by unfold divOk; infer_instance
def powOk (i j : Int) : Prop := CPow i j
instance (i j : Int) : Decidable (powOk i j) := by unfold powOk CPow; infer_instance
def strLim : Nat := 1000000
def addG : G2 := fun x y S => match x, y with
  | .int i, .int j => .ok (.int (i + j)) S
  | .str a, .str b => if a.length + b.length ≤ strLim then .ok (.str (a ++ b)) S else .no
  | .box m, .box n => match S.lst m, S.lst n with
    | some xs, some ys => newL (xs ++ ys) S
    | _, _ => .no
  | .tup xs, .tup ys => if xs.length + ys.length ≤ LIM then .ok (.tup (xs ++ ys)) S else .no
  | _, _ => .no
def subG : G2 := fun x y S => match x, y with
  | .int i, .int j => .ok (.int (i - j)) S
  | _, _ => .no
def mulG : G2 := fun x y S => match x, y with
  | .int i, .int j => if mulOk i j then .ok (.int (i * j)) S else .no
  | .box n, .int k => match S.lst n with
    | some xs => if -1000 ≤ k ∧ k ≤ 1000 ∧ xs.length ≤ 100 then newL (List.replicate k.toNat xs).flatten S else .no
    | none => .no
  | .tup xs, .int k => if xs ≠ [] ∧ -1000 ≤ k ∧ k ≤ 1000 ∧ xs.length ≤ 100 then .ok (.tup (List.replicate k.toNat xs).flatten) S else .no
  | _, _ => .no
def fdivG : G2 := fun x y S => match x, y with
  | .int i, .int j => if divOk j then .ok (.int (i / j)) S else .no
  | _, _ => .no
def modG : G2 := fun x y S => match x, y with
  | .int i, .int j => if 0 < j then .ok (.int (i % j)) S else .no
  | _, _ => .no
def powG : G2 := fun x y S => match x, y with
  | .int i, .int j => if powOk i j then .ok (.int (i ^ j.toNat)) S else .no
  | _, _ => .no
def cmpG (p : Int → Int → Bool) : G2 := fun x y S => match x, y with
  | .int i, .int j => .ok (.bl (p i j)) S
  | _, _ => .no
abbrev ltG := cmpG fun i j => decide (i < j)
abbrev leG := cmpG fun i j => decide (i ≤ j)
abbrev gtG := cmpG fun i j => decide (j < i)
abbrev geG := cmpG fun i j => decide (j ≤ i)
theorem calm_ite {α : Type} {c : Prop} [Decidable c] {r : Rs α} (h : ∀ k ds S', r ≠ .ex k ds S') : ∀ k ds S', (if c then r else .no) ≠ .ex k ds S' := fun k ds S' => by
  split
  · exact h k ds S'
  · intro z; cases z
theorem calm_ok {α : Type} (a : α) (S : Bxs) : ∀ k ds S', (Rs.ok a S) ≠ .ex k ds S' := fun _ _ _ z => nomatch z
theorem calm_no {α : Type} : ∀ k ds S', (Rs.no : Rs α) ≠ .ex k ds S' := fun _ _ _ z => nomatch z
theorem cmpG_calm (p) : Calm2 (cmpG p) := by
  intro x y S
  unfold cmpG
  split <;> first | exact calm_ok _ _ | exact calm_no
theorem subG_calm : Calm2 subG := by
  intro x y S
  unfold subG
  split <;> first | exact calm_ok _ _ | exact calm_no
theorem fdivG_calm : Calm2 fdivG := by
  intro x y S
  unfold fdivG
  split <;> first | exact calm_ite (calm_ok _ _) | exact calm_no
theorem modG_calm : Calm2 modG := by
  intro x y S
  unfold modG
  split <;> first | exact calm_ite (calm_ok _ _) | exact calm_no
theorem powG_calm : Calm2 powG := by
  intro x y S
  unfold powG
  split <;> first | exact calm_ite (calm_ok _ _) | exact calm_no
theorem mulG_calm : Calm2 mulG := by
  intro x y S
  unfold mulG
  split
  · exact calm_ite (calm_ok _ _)
  · split
    · exact calm_ite (newL_calm _ _)
    · exact calm_no
  · exact calm_ite (calm_ok _ _)
  · exact calm_no
theorem addG_calm : Calm2 addG := by
  intro x y S
  unfold addG
  split
  · exact calm_ok _ _
  · exact calm_ite (calm_ok _ _)
  · split
    · exact newL_calm _ _
    · exact calm_no
  · exact calm_ite (calm_ok _ _)
  · exact calm_no
theorem ko_here {Q : VK} {d : Dt} {v : V} (hr : HR K H ρ S) (h : KO K H ρ Q d S) (dv : DV K H ρ d v) : Q v H := h v H ρ (To.refl _ _) hr dv
theorem ite_sat {α : Type} {c : Prop} [Decidable c] {r : Rs α} {P : α → Bxs → Prop} {E : Nat → List Dt → Bxs → Prop} (h : (if c then r else .no).Sat P E) : c ∧ r.Sat P E := by
  by_cases hc : c
  · rw [if_pos hc] at h; exact ⟨hc, h⟩
  · rw [if_neg hc] at h; exact h.elim
theorem ro_cmp {p : Int → Int → Bool} : RO K (rI0 fun i j => .bl (p i j)) (cmpG p) := by
  intro H ρ S x y xv yv Q hr dx dy h
  cases dx <;> first | exact h.elim | skip
  cases dy <;> first | exact h.elim | skip
  exact ⟨_, _, rfl, rfl, ko_here hr h (.bl _)⟩
theorem ro_sub : RO K (rI0 fun i j => .int (i - j)) subG := by
  intro H ρ S x y xv yv Q hr dx dy h
  cases dx <;> first | exact h.elim | skip
  cases dy <;> first | exact h.elim | skip
  exact ⟨_, _, rfl, rfl, ko_here hr h (.int _)⟩
theorem ro_fdiv : RO K (rI CDivW fun i j => .int (i / j)) fdivG := by
  intro H ρ S x y xv yv Q hr dx dy h
  cases dx <;> first | exact h.elim | skip
  cases dy <;> first | exact h.elim | skip
  obtain ⟨c, h⟩ := ite_sat h
  exact ⟨_, _, rfl, rfl, c, ko_here hr h (.int _)⟩
theorem ro_mod : RO K (rI (fun _ j => 0 < j) fun i j => .int (i % j)) modG := by
  intro H ρ S x y xv yv Q hr dx dy h
  cases dx <;> first | exact h.elim | skip
  cases dy <;> first | exact h.elim | skip
  obtain ⟨c, h⟩ := ite_sat h
  exact ⟨_, _, rfl, rfl, c, ko_here hr h (.int _)⟩
theorem ro_pow : RO K (rI CPow fun i j => .int (i ^ j.toNat)) powG := by
  intro H ρ S x y xv yv Q hr dx dy h
  cases dx <;> first | exact h.elim | skip
  cases dy <;> first | exact h.elim | skip
  obtain ⟨c, h⟩ := ite_sat h
  exact ⟨_, _, rfl, rfl, c, ko_here hr h (.int _)⟩
def rMulA (K : PySem.W.Frag) : R2 := fun x y H Q => rI CMul (fun i j => .int (i * j)) x y H Q ∨ (rI CMulW (fun i j => .int (i * j)) x y H Q ∨ (rRep x y H Q ∨ rRepZ K x y H Q))
theorem op_mulA : OpR X (binaryOp .Mult) (rMulA X.K) := op_mul.or (op_mulW.or (op_rep.or op_repZ))
theorem DVs.flat {ds : List Dt} {vs : List V} (h : DVs K H ρ ds vs) : ∀ n : Nat, DVs K H ρ (List.replicate n ds).flatten (List.replicate n vs).flatten
  | 0 => .nil
  | n + 1 => by
    rw [List.replicate_succ, List.replicate_succ, List.flatten_cons, List.flatten_cons]
    exact h.app (DVs.flat h n)
theorem ro_mul : RO K (rMulA K) mulG := by
  intro H ρ S x y xv yv Q hr dx dy h
  cases dx <;> first | exact h.elim | skip
  · cases dy <;> first | exact h.elim | skip
    obtain ⟨c, h⟩ := ite_sat h
    have q := ko_here hr h (.int _)
    rcases c with c | c
    · exact .inl ⟨_, _, rfl, rfl, c, q⟩
    · exact .inr (.inl ⟨_, _, rfl, rfl, c, q⟩)
  · rename_i a ds vs ht hd
    cases dy <;> first | exact h.elim | skip
    rename_i k
    obtain ⟨⟨c0, c1, c2, c3⟩, h⟩ := ite_sat h
    have hl := hd.length
    refine .inr (.inr (.inr ⟨a, k, vs, rfl, rfl, ht.sqt, fun z => c0 (List.eq_nil_of_length_eq_zero (by rw [hl, z]; rfl)), c1, c2, by rw [← hl]; exact c3, fun hk => ?_, fun hk => ?_, fun hk => ?_⟩))
    · have e : (List.replicate k.toNat ds).flatten = ds := by rw [hk]; simp
      rw [e] at h
      exact ko_here hr h (.tup ht hd)
    · have e : (List.replicate k.toNat ds).flatten = [] := by rw [show k.toNat = 0 by omega]; rfl
      rw [e] at h
      exact new_tup hr .nil h
    · exact new_tup hr (hd.flat k.toNat) h
  · rename_i n a ha
    cases dy <;> first | exact h.elim | skip
    rename_i k
    unfold mulG at h
    simp only at h
    cases e : S.lst n with
    | none => rw [e] at h; exact h.elim
    | some xs =>
      rw [e] at h
      obtain ⟨⟨c1, c2, c3⟩, h⟩ := ite_sat h
      obtain ⟨hl, h⟩ := newL_ok h
      obtain ⟨vs, h1, h2⟩ := hr.mu ha e
      have hv := (h2.flat k.toNat).length
      have hz : vs.length * k.toNat ≤ sizeLine := by
        have := h2.length
        have a2 : vs.length * k.toNat ≤ 100 * 1000 := Nat.mul_le_mul (by omega) (by omega)
        exact Nat.le_trans a2 (by decide)
      exact .inr (.inr (.inl ⟨a, k, vs, rfl, rfl, h1, by omega, by omega, hz, fun p hp => new_lst hr (h2.flat k.toNat) hp h⟩))
def rAddA (K : PySem.W.Frag) : R2 := fun x y H Q => rI0 (fun i j => .int (i + j)) x y H Q ∨
  ((∃ i j, x = .str i ∧ y = .str j ∧ i.length + j.length ≤ sizeLine ∧ Q (.str (i ++ j)) H) ∨ (rCat x y H Q ∨ rCatZ K x y H Q))
theorem op_addA : OpR X (binaryOp .Add) (rAddA X.K) := op_add.or (op_add_str.or (op_cat.or op_catZ))
theorem ro_add : RO K (rAddA K) addG := by
  intro H ρ S x y xv yv Q hr dx dy h
  cases dx <;> first | exact h.elim | skip
  · cases dy <;> first | exact h.elim | skip
    exact .inl ⟨_, _, rfl, rfl, ko_here hr h (.int _)⟩
  · cases dy <;> first | exact h.elim | skip
    obtain ⟨c, h⟩ := ite_sat h
    exact .inr (.inl ⟨_, _, rfl, rfl, Nat.le_trans c (by decide), ko_here hr h (.str _)⟩)
  · rename_i a ds vs ht hd
    cases dy <;> first | exact h.elim | skip
    rename_i b es ws ht2 hd2
    obtain ⟨c, h⟩ := ite_sat h
    have hl := hd.length
    have hl2 := hd2.length
    refine .inr (.inr (.inr ⟨a, b, vs, ws, rfl, rfl, ht.sqt, ht2.sqt, by rw [← hl, ← hl2]; exact lim_le c, fun z => ?_, fun _ z => ?_, fun _ _ => new_tup hr (hd.app hd2) h⟩))
    · subst z
      cases hd
      exact ko_here hr h (.tup ht2 hd2)
    · subst z
      cases hd2
      rw [List.append_nil] at h
      exact ko_here hr h (.tup ht hd)
  · rename_i m a ha
    cases dy <;> first | exact h.elim | skip
    rename_i n b hb
    unfold addG at h
    simp only at h
    cases e : S.lst m with
    | none => rw [e] at h; exact h.elim
    | some xs =>
      cases e2 : S.lst n with
      | none => rw [e, e2] at h; exact h.elim
      | some ys =>
        rw [e, e2] at h
        obtain ⟨hl, h⟩ := newL_ok h
        obtain ⟨vs, h1, h2⟩ := hr.mu ha e
        obtain ⟨ws, h3, h4⟩ := hr.mu hb e2
        rw [List.length_append] at hl
        have := h2.length
        have := h4.length
        exact .inr (.inr (.inl ⟨a, b, vs, ws, rfl, rfl, h1, h3, lim_le (by omega), fun p hp => new_lst hr (h2.app h4) hp h⟩))
/-! ### one place -/
def dNeg (a : FE) : FE := fun σ S => (a σ S).bind fun d S1 => match d with
  | .int i => .ok (.int (-i)) S1
  | _ => .no
theorem se_neg {a : Expr} {fa : FE} {pos : Pos} (ha : SE X Er a fa) : SE X Er (.UnaryOp .USub a pos) (dNeg fa) := by
  obtain ⟨ta, pa, qa⟩ := ha.ex
  refine ⟨_, pe_un un_neg pa, fun τ H ρ σ S Q T h => qa τ H ρ σ S _ T ((link h).mono (fun d S1 h1 => ?_) fun _ _ _ q => q)⟩
  intro v H' ρ' t hr dv
  cases dv <;> first | exact h1.elim | skip
  exact ⟨_, rfl, h1 _ H' ρ' t hr (.int _)⟩
/-! ### x in xs -/
def Dt.flat : Dt → Bool
  | .tup _ => false
  | .box _ => false
  | _ => true
def Dt.eqf : Dt → Dt → Bool
  | .non, .non => true
  | .bl a, .bl b => a == b
  | .int a, .int b => a == b
  | .str a, .str b => decide (a = b)
  | .bl a, .int b => (if a then 1 else 0) == b
  | .int a, .bl b => a == (if b then 1 else 0)
  | _, _ => false
/-! ### dicts by ints and texts -/
def keyOf : Dt → Option Key
  | .int i => some (.inl i)
  | .str x => some (.inr x)
  | _ => none
def valD (kvs : List (Key × Dt)) (k : Key) : Option Dt := (kvs.find? fun kv => decide (kv.1 = k)).map (·.2)
def putD (kvs : List (Key × Dt)) (k : Key) (d : Dt) : List (Key × Dt) :=
  if (kvs.any fun kv => decide (kv.1 = k)) = true then kvs.map fun kv => if kv.1 = k then (kv.1, d) else kv else kvs ++ [(k, d)]
def Bxs.dk (S : Bxs) (n : Nat) : Option (List (Key × Dt)) := match S[n]? with
  | some (.dk kvs) => some kvs
  | _ => none
/-- the dict that a value is -/
def Bxs.dkR (S : Bxs) (n : Nat) : Option (List (Key × Dt)) := match S[n]? with
  | some (.dk kvs) => some kvs
  | some (.dkr kvs) => some kvs
  | _ => none
def dkW (S : Bxs) : Dt → Option (List (Key × Dt))
  | .box n => S.dk n
  | _ => none
def dkO (S : Bxs) : Dt → Option (List (Key × Dt))
  | .box n => S.dkR n
  | _ => none
theorem dk_get {n : Nat} {kvs : List (Key × Dt)} (h : S.dk n = some kvs) : S[n]? = some (MBox.dk kvs) := by
  unfold Bxs.dk at h
  cases e : S[n]? with
  | none => rw [e] at h; cases h
  | some b =>
    rw [e] at h
    cases b <;> cases h
    rfl
theorem dkW_some {d : Dt} {v : V} {kvs : List (Key × Dt)} (hr : HR K H ρ S) (dv : DV K H ρ d v) (h : dkW S d = some kvs) : ∃ n a ws, d = .box n ∧ v = .ref a ∧ ρ[n]? = some a ∧ S[n]? = some (MBox.dk kvs) ∧ H a = some (.dK ws) ∧ DPs K H ρ kvs ws := by
  cases dv <;> first | (cases h; done) | skip
  rename_i n a ha
  have e := dk_get h
  obtain ⟨a', ws, h1, h2, h3⟩ := hr.dk n _ e
  rw [ha] at h1; cases h1
  exact ⟨n, a, ws, rfl, rfl, ha, e, h2, h3⟩
theorem dkR_get {n : Nat} {kvs : List (Key × Dt)} (h : S.dkR n = some kvs) : S[n]? = some (MBox.dk kvs) ∨ S[n]? = some (MBox.dkr kvs) := by
  unfold Bxs.dkR at h
  cases e : S[n]? with
  | none => rw [e] at h; cases h
  | some b =>
    rw [e] at h
    cases b <;> cases h
    · exact .inl rfl
    · exact .inr rfl
theorem dkO_some {d : Dt} {v : V} {kvs : List (Key × Dt)} (hr : HR K H ρ S) (dv : DV K H ρ d v) (h : dkO S d = some kvs) : ∃ n a ws, d = .box n ∧ v = .ref a ∧ ρ[n]? = some a ∧ Rd H a (.dK ws) ∧ DPs K H ρ kvs ws := by
  cases dv <;> first | (cases h; done) | skip
  rename_i n a ha
  rcases dkR_get h with e | e
  · obtain ⟨a', ws, h1, h2, h3⟩ := hr.dk n _ e
    rw [ha] at h1; cases h1
    exact ⟨n, a, ws, rfl, rfl, ha, .inl h2, h3⟩
  · obtain ⟨a', ws, o, h1, h2, h3⟩ := hr.dkr n _ e
    rw [ha] at h1; cases h1
    exact ⟨n, a, ws, rfl, rfl, ha, .inr ⟨o, h2⟩, h3⟩
theorem DGet.rd {a : Addr} {ws : List (Key × V)} {k : Key} (e : Rd H a (.dK ws)) : DGet H a (kV k) (valV ws k) := .inl ⟨ws, k, e, rfl, rfl⟩
theorem key_dv {d : Dt} {v : V} {k : Key} (dv : DV K H ρ d v) (h : keyOf d = some k) : v = kV k := by
  cases dv <;> cases h <;> rfl
theorem dps_val (k : Key) : ∀ {kvs : List (Key × Dt)} {ws : List (Key × V)}, DPs K H ρ kvs ws → (∃ d v, valD kvs k = some d ∧ valV ws k = some v ∧ DV K H ρ d v) ∨ (valD kvs k = none ∧ valV ws k = none)
  | _, _, .nil => .inr ⟨rfl, rfl⟩
  | _, _, .cons (k := j) (ds := ds) (vs := vs) h t => by
    by_cases e : j = k
    · exact .inl ⟨_, _, by simp [valD, List.find?_cons, e], by simp [valV, List.find?_cons, e], h⟩
    · have e1 : ∀ d : Dt, valD ((j, d) :: ds) k = valD ds k := fun d => by simp [valD, List.find?_cons, e]
      have e2 : ∀ v : V, valV ((j, v) :: vs) k = valV vs k := fun v => by simp [valV, List.find?_cons, e]
      rw [e1, e2]
      exact dps_val k t
theorem dps_isSome {kvs : List (Key × Dt)} {ws : List (Key × V)} (h : DPs K H ρ kvs ws) (k : Key) : (valD kvs k).isSome = (valV ws k).isSome := by
  rcases dps_val k h with ⟨d, v, e1, e2, _⟩ | ⟨e1, e2⟩ <;> rw [e1, e2] <;> rfl
theorem dps_any (k : Key) : ∀ {kvs : List (Key × Dt)} {ws : List (Key × V)}, DPs K H ρ kvs ws → (kvs.any fun kv => decide (kv.1 = k)) = (ws.any fun kv => decide (kv.1 = k))
  | _, _, .nil => rfl
  | _, _, .cons _ t => by rw [List.any_cons, List.any_cons, dps_any k t]
theorem dps_snoc {k : Key} {d : Dt} {v : V} (r : DV K H ρ d v) : ∀ {kvs : List (Key × Dt)} {ws : List (Key × V)}, DPs K H ρ kvs ws → DPs K H ρ (kvs ++ [(k, d)]) (ws ++ [(k, v)])
  | _, _, .nil => .cons r .nil
  | _, _, .cons h t => .cons h (dps_snoc r t)
theorem dps_map {k : Key} {d : Dt} {v : V} (r : DV K H ρ d v) : ∀ {kvs : List (Key × Dt)} {ws : List (Key × V)}, DPs K H ρ kvs ws →
    DPs K H ρ (kvs.map fun kv => if kv.1 = k then (kv.1, d) else kv) (ws.map fun kv => if kv.1 = k then (kv.1, v) else kv)
  | _, _, .nil => .nil
  | _, _, .cons (k := j) h t => by
    rw [List.map_cons, List.map_cons]
    by_cases e : j = k
    · rw [if_pos e, if_pos e]; exact .cons r (dps_map r t)
    · rw [if_neg e, if_neg e]; exact .cons h (dps_map r t)
theorem dps_put {k : Key} {d : Dt} {v : V} (r : DV K H ρ d v) {kvs : List (Key × Dt)} {ws : List (Key × V)} (h : DPs K H ρ kvs ws) : DPs K H ρ (putD kvs k d) (putK ws k v) := by
  unfold putD putK
  rw [dps_any k h]
  split
  · exact dps_map r h
  · exact dps_snoc r h
/-- v = d[k] -/
def dgetG (kvs : List (Key × Dt)) (y : Dt) (S : Bxs) : Rs Dt := match keyOf y with
  | some k => match valD kvs k with
    | some d => .ok d S
    | none => .no
  | none => .no
theorem dgetG_calm (kvs : List (Key × Dt)) (y : Dt) (S : Bxs) : ∀ c es S', dgetG kvs y S ≠ .ex c es S' := by
  intro c es S'
  unfold dgetG
  split
  · split
    · exact calm_ok _ _ _ _ _
    · exact calm_no _ _ _
  · exact calm_no _ _ _
def rDGet : R2 := fun x y H Q => ∃ a v, x = .ref a ∧ DGet H a y (some v) ∧ Q v H
theorem dget_sat {x y : Dt} {xv yv : V} {kvs : List (Key × Dt)} {Q : VK} (hr : HR K H ρ S) (dx : DV K H ρ x xv) (dy : DV K H ρ y yv) (e : dkO S x = some kvs) (h : (dgetG kvs y S).Sat (KO K H ρ Q) noX) : rDGet xv yv H Q := by
  obtain ⟨n, a, ws, rfl, rfl, ha, hH, hd⟩ := dkO_some hr dx e
  unfold dgetG at h
  cases ek : keyOf y with
  | none => rw [ek] at h; exact h.elim
  | some k =>
    rw [ek] at h
    simp only at h
    rcases dps_val k hd with ⟨d, v, e1, e2, dv⟩ | ⟨e1, e2⟩
    · rw [e1] at h
      rw [key_dv dy ek]
      exact ⟨a, v, rfl, e2 ▸ DGet.rd hH, ko_here hr h dv⟩
    · rw [e1] at h; exact h.elim
theorem ix_dict (hu : X.A.units + 1 < cLine) : IxR X rDGet := by
  rintro value slice pins s σ H x y v u Q I rx ry ⟨a, z, rfl, g, q⟩ hs
  cases rx
  unfold subscriptTail
  refine wpAny_bind ?_
  rw [getitemInPython_of_ne (dict_typeIs I g).not_modules]
  refine wpAny_bind (wpAny_specialOf (dict_typeIs I g) PySem.F.slot_dict_getitem.lookup ?_)
  have fin : wpAny (model X.prog X.w) X.A (subscripted slice false (.ref a) u) (fun r s₃ => wpAny (model X.prog X.w) X.A (letTemporaryGo value (.ref a) r >>= fun _ => pure r) (EP X pins σ Q) X.xe s₃) X.xe s := by
    rw [hs]
    refine wpAny_operating (wpAny_mono (d_getItem hu I g ry (Q := fun w' s' => ∃ H', Inv X pins σ H' s' ∧ RelV z w' ∧ H' = H) fun w' s3 I3 rw' => ⟨H, I3, rw', rfl⟩) (fun r s₃ h₃ => ?_) fun _ _ x => x)
    obtain ⟨H', I3, rw', rfl⟩ := h₃
    exact wpAny_bind (wpAny_letTemporaryGo (wpAny_pure ⟨z, _, I3, rw', q⟩))
  first
    | exact wpAny_pure (wpAny_bind fin)
    | exact wpAny_bind (wpAny_pure (wpAny_bind fin))
    | exact wpAny_bind fin
theorem get_dict (hu : X.A.units + 1 < cLine) : PGet X rDGet := by
  rintro pins s τ H o i ov iv Q I ro ri ⟨a, z, rfl, g, q⟩
  cases ro
  exact d_getItem hu I g ri fun w' s3 I3 rw' => ⟨z, H, I3, rw', q⟩
def rDIn (neg : Bool) : R2 := fun x y H Q => ∃ a o, y = .ref a ∧ DGet H a x o ∧ Q (.bl (if neg then !o.isSome else o.isSome)) H
theorem op_din (hu : X.A.units + 1 < cLine) : OpR X (compareOp .In) (rDIn false) := by
  rintro pins s σ H x y v u Q I rx ry ⟨a, o, rfl, g, q⟩
  cases ry
  exact d_in hu I g rx fun s3 I3 => ⟨.bl o.isSome, H, I3, rfl, q⟩
theorem op_dnin (hu : X.A.units + 1 < cLine) : OpR X (compareOp .NotIn) (rDIn true) := by
  rintro pins s σ H x y v u Q I rx ry ⟨a, o, rfl, g, q⟩
  cases ry
  exact d_notIn hu I g rx fun s3 I3 => ⟨.bl (!o.isSome), H, I3, rfl, q⟩
def rDSet : V → V → V → Hp → (Hp → Prop) → Prop := fun o i v H Q => ∃ a H', o = .ref a ∧ DPut H a i v H' ∧ Q H'
theorem set_dict (hu : X.A.units + 1 < cLine) : PSet X rDSet := by
  rintro pins s σ H o i v ov iv u Q I ro ri rv ⟨a, H', rfl, g, q⟩
  cases ro
  exact d_setItem hu I g ri rv fun s4 I4 => ⟨H', I4, q⟩
theorem PSet.or {t t' : TSet} (h : PSet X t) (h' : PSet X t') : PSet X (fun o i v H Q => t o i v H Q ∨ t' o i v H Q) := by
  intro pins s σ H o i v ov iv u Q I ro ri rv q
  rcases q with q | q
  · exact h pins s σ H o i v ov iv u Q I ro ri rv q
  · exact h' pins s σ H o i v ov iv u Q I ro ri rv q
theorem PGet.or {t t' : V → V → Hp → VK → Prop} (h : PGet X t) (h' : PGet X t') : PGet X (fun o i H Q => t o i H Q ∨ t' o i H Q) := by
  intro pins s σ H o i ov iv Q I ro ri q
  rcases q with q | q
  · exact h pins s σ H o i ov iv Q I ro ri q
  · exact h' pins s σ H o i ov iv Q I ro ri q
end
end Mn
set_option Elab.async false
set_option linter.all false
set_option maxRecDepth 100000
set_option maxHeartbeats 4000000
/-! MnCt: dicts whose keys are tuples of ints. -/
namespace Mn
open PySem PySem.Spec PyProof.Rows L2
section
variable {X : Cx} {pins : List (Addr × Obj)} {τ : L2.St} {H : Hp} {s : Shared} {K : PySem.W.Frag} {ρ : List Addr} {S : Bxs}
theorem ints_are {P : Program} {w : World} : ∀ {ks : List Int} {us : List Value}, Vals (ks.map V.int) us → ItemsAre (PySem.intKind P w) ks us
  | [], _, h => by cases h; exact .nil
  | k :: ks, _, h => by
    rw [List.map_cons] at h
    cases h with
    | cons r t =>
      obtain ⟨tk, rfl⟩ := (show ∃ t, _ = Value.int k t from r)
      exact .cons (intKind_is P w k tk) (ints_are t)
theorem tk_is {b : Addr} {k : List Int} (I : Inv X pins τ H s) (t : Tp X.K H b (k.map V.int)) : (tupleKind (PySem.intKind X.prog X.w)).is s.heap k b := by
  rcases t with ⟨o, ho, p⟩ | ⟨o, its, n, ho, p, hd, hz, hv⟩
  · obtain ⟨e, z, its, r, o2, h1, h2, n, h3⟩ := I.hok b _ ho
    exact ⟨o2, its.toArray, n, h1, h2, h3, by simpa using ints_are r⟩
  · exact ⟨o, its, n, I.kIn b o ho, p.1, hd, ints_are hv⟩
/-- a dict with such keys, to be read -/
def TRd (K : PySem.W.Frag) (H : Hp) (a : Addr) (xs : List TE3) : Prop := (H a = some (DtO a xs) ∧ ∀ x ∈ xs, Tp K H x.2.1 (x.1.map V.int)) ∨ (H a = some (.dK []) ∧ xs = [])
theorem trd_at {a : Addr} {xs : List TE3} (I : Inv X pins τ H s) (t : TRd X.K H a xs) : (a == sysModules) = false ∧ s.heap.DictOfH (tupleKind (PySem.intKind X.prog X.w)) a xs := by
  rcases t with ⟨e, hk⟩ | ⟨e, rfl⟩
  · obtain ⟨⟨hd, o, es, ep, h1, h2, h3, h4, h5⟩, _⟩ := I.hok a _ e
    exact ⟨hd, o, es, ep, h1, h2, h3, h4, fun x hx => tk_is I (hk x hx), h5⟩
  · obtain ⟨z, hd, vs, rel, dd⟩ := dk_of I.hok e
    cases rel
    obtain ⟨o, es, ep, h1, h2, h3, h4⟩ := dd
    have hes : es.toList = [] := by
      obtain ⟨_, hp, _⟩ := h4
      cases e : es.toList with
      | nil => rfl
      | cons b l => rw [e] at hp; cases hp
    exact ⟨hd, o, es, ep, h1, h2, h3, hes, (fun _ z => nomatch z), List.nodup_nil⟩
def rTIx (K : PySem.W.Frag) : R2 := fun x y H Q => ∃ (a b : Addr) (k : List Int) (xs : List TE3) (u : Value) (v : V), x = .ref a ∧ y = .ref b ∧ Tp K H b (k.map V.int) ∧ TRd K H a xs ∧ (atKey xs k).map (·.2) = some u ∧ RelV v u ∧ Q v H
theorem t_getItem {a b : Addr} {k : List Int} {xs : List TE3} {u : Value} {Q : Value → Shared → Prop} {A : Around} {E : Value → Shared → Prop} (hu : A.units + 1 < cLine) (I : Inv X pins τ H s) (tk : Tp X.K H b (k.map V.int)) (t : TRd X.K H a xs) (e : (atKey xs k).map (·.2) = some u)
    (h : ∀ s', Inv X pins τ H s' → Q u s') : wpAny (model X.prog X.w) A (getItem (.ref a) (.ref b)) Q E s := by
  obtain ⟨hd, dd⟩ := trd_at I t
  obtain ⟨p, hp, hp2⟩ := Option.map_eq_some_iff.mp e
  refine wpAny_getItem_heap (tupleKind_room_in1 hu) (tk_is I tk) dd hp ?_
  rw [hp2]
  exact h _ (I.tok _)
theorem ix_dt (hu : X.A.units + 1 < cLine) : IxR X (rTIx X.K) := by
  rintro value slice pins s σ H x y v u Q I rx ry ⟨a, b, k, xs, w', z, rfl, rfl, tk, t, e, rz, q⟩ hs
  cases rx
  cases ry
  obtain ⟨hd, dd⟩ := trd_at I t
  unfold subscriptTail
  refine wpAny_bind ?_
  rw [getitemInPython_of_ne dd.typeIs.not_modules]
  refine wpAny_bind (wpAny_specialOf dd.typeIs PySem.F.slot_dict_getitem.lookup ?_)
  have fin : wpAny (model X.prog X.w) X.A (subscripted slice false (.ref a) (.ref b)) (fun r s₃ => wpAny (model X.prog X.w) X.A (letTemporaryGo value (.ref a) r >>= fun _ => pure r) (EP X pins σ Q) X.xe s₃) X.xe s := by
    rw [hs]
    refine wpAny_operating (wpAny_mono (t_getItem hu I tk t e (Q := fun w2 s' => ∃ H', Inv X pins σ H' s' ∧ RelV z w2 ∧ H' = H) fun s3 I3 => ⟨H, I3, rz, rfl⟩) (fun r s₃ h₃ => ?_) fun _ _ x => x)
    obtain ⟨H', I3, rw', rfl⟩ := h₃
    exact wpAny_bind (wpAny_letTemporaryGo (wpAny_pure ⟨z, _, I3, rw', q⟩))
  first
    | exact wpAny_pure (wpAny_bind fin)
    | exact wpAny_bind (wpAny_pure (wpAny_bind fin))
    | exact wpAny_bind fin
theorem get_dt (hu : X.A.units + 1 < cLine) : PGet X (rTIx X.K) := by
  rintro pins s τ H o i ov iv Q I ro ri ⟨a, b, k, xs, w', z, rfl, rfl, tk, t, e, rz, q⟩
  cases ro
  cases ri
  exact t_getItem hu I tk t e fun s3 I3 => ⟨z, H, I3, rz, q⟩
def rTIn (K : PySem.W.Frag) (neg : Bool) : R2 := fun x y H Q => ∃ (a b : Addr) (k : List Int) (xs : List TE3), y = .ref a ∧ x = .ref b ∧ Tp K H b (k.map V.int) ∧ TRd K H a xs ∧ Q (.bl (if neg then !(atKey xs k).isSome else (atKey xs k).isSome)) H
theorem op_tin (hu : X.A.units + 1 < cLine) : OpR X (compareOp .In) (rTIn X.K false) := by
  rintro pins s σ H x y v u Q I rx ry ⟨a, b, k, xs, rfl, rfl, tk, t, q⟩
  cases rx
  cases ry
  obtain ⟨hd, dd⟩ := trd_at I t
  refine wpAny_in_heap (tupleKind_room_in1 hu) (tk_is I tk) hd dd ?_
  exact ⟨.bl _, H, I.tok _, rfl, q⟩
theorem op_tnin (hu : X.A.units + 1 < cLine) : OpR X (compareOp .NotIn) (rTIn X.K true) := by
  rintro pins s σ H x y v u Q I rx ry ⟨a, b, k, xs, rfl, rfl, tk, t, q⟩
  cases rx
  cases ry
  obtain ⟨hd, dd⟩ := trd_at I t
  refine wpAny_notIn_heap (tupleKind_room_in1 hu) (tk_is I tk) hd dd ?_
  exact ⟨.bl _, H, I.tok _, rfl, q⟩
theorem dt_ok {P : Program} {w : World} {H' : Hp} {h' : Heap} {a : Addr} {xs : List TE3} (hd : (a == sysModules) = false) (dd : h'.DictOfH (tupleKind (PySem.intKind P w)) a xs) : ObjOk P w H' h' a (DtO a xs) := by
  obtain ⟨o, es, ep, h1, h2, h3, h4, _, h5⟩ := dd
  refine ⟨⟨hd, o, es, ep, h1, h2, h3, h4, h5⟩, ⟨o, h1⟩, fun g1 g2 ⟨hd, o, es, ep, h1, h2, h3, h4, h5⟩ k => ⟨hd, o, es, ep, k o h1, h2, h3, h4, h5⟩⟩
def rTSet (K : PySem.W.Frag) : V → V → V → Hp → (Hp → Prop) → Prop := fun o i v H Q => ∃ (a b : Addr) (k : List Int) (xs : List TE3), o = .ref a ∧ i = .ref b ∧ Tp K H b (k.map V.int) ∧ TRd K H a xs ∧ xs.length < sizeLine ∧ ∀ u, RelV v u → Q (upd H a (DtO a (storedH xs k b u)))
theorem set_dt (hu : X.A.units + 1 < cLine) : PSet X (rTSet X.K) := by
  rintro pins s σ H o i v ov iv u Q I ro ri rv ⟨a, b, k, xs, rfl, rfl, tk, t, hl, q⟩
  cases ro
  cases ri
  obtain ⟨hd, dd⟩ := trd_at I t
  refine wpAny_setItem_heap (hsz := Nat.le_of_lt hl) (tupleKind_room_in1 hu) (tk_is I tk) dd fun h' dd' hs => ?_
  have he : ∃ q, h'.get? a = some q := let ⟨q, _, _, hq, _⟩ := dd'; ⟨q, hq⟩
  exact ⟨_, d_write I (by rcases t with ⟨e, _⟩ | ⟨e, _⟩ <;> rw [e] <;> exact True.intro) hs he (dt_ok hd dd'), q u rv⟩
/-! d.get(k), d.get(k, x) -/
def rTGet (K : PySem.W.Frag) : V → List V → Hp → VK → Prop := fun x vs H Q => ∃ (a b : Addr) (k : List Int) (xs : List TE3) (z : V), x = .ref a ∧ (vs = [.ref b, z] ∨ (vs = [.ref b] ∧ z = .non)) ∧ Tp K H b (k.map V.int) ∧ TRd K H a xs ∧
  ((∃ (u : Value) (v : V), (atKey xs k).map (·.2) = some u ∧ RelV v u ∧ Q v H) ∨ (atKey xs k = none ∧ Q z H))
theorem mt_tget (hu : X.A.units + 1 < cLine) : MtR X "dict.get" (rTGet X.K) := by
  rintro pins s σ H x vs v us Q I rx rv ⟨a, b, k, xs, z, rfl, hvs, tk, t, q⟩
  cases rx
  obtain ⟨hd, dd⟩ := trd_at I t
  rcases hvs with rfl | ⟨rfl, rfl⟩
  · obtain ⟨u1, u2, rfl, r1, r2⟩ := vals2 rv
    cases r1
    refine call_meetsIn PySem.F.slot_dict_get dd.typeIs PySem.F.entry_dict_get (PySem.F.args_dict_get_3 _ _ _) (meetsH_dict_get_default (tupleKind (PySem.intKind X.prog X.w)) a b hd u2) ⟨tupleKind_room_in1 hu, k, xs, tk_is I tk, dd, ?_⟩
    rcases q with ⟨u, v, e, r, q⟩ | ⟨e, q⟩
    · rw [e]; exact ⟨v, H, I.tok _, r, q⟩
    · rw [e]; exact ⟨z, H, I.tok _, r2, q⟩
  · obtain ⟨u1, rfl, r1⟩ := vals1 rv
    cases r1
    refine call_meetsIn PySem.F.slot_dict_get dd.typeIs PySem.F.entry_dict_get (PySem.F.args_dict_get_2 _ _) (meetsH_dict_get (tupleKind (PySem.intKind X.prog X.w)) a b hd) ⟨tupleKind_room_in1 hu, k, xs, tk_is I tk, dd, ?_⟩
    rcases q with ⟨u, v, e, r, q⟩ | ⟨e, q⟩
    · rw [e]; exact ⟨v, H, I.tok _, r, q⟩
    · rw [e]; exact ⟨.non, H, I.tok _, rfl, q⟩
/-! as data -/
def tiAll : List Dt → Option (List Int)
  | [] => some []
  | .int i :: r => (tiAll r).map (i :: ·)
  | _ :: _ => none
def tiOf : Dt → Option (List Int)
  | .tup ds => tiAll ds
  | _ => none
theorem tiAll_v : ∀ {ds : List Dt} {vs : List V} {k : List Int}, DVs K H ρ ds vs → tiAll ds = some k → vs = k.map V.int
  | [], _, _, .nil, e => by cases e; rfl
  | d :: ds, _, k, .cons h t, e => by
    cases h <;> first | (cases e; done) | skip
    rename_i i
    have e : (tiAll ds).map (i :: ·) = some k := e
    cases e2 : tiAll ds with
    | none => rw [e2] at e; cases e
    | some l =>
      rw [e2] at e
      cases e
      rw [tiAll_v t e2]; rfl
theorem tiOf_dv {d : Dt} {v : V} {k : List Int} (dv : DV K H ρ d v) (e : tiOf d = some k) : ∃ b, v = .ref b ∧ Tp K H b (k.map V.int) := by
  cases dv <;> first | (cases e; done) | skip
  rename_i a ds vs ht hd
  exact ⟨a, rfl, tiAll_v hd e ▸ ht⟩
def Bxs.dt (S : Bxs) (n : Nat) : Option (List (List Int × Dt)) := match S[n]? with
  | some (.dt kvs) => some kvs
  | some (.dk []) => some []
  | _ => none
def dtO (S : Bxs) : Dt → Option (List (List Int × Dt))
  | .box n => S.dt n
  | _ => none
def valT (kvs : List (List Int × Dt)) (k : List Int) : Option Dt := (kvs.find? fun kv => decide (kv.1 = k)).map (·.2)
def putT (kvs : List (List Int × Dt)) (k : List Int) (d : Dt) : List (List Int × Dt) :=
  if (valT kvs k).isSome = true then kvs.map (fun kv => if kv.1 = k then (kv.1, d) else kv) else kvs ++ [(k, d)]
theorem dt_get {n : Nat} {kvs : List (List Int × Dt)} (h : S.dt n = some kvs) : S[n]? = some (MBox.dt kvs) ∨ (S[n]? = some (MBox.dk []) ∧ kvs = []) := by
  unfold Bxs.dt at h
  cases e : S[n]? with
  | none => rw [e] at h; cases h
  | some b =>
    rw [e] at h
    cases b with
    | dt l => cases h; exact .inl rfl
    | dk l =>
      cases l with
      | nil => cases h; exact .inr ⟨rfl, rfl⟩
      | cons x l => cases h
    | lst l => cases h
    | ro l => cases h
    | dkr l => cases h
    | obj C l => cases h
    | tab l => cases h
    | fnc l => cases h
    | nd => cases h
theorem KTp.keys : ∀ {kvs : List (List Int × Dt)} {xs : List TE3}, KTp K H ρ kvs xs → ∀ x ∈ xs, Tp K H x.2.1 (x.1.map V.int)
  | _, _, .nil => fun _ z => nomatch z
  | _, _, .cons t _ _ r => fun x hx => by
    rcases List.mem_cons.mp hx with rfl | hx
    · exact t
    · exact KTp.keys r x hx
theorem dtO_some {d : Dt} {v : V} {kvs : List (List Int × Dt)} (hr : HR K H ρ S) (dv : DV K H ρ d v) (h : dtO S d = some kvs) : ∃ n a xs, d = .box n ∧ v = .ref a ∧ ρ[n]? = some a ∧ S.dt n = some kvs ∧ TRd K H a xs ∧ KTp K H ρ kvs xs := by
  cases dv <;> first | (cases h; done) | skip
  rename_i n a ha
  have h : S.dt n = some kvs := h
  rcases dt_get h with e | ⟨e, rfl⟩
  · obtain ⟨a', ws, h1, h2, h3⟩ := hr.dt n _ e
    rw [ha] at h1; cases h1
    exact ⟨n, a, ws, rfl, rfl, ha, h, .inl ⟨h2, h3.keys⟩, h3⟩
  · obtain ⟨a', ws, h1, h2, h3⟩ := hr.dk n _ e
    rw [ha] at h1; cases h1
    cases h3
    exact ⟨n, a, [], rfl, rfl, ha, h, .inr ⟨h2, rfl⟩, .nil⟩
theorem kt_val (k : List Int) : ∀ {kvs : List (List Int × Dt)} {xs : List TE3}, KTp K H ρ kvs xs → (∃ d v u, valT kvs k = some d ∧ (atKey xs k).map (·.2) = some u ∧ RelV v u ∧ DV K H ρ d v) ∨ (valT kvs k = none ∧ atKey xs k = none)
  | _, _, .nil => .inr ⟨rfl, rfl⟩
  | _, _, .cons (k := j) (ds := ds) (xs := xs) (d := d) (v := v) (u := u) (b := b) _ h r t => by
    by_cases e : j = k
    · exact .inl ⟨d, v, u, by simp [valT, List.find?_cons, e], by simp [atKey, List.find?_cons, e], r, h⟩
    · have e1 : valT ((j, d) :: ds) k = valT ds k := by simp [valT, List.find?_cons, e]
      have e2 : atKey ((j, b, u) :: xs) k = atKey xs k := by simp [atKey, List.find?_cons, e]
      rw [e1, e2]
      exact kt_val k t
theorem kt_isSome {kvs : List (List Int × Dt)} {xs : List TE3} (h : KTp K H ρ kvs xs) (k : List Int) : (valT kvs k).isSome = (atKey xs k).isSome := by
  rcases kt_val k h with ⟨d, v, u, e1, e2, _⟩ | ⟨e1, e2⟩
  · rw [e1]
    cases e : atKey xs k with
    | none => rw [e] at e2; cases e2
    | some p => rfl
  · rw [e1, e2]; rfl
theorem kt_snoc {k : List Int} {d : Dt} {v : V} {u : Value} {b : Addr} (tk : Tp K H b (k.map V.int)) (r : DV K H ρ d v) (ru : RelV v u) : ∀ {kvs : List (List Int × Dt)} {xs : List TE3}, KTp K H ρ kvs xs → KTp K H ρ (kvs ++ [(k, d)]) (xs ++ [(k, b, u)])
  | _, _, .nil => .cons tk r ru .nil
  | _, _, .cons t h q s => .cons t h q (kt_snoc tk r ru s)
theorem kt_map {k : List Int} {d : Dt} {v : V} {u : Value} (r : DV K H ρ d v) (ru : RelV v u) : ∀ {kvs : List (List Int × Dt)} {xs : List TE3}, KTp K H ρ kvs xs →
    KTp K H ρ (kvs.map fun kv => if kv.1 = k then (kv.1, d) else kv) (xs.map (putAt k u))
  | _, _, .nil => .nil
  | _, _, .cons (k := j) t h q s => by
    rw [List.map_cons, List.map_cons]
    unfold putAt
    by_cases e : j = k
    · rw [if_pos e, if_pos e]; exact .cons t r ru (kt_map r ru s)
    · rw [if_neg e, if_neg e]; exact .cons t h q (kt_map r ru s)
theorem kt_put {k : List Int} {d : Dt} {v : V} {u : Value} {b : Addr} (tk : Tp K H b (k.map V.int)) (r : DV K H ρ d v) (ru : RelV v u) {kvs : List (List Int × Dt)} {xs : List TE3} (h : KTp K H ρ kvs xs) : KTp K H ρ (putT kvs k d) (storedH xs k b u) := by
  unfold putT storedH
  rw [kt_isSome h k]
  split
  · exact kt_map r ru h
  · exact kt_snoc tk r ru h
/-- d[k], k in d, by tuples -/
def tget (S : Bxs) (x y : Dt) : Option (Option Dt) := match tiOf y, dtO S x with
  | some k, some kvs => some (valT kvs k)
  | _, _ => none
theorem tget_some {x y : Dt} {xv yv : V} {o : Option Dt} (hr : HR K H ρ S) (dx : DV K H ρ x xv) (dy : DV K H ρ y yv) (e : tget S x y = some o) :
    ∃ (a b : Addr) (k : List Int) (xs : List TE3), xv = .ref a ∧ yv = .ref b ∧ Tp K H b (k.map V.int) ∧ TRd K H a xs ∧ (o.isSome = (atKey xs k).isSome) ∧ ((∃ d v u, o = some d ∧ (atKey xs k).map (·.2) = some u ∧ RelV v u ∧ DV K H ρ d v) ∨ (o = none ∧ atKey xs k = none)) := by
  unfold tget at e
  cases e1 : tiOf y with
  | none => rw [e1] at e; cases e
  | some k =>
    cases e2 : dtO S x with
    | none => rw [e1, e2] at e; cases e
    | some kvs =>
      rw [e1, e2] at e
      cases e
      obtain ⟨b, rfl, tk⟩ := tiOf_dv dy e1
      obtain ⟨n, a, xs, rfl, rfl, ha, hn, t, kt⟩ := dtO_some hr dx e2
      exact ⟨a, b, k, xs, rfl, rfl, tk, t, kt_isSome kt k, kt_val k kt⟩
end
end Mn
set_option Elab.async false
set_option linter.all false
set_option maxRecDepth 100000
set_option maxHeartbeats 4000000
/-! MnD: equality, in, subscripts, slices, calls of built-ins, repr. -/
namespace Mn
open PySem PySem.Spec PyProof.Rows L2
section
variable {X : Cx} {Er : ER} {K : PySem.W.Frag} {H H1 : Hp} {ρ ρ1 : List Addr} {σ : Sg} {S S1 : Bxs} {τ : L2.St}
/-! ### x in xs, flat items -/
theorem flat_of {d : Dt} {v : V} (h : DV K H ρ d v) (hd : d.flat = true) : flatV v = true := by
  cases h <;> first | rfl | exact hd
theorem eqf_of {d e : Dt} {v w : V} (h : DV K H ρ d v) (h' : DV K H ρ e w) (hd : d.flat = true) (he : e.flat = true) : eqV v w = d.eqf e := by
  cases h <;> first | (exact absurd hd Bool.false_ne_true) | skip
  all_goals (cases h' <;> first | (exact absurd he Bool.false_ne_true) | rfl)
theorem flats_of : ∀ {ds : List Dt} {vs : List V}, DVs K H ρ ds vs → ds.all Dt.flat = true → vs.all flatV = true
  | _, _, .nil, _ => rfl
  | _, _, .cons h t, q => by
    rw [List.all_cons, Bool.and_eq_true] at q
    rw [List.all_cons, flat_of h q.1, flats_of t q.2]
    rfl
theorem ins_of {d : Dt} {v : V} (h : DV K H ρ d v) (hd : d.flat = true) : ∀ {ds : List Dt} {vs : List V}, DVs K H ρ ds vs → ds.all Dt.flat = true → inV v vs = ds.any fun e => e.eqf d
  | _, _, .nil, _ => rfl
  | _, _, .cons q t, z => by
    rw [List.all_cons, Bool.and_eq_true] at z
    unfold inV
    rw [List.any_cons, List.any_cons, eqf_of q h z.1 hd]
    congr 1
    exact ins_of h hd t z.2
/-- the items of a sequence -/
def seqOf (S : Bxs) : Dt → Option (List Dt)
  | .tup xs => some xs
  | .box n => S.seq n
  | _ => none
theorem seq_of {d : Dt} {v : V} {xs : List Dt} (hr : HR K H ρ S) (h : DV K H ρ d v) (hs : seqOf S d = some xs) : ∃ a vs, v = .ref a ∧ (SqL K H a vs ∨ SqT K H a vs) ∧ DVs K H ρ xs vs := by
  cases h <;> first | (cases hs; done) | skip
  · rename_i a ds vs ht hd
    cases hs
    exact ⟨a, vs, rfl, .inr ht.sqt, hd⟩
  · rename_i n a ha
    obtain ⟨vs, h1, h2⟩ := hr.rd ha hs
    exact ⟨a, vs, rfl, .inl h1, h2⟩
def inF (neg : Bool) : G2 := fun x y S => match seqOf S y with
  | some ys => if x.flat = true ∧ ys.all Dt.flat = true then .ok (.bl (if neg then !(ys.any fun e => e.eqf x) else ys.any fun e => e.eqf x)) S else .no
  | none => .no
theorem inF_calm (neg : Bool) : Calm2 (inF neg) := by
  intro x y S
  unfold inF
  split
  · exact calm_ite (calm_ok _ _)
  · exact calm_no
theorem ro_inF {neg : Bool} : RO K (rIn K neg) (inF neg) := by
  intro H ρ S x y xv yv Q hr dx dy h
  unfold inF at h
  cases e : seqOf S y with
  | none => rw [e] at h; exact h.elim
  | some ys =>
    rw [e] at h
    obtain ⟨⟨c1, c2⟩, h⟩ := ite_sat h
    obtain ⟨a, vs, rfl, hs, hd⟩ := seq_of hr dy e
    refine ⟨a, vs, rfl, hs, flat_of dx c1, flats_of hd c2, ?_⟩
    rw [ins_of dx c1 hd c2]
    exact ko_here hr h (.bl _)
/-! ### data as a whole -/
def optAll {α : Type} : List (Option α) → Option (List α)
  | [] => some []
  | none :: _ => none
  | some a :: r => (optAll r).map (a :: ·)
/-- the data, boxes opened, so deep at most -/
def pd (S : Bxs) : Nat → Dt → Option PyData
  | 0, _ => none
  | _ + 1, .non => some .none
  | _ + 1, .bl b => some (.bool b)
  | _ + 1, .int i => some (.int i)
  | _ + 1, .str x => some (.str x)
  | n + 1, .tup xs => (optAll (xs.map (pd S n))).map .tuple
  | n + 1, .box m => match S.seq m with
    | some xs => (optAll (xs.map (pd S n))).map .list
    | none => none
theorem dps_of {n : Nat} (ih : ∀ (d : Dt) (v : V) (p : PyData), DV K H ρ d v → pd S n d = some p → Dp K H v p) : ∀ (ds : List Dt) (vs : List V) (ps : List PyData), DVs K H ρ ds vs → optAll (ds.map (pd S n)) = some ps → DpAll K H vs ps
  | [], _, _, .nil, h => by cases h; exact .nil
  | x :: xs, _, ps, .cons hx hs, h => by
    rw [List.map_cons] at h
    cases e : pd S n x with
    | none => rw [e] at h; cases h
    | some p =>
      rw [e] at h
      unfold optAll at h
      cases e2 : optAll (xs.map (pd S n)) with
      | none => rw [e2] at h; cases h
      | some qs =>
        rw [e2] at h
        cases h
        exact .cons (ih x _ p hx e) (dps_of ih xs _ qs hs e2)
theorem dp_of (hr : HR K H ρ S) : ∀ (n : Nat) (d : Dt) (v : V) (p : PyData), DV K H ρ d v → pd S n d = some p → Dp K H v p
  | 0, _, _, _, _, h => by unfold pd at h; cases h
  | n + 1, .non, _, _, .non, h => by unfold pd at h; cases h; exact .non
  | n + 1, .bl b, _, _, .bl _, h => by unfold pd at h; cases h; exact .bl b
  | n + 1, .int i, _, _, .int _, h => by unfold pd at h; cases h; exact .int i
  | n + 1, .str x, _, _, .str _, h => by unfold pd at h; cases h; exact .str x
  | n + 1, .tup xs, _, p, .tup ht hd, h => by
    unfold pd at h
    cases e : optAll (xs.map (pd S n)) with
    | none => rw [e] at h; cases h
    | some ps =>
      rw [e] at h
      cases h
      exact .tup ht.sqt (dps_of (dp_of hr n) xs _ ps hd e)
  | n + 1, .box m, _, p, .box ha, h => by
    unfold pd at h
    cases e : S.seq m with
    | none => rw [e] at h; cases h
    | some xs =>
      rw [e] at h
      simp only at h
      cases e2 : optAll (xs.map (pd S n)) with
      | none => rw [e2] at h; cases h
      | some ps =>
        rw [e2] at h
        cases h
        obtain ⟨vs, h1, h2⟩ := hr.rd ha e
        exact .lst h1 (dps_of (dp_of hr n) xs vs ps h2 e2)
/-- so deep data may be -/
def DEEP : Nat := 60
def pdo (S : Bxs) (d : Dt) : Option PyData := pd S DEEP d
/-- x in a list of any data -/
def inDp (neg : Bool) : G2 := fun x y S => match y with
  | .box _ => match pdo S x, pdo S y with
    | some p, some (.list qs) => if SeqAt.shaped p = true ∧ SeqAt.shaped (.list qs) = true then .ok (.bl (if neg then !(qs.any fun z => PyData.eqv z p) else qs.any fun z => PyData.eqv z p)) S else .no
    | _, _ => .no
  | _ => .no
theorem inDp_calm (neg : Bool) : Calm2 (inDp neg) := by
  intro x y S
  unfold inDp
  split
  · split
    · exact calm_ite (calm_ok _ _)
    · exact calm_no
  · exact calm_no
def rInDN (K : PySem.W.Frag) (neg : Bool) : R2 := fun x y H Q => ∃ d ds, Dp K H x d ∧ Dp K H y (.list ds) ∧ SeqAt.shaped d = true ∧ SeqAt.shaped (.list ds) = true ∧ Q (.bl (if neg then !(ds.any fun z => PyData.eqv z d) else ds.any fun z => PyData.eqv z d)) H
theorem ro_inDp {neg : Bool} : RO K (rInDN K neg) (inDp neg) := by
  intro H ρ S x y xv yv Q hr dx dy h
  unfold inDp at h
  split at h
  · split at h
    · rename_i p qs e1 e2
      obtain ⟨⟨c1, c2⟩, h⟩ := ite_sat h
      exact ⟨p, qs, dp_of hr _ x xv p dx e1, dp_of hr _ _ yv _ dy e2, c1, c2, ko_here hr h (.bl _)⟩
    · exact h.elim
  · exact h.elim
/-- x in y -/
def inG0 (neg : Bool) : G2 := fun x y S => match dkO S y with
  | some kvs => match keyOf x with
    | some k => .ok (.bl (if neg then !(valD kvs k).isSome else (valD kvs k).isSome)) S
    | none => .no
  | none => if x.flat = true then inF neg x y S else inDp neg x y S
theorem inG0_calm (neg : Bool) : Calm2 (inG0 neg) := by
  intro x y S
  unfold inG0
  split
  · split
    · exact calm_ok _ _
    · exact calm_no
  · split
    · exact inF_calm neg x y S
    · exact inDp_calm neg x y S
def inG (neg : Bool) : G2 := fun x y S => match tget S y x with
  | some o => .ok (.bl (if neg then !o.isSome else o.isSome)) S
  | none => inG0 neg x y S
theorem inG_calm (neg : Bool) : Calm2 (inG neg) := by
  intro x y S
  unfold inG
  split
  · exact calm_ok _ _
  · exact inG0_calm neg x y S
def rInB (K : PySem.W.Frag) (neg : Bool) : R2 := fun x y H Q => rIn K neg x y H Q ∨ (rDIn neg x y H Q ∨ rInDN K neg x y H Q)
def rInA (K : PySem.W.Frag) (neg : Bool) : R2 := fun x y H Q => rInB K neg x y H Q ∨ rTIn K neg x y H Q
theorem u128 {k : Nat} {A : Around} (r : Room k A) : A.units + 128 < cLine := by have := r.un; omega
theorem op_inA (hu : X.A.units + 128 < cLine) : OpR X (compareOp .In) (rInA X.K false) := (op_in_seq.or ((op_din (by omega)).or (op_inD (by omega)))).or (op_tin (by omega))
theorem op_ninA (hu : X.A.units + 128 < cLine) : OpR X (compareOp .NotIn) (rInA X.K true) := (op_notIn_seq.or ((op_dnin (by omega)).or (op_notInD (by omega)))).or (op_tnin (by omega))
theorem ro_in0 {neg : Bool} : RO K (rInB K neg) (inG0 neg) := by
  intro H ρ S x y xv yv Q hr dx dy h
  unfold inG0 at h
  cases e : dkO S y with
  | none =>
    rw [e] at h
    simp only at h
    by_cases hf : x.flat = true
    · rw [if_pos hf] at h
      exact .inl (ro_inF H ρ S x y xv yv Q hr dx dy h)
    · rw [if_neg hf] at h
      exact .inr (.inr (ro_inDp H ρ S x y xv yv Q hr dx dy h))
  | some kvs =>
    rw [e] at h
    simp only at h
    cases ek : keyOf x with
    | none => rw [ek] at h; exact h.elim
    | some k =>
      rw [ek] at h
      obtain ⟨n, a, ws, rfl, rfl, ha, hH, hd⟩ := dkO_some hr dy e
      refine .inr (.inl ⟨a, valV ws k, rfl, by rw [key_dv dx ek]; exact DGet.rd hH, ?_⟩)
      rw [← dps_isSome hd k]
      exact ko_here hr h (.bl _)
theorem ro_in {neg : Bool} : RO K (rInA K neg) (inG neg) := by
  intro H ρ S x y xv yv Q hr dx dy h
  unfold inG at h
  cases e : tget S y x with
  | none =>
    rw [e] at h
    exact .inl (ro_in0 H ρ S x y xv yv Q hr dx dy h)
  | some o =>
    rw [e] at h
    obtain ⟨a, b, k, xs, rfl, rfl, tk, t, es, _⟩ := tget_some hr dy dx e
    refine .inr ⟨a, b, k, xs, rfl, rfl, tk, t, ?_⟩
    rw [← es]
    exact ko_here hr h (.bl _)
def eqG (neg : Bool) : G2 := fun x y S => match pdo S x, pdo S y with
  | some p, some q => if SeqAt.shaped p = true ∧ SeqAt.shaped q = true then .ok (.bl (if neg then !PyData.eqv p q else PyData.eqv p q)) S else .no
  | _, _ => .no
theorem eqG_calm (neg : Bool) : Calm2 (eqG neg) := by
  intro x y S
  unfold eqG
  split
  · exact calm_ite (calm_ok _ _)
  · exact calm_no
def rEqN (K : PySem.W.Frag) (neg : Bool) : R2 := fun x y H Q => ∃ d e, Dp K H x d ∧ Dp K H y e ∧ SeqAt.shaped d = true ∧ SeqAt.shaped e = true ∧ Q (.bl (if neg then !PyData.eqv d e else PyData.eqv d e)) H
theorem op_eqN (hu : X.A.units + 128 < cLine) : OpR X (compareOp .Eq) (rEqN X.K false) := op_eqD (by omega)
theorem op_neN (hu : X.A.units + 128 < cLine) : OpR X (compareOp .NotEq) (rEqN X.K true) := op_neD (by omega)
theorem ro_eq {neg : Bool} : RO K (rEqN K neg) (eqG neg) := by
  intro H ρ S x y xv yv Q hr dx dy h
  unfold eqG at h
  cases e : pdo S x with
  | none => rw [e] at h; exact h.elim
  | some p =>
    cases e2 : pdo S y with
    | none => rw [e, e2] at h; exact h.elim
    | some q =>
      rw [e, e2] at h
      obtain ⟨⟨c1, c2⟩, h⟩ := ite_sat h
      exact ⟨p, q, dp_of hr _ x xv p dx e, dp_of hr _ y yv q dy e2, c1, c2, ko_here hr h (.bl _)⟩
/-! ### x[i], x[a:b] -/
def ixL : G2 := fun x y S => match y with
  | .int i => match x with
    | .str z => if z.length ≤ strLim then match atI z.cps.toList i with
      | some c => .ok (.str ⟨#[c]⟩) S
      | none => .no else .no
    | _ => match seqOf S x with
      | some xs => match atI xs i with
        | some d => .ok d S
        | none => .no
      | none => .no
  | _ => .no
theorem DVs.atI {ds : List Dt} {vs : List V} {i : Int} {d : Dt} (h : DVs K H ρ ds vs) (e : L2.atI ds i = some d) : ∃ v, L2.atI vs i = some v ∧ DV K H ρ d v := by
  unfold L2.atI at e ⊢
  rw [← h.length]
  cases hj : ixN ds.length i with
  | none => rw [hj] at e; cases e
  | some j =>
    rw [hj] at e
    exact h.get e
theorem ro_ixL : RO K (rIx K) ixL := by
  intro H ρ S x y xv yv Q hr dx dy h
  cases dy <;> first | exact h.elim | skip
  rename_i i
  unfold ixL at h
  simp only at h
  cases dx
  case str z =>
    simp only at h
    obtain ⟨c, h⟩ := ite_sat h
    cases e : atI z.cps.toList i with
    | none => rw [e] at h; exact h.elim
    | some c' =>
      rw [e] at h
      exact .inr (.inr ⟨z, i, c', rfl, rfl, Nat.le_trans c (by decide), e, ko_here hr h (.str _)⟩)
  case tup a ds vs ht hd =>
    simp only [seqOf] at h
    cases e : L2.atI ds i with
    | none => rw [e] at h; exact h.elim
    | some d =>
      rw [e] at h
      obtain ⟨v, h1, h2⟩ := hd.atI e
      exact .inr (.inl ⟨a, vs, i, v, rfl, rfl, ht.sqt, h1, ko_here hr h h2⟩)
  case box n a ha =>
    simp only [seqOf] at h
    cases e0 : S.seq n with
    | none => rw [e0] at h; exact h.elim
    | some xs =>
      rw [e0] at h
      simp only at h
      obtain ⟨vs, h1, h2⟩ := hr.rd ha e0
      cases e : L2.atI xs i with
      | none => rw [e] at h; exact h.elim
      | some d =>
        rw [e] at h
        obtain ⟨v, h3, h4⟩ := h2.atI e
        exact .inl ⟨a, vs, i, v, rfl, rfl, h1, h3, ko_here hr h h4⟩
  all_goals (simp only [seqOf] at h; exact h.elim)
theorem ixL_calm : Calm2 ixL := by
  intro x y S c ds S'
  unfold ixL
  split <;> try exact calm_no _ _ _
  split
  · split
    · split
      · exact calm_ok _ _ _ _ _
      · exact calm_no _ _ _
    · exact calm_no _ _ _
  · split
    · split
      · exact calm_ok _ _ _ _ _
      · exact calm_no _ _ _
    · exact calm_no _ _ _
def ixG0 : G2 := fun x y S => match dkO S x with
  | some kvs => dgetG kvs y S
  | none => ixL x y S
theorem ixG0_calm : Calm2 ixG0 := by
  intro x y S
  unfold ixG0
  split
  · exact dgetG_calm _ _ _
  · exact ixL_calm x y S
theorem ro_ix0 : RO K (fun x y H Q => rIx K x y H Q ∨ rDGet x y H Q) ixG0 := by
  intro H ρ S x y xv yv Q hr dx dy h
  unfold ixG0 at h
  cases e : dkO S x with
  | none =>
    rw [e] at h
    exact .inl (ro_ixL H ρ S x y xv yv Q hr dx dy h)
  | some kvs =>
    rw [e] at h
    exact .inr (dget_sat hr dx dy e h)
def ixG : G2 := fun x y S => match tget S x y with
  | some (some d) => .ok d S
  | some none => .no
  | none => ixG0 x y S
theorem ixG_calm : Calm2 ixG := by
  intro x y S
  unfold ixG
  split
  · exact calm_ok _ _
  · exact calm_no
  · exact ixG0_calm x y S
theorem ro_ix : RO K (fun x y H Q => (rIx K x y H Q ∨ rDGet x y H Q) ∨ rTIx K x y H Q) ixG := by
  intro H ρ S x y xv yv Q hr dx dy h
  unfold ixG at h
  cases e : tget S x y with
  | none =>
    rw [e] at h
    exact .inl (ro_ix0 H ρ S x y xv yv Q hr dx dy h)
  | some o =>
    rw [e] at h
    obtain ⟨a, b, k, xs, rfl, rfl, tk, t, es, c⟩ := tget_some hr dx dy e
    rcases c with ⟨d, v, u, rfl, e1, r, dv⟩ | ⟨rfl, _⟩
    · exact .inr ⟨a, b, k, xs, u, v, rfl, rfl, tk, t, e1, r, ko_here hr h dv⟩
    · exact h.elim
theorem se_ix {a b : Expr} {pos : Pos} {fa fb : FE} (hu : X.A.units + 128 < cLine) (ha : SE X Er a fa) (hb : SE X Er b fb) (hs : PlainIx b := by intro _ _; rfl) : SE X Er (.Subscript a b pos) (dBin ixG fa fb) := by
  obtain ⟨ta, pa, qa⟩ := ha.ex
  obtain ⟨tb, pb, qb⟩ := hb.ex
  exact ⟨_, pe_ix ((ix_seq.or (ix_dict (by omega))).or (ix_dt (by omega))) pa pb hs, fun τ H ρ σ S Q T h => bin_sat qa qb ro_ix ixG_calm T h⟩
abbrev FO := Sg → Bxs → Rs (Option Int)
structure SO (X : Cx) (Er : ER) (e : Option Expr) (f : FO) : Prop where
  ex : ∃ t, PO X e t ∧ ∀ τ H ρ σ S (Q : Option Int → Hp → Prop), Ty X.K H ρ σ S τ → (f σ S).Sat (fun o S' => ∀ H' ρ', To H H' ρ ρ' → HR X.K H' ρ' S' → Q o H') (KX Er H ρ) → t τ H Q
def oNone : FO := fun _ S => .ok none S
def oSome (f : FE) : FO := fun σ S => (f σ S).bind fun d S1 => match d with
  | .int i => .ok (some i) S1
  | _ => .no
theorem so_none : SO X Er none oNone := ⟨_, po_none, fun τ H ρ σ S Q T h => h H ρ (To.refl _ _) T.hr⟩
theorem so_some {e : Expr} {f : FE} (h : SE X Er e f) : SO X Er (some e) (oSome f) := by
  obtain ⟨te, p, q⟩ := h.ex
  refine ⟨_, po_some p, fun τ H ρ σ S Q T h => q τ H ρ σ S _ T ((link h).mono (fun d S1 h1 => ?_) fun _ _ _ q => q)⟩
  intro v H' ρ' t hr dv
  cases dv <;> first | exact h1.elim | skip
  exact ⟨_, rfl, h1 H' ρ' t hr⟩
def cutD (xs : List Dt) (lo hi : Option Int) : List Dt := (xs.drop (HT.sIx xs.length 0 lo)).take (HT.sIx xs.length xs.length hi - HT.sIx xs.length 0 lo)
theorem DVs.cut {ds : List Dt} {vs : List V} (h : DVs K H ρ ds vs) (lo hi : Option Int) : DVs K H ρ (cutD ds lo hi) (cutV vs lo hi) := by
  unfold cutD cutV
  rw [← h.length]
  exact (h.drop _).take _
theorem cutD_length (xs : List Dt) (lo hi : Option Int) : (cutD xs lo hi).length ≤ xs.length := by
  unfold cutD
  rw [List.length_take, List.length_drop]
  omega
theorem cutD_whole {xs : List Dt} {lo hi : Option Int} (h : wholeCut xs.length lo hi = true) : cutD xs lo hi = xs := by
  unfold wholeCut at h
  rw [Bool.and_eq_true, decide_eq_true_eq, decide_eq_true_eq] at h
  unfold cutD
  rw [h.1, h.2, List.drop_zero, Nat.sub_zero, List.take_length]
def slG (lo hi : Option Int) (x : Dt) (S : Bxs) : Rs Dt := match x with
  | .str z => if z.length ≤ strLim then .ok (.str (cutS z lo hi)) S else .no
  | .tup xs => .ok (.tup (cutD xs lo hi)) S
  | .box n => match S.seq n with
    | some xs => newL (cutD xs lo hi) S
    | none => .no
  | _ => .no
def dSl (f : FE) (lo hi : FO) : FE := fun σ S => (f σ S).bind fun d S1 => (lo σ S1).bind fun l S2 => (hi σ S2).bind fun u S3 => slG l u d S3
def rSlAll (K : PySem.W.Frag) : V → Option Int → Option Int → Hp → VK → Prop := fun x lo hi H Q => rSlL K x lo hi H Q ∨ (rSlZ K x lo hi H Q ∨ rSlS x lo hi H Q)
theorem sl_all : SlR X (rSlAll X.K) := sl_list.or (sl_tupZ.or sl_str)
theorem slG_calm (lo hi : Option Int) (x : Dt) (S : Bxs) (c : Nat) (es : List Dt) (S' : Bxs) : slG lo hi x S ≠ .ex c es S' := by
  unfold slG
  split
  · exact calm_ite (calm_ok _ _) _ _ _
  · exact calm_ok _ _ _ _ _
  · split
    · exact newL_calm _ _ _ _ _
    · exact calm_no _ _ _
  · exact calm_no _ _ _
theorem sl_sat {lo hi : Option Int} {d : Dt} {v : V} {Q : VK} (hr : HR K H ρ S) (dv : DV K H ρ d v) (h : (slG lo hi d S).Sat (KO K H ρ Q) noX) : rSlAll K v lo hi H Q := by
  cases dv <;> first | exact h.elim | skip
  · obtain ⟨c, h⟩ := ite_sat h
    exact .inr (.inr ⟨_, rfl, Nat.le_trans c (by decide), ko_here hr h (.str _)⟩)
  · rename_i a ds vs ht hd
    refine .inr (.inl ⟨a, vs, rfl, ht.sqt, fun z => ?_, fun _ => new_tup hr (hd.cut lo hi) h⟩)
    have h' : KO K H ρ Q (.tup (cutD ds lo hi)) S := h
    rw [cutD_whole (by rw [hd.length]; exact z)] at h'
    exact ko_here hr h' (.tup ht hd)
  · rename_i n a ha
    unfold slG at h
    simp only at h
    cases e : S.seq n with
    | none => rw [e] at h; exact h.elim
    | some xs =>
      rw [e] at h
      obtain ⟨hl, h⟩ := newL_ok h
      obtain ⟨vs, h1, h2⟩ := hr.rd ha e
      exact .inl ⟨a, vs, rfl, h1, fun p hp => new_lst hr (h2.cut lo hi) hp h⟩
theorem se_slice {e : Expr} {lo hi : Option Expr} {f : FE} {fl fh : FO} {p2 pos : Pos} (he : SE X Er e f) (hl : SO X Er lo fl) (hh : SO X Er hi fh) : SE X Er (.Subscript e (.Slice lo hi none p2) pos) (dSl f fl fh) := by
  obtain ⟨te, pe, qe⟩ := he.ex
  obtain ⟨tl, pl, ql⟩ := hl.ex
  obtain ⟨th, ph, qh⟩ := hh.ex
  refine ⟨_, pe_slice sl_all pe pl ph, fun τ H ρ σ S Q T h => qe τ H ρ σ S _ T ((link h).mono (fun d S1 h1 => ?_) fun _ _ _ q => q)⟩
  intro v H1 ρ1 t1 hr1 dv
  refine ql τ H1 ρ1 σ S1 _ (T.to t1 hr1) ((link h1).mono (fun l S2 h2 => ?_) fun _ _ _ q => q.to t1)
  intro H2 ρ2 t2 hr2
  refine qh τ H2 ρ2 σ S2 _ (T.to (t1.trans t2) hr2) ((link h2).mono (fun u S3 h3 => ?_) fun _ _ _ q => q.to (t1.trans t2))
  intro H3 ρ3 t3 hr3
  exact sl_sat hr3 (dv.to (t2.trans t3)) (sat_calm (slG_calm _ _ _ _) (Rs.Sat.toO ((t1.trans t2).trans t3) h3))
/-! ### calls of built-ins -/
abbrev GC := List Dt → Bxs → Rs Dt
def CalmC (g : GC) : Prop := ∀ ds S c es S', g ds S ≠ .ex c es S'
def RCo (K : PySem.W.Frag) (r : List V → Hp → VK → Prop) (g : GC) : Prop := ∀ H ρ S ds vs Q, HR K H ρ S → DVs K H ρ ds vs → (g ds S).Sat (KO K H ρ Q) noX → r vs H Q
def dCall (g : GC) (a : FA) : FE := fun σ S => (a σ S).bind g
theorem call_sat {fa : FA} {g : GC} {ta : TA} {r : List V → Hp → VK → Prop} (ha : ∀ τ H ρ σ S Q, Ty X.K H ρ σ S τ → (fa σ S).Sat (KA X.K H ρ Q) (KX Er H ρ) → ta τ H Q)
    (hr : RCo X.K r g) (hc : CalmC g) {τ : L2.St} {Q : VK} (T : Ty X.K H ρ σ S τ) (h : (dCall g fa σ S).Sat (KO X.K H ρ Q) (KX Er H ρ)) : ta τ H fun vs H1 => r vs H1 Q := by
  refine ha τ H ρ σ S _ T ((link h).mono (fun ds S1 h1 => ?_) fun _ _ _ q => q)
  intro vs H1 ρ1 t1 hr1 dvs
  exact hr H1 ρ1 S1 ds vs Q hr1 dvs (sat_calm (hc ds S1) (Rs.Sat.toO t1 h1))
theorem se_callB {x : Str} {p pos : Pos} {e : Expr} {es : List Expr} {id : String} {r : List V → Hp → VK → Prop} {g : GC} {fa : FA} (hc : CallR X (.builtin id) r) (hr : RCo X.K r g) (hcalm : CalmC g) (hg : Gl X x) (hm : X.mg x = none) (hv : bootBuiltins x = some (.builtin id))
    (ha : SA X Er (e :: es) fa) (hn : x ≠ "__name__" := by decide) (hdb : (x == ("__debug__" : Str)) = false := by decide)
    (he : starEach (e :: es) X.env = (false, eval e X.env) :: starEach es X.env := by rfl) (hpl : (backTo pos (starEach es X.env)).any (·.1) = false := by rfl) : SE X Er (.Call (.Name x p) (e :: es) [] pos) (dCall g fa) := by
  obtain ⟨ta, pa, qa⟩ := ha.ex
  exact ⟨_, pe_callB hc hg hm hv pa hn hdb he hpl, fun τ H ρ σ S Q T h => call_sat qa hr hcalm T h⟩
theorem se_callTy {x : Str} {p pos : Pos} {e : Expr} {es : List Expr} {tn : String} {r : List V → Hp → VK → Prop} {g : GC} {fa : FA} (hc : CallR X (.type tn) r) (hr : RCo X.K r g) (hcalm : CalmC g) (hg : Gl X x) (hm : X.mg x = none) (hv : bootBuiltins x = some (.type tn))
    (ha : SA X Er (e :: es) fa) (hn : x ≠ "__name__" := by decide) (hdb : (x == ("__debug__" : Str)) = false := by decide)
    (he : starEach (e :: es) X.env = (false, eval e X.env) :: starEach es X.env := by rfl) (hpl : (backTo pos (starEach es X.env)).any (·.1) = false := by rfl) : SE X Er (.Call (.Name x p) (e :: es) [] pos) (dCall g fa) := by
  obtain ⟨ta, pa, qa⟩ := ha.ex
  exact ⟨_, pe_callTy hc hg hm hv pa hn hdb he hpl, fun τ H ρ σ S Q T h => call_sat qa hr hcalm T h⟩
end
end Mn
set_option Elab.async false
set_option linter.all false
set_option maxRecDepth 100000
set_option maxHeartbeats 4000000
/-! MnE: targets, statements, loops, comprehensions. -/
namespace Mn
open PySem PySem.Spec PyProof.Rows L2
section
variable {X : Cx} {Er : ER} {K : PySem.W.Frag} {H H1 : Hp} {ρ ρ1 : List Addr} {σ : Sg} {S S1 : Bxs} {τ : L2.St}
/-! ### one form for each judgement -/
def canE (K : PySem.W.Frag) (Er : ER) (f : FE) : TE := fun τ H Q => ∃ ρ σ S, Ty K H ρ σ S τ ∧ (f σ S).Sat (KO K H ρ Q) (KX Er H ρ)
def canT (K : PySem.W.Frag) (Er : ER) (f : FB) : TT := fun τ H Q => ∃ ρ σ S, Ty K H ρ σ S τ ∧ (f σ S).Sat (KB K H ρ Q) (KX Er H ρ)
theorem SE.can {e : Expr} {f : FE} (h : SE X Er e f) : PE X e (canE X.K Er f) := by
  obtain ⟨te, p, q⟩ := h.ex
  exact ⟨fun pins s σ H Q I ⟨ρ, σ', S, T, hs⟩ => p.run pins s σ H Q I (q _ _ _ _ _ _ T hs)⟩
theorem ST.can {e : Expr} {f : FB} (h : ST X Er e f) : PT X e (canT X.K Er f) := by
  obtain ⟨te, p, q⟩ := h.ex
  exact ⟨fun pins s σ H Q I ⟨ρ, σ', S, T, hs⟩ => p.run pins s σ H Q I (q _ _ _ _ _ _ T hs)⟩
/-! ### targets -/
abbrev FT := Dt → Sg → Bxs → Rs Sg
abbrev FTs := List Dt → Sg → Bxs → Rs Sg
def KS (K : PySem.W.Frag) (H : Hp) (ρ : List Addr) (Q : L2.St → Hp → Prop) : Sg → Bxs → Prop := fun σ' S' => ∀ τ' H' ρ', To H H' ρ ρ' → Ty K H' ρ' σ' S' τ' → Q τ' H'
structure SG (X : Cx) (Er : ER) (tg : Expr) (g : FT) : Prop where
  ex : ∃ t, PG X tg t ∧ ∀ v d τ H ρ σ S Q, Ty X.K H ρ σ S τ → DV X.K H ρ d v → (g d σ S).Sat (KS X.K H ρ Q) (KX Er H ρ) → t v τ H Q
structure SGs (X : Cx) (Er : ER) (ts : List Expr) (g : FTs) : Prop where
  ex : ∃ t, PGs X ts t ∧ ∀ vs ds τ H ρ σ S Q, Ty X.K H ρ σ S τ → DVs X.K H ρ ds vs → (g ds σ S).Sat (KS X.K H ρ Q) (KX Er H ρ) → t vs τ H Q
theorem Rs.Sat.toS {r : Rs Sg} {Q : L2.St → Hp → Prop} (t : To H H1 ρ ρ1) (h : r.Sat (KS K H ρ Q) (KX Er H ρ)) : r.Sat (KS K H1 ρ1 Q) (KX Er H1 ρ1) :=
  h.mono (fun _ _ q τ' H' ρ' t' => q τ' H' ρ' (t.trans t')) fun _ _ _ q => q.to t
def tName (i : Nat) : FT := fun d σ S => .ok (σ.set i (some d)) S
theorem sg_name (i : Nat) {x : Str} {pos : Pos} (hN : X.N.Nodup) (hi : X.N[i]? = some x := by rfl) (hx : Loc X.env.scope x := by first | exact .inl rfl | exact .inr rfl) (hf : X.fn x = true ∨ X.env.scope.names.lookup x = some .local := by first | exact .inl rfl | exact .inr rfl) : SG X Er (.Name x pos) (tName i) :=
  ⟨_, pg_name hN hi hx hf, fun v d τ H ρ σ S Q T dv h => h _ H ρ (To.refl _ _) ⟨T.hr, T.sl.set i dv⟩⟩
def tNilG : FTs := fun ds σ S => match ds with
  | [] => .ok σ S
  | _ => .no
def tConsG (g : FT) (r : FTs) : FTs := fun ds σ S => match ds with
  | d :: ds => (g d σ S).bind fun σ1 S1 => r ds σ1 S1
  | [] => .no
theorem sgs_nil : SGs X Er [] tNilG := by
  refine ⟨_, pgs_nil, fun vs ds τ H ρ σ S Q T dv h => ?_⟩
  cases dv with
  | nil => exact ⟨rfl, h τ H ρ (To.refl _ _) T⟩
  | cons _ _ => exact h.elim
theorem sgs_cons {e : Expr} {es : List Expr} {g : FT} {r : FTs} (h1 : SG X Er e g) (h2 : SGs X Er es r) (hs : (assignEach (e :: es) X.env).map (·.2) = assign e X.env :: (assignEach es X.env).map (·.2) := by rfl) : SGs X Er (e :: es) (tConsG g r) := by
  obtain ⟨t1, p1, q1⟩ := h1.ex
  obtain ⟨t2, p2, q2⟩ := h2.ex
  refine ⟨_, pgs_cons p1 p2 hs, fun vs ds τ H ρ σ S Q T dv h => ?_⟩
  cases dv with
  | nil => exact h.elim
  | cons dx dxs =>
    refine ⟨_, _, rfl, q1 _ _ τ H ρ σ S _ T dx ((link h).mono (fun σ1 S1 h1 => ?_) fun _ _ _ q => q)⟩
    intro τ1 H1 ρ1 t T1
    exact q2 _ _ τ1 H1 ρ1 σ1 S1 Q T1 (dxs.to t) (Rs.Sat.toS t h1)
/-- (a, b, ..) = a tuple -/
def tTupG (n : Nat) (g : FTs) : FT := fun d σ S => match d with
  | .tup xs => if xs.length = n then g xs σ S else .no
  | _ => .no
theorem sg_tup {es : List Expr} {k n : Nat} {pos : Pos} {g : FTs} (hc : X.calm = true) (h : SGs X Er es g) (hn : (assignEach es X.env).length = n := by rfl) (hst : (assignEach es X.env).findIdx? (·.1) = none := by rfl) : SG X Er (.Tuple es k pos) (tTupG n g) := by
  obtain ⟨t, p, q⟩ := h.ex
  refine ⟨_, pg_tup hc p hn hst, fun v d τ H ρ σ S Q T dv h => ?_⟩
  cases dv <;> first | exact h.elim | skip
  rename_i a ds vs ht hd
  obtain ⟨c, h⟩ := ite_sat h
  exact ⟨a, vs, rfl, ht.sqt, by rw [← hd.length]; exact c, q _ _ τ H ρ σ S Q T hd h⟩
/-- xs[i] = .. of a list -/
def setL (o i d : Dt) (S : Bxs) : Rs Unit := match o, i with
  | .box n, .int k => match S.lst n with
    | some xs => match ixN xs.length k with
      | some j => .ok () (S.set n (.lst (xs.set j d)))
      | none => .no
    | none => .no
  | _, _ => .no
theorem setL_sat {o i d : Dt} {ov iv v : V} {Q : Hp → Prop} (hr : HR K H ρ S) (dO : DV K H ρ o ov) (di : DV K H ρ i iv) (dv : DV K H ρ d v)
    (h : (setL o i d S).Sat (fun _ S' => ∀ H' , To H H' ρ ρ → HR K H' ρ S' → Q H') noX) : rSetL ov iv v H Q := by
  cases dO <;> first | exact h.elim | skip
  rename_i n a ha
  cases di <;> first | exact h.elim | skip
  rename_i k
  unfold setL at h
  simp only at h
  cases e : S.lst n with
  | none => rw [e] at h; exact h.elim
  | some xs =>
    rw [e] at h
    simp only at h
    cases e2 : ixN xs.length k with
    | none => rw [e2] at h; exact h.elim
    | some j =>
      rw [e2] at h
      obtain ⟨vs, h1, h2⟩ := hr.mu ha e
      exact ⟨a, vs, k, j, rfl, rfl, h1, by rw [← h2.length]; exact e2, h _ ⟨Ext.set h1, List.prefix_refl _⟩ (hr.set (lst_get e) ha h1 (h2.set dv j))⟩
theorem setL_calm (o i d : Dt) (S : Bxs) : ∀ c es S', setL o i d S ≠ .ex c es S' := by
  intro c es S'
  unfold setL
  split
  · split
    · split
      · exact calm_ok _ _ _ _ _
      · exact calm_no _ _ _
    · exact calm_no _ _ _
  · exact calm_no _ _ _
/-- d[k] = .. of a dict -/
def dsetG (o i d : Dt) (kvs : List (Key × Dt)) (S : Bxs) : Rs Unit := match o, keyOf i with
  | .box n, some k => if kvs.length < LIM then .ok () (S.set n (.dk (putD kvs k d))) else .no
  | _, _ => .no
/-- x[i] = .. -/
def setG0 (o i d : Dt) (S : Bxs) : Rs Unit := match dkW S o with
  | some kvs => dsetG o i d kvs S
  | none => setL o i d S
theorem setG0_calm (o i d : Dt) (S : Bxs) : ∀ c es S', setG0 o i d S ≠ .ex c es S' := by
  intro c es S'
  unfold setG0
  split
  · unfold dsetG
    split
    · exact calm_ite (calm_ok _ _) _ _ _
    · exact calm_no _ _ _
  · exact setL_calm _ _ _ _ _ _ _
theorem set_sat0 {o i d : Dt} {ov iv v : V} {Q : Hp → Prop} (hr : HR K H ρ S) (dO : DV K H ρ o ov) (di : DV K H ρ i iv) (dv : DV K H ρ d v)
    (h : (setG0 o i d S).Sat (fun _ S' => ∀ H' , To H H' ρ ρ → HR K H' ρ S' → Q H') noX) : rSetL ov iv v H Q ∨ rDSet ov iv v H Q := by
  unfold setG0 at h
  cases e : dkW S o with
  | none =>
    rw [e] at h
    exact .inl (setL_sat hr dO di dv h)
  | some kvs =>
    rw [e] at h
    simp only at h
    obtain ⟨n, a, ws, rfl, rfl, ha, hn, hH, hd⟩ := dkW_some hr dO e
    unfold dsetG at h
    cases ek : keyOf i with
    | none => rw [ek] at h; exact h.elim
    | some k =>
      rw [ek] at h
      obtain ⟨c, h⟩ := ite_sat h
      refine .inr ⟨a, _, rfl, by rw [key_dv di ek]; exact DPut.k hH (by rw [← hd.length]; exact lim_lt c), h _ ⟨Ext.setD hH, List.prefix_refl _⟩ (hr.setD hn ha hH (dps_put dv hd))⟩
def tsetG (o i d : Dt) (S : Bxs) : Option (Rs Unit) := match o, tiOf i, dtO S o with
  | .box n, some k, some kvs => some (if kvs.length < LIM then .ok () (S.set n (.dt (putT kvs k d))) else .no)
  | _, _, _ => none
def setG (o i d : Dt) (S : Bxs) : Rs Unit := match tsetG o i d S with
  | some r => r
  | none => setG0 o i d S
theorem setG_calm (o i d : Dt) (S : Bxs) : ∀ c es S', setG o i d S ≠ .ex c es S' := by
  intro c es S'
  unfold setG tsetG
  split
  · rename_i r e
    split at e
    · cases e
      exact calm_ite (calm_ok _ _) _ _ _
    · cases e
  · exact setG0_calm _ _ _ _ _ _ _
theorem set_sat {o i d : Dt} {ov iv v : V} {Q : Hp → Prop} (hr : HR K H ρ S) (dO : DV K H ρ o ov) (di : DV K H ρ i iv) (dv : DV K H ρ d v)
    (h : (setG o i d S).Sat (fun _ S' => ∀ H' , To H H' ρ ρ → HR K H' ρ S' → Q H') noX) : (rSetL ov iv v H Q ∨ rDSet ov iv v H Q) ∨ rTSet K ov iv v H Q := by
  unfold setG at h
  cases e : tsetG o i d S with
  | none =>
    rw [e] at h
    exact .inl (set_sat0 hr dO di dv h)
  | some r =>
    rw [e] at h
    unfold tsetG at e
    split at e
    · rename_i n k kvs e1 e2
      cases e
      obtain ⟨c, h⟩ := ite_sat h
      obtain ⟨b, rfl, tk⟩ := tiOf_dv di e1
      obtain ⟨n', a, xs, en, rfl, ha, hn, t, kt⟩ := dtO_some hr dO e2
      cases en
      refine .inr ⟨a, b, k, xs, rfl, rfl, tk, t, by rw [← kt.length]; exact lim_lt c, fun u ru => ?_⟩
      have ex : Ext H (upd H a (DtO a (storedH xs k b u))) := by
        rcases t with ⟨q, _⟩ | ⟨q, _⟩
        · exact Ext.setT q
        · exact Ext.setD q
      refine h _ ⟨ex, List.prefix_refl _⟩ ?_
      have hb : ∃ bx, S[n]? = some bx ∧ bx.mu = true := by
        rcases dt_get hn with q | ⟨q, _⟩
        · exact ⟨_, q, rfl⟩
        · exact ⟨_, q, rfl⟩
      obtain ⟨bx, hb1, hb2⟩ := hb
      exact hr.setB hb1 hb2 rfl ha ex ⟨_, upd_same, (kt_put tk dv ru kt).mono ex (List.prefix_refl _)⟩
    · cases e
def tSubG (o i : FE) : FT := fun d σ S => (o σ S).bind fun a S1 => (i σ S1).bind fun b S2 => (setG a b d S2).bind fun _ S3 => .ok σ S3
theorem sg_sub {o i : Expr} {fo fi : FE} {pos : Pos} (hu : X.A.units + 128 < cLine) (ho : SE X Er o fo) (hi : SE X Er i fi)
    (ha : ∀ v, assign (.Subscript o i pos) X.env v = (do
      let ov ← holding [v] (eval o X.env)
      let iv ← holding [v, ov] (eval i X.env)
      standAt pos
      holding [v, ov, iv] (setItem ov iv v)
      release [v, ov, iv] []) := by intro _; rfl) : SG X Er (.Subscript o i pos) (tSubG fo fi) := by
  obtain ⟨to, po, qo⟩ := ho.ex
  obtain ⟨ti, pi, qi⟩ := hi.ex
  refine ⟨_, pg_sub po pi (PSet.or (PSet.or set_list (set_dict (by omega))) (set_dt (by omega))) ha, fun v d τ H ρ σ S Q T dv h => qo τ H ρ σ S _ T ((link h).mono (fun a S1 h1 => ?_) fun _ _ _ q => q)⟩
  intro ov H1 ρ1 t1 hr1 da
  refine qi τ H1 ρ1 σ S1 _ (T.to t1 hr1) ((link h1).mono (fun b S2 h2 => ?_) fun _ _ _ q => q.to t1)
  intro iv H2 ρ2 t2 hr2 db
  refine set_sat hr2 (da.to t2) db (dv.to (t1.trans t2)) (sat_calm (setG_calm _ _ _ _) ((link h2).mono (fun _ S3 h3 => ?_) fun _ _ _ q => q))
  intro H3 t3 hr3
  exact h3 τ H3 ρ2 ((t1.trans t2).trans t3) (T.to ((t1.trans t2).trans t3) hr3)
/-! ### statements -/
inductive Fl where
  | nx | rt (d : Dt) | bk | ct
abbrev FS := Sg → Bxs → Rs (Fl × Sg)
def KF (K : PySem.W.Frag) (H : Hp) (ρ : List Addr) (D : Ends) : Fl × Sg → Bxs → Prop := fun r S' => match r.1 with
  | .nx => KS K H ρ D.nx r.2 S'
  | .rt d => KO K H ρ D.rt d S'
  | .bk => KS K H ρ D.bk r.2 S'
  | .ct => KS K H ρ D.ct r.2 S'
theorem KF.to {D : Ends} {r : Fl × Sg} {S' : Bxs} (t : To H H1 ρ ρ1) (h : KF K H ρ D r S') : KF K H1 ρ1 D r S' := by
  obtain ⟨fl, σ'⟩ := r
  cases fl with
  | nx => exact fun τ' H' ρ' t' => h τ' H' ρ' (t.trans t')
  | rt d => exact fun v H' ρ' t' => h v H' ρ' (t.trans t')
  | bk => exact fun τ' H' ρ' t' => h τ' H' ρ' (t.trans t')
  | ct => exact fun τ' H' ρ' t' => h τ' H' ρ' (t.trans t')
theorem Rs.Sat.toF {r : Rs (Fl × Sg)} {D : Ends} (t : To H H1 ρ ρ1) (h : r.Sat (KF K H ρ D) (KX Er H ρ)) : r.Sat (KF K H1 ρ1 D) (KX Er H1 ρ1) :=
  h.mono (fun _ _ q => q.to t) fun _ _ _ q => q.to t
structure SS (X : Cx) (Er : ER) (st : Stmt) (f : FS) : Prop where
  ex : ∃ ts, PS X st ts ∧ ∀ τ H ρ σ S D, Ty X.K H ρ σ S τ → (f σ S).Sat (KF X.K H ρ D) (KX Er H ρ) → ts D τ H
structure SSs (X : Cx) (Er : ER) (st : List Stmt) (f : FS) : Prop where
  ex : ∃ ts, PSs X st ts ∧ ∀ τ H ρ σ S D, Ty X.K H ρ σ S τ → (f σ S).Sat (KF X.K H ρ D) (KX Er H ρ) → ts D τ H
def sNil : FS := fun σ S => .ok (.nx, σ) S
def sCons (f g : FS) : FS := fun σ S => (f σ S).bind fun r S1 => match r.1 with
  | .nx => g r.2 S1
  | _ => .ok r S1
theorem ss_nil : SSs X Er [] sNil := ⟨_, pss_nil, fun τ H ρ σ S D T h => h τ H ρ (To.refl _ _) T⟩
theorem ss_cons {st : Stmt} {rest : List Stmt} {f g : FS} (h1 : SS X Er st f) (h2 : SSs X Er rest g) : SSs X Er (st :: rest) (sCons f g) := by
  obtain ⟨t1, p1, q1⟩ := h1.ex
  obtain ⟨t2, p2, q2⟩ := h2.ex
  refine ⟨_, pss_cons p1 p2, fun τ H ρ σ S D T h => q1 τ H ρ σ S _ T ((link h).mono (fun r S1 h1 => ?_) fun _ _ _ q => q)⟩
  obtain ⟨fl, σ1⟩ := r
  cases fl with
  | nx =>
    intro τ1 H1 ρ1 t T1
    exact q2 τ1 H1 ρ1 σ1 S1 D T1 (Rs.Sat.toF t h1)
  | rt d => exact h1
  | bk => exact h1
  | ct => exact h1
theorem ss_one {st : Stmt} {f : FS} (h1 : SS X Er st f) : SSs X Er [st] f := let ⟨_, p, q⟩ := h1.ex; ⟨_, pss_one p, q⟩
def sExpr (f : FE) : FS := fun σ S => (f σ S).bind fun _ S1 => .ok (.nx, σ) S1
theorem ss_expr {e : Expr} {f : FE} {pos : Pos} (he : SE X Er e f) (hs : swapsWith e none pos.line X.env = pure false := by rfl) : SS X Er (.Expr e pos) (sExpr f) := by
  obtain ⟨te, p, q⟩ := he.ex
  refine ⟨_, ps_expr p hs, fun τ H ρ σ S D T h => q τ H ρ σ S _ T ((link h).mono (fun d S1 h1 => ?_) fun _ _ _ q => q)⟩
  intro v H' ρ' t hr _
  exact h1 τ H' ρ' t (T.to t hr)
def sRet (f : FE) : FS := fun σ S => (f σ S).bind fun d S1 => .ok (.rt d, σ) S1
theorem ss_ret {e : Expr} {f : FE} {pos : Pos} (he : SE X Er e f) : SS X Er (.Return (some e) pos) (sRet f) := by
  obtain ⟨te, p, q⟩ := he.ex
  exact ⟨_, ps_ret p, fun τ H ρ σ S D T h => q τ H ρ σ S _ T ((link h).mono (fun d S1 h1 => h1) fun _ _ _ q => q)⟩
def sAsg (f : FE) (g : FT) : FS := fun σ S => (f σ S).bind fun d S1 => (g d σ S1).bind fun σ1 S2 => .ok (.nx, σ1) S2
theorem ss_asg {tg e : Expr} {f : FE} {g : FT} {pos : Pos} (he : SE X Er e f) (hg : SG X Er tg g) (hs : swapsWithSole [tg] e pos.line X.env = pure false := by rfl) (hw : swappedStores [tg] e X.env = pure none := by rfl)
    (h1 : (assignEach [tg] X.env).map (·.2) = [assign tg X.env] := by rfl) : SS X Er (.Assign [tg] e pos) (sAsg f g) := by
  obtain ⟨te, p, q⟩ := he.ex
  obtain ⟨t, pg, qg⟩ := hg.ex
  refine ⟨_, ps_asg p pg hs hw h1, fun τ H ρ σ S D T h => q τ H ρ σ S _ T ((link h).mono (fun d S1 h1 => ?_) fun _ _ _ q => q)⟩
  intro v H1 ρ1 t1 hr1 dv
  refine qg v d τ H1 ρ1 σ S1 _ (T.to t1 hr1) dv ((link h1).mono (fun σ1 S2 h2 => ?_) fun _ _ _ q => q.to t1)
  intro τ2 H2 ρ2 t2 T2
  exact h2 τ2 H2 ρ2 (t1.trans t2) T2
/-- name = e -/
def sSet (i : Nat) (f : FE) : FS := fun σ S => (f σ S).bind fun d S1 => .ok (.nx, σ.set i (some d)) S1
theorem ss_set (i : Nat) {x : Str} {e : Expr} {f : FE} {pos pos' : Pos} (hN : X.N.Nodup) (he : SE X Er e f) (hi : X.N[i]? = some x := by rfl) (hx : Loc X.env.scope x := by first | exact .inl rfl | exact .inr rfl)
    (hs : swapsWith e (some (.Name x pos')) pos.line X.env = pure false := by rfl) (hf : X.fn x = true ∨ X.env.scope.names.lookup x = some .local := by first | exact .inl rfl | exact .inr rfl) : SS X Er (.Assign [.Name x pos'] e pos) (sSet i f) := by
  obtain ⟨te, p, q⟩ := he.ex
  refine ⟨_, ps_set (i := i) hN hi hx p hs hf, fun τ H ρ σ S D T h => q τ H ρ σ S _ T ((link h).mono (fun d S1 h1 => ?_) fun _ _ _ q => q)⟩
  intro v H1 ρ1 t1 hr1 dv
  exact h1 _ H1 ρ1 t1 ⟨hr1, (T.sl.to t1).set i dv⟩
/-- a, b = x, y by plain local names -/
def sPar2 (i j : Nat) (a : FA) : FS := fun σ S => (a σ S).bind fun ds S1 => match ds with
  | [d, e] => .ok (.nx, (σ.set i (some d)).set j (some e)) S1
  | _ => .no
theorem ss_par2 (i j : Nat) {x y : Str} {a b : Expr} {fa : FA} {px py pt pos : Pos} {kt k2 pt2} (hc : X.calm = true) (hN : X.N.Nodup) (ha : SA X Er [a, b] fa) (hi : X.N[i]? = some x := by rfl) (hj : X.N[j]? = some y := by rfl) (hij : i ≠ j := by decide)
    (hx : X.env.scope.names.lookup x = some .local := by rfl) (hy : X.env.scope.names.lookup y = some .local := by rfl)
    (hw : swappedStores [.Tuple [.Name x px, .Name y py] kt pt] (.Tuple [a, b] k2 pt2) X.env = pure (some [x, y]) := by rfl)
    (hs : swapsWithSole [.Tuple [.Name x px, .Name y py] kt pt] (.Tuple [a, b] k2 pt2) pos.line X.env = pure false := by rfl) :
    SS X Er (.Assign [.Tuple [.Name x px, .Name y py] kt pt] (.Tuple [a, b] k2 pt2) pos) (sPar2 i j fa) := by
  obtain ⟨ta, pa, qa⟩ := ha.ex
  refine ⟨_, ps_par hc hN hi hj hij hx hy pa hw hs, fun τ H ρ σ S D T h => qa τ H ρ σ S _ T ((link h).mono (fun ds S1 h1 => ?_) fun _ _ _ q => q)⟩
  intro vs H1 ρ1 t1 hr1 dvs
  cases dvs with
  | nil => exact h1.elim
  | cons d1 r1 =>
    cases r1 with
    | nil => exact h1.elim
    | cons d2 r2 =>
      cases r2 with
      | nil => exact ⟨_, _, rfl, h1 _ H1 ρ1 t1 ⟨hr1, ((T.sl.to t1).set i d1).set j d2⟩⟩
      | cons _ _ => exact h1.elim
def sIf (c : FB) (a b : FS) : FS := fun σ S => (c σ S).bind fun k S1 => if k = true then a σ S1 else b σ S1
theorem ss_if {c : Expr} {a b : List Stmt} {fc : FB} {fa fb : FS} {pos : Pos} (hc : ST X Er c fc) (ha : SSs X Er a fa) (hb : SSs X Er b fb) : SS X Er (.If c a b pos) (sIf fc fa fb) := by
  obtain ⟨tc, pc, qc⟩ := hc.ex
  obtain ⟨ta, pa, qa⟩ := ha.ex
  obtain ⟨tb, pb, qb⟩ := hb.ex
  refine ⟨_, ps_if pc pa pb, fun τ H ρ σ S D T h => qc τ H ρ σ S _ T ((link h).mono (fun k S1 h1 => ?_) fun _ _ _ q => q)⟩
  intro H1 ρ1 t1 hr1
  cases k with
  | true =>
    rw [if_pos rfl] at h1 ⊢
    exact qa τ H1 ρ1 σ S1 D (T.to t1 hr1) (Rs.Sat.toF t1 h1)
  | false =>
    rw [if_neg Bool.false_ne_true] at h1 ⊢
    exact qb τ H1 ρ1 σ S1 D (T.to t1 hr1) (Rs.Sat.toF t1 h1)
/-- name op= e, ints or texts -/
def sAug (i : Nat) (g : G2) (f : FE) : FS := fun σ S => match σ[i]? with
  | some (some d) => (f σ S).bind fun e S1 => (g d e S1).bind fun z S2 => .ok (.nx, σ.set i (some z)) S2
  | _ => .no
theorem ss_aug (i : Nat) {x : Str} {e : Expr} {f : FE} {g : G2} {op : Operator} {ti : TIp} {pos pos' : Pos} (hN : X.N.Nodup) (ho : PIp X op ti) (hr : RO X.K ti g) (hcalm : Calm2 g) (he : SE X Er e f) (hi : X.N[i]? = some x := by rfl)
    (hx : Loc X.env.scope x := by first | exact .inl rfl | exact .inr rfl) (hf : X.fn x = true ∨ X.env.scope.names.lookup x = some .local := by first | exact .inl rfl | exact .inr rfl) : SS X Er (.AugAssign (.Name x pos') op e pos) (sAug i g f) := by
  obtain ⟨te, p, q⟩ := he.ex
  refine ⟨_, ps_aug hN hi hx p ho hf, fun τ H ρ σ S D T h => ?_⟩
  unfold sAug at h
  cases e0 : σ[i]? with
  | none => rw [e0] at h; exact h.elim
  | some o =>
    cases o with
    | none => rw [e0] at h; exact h.elim
    | some d =>
      rw [e0] at h
      simp only at h
      obtain ⟨v, h1, h2⟩ := T.sl.at_ i d e0
      refine ⟨v, h1, q τ H ρ σ S _ T ((link h).mono (fun e S1 h3 => ?_) fun _ _ _ q => q)⟩
      intro w H1 ρ1 t1 hr1 dw
      refine hr H1 ρ1 S1 d e v w _ hr1 (h2.to t1) dw (sat_calm (hcalm _ _ _) ((link h3).mono (fun z S2 h4 => ?_) fun _ _ _ q => q))
      intro zv H2 ρ2 t2 hr2 dz
      exact h4 _ H2 ρ2 (t1.trans t2) ⟨hr2, ((T.sl.to (t1.trans t2))).set i dz⟩
theorem ip_addI : PIp X .Add (rI0 fun i j => .int (i + j)) := ip_add
def addI : G2 := fun x y S => match x, y with
  | .int i, .int j => .ok (.int (i + j)) S
  | _, _ => .no
theorem addI_calm : Calm2 addI := by
  intro x y S
  unfold addI
  split <;> first | exact calm_ok _ _ | exact calm_no
theorem ro_addI : RO K (rI0 fun i j => .int (i + j)) addI := by
  intro H ρ S x y xv yv Q hr dx dy h
  cases dx <;> first | exact h.elim | skip
  cases dy <;> first | exact h.elim | skip
  exact ⟨_, _, rfl, rfl, ko_here hr h (.int _)⟩
end
end Mn
set_option Elab.async false
set_option linter.all false
set_option maxRecDepth 100000
set_option maxHeartbeats 4000000
/-! MnZ: zip and enumerate over lists and tuples in any mix. -/
namespace Mn
open PySem PySem.Spec PyProof.Rows L2
/-- a list (false) or a tuple (true), to be read -/
def SqX (k : Bool) (K : PySem.W.Frag) (H : Hp) (a : Addr) (xs : List V) : Prop := match k with
  | true => SqT K H a xs
  | false => SqL K H a xs
def HIt (k : Bool) (h : Heap) (it a : Addr) (i : Nat) : Prop := match k with
  | true => h.IsTupleIter it a i
  | false => h.IsListIter it a i
def HSq (k : Bool) (h : Heap) (a : Addr) (vs : Array Value) : Prop := match k with
  | true => h.IsTuple a vs
  | false => h.IsList a vs
def itObj (k : Bool) (a : Addr) : Obj := match k with
  | true => { cls := .type "tuple_iterator", data := .fields #[.ref a, .int 0 0] }
  | false => { cls := .type "list_iterator", data := .fields #[.ref a, .int 0 0] }
section
variable {X : Cx} {pins : List (Addr × Obj)} {σ : L2.St} {H : Hp} {s : Shared} {a : Addr} {xs ys : List V} {k : Bool}
theorem sqx_inv (I : Inv X pins σ H s) (h : SqX k X.K H a xs) : ∃ its : List Value, Vals xs its ∧ HSq k s.heap a its.toArray ∧ a < s.heap.objs.size := by
  cases k with
  | true =>
    obtain ⟨its, r, p, _⟩ := I.tuple h
    exact ⟨its, r, p, p.lt⟩
  | false =>
    obtain ⟨its, r, p, _⟩ := I.list h
    exact ⟨its, r, p.isList, p.lt⟩
theorem sqx_inj (I : Inv X pins σ H s) (h : SqX k X.K H a xs) (h' : SqX k X.K H a ys) : xs = ys := by
  cases k with
  | true => exact I.tuple_inj h h'
  | false => exact I.list_inj h h'
theorem drawsX {prog : Program} {w : World} {A : Around} (k : Bool) (hh : A.handled = none) (it l : Addr) (hne : l ≠ it) (items : Array Value) :
    Draws prog w A it [it, l] items.size (fun i v => items[i]? = some v) (fun i h => HIt k h it l i ∧ HSq k h l items) := by
  cases k with
  | true => exact Draws.tuple hh it l hne items
  | false => exact Draws.list hh it l hne items
theorem HIt.at {h h' : Heap} {it : Addr} {i : Nat} (x : HIt k h it a i) (f : ∀ o, h.get? it = some o → h'.get? it = some o) : HIt k h' it a i := by
  cases k with
  | true => exact Heap.IsTupleIter.at x f
  | false => exact Heap.IsListIter.at x f
theorem HIt.obj {h : Heap} {it : Addr} {i : Nat} (x : HIt k h it a i) : ∃ o, h.get? it = some o ∧ ∀ v, o.data ≠ .cell v := by
  cases k with
  | true =>
    obtain ⟨o, e, _, d⟩ := x
    exact ⟨o, e, fun v q => by rw [d] at q; cases q⟩
  | false =>
    obtain ⟨o, e, _, d⟩ := x
    exact ⟨o, e, fun v q => by rw [d] at q; cases q⟩
theorem beginsX (k : Bool) (l : Addr) (items : Array Value) : Begins (.ref l) (itObj k l) fun h => HSq k h l items := by
  cases k with
  | true => exact begins_tuple l items
  | false => exact begins_list l items
theorem hit_new {h : Heap} {it : Addr} (e : h.get? it = some (itObj k a)) : HIt k h it a 0 := by
  cases k with
  | true => exact ⟨_, e, rfl, rfl⟩
  | false => exact ⟨_, e, rfl, rfl⟩
end
/-! ### zip -/
def ItzX (k1 k2 : Bool) (K : PySem.W.Frag) (a b : Addr) : It where
  go := fun i H => ∃ (xs ys : List V) (x y : V), SqX k1 K H a xs ∧ SqX k2 K H b ys ∧ xs[i]? = some x ∧ ys[i]? = some y
  yld := fun i H v H' => ∃ T x y, v = .ref T ∧ H T = none ∧ H' = upd H T (.tup [x, y]) ∧ (∀ xs, SqX k1 K H a xs → xs[i]? = some x) ∧ ∀ ys, SqX k2 K H b ys → ys[i]? = some y
  stop := fun i H => ∃ xs ys : List V, SqX k1 K H a xs ∧ SqX k2 K H b ys ∧ i ≤ xs.length ∧ i ≤ ys.length ∧ (i = xs.length ∨ i = ys.length)
/-- the cells apart -/
structure ZA (z TI TO i1 i2 a b : Addr) : Prop where
  sep : ZipSep2 z TI TO i1 i2 [i1, a] [i2, b]
  ai1 : a ≠ i1
  bi2 : b ≠ i2
  TIi2 : TI ≠ i2
theorem turn_zipX {P : Program} {w : World} {K : PySem.W.Frag} {elts : List Expr} {kk : Nat} {tpos : Pos} {k1 k2 : Bool} {a b z TI TO i1 i2 : Addr} (D : ZA z TI TO i1 i2 a b) :
    Turn P w K (.Tuple elts kk tpos) (ItzX k1 k2 K a b) [z, TI, TO, i1, i2] z
      (fun i h => IsZip h z TI TO .none ∧ IsTupOf2 h TI (.ref i1) (.ref i2) ∧ (∃ x y, IsTupOf2 h TO x y) ∧ HIt k1 h i1 a i ∧ HIt k2 h i2 b i) where
  mem := by simp
  obj := fun i h st c hc => by
    obtain ⟨hz, hTI, ⟨x, y, hTO⟩, h1, h2⟩ := st
    have e' : c = z ∨ c = TI ∨ c = TO ∨ c = i1 ∨ c = i2 := by simpa using hc
    rcases e' with rfl | rfl | rfl | rfl | rfl
    · exact ⟨_, hz, fun v q => nomatch q⟩
    · exact ⟨_, hTI, fun v q => nomatch q⟩
    · exact ⟨_, hTO, fun v q => nomatch q⟩
    · exact h1.obj
    · exact h2.obj
  keep := fun i h h' st f => by
    obtain ⟨hz, hTI, ⟨x, y, hTO⟩, h1, h2⟩ := st
    exact ⟨f z (by simp) _ hz, f TI (by simp) _ hTI, ⟨x, y, f TO (by simp) _ hTO⟩, h1.at fun o q => f i1 (by simp) o q, h2.at fun o q => f i2 (by simp) o q⟩
  item := by
    intro X hP hw hK hc i pins s σ H E I hf st hg
    subst hP hw hK
    obtain ⟨hz, hTI, ⟨x0, y0, hTO⟩, h1, h2⟩ := st
    obtain ⟨xs, ys, x, y, hqx, hqy, hx, hy⟩ := hg
    obtain ⟨its, rv, p, _⟩ := sqx_inv I hqx
    obtain ⟨its2, rv2, p2, _⟩ := sqx_inv I hqy
    obtain ⟨u, hu, ru⟩ := rv.get hx
    obtain ⟨u2, hu2, ru2⟩ := rv2.get hy
    have hzl : z < s.heap.objs.size := Heap.lt_size hz
    have l1 : i < its.toArray.size := by rw [List.size_toArray]; exact (List.getElem?_eq_some_iff.mp hu).1
    have l2 : i < its2.toArray.size := by rw [List.size_toArray]; exact (List.getElem?_eq_some_iff.mp hu2).1
    have d1 := drawsX (prog := X.prog) (w := X.w) (A := X.A.in1) k1 (I.ok.hd hc) i1 a D.ai1 its.toArray
    have d2 := drawsX (prog := X.prog) (w := X.w) (A := X.A.in1) k2 (I.ok.hd hc) i2 b D.bi2 its2.toArray
    refine wpAny_pyNext_zipD2_item D.sep d1 d2 hz hTI hTO ⟨h1, p⟩ ⟨h2, p2⟩ l1 l2 fun x1 x2 h' tk y1 y2 z' TO' s1 s2 hT hsz hk => ?_
    obtain rfl : u = x1 := Option.some.inj ((show its[i]? = some u from hu).symm.trans (by simpa using y1))
    obtain rfl : u2 = x2 := Option.some.inj ((show its2[i]? = some u2 from hu2).symm.trans (by simpa using y2))
    refine ⟨_, rfl, wpAny_letOwnedTupleGo_zip (s := { s with heap := h', toks := tk }) z' fun h'' z'' sb => ?_⟩
    have hT2 : h''.get? s.heap.objs.size = some { cls := .type "tuple", data := .seq #[u, u2] } := (sb.2 _ (Nat.ne_of_gt hzl)).trans hT
    have new : ObjOk X.prog X.w (upd H s.heap.objs.size (.tup [x, y])) h'' s.heap.objs.size (.tup [x, y]) :=
      ⟨by show 2 ≤ sizeLine; decide, [u, u2], .cons ru (.cons ru2 .nil), ⟨_, hT2, rfl, _, rfl⟩⟩
    have hk' : ∀ c o, c ∉ [z, TI, TO, i1, i2] → s.heap.get? c = some o → h''.get? c = some o := fun c o hb q => by
      simp only [List.mem_cons, List.not_mem_nil, or_false, not_or] at hb
      exact (sb.2 c hb.1).trans (hk c o hb.1 hb.2.2.1 hb.2.2.2.1 hb.2.2.2.2 q)
    have I1 : Inv X pins σ (upd H s.heap.objs.size (.tup [x, y])) { s with heap := h'', toks := tk } := I.turnedNew (t' := tk) (ch := [z, TI, TO, i1, i2]) hk' hf (Nat.le_refl _) new
    refine ⟨.ref s.heap.objs.size, _, I1, rfl, ⟨_, x, y, rfl, I.hok.fresh (Nat.le_refl _), rfl, fun l hl => by rw [sqx_inj I hl hqx]; exact hx, fun l hl => by rw [sqx_inj I hl hqy]; exact hy⟩, ⟨z'', ?_, ⟨u, u2, ?_⟩, ?_, ?_⟩, fun c hcm => ?_⟩
    · exact (sb.2 _ D.sep.TIz).trans (hk _ _ D.sep.TIz D.sep.TITO D.sep.TIi1 D.TIi2 hTI)
    · exact (sb.2 _ D.sep.TOz).trans TO'
    · exact s1.1.at fun o q => (sb.2 _ D.sep.zi1.symm).trans q
    · exact s2.1.at fun o q => (sb.2 _ D.sep.zi2.symm).trans q
    · rw [upd_ne]
      · exact (hf c hcm).1
      · have e' : c = z ∨ c = TI ∨ c = TO ∨ c = i1 ∨ c = i2 := by simpa using hcm
        refine Nat.ne_of_lt ?_
        rcases e' with rfl | rfl | rfl | rfl | rfl
        · exact hzl
        · exact Heap.lt_size hTI
        · exact Heap.lt_size hTO
        · obtain ⟨_, e1, _⟩ := h1.obj; exact Heap.lt_size e1
        · obtain ⟨_, e2, _⟩ := h2.obj; exact Heap.lt_size e2
  done := by
    intro X hP hw hK hc i pins s σ H E I hf st hg
    subst hP hw hK
    obtain ⟨hz, hTI, ⟨x0, y0, hTO⟩, h1, h2⟩ := st
    obtain ⟨xs, ys, hqx, hqy, hl1, hl2, hend⟩ := hg
    obtain ⟨its, rv, p, _⟩ := sqx_inv I hqx
    obtain ⟨its2, rv2, p2, _⟩ := sqx_inv I hqy
    have l1 := rv.length
    have l2 := rv2.length
    have d1 := drawsX (prog := X.prog) (w := X.w) (A := X.A.in1) k1 (I.ok.hd hc) i1 a D.ai1 its.toArray
    have d2 := drawsX (prog := X.prog) (w := X.w) (A := X.A.in1) k2 (I.ok.hd hc) i2 b D.bi2 its2.toArray
    refine wpAny_pyNext_zipD2_end D.sep d1 d2 hz hTI hTO ⟨h1, p⟩ ⟨h2, p2⟩
      (by rw [List.size_toArray]; omega) (by rw [List.size_toArray]; omega) (by rw [List.size_toArray, List.size_toArray]; omega) fun h' tk hk => ⟨rfl, I.turnedL (t' := tk) (ch := [z, TI, TO, i1, i2]) (fun c o hb q => ?_) hf⟩
    simp only [List.mem_cons, List.not_mem_nil, or_false, not_or] at hb
    exact hk c o hb.1 hb.2.2.1 hb.2.2.2.1 hb.2.2.2.2 q
  self := fun A i s Q E st h => wpAny_pyIter_zip st.1 h
def iZipX (k1 k2 : Bool) (K : PySem.W.Frag) (ta : TA) : TI := fun σ H R => ta σ H fun vs H1 => ∃ a b xs ys, vs = [.ref a, .ref b] ∧ SqX k1 K H1 a xs ∧ SqX k2 K H1 b ys ∧ R (ItzX k1 k2 K a b) H1
theorem pi_zipX {X : Cx} {e e2 : Expr} {ta : TA} {p pos tpos : Pos} {elts : List Expr} {kk : Nat} (k1 k2 : Bool) (hg : Gl X "zip") (hm : X.mg "zip" = none) (ha : PA X [e, e2] ta)
    (hs : starEach [e, e2] X.env = (false, eval e X.env) :: starEach [e2] X.env := by rfl) (hpl : (backTo pos (starEach [e2] X.env)).any (·.1) = false := by rfl) :
    PI X (.Tuple elts kk tpos) (.Call (.Name "zip" p) [e, e2] [] pos) (iZipX k1 k2 X.K ta) := by
  constructor
  intro pins s σ H R I h
  refine Call_ (ld_blt I hg hm PyProof.Rows.boot_zip (PyProof.Rows.callWith_type1 (thn (ha.run pos pins s σ H _ I h) ?_) hs hpl))
  rintro us s1 ⟨vs, H1, I1, r1, a, b, xs, ys, rfl, hqx, hqy, q⟩
  obtain ⟨u1, u2, rfl, ra, rb⟩ := r1.two
  cases ra
  cases rb
  obtain ⟨its, rv, p1, la⟩ := sqx_inv I1 hqx
  obtain ⟨its2, rv2, p2, lb⟩ := sqx_inv I1 hqy
  refine zip_begins2 (beginsX k1 a its.toArray) (beginsX k2 b its2.toArray) p1 p2 fun h' hz hTI hTO g1 g2 hsz hk => wpAny_pyIter_zip hz ?_
  have I2 : Inv X pins σ H1 { s1 with heap := h' } := I1.kept (t' := s1.toks) hk
  have dz : ZA (s1.heap.objs.size + 4) (s1.heap.objs.size + 2) (s1.heap.objs.size + 3) s1.heap.objs.size (s1.heap.objs.size + 1) a b :=
    ⟨zip_sep2 (fp1 := [a]) (fp2 := [b]) (by intro c hc; rw [List.mem_singleton.mp hc]; exact la) (by intro c hc; rw [List.mem_singleton.mp hc]; exact lb),
      Nat.ne_of_lt la, Nat.ne_of_lt (Nat.lt_succ_of_lt lb), Nat.ne_of_gt (Nat.lt_succ_self _)⟩
  refine ⟨s1.heap.objs.size + 4, [s1.heap.objs.size + 4, s1.heap.objs.size + 2, s1.heap.objs.size + 3, s1.heap.objs.size, s1.heap.objs.size + 1], _, _, H1, rfl, I2, turn_zipX dz, ⟨hz, hTI, ⟨_, _, hTO⟩, hit_new g1, hit_new g2⟩, fun c hcm => ?_, q⟩
  have hle : s1.heap.objs.size ≤ c := by
    have e' : c = s1.heap.objs.size + 4 ∨ c = s1.heap.objs.size + 2 ∨ c = s1.heap.objs.size + 3 ∨ c = s1.heap.objs.size ∨ c = s1.heap.objs.size + 1 := by simpa using hcm
    rcases e' with z | z | z | z | z <;> rw [z] <;> first | exact Nat.le_add_right _ _ | exact Nat.le_refl _
  exact I1.fpOk hle (I1.hok.fresh hle)
end Mn
set_option Elab.async false
set_option linter.all false
set_option maxRecDepth 100000
set_option maxHeartbeats 4000000
/-! MnF: what is walked, loops, comprehensions. -/
namespace Mn
open PySem PySem.Spec PyProof.Rows L2
section
variable {X : Cx} {Er : ER} {K : PySem.W.Frag} {H H1 : Hp} {ρ ρ1 : List Addr} {σ : Sg} {S S1 : Bxs} {τ : L2.St}
/-! ### items -/
/-- how an item of a walk comes, told at the heap ahead: the item, the value that is yielded, the heap behind -/
abbrev IRel (α : Type) := PySem.W.Frag → Hp → List Addr → α → V → Hp → Prop
def itS : IRel Dt := fun K H ρ a x H' => H' = H ∧ DV K H ρ a x
def itP : IRel (Dt × Dt) := fun K H ρ a x H' => ∃ T x1 x2, x = .ref T ∧ H T = none ∧ H' = upd H T (.tup [x1, x2]) ∧ DV K H ρ a.1 x1 ∧ DV K H ρ a.2 x2
abbrev Src (α : Type) := Sg → Bxs → Rs (List α × (Bxs → Prop))
/-- a walk: its items, and what must stand all the while -/
def KI {α : Type} (K : PySem.W.Frag) (H : Hp) (ρ : List Addr) (it : IRel α) (R : It → Hp → Prop) : List α × (Bxs → Prop) → Bxs → Prop := fun r S1 =>
  ∀ H1 ρ1 J G Y, To H H1 ρ ρ1 → HR K H1 ρ1 S1 → Walk J r.1.length G Y → (∀ H' ρ' S', To H1 H' ρ1 ρ' → HR K H' ρ' S' → r.2 S' → G H') →
    (∀ i a x H' H'' ρ' S', To H1 H' ρ1 ρ' → HR K H' ρ' S' → r.2 S' → r.1[i]? = some a → Y i H' x H'' → it K H' ρ' a x H'') → R J H1
structure SI {α : Type} (X : Cx) (Er : ER) (it : IRel α) (tg iter : Expr) (src : Src α) : Prop where
  ex : ∃ wi, PI X tg iter wi ∧ ∀ τ H ρ σ S R, Ty X.K H ρ σ S τ → (src σ S).Sat (KI X.K H ρ it R) (KX Er H ρ) → wi τ H R
theorem PI.or {tg iter : Expr} {w1 w2 : TI} (h1 : PI X tg iter w1) (h2 : PI X tg iter w2) : PI X tg iter (fun σ H R => w1 σ H R ∨ w2 σ H R) :=
  ⟨fun pins s σ H R I h => h.elim (h1.run pins s σ H R I) (h2.run pins s σ H R I)⟩
/-- tuple (true) or list (false) -/
def Dt.isT : Dt → Bool
  | .tup _ => true
  | _ => false
theorem sqx_of {d : Dt} {v : V} {xs : List Dt} (hr : HR K H ρ S) (h : DV K H ρ d v) (hs : seqOf S d = some xs) : ∃ a vs, v = .ref a ∧ SqX d.isT K H a vs ∧ DVs K H ρ xs vs := by
  cases h <;> first | (cases hs; done) | skip
  · rename_i a ds vs ht hd
    cases hs
    exact ⟨a, vs, rfl, ht.sqt, hd⟩
  · rename_i n a ha
    obtain ⟨vs, h1, h2⟩ := hr.rd ha hs
    exact ⟨a, vs, rfl, h1, h2⟩
def ItX (k : Bool) (K : PySem.W.Frag) (a : Addr) : It := match k with
  | true => Itt K a
  | false => Itl K a
theorem walkX {k : Bool} {a : Addr} {n : Nat} : Walk (ItX k K a) n (fun H => ∃ vs, SqX k K H a vs ∧ vs.length = n) (fun i H x H' => H' = H ∧ ∀ vs, SqX k K H a vs → vs[i]? = some x) := by
  cases k with
  | true =>
    exact ⟨fun i _ hi ⟨vs, q, hl⟩ => ⟨vs, vs[i]'(by omega), q, by simp [hl, hi]⟩, fun _ ⟨vs, q, hl⟩ => ⟨vs, q, by omega⟩, fun _ _ _ _ _ _ y => y⟩
  | false =>
    exact ⟨fun i _ hi ⟨vs, q, hl⟩ => ⟨vs, vs[i]'(by omega), q, by simp [hl, hi]⟩, fun _ ⟨vs, q, hl⟩ => ⟨vs, q, by omega⟩, fun _ _ _ _ _ _ y => y⟩
theorem walkZ {k1 k2 : Bool} {a b : Addr} {n1 n2 : Nat} :
    Walk (ItzX k1 k2 K a b) (min n1 n2) (fun H => ∃ vs ws, SqX k1 K H a vs ∧ SqX k2 K H b ws ∧ vs.length = n1 ∧ ws.length = n2)
      (fun i H v H' => ∃ T x y, v = .ref T ∧ H T = none ∧ H' = upd H T (.tup [x, y]) ∧ (∀ xs, SqX k1 K H a xs → xs[i]? = some x) ∧ ∀ ys, SqX k2 K H b ys → ys[i]? = some y) := by
  refine ⟨fun i _ hi ⟨vs, ws, q1, q2, l1, l2⟩ => ?_, fun _ ⟨vs, ws, q1, q2, l1, l2⟩ => ⟨vs, ws, q1, q2, by omega, by omega, by omega⟩, fun i H v H' _ _ y => y⟩
  · exact ⟨vs, ws, vs[i]'(by omega), ws[i]'(by omega), q1, q2, by simp [show i < vs.length by omega], by simp [show i < ws.length by omega]⟩
/-- a list, a tuple -/
def srcSeq (f : FE) : Src Dt := fun σ S => (f σ S).bind fun d S1 => match seqOf S1 d with
  | some xs => .ok (xs, fun S' => seqOf S' d = some xs) S1
  | none => .no
theorem si_seq {tg iter : Expr} {f : FE} (h : SE X Er iter f) : SI X Er itS tg iter (srcSeq f) := by
  obtain ⟨te, p, q⟩ := h.ex
  refine ⟨_, PI.or (pi_list p) (pi_tup p), fun τ H ρ σ S R T h => ?_⟩
  have h := link h
  cases e : f σ S with
  | no => rw [e] at h; exact h.elim
  | ex c ds s' =>
    rw [e] at h
    exact .inl (q τ H ρ σ S _ T (by rw [e]; exact h))
  | ok d S1 =>
    rw [e] at h
    have h : (match seqOf S1 d with
      | some xs => Rs.ok (xs, fun S' => seqOf S' d = some xs) S1
      | none => Rs.no).Sat (KI X.K H ρ itS R) (KX Er H ρ) := h
    cases e2 : seqOf S1 d with
    | none => rw [e2] at h; exact h.elim
    | some xs =>
      rw [e2] at h
      have h : KI X.K H ρ itS R (xs, fun S' => seqOf S' d = some xs) S1 := h
      have core : ∀ v H1 ρ1, To H H1 ρ ρ1 → HR X.K H1 ρ1 S1 → DV X.K H1 ρ1 d v → ∃ a, v = .ref a ∧ (∃ vs, SqX d.isT X.K H1 a vs) ∧ R (ItX d.isT X.K a) H1 := by
        intro v H1 ρ1 t1 hr1 dv
        obtain ⟨a, vs, rfl, hs, hd⟩ := sqx_of hr1 dv e2
        refine ⟨a, rfl, ⟨vs, hs⟩, h H1 ρ1 _ _ _ t1 hr1 walkX (fun H' ρ' S' t hr' st => ?_) fun i x y H' H'' ρ' S' t hr' st hi hy => ?_⟩
        · obtain ⟨a', vs', ea, hs', hd'⟩ := sqx_of hr' (dv.to t) st
          cases ea
          exact ⟨vs', hs', hd'.length.symm⟩
        · obtain ⟨e3, hx⟩ := hy
          obtain ⟨a', vs', ea, hs', hd'⟩ := sqx_of hr' (dv.to t) st
          cases ea
          obtain ⟨v', h3, h4⟩ := hd'.get hi
          rw [hx vs' hs'] at h3
          cases h3
          exact ⟨e3, h4⟩
      cases hk : d.isT with
      | true =>
        refine .inr (q τ H ρ σ S _ T ?_)
        rw [e]
        intro v H1 ρ1 t1 hr1 dv
        have := core v H1 ρ1 t1 hr1 dv
        rw [hk] at this
        exact this
      | false =>
        refine .inl (q τ H ρ σ S _ T ?_)
        rw [e]
        intro v H1 ρ1 t1 hr1 dv
        have := core v H1 ρ1 t1 hr1 dv
        rw [hk] at this
        exact this
/-- range(n), range(a, b) -/
def rgD (lo : Int) (n : Nat) : List Dt := (List.range n).map fun (i : Nat) => Dt.int (lo + (i : Int))
theorem rgD_get {lo : Int} {n i : Nat} {a : Dt} (h : (rgD lo n)[i]? = some a) : a = .int (lo + (i : Int)) := by
  unfold rgD at h
  rw [List.getElem?_map] at h
  by_cases hi : i < n
  · rw [List.getElem?_range hi] at h
    exact (Option.some.inj h).symm
  · rw [List.getElem?_eq_none (by rw [List.length_range]; omega)] at h
    cases h
def inR (j : Int) : Prop := -(2 ^ 62) ≤ j ∧ j < 2 ^ 62
instance (j : Int) : Decidable (inR j) := by unfold inR; infer_instance
def srcR1 (f : FA) : Src Dt := fun σ S => (f σ S).bind fun ds S1 => match ds with
  | [.int j] => if inR j then .ok (rgD 0 j.toNat, fun _ => True) S1 else .no
  | _ => .no
def srcR2 (f : FA) : Src Dt := fun σ S => (f σ S).bind fun ds S1 => match ds with
  | [.int i, .int j] => if inR i ∧ inR j then .ok (rgD i (j - i).toNat, fun _ => True) S1 else .no
  | _ => .no
theorem range_ki {R : It → Hp → Prop} {lo : Int} {n : Nat} {st : Bxs → Prop} (h : KI K H ρ itS R (rgD lo n, st) S1) (t : To H H1 ρ ρ1) (hr : HR K H1 ρ1 S1) : R (Itr lo n) H1 := by
  have hl : (rgD lo n).length = n := by unfold rgD; rw [List.length_map, List.length_range]
  refine h H1 ρ1 (Itr lo n) (fun _ => True) (YFn fun i => .int (lo + i)) t hr (by rw [hl]; exact walk_range) (fun _ _ _ _ _ _ => trivial) fun i a x H' H'' ρ' S' _ _ _ hi hy => ?_
  obtain ⟨e1, e2⟩ := hy
  rw [rgD_get hi, e2]
  exact ⟨e1, .int _⟩
theorem si_r1 {tg a : Expr} {fa : FA} {p pos : Pos} (hg : Gl X "range") (hm : X.mg "range" = none) (ha : SA X Er [a] fa) (hs : starEach [a] X.env = [(false, eval a X.env)] := by rfl) : SI X Er itS tg (.Call (.Name "range" p) [a] [] pos) (srcR1 fa) := by
  obtain ⟨ta, pa, qa⟩ := ha.ex
  refine ⟨_, pi_range1 hg hm pa hs, fun τ H ρ σ S R T h => qa τ H ρ σ S _ T ((link h).mono (fun ds S1 h1 => ?_) fun _ _ _ q => q)⟩
  intro vs H1 ρ1 t1 hr1 dvs
  split at h1
  · rename_i j
    obtain ⟨c, h1⟩ := ite_sat h1
    cases dvs with
    | cons d r =>
      cases r
      cases d
      exact ⟨_, rfl, c.1, c.2, range_ki h1 t1 hr1⟩
  · exact h1.elim
theorem si_r2 {tg a b : Expr} {fa : FA} {p pos : Pos} (hg : Gl X "range") (hm : X.mg "range" = none) (ha : SA X Er [a, b] fa) (hs : starEach [a, b] X.env = [(false, eval a X.env), (false, eval b X.env)] := by rfl) (hs2 : starEach [b] X.env = [(false, eval b X.env)] := by rfl) :
    SI X Er itS tg (.Call (.Name "range" p) [a, b] [] pos) (srcR2 fa) := by
  obtain ⟨ta, pa, qa⟩ := ha.ex
  refine ⟨_, pi_range2 hg hm pa hs hs2, fun τ H ρ σ S R T h => qa τ H ρ σ S _ T ((link h).mono (fun ds S1 h1 => ?_) fun _ _ _ q => q)⟩
  intro vs H1 ρ1 t1 hr1 dvs
  split at h1
  · rename_i i j
    obtain ⟨c, h1⟩ := ite_sat h1
    cases dvs with
    | cons d r =>
      cases r with
      | cons d2 r =>
        cases r
        cases d
        cases d2
        exact ⟨_, _, rfl, ⟨c.1.1, c.1.2, c.2.1, c.2.2⟩, range_ki h1 t1 hr1⟩
  · exact h1.elim
/-- zip -/
def srcZip (f : FA) : Src (Dt × Dt) := fun σ S => (f σ S).bind fun ds S1 => match ds with
  | [d, e] => match seqOf S1 d, seqOf S1 e with
    | some xs, some ys => .ok (xs.zip ys, fun S' => seqOf S' d = some xs ∧ seqOf S' e = some ys) S1
    | _, _ => .no
  | _ => .no
theorem PI.or4 {tg iter : Expr} {w : Bool → Bool → TI} (h : ∀ a b, PI X tg iter (w a b)) : PI X tg iter (fun σ H R => ∃ a b, w a b σ H R) :=
  ⟨fun pins s σ H R I ⟨a, b, q⟩ => (h a b).run pins s σ H R I q⟩
theorem si_zip {elts : List Expr} {kk : Nat} {tpos : Pos} {a b : Expr} {fa : FA} {p pos : Pos} (hg : Gl X "zip") (hm : X.mg "zip" = none) (ha : SA X Er [a, b] fa)
    (hs : starEach [a, b] X.env = (false, eval a X.env) :: starEach [b] X.env := by rfl) (hpl : (backTo pos (starEach [b] X.env)).any (·.1) = false := by rfl) :
    SI X Er itP (.Tuple elts kk tpos) (.Call (.Name "zip" p) [a, b] [] pos) (srcZip fa) := by
  obtain ⟨ta, pa, qa⟩ := ha.ex
  refine ⟨_, PI.or4 fun k1 k2 => pi_zipX k1 k2 hg hm pa hs hpl, fun τ H ρ σ S R T h => ?_⟩
  have h := link h
  cases e : fa σ S with
  | no => rw [e] at h; exact h.elim
  | ex c ds s' =>
    rw [e] at h
    exact ⟨true, true, qa τ H ρ σ S _ T (by rw [e]; exact h)⟩
  | ok ds S1 =>
    rw [e] at h
    rcases ds with _ | ⟨d, _ | ⟨d2, _ | ⟨d3, dr⟩⟩⟩
    · exact h.elim
    · exact h.elim
    · cases e1 : seqOf S1 d with
      | none =>
        simp only [Rs.Sat, e1] at h
      | some xs =>
       cases e2 : seqOf S1 d2 with
       | none =>
        simp only [Rs.Sat, e1, e2] at h
       | some ys =>
        have h : KI X.K H ρ itP R (xs.zip ys, fun S' => seqOf S' d = some xs ∧ seqOf S' d2 = some ys) S1 := by
          simpa only [Rs.Sat, e1, e2] using h
        refine ⟨d.isT, d2.isT, qa τ H ρ σ S _ T ?_⟩
        rw [e]
        intro vs H1 ρ1 t1 hr1 dvs
        cases dvs with
        | cons dv r =>
          cases r with
          | cons dv2 r =>
            cases r
            obtain ⟨a, us, rfl, hs1, hd1⟩ := sqx_of hr1 dv e1
            obtain ⟨b, ws, rfl, hs2, hd2⟩ := sqx_of hr1 dv2 e2
            refine ⟨a, b, us, ws, rfl, hs1, hs2, h H1 ρ1 _ _ _ t1 hr1 (by rw [List.length_zip]; exact walkZ (n1 := xs.length) (n2 := ys.length)) (fun H' ρ' S' t hr' st => ?_) fun i x y H' H'' ρ' S' t hr' st hi hy => ?_⟩
            · obtain ⟨a', us', ea, q1, q2⟩ := sqx_of hr' (dv.to t) st.1
              obtain ⟨b', ws', eb, q3, q4⟩ := sqx_of hr' (dv2.to t) st.2
              cases ea
              cases eb
              exact ⟨us', ws', q1, q3, q2.length.symm, q4.length.symm⟩
            · obtain ⟨U, x1, x2, h1, h2, h3, h4, h5⟩ := hy
              obtain ⟨a', us', ea, q1, q2⟩ := sqx_of hr' (dv.to t) st.1
              obtain ⟨b', ws', eb, q3, q4⟩ := sqx_of hr' (dv2.to t) st.2
              cases ea
              cases eb
              obtain ⟨p1, p2⟩ := x
              have hz := List.getElem?_zip_eq_some.mp hi
              obtain ⟨v1, g1, g2⟩ := q2.get hz.1
              obtain ⟨v2, g3, g4⟩ := q4.get hz.2
              rw [h4 us' q1] at g1
              rw [h5 ws' q3] at g3
              cases g1
              cases g3
              exact ⟨U, _, _, h1, h2, h3, g2, g4⟩
    · exact h.elim
/-! ### targets of walks -/
structure SGi {α : Type} (X : Cx) (Er : ER) (it : IRel α) (tg : Expr) (g : α → Sg → Bxs → Rs Sg) : Prop where
  ex : ∃ t, PG X tg t ∧ ∀ v a τ H H' ρ σ S Q, Ty X.K H ρ σ S τ → it X.K H ρ a v H' → (g a σ S).Sat (KS X.K H ρ Q) (KX Er H ρ) → t v τ H' Q
theorem sgi_one {tg : Expr} {g : FT} (h : SG X Er tg g) : SGi X Er itS tg g := by
  obtain ⟨t, p, q⟩ := h.ex
  refine ⟨t, p, fun v a τ H H' ρ σ S Q T hi hs => ?_⟩
  obtain ⟨rfl, dv⟩ := hi
  exact q v a τ _ ρ σ S Q T dv hs
def tPairG (g : FTs) : Dt × Dt → Sg → Bxs → Rs Sg := fun a σ S => g [a.1, a.2] σ S
theorem sgi_pair {es : List Expr} {k : Nat} {pos : Pos} {g : FTs} (hc : X.calm = true) (h : SGs X Er es g) (hn : (assignEach es X.env).length = 2 := by rfl) (hst : (assignEach es X.env).findIdx? (·.1) = none := by rfl) : SGi X Er itP (.Tuple es k pos) (tPairG g) := by
  obtain ⟨t, p, q⟩ := h.ex
  refine ⟨_, pg_tup hc p hn hst, fun v a τ H H' ρ σ S Q T hi hs => ?_⟩
  obtain ⟨U, x1, x2, rfl, hU, rfl, d1, d2⟩ := hi
  have t1 : To H (upd H U (.tup [x1, x2])) ρ ρ := ⟨Ext.new hU, List.prefix_refl _⟩
  exact ⟨U, [x1, x2], rfl, SqT.of upd_same, rfl, q _ _ τ _ ρ σ S Q (T.to t1 (T.hr.tup hU)) (.cons (d1.to t1) (.cons (d2.to t1) .nil)) (Rs.Sat.toS t1 hs)⟩
def canG {α : Type} (K : PySem.W.Frag) (Er : ER) (it : IRel α) (g : α → Sg → Bxs → Rs Sg) : TG := fun v τ H' Q => ∃ H a ρ σ S, Ty K H ρ σ S τ ∧ it K H ρ a v H' ∧ (g a σ S).Sat (KS K H ρ Q) (KX Er H ρ)
theorem SGi.can {α : Type} {it : IRel α} {tg : Expr} {g : α → Sg → Bxs → Rs Sg} (h : SGi X Er it tg g) : PG X tg (canG X.K Er it g) := by
  obtain ⟨t, p, q⟩ := h.ex
  exact ⟨fun pins s τ H' v u Q I r ⟨H, a, ρ, σ, S, T, hi, hs⟩ => p.run pins s τ H' v u Q I r (q _ _ _ _ _ _ _ _ _ T hi hs)⟩
/-! ### for -/
open Classical in
noncomputable def loopF {α : Type} (st : Bxs → Prop) (g : α → Sg → Bxs → Rs Sg) (body : FS) : List α → Sg → Bxs → Rs (Fl × Sg)
  | [], σ, S => if st S then .ok (.nx, σ) S else .no
  | x :: xs, σ, S => if st S then (g x σ S).bind fun σ1 S1 => (body σ1 S1).bind fun r S2 => match r.1 with
      | .nx => loopF st g body xs r.2 S2
      | .ct => loopF st g body xs r.2 S2
      | .bk => .ok (.nx, r.2) S2
      | .rt d => .ok (.rt d, r.2) S2 else .no
noncomputable def sFor {α : Type} (src : Src α) (g : α → Sg → Bxs → Rs Sg) (body : FS) : FS := fun σ S => (src σ S).bind fun r S1 => loopF r.2 g body r.1 σ S1
theorem iteC_sat {α : Type} {c : Prop} {dc : Decidable c} {r : Rs α} {P : α → Bxs → Prop} {E : Nat → List Dt → Bxs → Prop} (h : (@ite _ c dc r .no).Sat P E) : c ∧ r.Sat P E := by
  by_cases hc : c
  · rw [if_pos hc] at h; exact ⟨hc, h⟩
  · rw [if_neg hc] at h; exact h.elim
theorem loop_st {α : Type} {st : Bxs → Prop} {g : α → Sg → Bxs → Rs Sg} {body : FS} {xs : List α} {P : Fl × Sg → Bxs → Prop} {E : Nat → List Dt → Bxs → Prop} (h : (loopF st g body xs σ S).Sat P E) : st S := by
  cases xs with
  | nil => unfold loopF at h; exact (iteC_sat h).1
  | cons x xs => unfold loopF at h; exact (iteC_sat h).1
theorem ss_for {α : Type} {it : IRel α} {tg iter : Expr} {body : List Stmt} {src : Src α} {g : α → Sg → Bxs → Rs Sg} {fb : FS} {pos : Pos} (hp : PassesOwn (model X.prog X.w) X.A X.env X.xe) (hc : X.calm = true) (hi : SI X Er it tg iter src) (hg : SGi X Er it tg g) (hb : SSs X Er body fb)
    (hs : ∀ x, foldedSetIterable iter X.env x = pure x := by intro _; rfl) : SS X Er (.For tg iter body [] pos) (sFor src g fb) := by
  obtain ⟨wi, pi, qi⟩ := hi.ex
  obtain ⟨t, pg, qg⟩ := hg.ex
  obtain ⟨tb, pb, qb⟩ := hb.ex
  refine ⟨_, ps_for hp hc pi pg pb hs, fun τ H ρ σ S D T h => qi τ H ρ σ S _ T ((link h).mono (fun r S1 h1 => ?_) fun _ _ _ q => q)⟩
  obtain ⟨xs, st⟩ := r
  intro H1 ρ1 J G Y t1 hr1 w hG hY
  refine for_it w (fun i τ' H' => ∃ ρ' σ' S', To H1 H' ρ1 ρ' ∧ Ty X.K H' ρ' σ' S' τ' ∧ (loopF st g fb (xs.drop i) σ' S').Sat (KF X.K H' ρ' D) (KX Er H' ρ'))
    ⟨ρ1, σ, S1, To.refl _ _, T.to t1 hr1, Rs.Sat.toF t1 h1⟩ (fun i τ' H' _ ⟨ρ', σ', S', t', T', h'⟩ => hG H' ρ' S' t' T'.hr (loop_st h')) (fun i x τ' H' H'' hlt ⟨ρ', σ', S', t', T', h'⟩ hy => ?_) fun τ' H' ⟨ρ', σ', S', t', T', h'⟩ => ?_
  · have hi : xs[i]? = some xs[i] := List.getElem?_eq_getElem hlt
    have hd : xs.drop i = xs[i] :: xs.drop (i + 1) := List.drop_eq_getElem_cons hlt
    rw [hd] at h'
    have hst := loop_st h'
    unfold loopF at h'
    obtain ⟨_, h'⟩ := iteC_sat h'
    refine qg x xs[i] τ' H' H'' ρ' σ' S' _ T' (hY i _ x H' H'' ρ' S' t' T'.hr hst hi hy) ((link h').mono (fun σ1 S2 h2 => ?_) fun _ _ _ q => q)
    intro τ2 H2 ρ2 t2 T2
    refine qb τ2 H2 ρ2 σ1 S2 _ T2 ((link h2).mono (fun r S3 h3 => ?_) fun _ _ _ q => q.to t2)
    obtain ⟨fl, σ3⟩ := r
    cases fl with
    | nx =>
      intro τ3 H3 ρ3 t3 T3
      exact ⟨ρ3, σ3, S3, (t'.trans t2).trans t3, T3, Rs.Sat.toF (t2.trans t3) h3⟩
    | ct =>
      intro τ3 H3 ρ3 t3 T3
      exact ⟨ρ3, σ3, S3, (t'.trans t2).trans t3, T3, Rs.Sat.toF (t2.trans t3) h3⟩
    | bk =>
      intro τ3 H3 ρ3 t3 T3
      exact h3 τ3 H3 ρ3 (t2.trans t3) T3
    | rt d =>
      intro v H3 ρ3 t3 hr3 dv
      exact h3 v H3 ρ3 (t2.trans t3) hr3 dv
  · rw [List.drop_length] at h'
    unfold loopF at h'
    obtain ⟨_, h'⟩ := iteC_sat h'
    exact h' τ' H' ρ' (To.refl _ _) T'
end
end Mn
set_option Elab.async false
set_option linter.all false
set_option maxRecDepth 100000
set_option maxHeartbeats 4000000
/-! MnG: comprehensions. -/
namespace Mn
open PySem PySem.Spec PyProof.Rows L2
/-- nothing leaves a comprehension -/
abbrev noEr : ER := fun _ _ _ _ _ => False
section
variable {X : Cx} {Er : ER} {K : PySem.W.Frag} {H H1 : Hp} {ρ ρ1 : List Addr} {σ : Sg} {S S1 : Bxs} {τ : L2.St}
/-! ### targets that keep to the block's own slots -/
def KW (K : PySem.W.Frag) (H : Hp) (ρ : List Addr) (vs : List Nat) (τ : L2.St) (Q : L2.St → Hp → Prop) : Sg → Bxs → Prop := fun σ' S' => ∀ τ' H' ρ', To H H' ρ ρ' → Ty K H' ρ' σ' S' τ' → L2.wipe τ' vs = L2.wipe τ vs → Q τ' H'
structure SV (X : Cx) (vs : List Nat) (tg : Expr) (g : FT) : Prop where
  ex : ∃ t, PG X tg t ∧ ∀ v d τ H ρ σ S Q, Ty X.K H ρ σ S τ → DV X.K H ρ d v → (g d σ S).Sat (KW X.K H ρ vs τ Q) noX → t v τ H Q
structure SVs (X : Cx) (vs : List Nat) (ts : List Expr) (g : FTs) : Prop where
  ex : ∃ t, PGs X ts t ∧ ∀ us ds τ H ρ σ S Q, Ty X.K H ρ σ S τ → DVs X.K H ρ ds us → (g ds σ S).Sat (KW X.K H ρ vs τ Q) noX → t us τ H Q
theorem wipe_set {i : Nat} {o : Option V} : ∀ {vs : List Nat} {τ : L2.St}, i ∈ vs → L2.wipe (τ.set i o) vs = L2.wipe τ vs
  | v :: vs, τ, h => by
    by_cases hv : v = i
    · subst hv
      have key : ∀ (ws : List Nat) (τ : L2.St), (L2.wipe (τ.set v o) ws).set v none = (L2.wipe τ ws).set v none := by
        intro ws
        induction ws with
        | nil => intro τ; show (τ.set v o).set v none = τ.set v none; rw [List.set_set]
        | cons w ws ih =>
          intro τ
          show ((L2.wipe (τ.set v o) ws).set w none).set v none = ((L2.wipe τ ws).set w none).set v none
          by_cases hw : w = v
          · subst hw
            rw [List.set_set, List.set_set]
            exact ih τ
          · rw [List.set_comm _ _ hw, List.set_comm _ _ hw, ih τ]
      exact key vs τ
    · have h' : i ∈ vs := by
        rcases List.mem_cons.mp h with e | e
        · exact absurd e.symm hv
        · exact e
      show (L2.wipe (τ.set i o) vs).set v none = (L2.wipe τ vs).set v none
      rw [wipe_set h']
theorem sv_name (i : Nat) {x : Str} {pos : Pos} {vs : List Nat} (hN : X.N.Nodup) (hi : X.N[i]? = some x := by rfl) (hx : Loc X.env.scope x := by first | exact .inl rfl | exact .inr rfl) (hf : X.fn x = true ∨ X.env.scope.names.lookup x = some .local := by first | exact .inl rfl | exact .inr rfl)
    (hv : i ∈ vs := by decide) : SV X vs (.Name x pos) (tName i) :=
  ⟨_, pg_name hN hi hx hf, fun v d τ H ρ σ S Q T dv h => h _ H ρ (To.refl _ _) ⟨T.hr, T.sl.set i dv⟩ (wipe_set hv)⟩
theorem svs_nil {vs : List Nat} : SVs X vs [] tNilG := by
  refine ⟨_, pgs_nil, fun us ds τ H ρ σ S Q T dv h => ?_⟩
  cases dv with
  | nil => exact ⟨rfl, h τ H ρ (To.refl _ _) T rfl⟩
  | cons _ _ => exact h.elim
theorem svs_cons {vs : List Nat} {e : Expr} {es : List Expr} {g : FT} {r : FTs} (h1 : SV X vs e g) (h2 : SVs X vs es r) (hs : (assignEach (e :: es) X.env).map (·.2) = assign e X.env :: (assignEach es X.env).map (·.2) := by rfl) : SVs X vs (e :: es) (tConsG g r) := by
  obtain ⟨t1, p1, q1⟩ := h1.ex
  obtain ⟨t2, p2, q2⟩ := h2.ex
  refine ⟨_, pgs_cons p1 p2 hs, fun us ds τ H ρ σ S Q T dv h => ?_⟩
  cases dv with
  | nil => exact h.elim
  | cons dx dxs =>
    refine ⟨_, _, rfl, q1 _ _ τ H ρ σ S _ T dx ((link h).mono (fun σ1 S1 h1 => ?_) fun _ _ _ q => q)⟩
    intro τ1 H1 ρ1 t T1 w1
    exact q2 _ _ τ1 H1 ρ1 σ1 S1 Q T1 (dxs.to t) (h1.mono (fun σ2 S2 k τ2 H2 ρ2 t2 T2 w2 => k τ2 H2 ρ2 (t.trans t2) T2 (w2.trans w1)) fun _ _ _ q => q)
structure SVi {α : Type} (X : Cx) (vs : List Nat) (it : IRel α) (tg : Expr) (g : α → Sg → Bxs → Rs Sg) : Prop where
  ex : ∃ t, PG X tg t ∧ ∀ v a τ H H' ρ σ S Q, Ty X.K H ρ σ S τ → it X.K H ρ a v H' → (g a σ S).Sat (KW X.K H ρ vs τ Q) noX → t v τ H' Q
theorem svi_one {vs : List Nat} {tg : Expr} {g : FT} (h : SV X vs tg g) : SVi X vs itS tg g := by
  obtain ⟨t, p, q⟩ := h.ex
  refine ⟨t, p, fun v a τ H H' ρ σ S Q T hi hs => ?_⟩
  obtain ⟨rfl, dv⟩ := hi
  exact q v a τ _ ρ σ S Q T dv hs
theorem svi_pair {vs : List Nat} {es : List Expr} {k : Nat} {pos : Pos} {g : FTs} (hc : X.calm = true) (h : SVs X vs es g) (hn : (assignEach es X.env).length = 2 := by rfl) (hst : (assignEach es X.env).findIdx? (·.1) = none := by rfl) : SVi X vs itP (.Tuple es k pos) (tPairG g) := by
  obtain ⟨t, p, q⟩ := h.ex
  refine ⟨_, pg_tup hc p hn hst, fun v a τ H H' ρ σ S Q T hi hs => ?_⟩
  obtain ⟨U, x1, x2, rfl, hU, rfl, d1, d2⟩ := hi
  have t1 : To H (upd H U (.tup [x1, x2])) ρ ρ := ⟨Ext.new hU, List.prefix_refl _⟩
  exact ⟨U, [x1, x2], rfl, SqT.of upd_same, rfl, q _ _ τ _ ρ σ S Q (T.to t1 (T.hr.tup hU)) (.cons (d1.to t1) (.cons (d2.to t1) .nil)) (hs.mono (fun σ2 S2 k τ2 H2 ρ2 t2 T2 w2 => k τ2 H2 ρ2 (t1.trans t2) T2 w2) fun _ _ _ q => q)⟩
def canV {α : Type} (K : PySem.W.Frag) (vs : List Nat) (it : IRel α) (g : α → Sg → Bxs → Rs Sg) : TG := fun v τ H' Q => ∃ H a ρ σ S, Ty K H ρ σ S τ ∧ it K H ρ a v H' ∧ (g a σ S).Sat (KW K H ρ vs τ Q) noX
theorem SVi.can {α : Type} {vs : List Nat} {it : IRel α} {tg : Expr} {g : α → Sg → Bxs → Rs Sg} (h : SVi X vs it tg g) : PG X tg (canV X.K vs it g) := by
  obtain ⟨t, p, q⟩ := h.ex
  exact ⟨fun pins s τ H' v u Q I r ⟨H, a, ρ, σ, S, T, hi, hs⟩ => p.run pins s τ H' v u Q I r (q _ _ _ _ _ _ _ _ _ T hi hs)⟩
/-! ### tests of a clause -/
structure STs (X : Cx) (ifs : List Expr) (f : FB) : Prop where
  can : PTs X ifs (canT X.K noEr f)
def bYes : FB := fun _ S => .ok true S
theorem sts_nil : STs X [] bYes := ⟨⟨fun pins s σ H Q I ⟨ρ, σ', S, T, h⟩ => pts_nil.run pins s σ H Q I (h H ρ (To.refl _ _) T.hr)⟩⟩
theorem sts_one {c : Expr} {f : FB} (h : ST X noEr c f) : STs X [c] f := ⟨pts_one h.can⟩
/-! ### the loop -/
open Classical in
noncomputable def lcF {α : Type} (st : Bxs → Prop) (g : α → Sg → Bxs → Rs Sg) (tt : FB) (te : FE) (σw : Sg) (n : Nat) : List α → Bxs → Rs Unit
  | [], S => if st S then .ok () S else .no
  | x :: xs, S => if st S then (g x σw S).bind fun σ1 S1 => (tt σ1 S1).bind fun b S2 => if b = true then (te σ1 S2).bind fun d S3 => match S3.lst n with
      | some acc => if acc.length < LIM then lcF st g tt te σw n xs (S3.set n (.lst (acc ++ [d]))) else .no
      | none => .no else lcF st g tt te σw n xs S2 else .no
/-- what raises is not told -/
def Rs.quiet {α : Type} : Rs α → Rs α
  | .ok a s => .ok a s
  | _ => .no
@[simp] theorem Rs.quiet_ok {α : Type} (a : α) (s : Bxs) : (Rs.ok a s).quiet = .ok a s := rfl
theorem quiet_sat {α : Type} {r : Rs α} {P : α → Bxs → Prop} {E E' : Nat → List Dt → Bxs → Prop} (h : r.quiet.Sat P E) : r.Sat P E' := by
  cases r with
  | ok a s => exact h
  | ex c ds s => exact h.elim
  | no => exact h.elim
noncomputable def dLc {α : Type} (src : Src α) (g : α → Sg → Bxs → Rs Sg) (tt : FB) (te : FE) (vs : List Nat) : FE := fun σ S => (src σ S).bind fun r S1 =>
  (lcF r.2 g tt te (wipeD σ vs) S1.length r.1 (S1 ++ [.lst []])).quiet.bind fun _ S2 => .ok (.box S1.length) S2
theorem lcF_st {α : Type} {st : Bxs → Prop} {g : α → Sg → Bxs → Rs Sg} {tt : FB} {te : FE} {n : Nat} {xs : List α} {P : Unit → Bxs → Prop} {E : Nat → List Dt → Bxs → Prop} (h : (lcF st g tt te σ n xs S).Sat P E) : st S := by
  cases xs with
  | nil => unfold lcF at h; exact (iteC_sat h).1
  | cons x xs => unfold lcF at h; exact (iteC_sat h).1
/-- what the reading of a comprehension asks, from the plain one -/
theorem lc_sat {α : Type} {it : IRel α} {src : Src α} {g : α → Sg → Bxs → Rs Sg} {ft : FB} {fe : FE} {vs : List Nat} {wi : TI} (qi : ∀ τ H ρ σ S R, Ty X.K H ρ σ S τ → (src σ S).Sat (KI X.K H ρ it R) (KX Er H ρ) → wi τ H R)
    {Q : VK} (T : Ty X.K H ρ σ S τ) (h : (dLc src g ft fe vs σ S).Sat (KO X.K H ρ Q) (KX Er H ρ)) : tLc wi (canV X.K vs it g) (canT X.K noEr ft) (canE X.K noEr fe) vs τ H Q := by
  refine qi τ H ρ σ S _ T ((link h).mono (fun r S1 h1 => ?_) fun _ _ _ q => q)
  obtain ⟨xs, st⟩ := r
  intro H1 ρ1 J G Y t1 hr1 w hG hY
  intro D hD
  have h2 : (lcF st g ft fe (wipeD σ vs) S1.length xs (S1 ++ [MBox.lst []])).Sat (fun _ S2 => KO X.K H ρ Q (.box S1.length) S2) noX := quiet_sat (link h1)
  have tD : To H1 (upd H1 D (.lst [])) ρ1 (ρ1 ++ [D]) := ⟨Ext.new hD, List.prefix_append _ _⟩
  have hDr : (ρ1 ++ [D])[S1.length]? = some D := by rw [← hr1.len, List.getElem?_append_right (Nat.le_refl _), Nat.sub_self]; rfl
  refine lc_it w (fun i H' => ∃ ρ' S', To (upd H1 D (.lst [])) H' (ρ1 ++ [D]) ρ' ∧ HR X.K H' ρ' S' ∧ (lcF st g ft fe (wipeD σ vs) S1.length (xs.drop i) S').Sat (fun _ S2 => KO X.K H ρ Q (.box S1.length) S2) noX)
    ⟨ρ1 ++ [D], S1 ++ [MBox.lst []], To.refl _ _, hr1.new hD .nil, h2⟩ (fun i H' _ ⟨ρ', S', t', hr', h'⟩ => hG H' ρ' S' (tD.trans t') hr' (lcF_st h')) (fun i x H' H'' hlt ⟨ρ', S', t', hr', h'⟩ hy => ?_) fun H' ⟨ρ', S', t', hr', h'⟩ => ?_
  · have hi : xs[i]? = some xs[i] := List.getElem?_eq_getElem hlt
    have hd : xs.drop i = xs[i] :: xs.drop (i + 1) := List.drop_eq_getElem_cons hlt
    rw [hd] at h'
    have hst := lcF_st h'
    unfold lcF at h'
    obtain ⟨_, h'⟩ := iteC_sat h'
    have Tw : Ty X.K H' ρ' (wipeD σ vs) S' (L2.wipe τ vs) := ⟨hr', (T.sl.to ((t1.trans tD).trans t')).wipe vs⟩
    refine ⟨H', xs[i], ρ', wipeD σ vs, S', Tw, hY i _ x H' H'' ρ' S' (tD.trans t') hr' hst hi hy, (link h').mono (fun σ1 S2 h3 => ?_) fun _ _ _ q => q⟩
    intro τ2 H2 ρ2 t2 T2 w2
    refine ⟨?_, ρ2, σ1, S2, T2, (link h3).mono (fun b S3 h4 => ?_) fun c ds s q => q.elim⟩
    · rw [w2]
      have idem : ∀ (us : List Nat) (τ : L2.St), (∀ u ∈ us, u ∈ vs) → L2.wipe (L2.wipe τ us) vs = L2.wipe τ vs := by
        intro us
        induction us with
        | nil => intro τ _; rfl
        | cons u us ih =>
          intro τ hu
          show L2.wipe ((L2.wipe τ us).set u none) vs = L2.wipe τ vs
          rw [wipe_set (hu u List.mem_cons_self)]
          exact ih τ fun x hx => hu x (List.mem_cons_of_mem _ hx)
      exact idem vs τ fun u hu => hu
    intro H3 ρ3 t3 hr3
    cases b with
    | true =>
      rw [if_pos rfl] at h4
      show if true = true then _ else _
      rw [if_pos rfl]
      refine ⟨ρ3, σ1, S3, T2.to t3 hr3, (link h4).mono (fun d S4 h5 => ?_) fun c ds s q => q.elim⟩
      intro y H4 ρ4 t4 hr4 dv
      cases e : S4.lst S1.length with
      | none => rw [e] at h5; exact h5.elim
      | some acc =>
        rw [e] at h5
        obtain ⟨hl, h5⟩ := ite_sat h5
        have ha : ρ4[S1.length]? = some D := pre_get (((t'.trans t2).trans t3).trans t4).pre hDr
        obtain ⟨us, g1, g2⟩ := hr4.mu ha e
        have tu : To H4 (upd H4 D (.lst (us ++ [y]))) ρ4 ρ4 := ⟨Ext.set g1, List.prefix_refl _⟩
        exact ⟨us, g1, by rw [← g2.length]; exact lim_lt hl, ρ4, _, (((t'.trans t2).trans t3).trans t4).trans tu, hr4.set (lst_get e) ha g1 (g2.app (.cons dv .nil)), h5⟩
    | false =>
      rw [if_neg Bool.false_ne_true] at h4
      show if false = true then _ else _
      rw [if_neg Bool.false_ne_true]
      exact ⟨ρ3, S3, (t'.trans t2).trans t3, hr3, h4⟩
  · rw [List.drop_length] at h'
    unfold lcF at h'
    obtain ⟨_, h'⟩ := iteC_sat h'
    exact h' (.ref D) H' ρ' ((t1.trans tD).trans t') hr' (.box (pre_get t'.pre hDr))
section
variable {α : Type} {it : IRel α} {elt tg iter : Expr} {ifs : List Expr} {scope : Scope} {own : List (Str × Nat)} {pos : Pos} {src : Src α} {g : α → Sg → Bxs → Rs Sg} {ft : FB} {fe : FE}
theorem se_lc (own : List (Str × Nat)) (hc : X.calm = true) (hN : X.N.Nodup) (hi : SI X Er it tg iter src) (ok : BlkOk X.N X.env.scope scope own)
    (hg : ∀ (s : Shared) (H : Hp) (C : Addr) (cl : List (Str × Addr)) (fp : List Addr), SVi (X.blk s H scope (compEnvC scope cl C X.env) fp) (own.map (·.2)) it tg g)
    (ht : ∀ (s : Shared) (H : Hp) (C : Addr) (cl : List (Str × Addr)) (fp : List Addr), STs (X.blk s H scope (compEnvC scope cl C X.env) fp) ifs ft)
    (he : ∀ (s : Shared) (H : Hp) (C : Addr) (cl : List (Str × Addr)) (fp : List Addr), SE (X.blk s H scope (compEnvC scope cl C X.env) fp) noEr elt fe)
    (hs : ∀ x, foldedSetIterable iter X.env x = pure x := by intro _; rfl) : SE X Er (.ListComp elt [⟨tg, iter, ifs, 0⟩] scope pos) (dLc src g ft fe (own.map (·.2))) := by
  obtain ⟨wi, pi, qi⟩ := hi.ex
  exact ⟨tLc wi (canV X.K (own.map (·.2)) it g) (canT X.K noEr ft) (canE X.K noEr fe) (own.map (·.2)), pe_lc hc hN pi ok (fun s H C cl fp => (hg s H C cl fp).can) (fun s H C cl fp => (ht s H C cl fp).can) (fun s H C cl fp => (he s H C cl fp).can) hs, fun τ H ρ σ S Q T h => lc_sat qi T h⟩
/-- name = [..] on one line, the name a local -/
theorem ss_setLc (i : Nat) (own : List (Str × Nat)) {y : Str} {py spos : Pos} (hc : X.calm = true) (hN : X.N.Nodup) (hi : SI X Er it tg iter src) (ok : BlkOk X.N X.env.scope scope own)
    (hsw : swapsWith (.ListComp elt [⟨tg, iter, ifs, 0⟩] scope pos) (some (.Name y py)) spos.line X.env = pure true)
    (hg : ∀ (s : Shared) (H : Hp) (C : Addr) (cl : List (Str × Addr)) (fp : List Addr), SVi (X.blk s H scope (compEnvC scope cl C X.env) fp) (own.map (·.2)) it tg g)
    (ht : ∀ (s : Shared) (H : Hp) (C : Addr) (cl : List (Str × Addr)) (fp : List Addr), STs (X.blk s H scope (compEnvC scope cl C X.env) fp) ifs ft)
    (he : ∀ (s : Shared) (H : Hp) (C : Addr) (cl : List (Str × Addr)) (fp : List Addr), SE (X.blk s H scope (compEnvC scope cl C X.env) fp) noEr elt fe)
    (hy : X.N[i]? = some y := by rfl) (hyl : X.env.scope.names.lookup y = some .local := by rfl) (hs : ∀ x, foldedSetIterable iter X.env x = pure x := by intro _; rfl) :
    SS X Er (.Assign [.Name y py] (.ListComp elt [⟨tg, iter, ifs, 0⟩] scope pos) spos) (sSet i (dLc src g ft fe (own.map (·.2)))) := by
  obtain ⟨wi, pi, qi⟩ := hi.ex
  refine ⟨tAsg (tLc wi (canV X.K (own.map (·.2)) it g) (canT X.K noEr ft) (canE X.K noEr fe) (own.map (·.2))) (gName i), ps_setLc hc hN hy hyl hsw pi ok (fun s H C cl fp => (hg s H C cl fp).can) (fun s H C cl fp => (ht s H C cl fp).can) (fun s H C cl fp => (he s H C cl fp).can) hs, fun τ H ρ σ S D T h => ?_⟩
  refine lc_sat qi T ((link h).mono (fun d S1 h1 => ?_) fun _ _ _ q => q)
  intro v H1 ρ1 t1 hr1 dv
  exact h1 _ H1 ρ1 t1 ⟨hr1, (T.sl.to t1).set i dv⟩
end
end
end Mn
set_option Elab.async false
set_option linter.all false
set_option maxRecDepth 100000
set_option maxHeartbeats 4000000
/-! MnH: defs, their calls, repr, the end of a law. -/
namespace Mn
open PySem PySem.Spec PyProof.Rows L2
abbrev FN := List Dt → Bxs → Rs Dt
/-- the def at f comes to what F tells, where no repr is under way -/
structure FnD (P : Program) (w : World) (K : PySem.W.Frag) (mg : Str → Option Value) (base : Heap) (CX : CXT) (eo : XK → ER) (k : Nat) (f : Addr) (fd : FuncData) (ps : List Str) (F : FN) : Prop where
  run : ∀ (A : Around) (outer : List Env) (s : Shared) (H : Hp) (args : Args) (us : List Value) (vs : List V) (ρ : List Addr) (S : Bxs) (ds : List Dt) (Q : VK) (E : XK), A.guards = some [] → Room k A → Env0 P w K mg base A outer s H →
    BindsTo s fd args (ps.zip us) → Vals vs us → ds.length = ps.length → HR K H ρ S → DVs K H ρ ds vs → (F ds S).Sat (KO K H ρ Q) (KX (eo E) H ρ) → codeAny (model P w) A (.call (.ref f) args) (CR CX outer P w H s Q E) s
theorem FnD.mono {P : Program} {w : World} {K : PySem.W.Frag} {mg : Str → Option Value} {base : Heap} {CX : CXT} {eo : XK → ER} {j k : Nat} {f : Addr} {fd : FuncData} {ps : List Str} {F : FN} (h : FnD P w K mg base CX eo j f fd ps F) (hk : j ≤ k) :
    FnD P w K mg base CX eo k f fd ps F := ⟨fun A outer s H args us vs ρ S ds Q E hg hr => h.run A outer s H args us vs ρ S ds Q E hg (hr.mono hk)⟩
/-! ### a def by its body -/
/-- the slots at the entry -/
def startD (n : Nat) (ds : List Dt) : Sg := ds.map some ++ List.replicate (n - ds.length) none
def bodyF (n : Nat) (f : FS) : FN := fun ds S => (f (startD n ds) S).bind fun r S1 => match r.1 with
  | .rt d => .ok d S1
  | .nx => .ok .non S1
  | _ => .no
theorem sl_start {K : PySem.W.Frag} {H : Hp} {ρ : List Addr} {N : List Str} {ds : List Dt} {vs : List V} (h : DVs K H ρ ds vs) : Sl K H ρ (startD N.length ds) (L2.start N vs) := by
  have hl := h.length
  refine ⟨by unfold startD L2.start; simp [hl], fun i d e => ?_⟩
  unfold startD at e
  unfold L2.start
  by_cases hi : i < ds.length
  · rw [List.getElem?_append_left (by simpa using hi), List.getElem?_map] at e
    cases e2 : ds[i]? with
    | none => rw [e2] at e; cases e
    | some d' =>
      rw [e2] at e
      cases e
      obtain ⟨v, h1, h2⟩ := h.get e2
      refine ⟨v, ?_, h2⟩
      rw [List.getElem?_append_left (by simpa [← hl] using hi), List.getElem?_map, h1]
      rfl
  · rw [List.getElem?_append_right (by simpa using hi), List.getElem?_replicate] at e
    split at e <;> cases e
section
variable {P : Program} {w : World} {K : PySem.W.Frag} {mg : Str → Option Value} {base : Heap}
theorem fnD_of {CX : CXT} {eo : XK → ER} {k : Nat} {x qual : Str} {st : Stmt} {f : Addr} {fd : FuncData} {N ps : List Str} {fb : FS} (F : Fun K x qual st f fd) (S0 : FnScope N ps (defScope st))
    (hbody : ∀ cdv : Value, fd.code = cdv → ∀ (A : Around) (outer : List Env) (s : Shared) (H : Hp) (E : XK), Room k (A.deeper (envOfC qual (defScope st) s.heap.objs.size f cdv)) → A.guards = some [] →
      SSs (cxOf CX P w K mg base N qual (defScope st) f cdv A outer s H E) (eo E) (defBody st) fb) : FnD P w K mg base CX eo (k + 1) f fd ps (bodyF N.length fb) := by
  obtain ⟨oc, od, kV, doc, pm, an, cdv, ct, osl, rfl, lk, hcd⟩ := F.ex
  constructor
  intro A outer s H args us vs ρ S ds Q E hgd hr e0 hb r hl hR dvs hs
  have hlv : vs.length = ps.length := by rw [← dvs.length]; exact hl
  have inK : K.In s.heap := e0.mod.kin.keeps fun b o e => (e0.bs b o e).1
  have lim : s.heap.NoLimit := e0.mod.nolimit.keeps fun b o e => (e0.bs b o e).1
  have kinds : ∀ y ∈ ps.zip us, (defScope st).names.lookup y.1 = some .local ∨ ((defScope st).names.lookup y.1 = some .cell ∧ ((cellsFrom (s.heap.objs.size + 1) (defScope st).names []).lookup y.1).isSome = true) := by
    rintro ⟨n, v⟩ hy
    rcases S0.par n (List.of_mem_zip hy).1 with q | q
    · exact .inl q
    · exact .inr ⟨q, PySem.W.cellsFrom_some _ _ _ (.inl q)⟩
  refine codeAny_call_function hr.depth (inK _ _ lk) rfl S0.co S0.gen rfl (PySem.W.codeRec_of inK hcd) (hb _ _ _ _ ?_)
  refine wpAny_newFunctionEnv_cells S0.kind kinds fun env he s1 x1 => ?_
  subst he
  refine ⟨lim.keeps x1.toInCall.keep, codeAny_func ?_⟩
  obtain ⟨t, pt, qt⟩ := (hbody cdv rfl A outer s H E (hr.deeper _) hgd).ex
  have I := inv_start (CX := CX) (E := E) S0 hr.hd e0 hlv r x1
  have T : Ty K H ρ (startD N.length ds) S (L2.start N vs) := ⟨hR, sl_start dvs⟩
  have go : t { nx := fun _ H' => Q .non H', rt := Q } (L2.start N vs) H := by
    refine qt _ H ρ (startD N.length ds) S _ T ((link hs).mono (fun r S1 h1 => ?_) fun _ _ _ q => q)
    obtain ⟨fl, σ1⟩ := r
    cases fl with
    | nx => exact fun τ' H' ρ' t' T' => h1 _ H' ρ' t' T'.hr .non
    | rt d => exact h1
    | bk => exact h1.elim
    | ct => exact h1.elim
  refine wpAny_mono (pt.run [] s1 (L2.start N vs) H _ I go) (fun fl s' hf => ?_) fun e s' he => he
  cases fl with
  | ret u =>
    obtain ⟨v, σ', H', J, rv, q⟩ := hf
    exact ⟨v, H', J.os, J.bare, J.base, J.hok, rv, q⟩
  | next =>
    obtain ⟨σ', H', J, q⟩ := hf
    exact ⟨V.non, H', J.os, J.bare, J.base, J.hok, rfl, q⟩
  | brk =>
    obtain ⟨_, _, _, q⟩ := hf
    exact False.elim q
  | cont =>
    obtain ⟨_, _, _, q⟩ := hf
    exact False.elim q
end
/-! ### a def called -/
section
variable {X : Cx} {Er : ER} {H H1 : Hp} {ρ ρ1 : List Addr} {σ : Sg} {S S1 : Bxs} {τ : L2.St}
theorem SE.ofCan {e : Expr} {f : FE} (h : PE X e (canE X.K Er f)) : SE X Er e f := ⟨_, h, fun τ H ρ σ S Q T q => ⟨ρ, σ, S, T, q⟩⟩
theorem se_call {CX : CXT} {eo : XK → ER} {E : XK} {k : Nat} {f : Addr} {fd : FuncData} {ps : List Str} {F : FN} {x : Str} {p pos : Pos} {e : Expr} {es : List Expr} {fa : FA} (n : Nat) (FD : FnD X.prog X.w X.K X.mg X.base CX eo k f fd ps F) (hgd : X.A.guards = some []) (hr : Room k X.A) (hg : Gl X x) (hm : X.mg x = some (.ref f))
    (hk : PySem.W.keepIn X.K (.ref f) = true) (hb : Binds X.K fd ps []) (hx : Passes CX X E) (hE : ∀ c ds S H ρ, Er c ds S H ρ → eo E c ds S H ρ) (ha : SA X Er (e :: es) fa) (hn : ∀ σ S ds S', fa σ S = .ok ds S' → ds.length = n) (hps : ps.length = n)
    (hdb : (x == ("__debug__" : Str)) = false := by decide) (he : starEach (e :: es) X.env = (false, eval e X.env) :: starEach es X.env := by rfl) (hpl : (backTo pos (starEach es X.env)).any (·.1) = false := by rfl) :
    SE X Er (.Call (.Name x p) (e :: es) [] pos) (dCall F fa) := by
  obtain ⟨ta, pa, qa⟩ := ha.ex
  refine SE.ofCan ⟨fun pins s τ H Q I ⟨ρ, σ, S, T, h⟩ => ?_⟩
  refine wpAny_Call_Name_kw (ld_glob I hg hm ?_ hdb)
  have h := link h
  have h' : (fa σ S).Sat (fun ds S1 => ds.length = n ∧ (F ds S1).Sat (KO X.K H ρ Q) (KX Er H ρ)) (KX Er H ρ) := by
    cases e0 : fa σ S with
    | ok ds S1 => rw [e0] at h; exact ⟨hn σ S ds S1 e0, h⟩
    | ex c ds S1 => rw [e0] at h; exact h
    | no => rw [e0] at h; exact h
  refine PySem.W.callWith_K (h₀ := X.base) I.ok.mod.kin hk (thn (pa.run pos pins s τ H (fun vs H1 => ∃ ρ1 S1 ds, To H H1 ρ ρ1 ∧ HR X.K H1 ρ1 S1 ∧ DVs X.K H1 ρ1 ds vs ∧ ds.length = n ∧ (F ds S1).Sat (KO X.K H ρ Q) (KX Er H ρ)) I ?_) ?_) he hpl
  · exact qa τ H ρ σ S _ T (h'.mono (fun ds S1 q vs H1 ρ1 t1 hr1 dvs => ⟨ρ1, S1, ds, t1, hr1, dvs, q.1, q.2⟩) fun _ _ _ q => q)
  · rintro us s1 ⟨vs, H1, I1, r, ρ1, S1, ds, t1, hr1, dvs, hl, q⟩
    refine ⟨I1.kIn, ?_⟩
    have hlu : (us ++ []).length = ps.length := by rw [List.append_nil, ← r.length, ← dvs.length, hl, hps]
    have hq := (Rs.Sat.toO t1 q).mono (fun _ _ z => z) (fun c es S' (z : KX Er H1 ρ1 c es S') => (fun H' ρ' t' => hE _ _ _ _ _ (z H' ρ' t') : KX (eo E) H1 ρ1 c es S'))
    refine wpAny_call (codeAny_mono (FD.run X.A X.stack s1 H1 ⟨us, []⟩ (us ++ []) vs ρ1 S1 ds Q E hgd hr I1.env0 (hb s1 us I1.kIn hlu) (by rw [List.append_nil]; exact r) (hl.trans hps.symm) hr1 dvs hq) fun rr s' hq => ?_)
    cases rr with
    | error e => exact hx pins τ H1 s1 e s' I1 hq
    | ok fl =>
      cases fl with
      | ret u => exact I1.after hq
      | next => exact False.elim hq
      | brk => exact False.elim hq
      | cont => exact False.elim hq
/-- so many arguments -/
theorem len_nil : ∀ σ S ds S', aNil σ S = .ok ds S' → ds.length = 0 := fun σ S ds S' h => by cases h; rfl
theorem len_cons {a : FE} {r : FA} {n : Nat} (hr : ∀ σ S ds S', r σ S = .ok ds S' → ds.length = n) : ∀ σ S ds S', aCons a r σ S = .ok ds S' → ds.length = n + 1 := fun σ S ds S' h => by
  unfold aCons at h
  cases e : a σ S with
  | ok d S1 =>
    rw [e, Rs.bind_ok] at h
    cases e2 : r σ S1 with
    | ok es S2 =>
      rw [e2, Rs.bind_ok] at h
      cases h
      rw [List.length_cons, hr _ _ _ _ e2]
    | ex c es S2 => rw [e2] at h; cases h
    | no => rw [e2] at h; cases h
  | ex c es S1 => rw [e] at h; cases h
  | no => rw [e] at h; cases h
end
/-! ### repr -/
section
variable {X : Cx} {Er : ER} {K : PySem.W.Frag} {H H1 : Hp} {ρ ρ1 : List Addr} {σ : Sg} {S S1 : Bxs} {τ : L2.St}
def showOk (p : PyData) : Bool := PyData.showable p && !PyData.hasDict p && decide (p.depth ≤ 60) && decide (p.shown.length ≤ strLim)
def reprG : GC := fun ds S => match ds with
  | [d] => match pdo S d with
    | some p => if showOk p = true then .ok (.str p.shown) S else .no
    | none => .no
  | _ => .no
theorem reprG_calm : CalmC reprG := by
  intro ds S c es S'
  unfold reprG
  split
  · split
    · exact calm_ite (calm_ok _ _) _ _ _
    · exact calm_no _ _ _
  · exact calm_no _ _ _
def rRepr (K : PySem.W.Frag) : List V → Hp → VK → Prop := fun vs H Q => ∃ v p, vs = [v] ∧ Dp K H v p ∧ showOk p = true ∧ Q (.str p.shown) H
theorem call_repr (hg : X.A.guards = some []) (hu : X.A.units + 64 < cLine) : CallR X (.builtin "repr") (rRepr X.K) := by
  rintro pins s σ H xs us Q I r ⟨v, p, rfl, hd, hs, q⟩
  obtain ⟨u, rfl, rv⟩ := vals1 r
  unfold showOk at hs
  rw [Bool.and_eq_true, Bool.and_eq_true, Bool.and_eq_true, decide_eq_true_eq, decide_eq_true_eq] at hs
  obtain ⟨⟨⟨s1, s2⟩, s3⟩, s4⟩ := hs
  have hsz : p.shown.length ≤ sizeLine := Nat.le_trans s4 (by decide)
  have hnd : p.hasDict = true → False := fun z => by rw [z] at s2; cases s2
  obtain ⟨as, hr⟩ := Dp.reads I p v u hd rv
  cases hd with
  | non =>
    cases rv
    exact PySem.P.repr_of_none ⟨.str _, H, I.tok _, ⟨_, rfl⟩, q⟩
  | bl b =>
    cases rv
    refine PySem.P.repr_of_bool ⟨.str _, H, I.tok _, ⟨_, rfl⟩, ?_⟩
    have q' : Q (.str (PyData.shown (.bool b))) H := q
    simp only [PyData.shown] at q'
    cases b <;> exact q'
  | int i =>
    obtain ⟨t, rfl⟩ := rv
    refine PySem.P.repr_of_int ?_ ⟨.str _, H, I.tok _, ⟨_, rfl⟩, ?_⟩
    · simpa [PyData.showable] using s1
    · have q' : Q (.str (PyData.shown (.int i))) H := q
      simp only [PyData.shown] at q'
      exact q'
  | str x =>
    obtain ⟨t, rfl⟩ := rv
    have q' : Q (.str (PyData.shown (.str x))) H := q
    simp only [PyData.shown] at q' hsz
    exact PySem.P.repr_of_str ⟨.str _, H, I.tok _, ⟨_, rfl⟩, q'⟩ hsz
  | lst hq ha =>
    cases rv
    exact repr_of_reads' hr s1 (fun z => (hnd z).elim) hg (by omega) (fun _ _ e => e) (fun h' u tk hk => ⟨.str _, H, I.kept (t' := tk) hk, ⟨_, rfl⟩, q⟩) hsz
  | tup hq ha =>
    cases rv
    exact repr_of_reads' hr s1 (fun z => (hnd z).elim) hg (by omega) (fun _ _ e => e) (fun h' u tk hk => ⟨.str _, H, I.kept (t' := tk) hk, ⟨_, rfl⟩, q⟩) hsz
theorem rc_repr : RCo K (rRepr K) reprG := by
  intro H ρ S ds vs Q hr dvs h
  cases dvs with
  | nil => exact h.elim
  | cons dv r =>
    cases r with
    | cons _ _ => exact h.elim
    | nil =>
      unfold reprG at h
      simp only at h
      rename_i d v
      cases e : pdo S d with
      | none => rw [e] at h; exact h.elim
      | some p =>
        rw [e] at h
        obtain ⟨c, h⟩ := ite_sat h
        exact ⟨v, p, rfl, dp_of hr _ d v p dv e, c, ko_here hr h (.str _)⟩
end
end Mn
set_option Elab.async false
set_option linter.all false
set_option maxRecDepth 100000
set_option maxHeartbeats 4000000
/-! MnI: built-in calls and methods. -/
namespace Mn
open PySem PySem.Spec PyProof.Rows L2
section
variable {X : Cx} {Er : ER} {K : PySem.W.Frag} {H H1 : Hp} {ρ ρ1 : List Addr} {σ : Sg} {S S1 : Bxs} {τ : L2.St}
/-! ### lists of ints, of truths, of texts -/
def intsOf : List Dt → Option (List Int)
  | [] => some []
  | .int i :: r => (intsOf r).map (i :: ·)
  | _ => none
def strsOf : List Dt → Option (List Str)
  | [] => some []
  | .str b :: r => (strsOf r).map (b :: ·)
  | _ => none
theorem ints_v : ∀ {ds : List Dt} {vs : List V} {ns : List Int}, DVs K H ρ ds vs → intsOf ds = some ns → vs = ns.map V.int
  | _, _, _, .nil, h => by cases h; rfl
  | _, _, ns, .cons dv r, h => by
    cases dv <;> first | (cases h; done) | skip
    unfold intsOf at h
    rename_i ds vs i
    cases e : intsOf ds with
    | none => rw [e] at h; cases h
    | some ms =>
      rw [e] at h
      cases h
      rw [List.map_cons, ints_v r e]
theorem strs_v : ∀ {ds : List Dt} {vs : List V} {ns : List Str}, DVs K H ρ ds vs → strsOf ds = some ns → vs = ns.map V.str
  | _, _, _, .nil, h => by cases h; rfl
  | _, _, ns, .cons dv r, h => by
    cases dv <;> first | (cases h; done) | skip
    unfold strsOf at h
    rename_i ds vs i
    cases e : strsOf ds with
    | none => rw [e] at h; cases h
    | some ms =>
      rw [e] at h
      cases h
      rw [List.map_cons, strs_v r e]
theorem dvs1 {d : Dt} {vs : List V} (h : DVs K H ρ [d] vs) : ∃ v, vs = [v] ∧ DV K H ρ d v := by
  cases h with
  | cons a r => cases r; exact ⟨_, rfl, a⟩
theorem dvs2 {d e : Dt} {vs : List V} (h : DVs K H ρ [d, e] vs) : ∃ v w, vs = [v, w] ∧ DV K H ρ d v ∧ DV K H ρ e w := by
  cases h with
  | cons a r =>
    cases r with
    | cons b r => cases r; exact ⟨_, _, rfl, a, b⟩
/-! ### len, list, tuple -/
def lenG : GC := fun ds S => match ds with
  | [.str z] => if z.length ≤ strLim then .ok (.int z.length) S else .no
  | [d] => match seqOf S d with
    | some xs => .ok (.int (xs.length : Int)) S
    | none => .no
  | _ => .no
theorem lenG_calm : CalmC lenG := by
  intro ds S c es S'
  unfold lenG
  split
  · exact calm_ite (calm_ok _ _) _ _ _
  · split
    · exact calm_ok _ _ _ _ _
    · exact calm_no _ _ _
  · exact calm_no _ _ _
def rLen (K : PySem.W.Frag) : List V → Hp → VK → Prop := fun xs H Q => ∃ x n, xs = [x] ∧ LenV K x H n ∧ Q (.int n) H
theorem rc_len : RCo K (rLen K) lenG := by
  intro H ρ S ds vs Q hr dvs h
  unfold lenG at h
  split at h
  · obtain ⟨v, rfl, dv⟩ := dvs1 dvs
    cases dv
    obtain ⟨c, h⟩ := ite_sat h
    exact ⟨_, _, rfl, ⟨Nat.le_trans c (by decide), rfl⟩, ko_here hr h (.int _)⟩
  · obtain ⟨v, rfl, dv⟩ := dvs1 dvs
    split at h
    · rename_i xs e
      obtain ⟨a, us, rfl, hs, hd⟩ := seq_of hr dv e
      have hl := hd.length
      rw [hl] at h
      refine ⟨_, us.length, rfl, ?_, ko_here hr h (.int _)⟩
      rcases hs with hs | hs
      · exact .inl ⟨us, hs, rfl⟩
      · exact .inr ⟨us, hs, rfl⟩
    · exact h.elim
  · exact h.elim
def listG : GC := fun ds S => match ds with
  | [d] => match seqOf S d with
    | some xs => newL xs S
    | none => .no
  | _ => .no
theorem listG_calm : CalmC listG := by
  intro ds S c es S'
  unfold listG
  split
  · split
    · exact newL_calm _ _ _ _ _
    · exact calm_no _ _ _
  · exact calm_no _ _ _
def rList (K : PySem.W.Frag) : List V → Hp → VK → Prop := fun xs H Q => ∃ p ys, xs = [.ref p] ∧ (SqL K H p ys ∨ SqT K H p ys) ∧ ∀ l, H l = none → Q (.ref l) (upd H l (.lst ys))
theorem rc_list : RCo K (rList K) listG := by
  intro H ρ S ds vs Q hr dvs h
  unfold listG at h
  split at h
  · obtain ⟨v, rfl, dv⟩ := dvs1 dvs
    split at h
    · rename_i xs e
      obtain ⟨a, us, rfl, hs, hd⟩ := seq_of hr dv e
      obtain ⟨hl, h⟩ := newL_ok h
      exact ⟨a, us, rfl, hs, fun p hp => new_lst hr hd hp h⟩
    · exact h.elim
  · exact h.elim
def tupleG : GC := fun ds S => match ds with
  | [.tup xs] => .ok (.tup xs) S
  | [.box n] => match S.seq n with
    | some xs => .ok (.tup xs) S
    | none => .no
  | _ => .no
theorem tupleG_calm : CalmC tupleG := by
  intro ds S c es S'
  unfold tupleG
  split
  · exact calm_ok _ _ _ _ _
  · split
    · exact calm_ok _ _ _ _ _
    · exact calm_no _ _ _
  · exact calm_no _ _ _
theorem rc_tuple : RCo K (rTupZ K) tupleG := by
  intro H ρ S ds vs Q hr dvs h
  unfold tupleG at h
  split at h
  · obtain ⟨v, rfl, dv⟩ := dvs1 dvs
    cases dv with
    | tup ht hd => exact ⟨_, _, rfl, .inr ⟨ht.sqt, ko_here hr h (.tup ht hd)⟩⟩
  · obtain ⟨v, rfl, dv⟩ := dvs1 dvs
    split at h
    · rename_i xs e
      cases dv with
      | box ha =>
        obtain ⟨us, h1, h2⟩ := hr.rd ha e
        exact ⟨_, us, rfl, .inl ⟨h1, new_tup hr h2 h⟩⟩
    · exact h.elim
  · exact h.elim
/-! ### numbers -/
def absG : GC := fun ds S => match ds with
  | [.int i] => .ok (.int (if i < 0 then -i else i)) S
  | _ => .no
theorem absG_calm : CalmC absG := by
  intro ds S c es S'
  unfold absG
  split <;> first | exact calm_ok _ _ _ _ _ | exact calm_no _ _ _
theorem rc_abs : RCo K (fun xs H Q => ∃ i, xs = [.int i] ∧ Q (.int (if i < 0 then -i else i)) H) absG := by
  intro H ρ S ds vs Q hr dvs h
  unfold absG at h
  split at h
  · obtain ⟨v, rfl, dv⟩ := dvs1 dvs
    cases dv
    exact ⟨_, rfl, ko_here hr h (.int _)⟩
  · exact h.elim
def intG : GC := fun ds S => match ds with
  | [.int i] => .ok (.int i) S
  | [.bl b] => .ok (.int (if b then 1 else 0)) S
  | _ => .no
theorem intG_calm : CalmC intG := by
  intro ds S c es S'
  unfold intG
  split <;> first | exact calm_ok _ _ _ _ _ | exact calm_no _ _ _
theorem rc_int : RCo K (fun xs H Q => (∃ i, xs = [.int i] ∧ Q (.int i) H) ∨ ∃ k, xs = [.bl k] ∧ Q (.int (if k then 1 else 0)) H) intG := by
  intro H ρ S ds vs Q hr dvs h
  unfold intG at h
  split at h
  · obtain ⟨v, rfl, dv⟩ := dvs1 dvs
    cases dv
    exact .inl ⟨_, rfl, ko_here hr h (.int _)⟩
  · obtain ⟨v, rfl, dv⟩ := dvs1 dvs
    cases dv
    exact .inr ⟨_, rfl, ko_here hr h (.int _)⟩
  · exact h.elim
def maxI : List Int → Int
  | [] => 0
  | [i] => i
  | i :: r => if maxI r > i then maxI r else i
theorem maxI_of : ∀ {ns : List Int} {m : Int}, m ∈ ns → (∀ y, y ∈ ns → y ≤ m) → maxI ns = m
  | [i], m, h, _ => (List.mem_singleton.mp h).symm
  | i :: j :: r, m, h, hm => by
    show (if maxI (j :: r) > i then maxI (j :: r) else i) = m
    have hmem : maxI (j :: r) ∈ j :: r := by
      have go : ∀ l : List Int, l ≠ [] → maxI l ∈ l := by
        intro l
        induction l with
        | nil => intro h; exact absurd rfl h
        | cons a l ih =>
          intro _
          cases l with
          | nil => exact List.mem_singleton.mpr rfl
          | cons b l =>
            show (if maxI (b :: l) > a then maxI (b :: l) else a) ∈ _
            split
            · exact List.mem_cons_of_mem _ (ih (List.cons_ne_nil _ _))
            · exact List.mem_cons_self
      exact go _ (List.cons_ne_nil _ _)
    have h1 := hm _ (List.mem_cons_of_mem _ hmem)
    have h2 := hm i List.mem_cons_self
    rcases List.mem_cons.mp h with e | e
    · split
      · omega
      · exact e.symm
    · have h3 : maxI (j :: r) = m := maxI_of e fun y hy => hm y (List.mem_cons_of_mem _ hy)
      split
      · exact h3
      · omega
/-! max of a tuple -/
section
variable {prog : Program} {w : World} {A : Around} {E : Value → Shared → Prop} {s : Shared} {l : Addr} {its : List Value} {ns : List Int} {Q : Value → Shared → Prop}
theorem iter_tup {xs : Array Value} {Q : Value → Shared → Prop} (hl : s.heap.IsTuple l xs)
    (h : ∀ s₂ : Shared, s₂ = { s with heap := s.heap.push { cls := .type "tuple_iterator", data := .fields #[.ref l, .int 0 0] } } →
      (s₂.heap.IsTupleIter s.heap.objs.size l 0 ∧ s₂.heap.IsTuple l xs) → (∀ b ∈ [s.heap.objs.size, l], b < s₂.heap.objs.size) → l ≠ s.heap.objs.size → Q (.ref s.heap.objs.size) s₂) :
    wpAny (model prog w) A (pyIter (.ref l)) Q E s := by
  have hlt : l < s.heap.objs.size := by obtain ⟨_, e, _⟩ := hl; exact Heap.lt_size e
  refine wpAny_pyIter_tuple hl (h _ rfl ⟨⟨_, Heap.get?_push_size _ rfl, rfl, rfl⟩, hl.at fun o e => Heap.get?_push_of_some _ e⟩ (fun b hb => ?_) (Nat.ne_of_lt hlt))
  show b < (s.heap.push _).objs.size
  rw [Heap.size_push]
  rcases List.mem_cons.mp hb with rfl | hb
  · exact Nat.lt_succ_self _
  · rcases List.mem_cons.mp hb with rfl | hb
    · exact Nat.lt_succ_of_lt hlt
    · cases hb
theorem old_keptT {h' : Heap} (hk : ∀ b o, b ∉ [s.heap.objs.size] → (s.heap.push { cls := .type "tuple_iterator", data := .fields #[.ref l, .int 0 0] }).get? b = some o → h'.get? b = some o) :
    ∀ b o, s.heap.get? b = some o → h'.get? b = some o := fun b o e => by
  refine hk b o (fun hm => ?_) (Heap.get?_push_of_some _ e)
  rcases List.mem_cons.mp hm with e1 | hm
  · exact absurd (e1 ▸ Heap.lt_size e) (Nat.lt_irrefl _)
  · cases hm
theorem max_tup_raw (hh : A.handled = none) (hl : s.heap.IsTuple l its.toArray) (hi : IntsAre its ns) (hne : 0 < ns.length)
    (h : ∀ h' tk M t', (∀ b o, s.heap.get? b = some o → h'.get? b = some o) → M ∈ ns → (∀ a, a ∈ ns → a ≤ M) → Q (.int M t') { s with heap := h', toks := tk }) : wpAny (model prog w) A (call (.builtin "max") [.ref l]) Q E s := by
  obtain ⟨xs, e⟩ := hi.allInts.items
  have hn : numsOf (intItems xs).toList = ns := by rw [← e]; exact hi.numsOf
  rw [nums_intItems] at hn
  subst hn
  rw [e] at hl
  have hsz : 0 < xs.size := by simpa using hne
  refine call_max_walk (iter_tup hl fun s₂ e st hfp hlI => ?_)
  subst e
  refine ⟨_, _, _, _, _, _, _, rfl, Walks.tuple (A := A.in1) hh _ l hlI (intItems xs), st, hfp, by simpa [intItems] using hsz, CmpOf.ints_gt (numAt xs) (fun _ _ => intItems_at), fun v h' tk hP hk => ?_⟩
  obtain ⟨t, rfl⟩ := intItems_at hP
  have hsz2 : (intItems xs).size = xs.size := by simp [intItems]
  rw [hsz2]
  obtain ⟨h1, h2⟩ := argBest_gt (numAt xs) (xs.size - 1)
  refine h h' tk _ t (old_keptT hk) ?_ fun a ha => ?_
  · rw [numAt_eq]; exact PySem.getD_mem (by rw [List.length_map, Array.length_toList]; omega)
  · obtain ⟨j, hj, rfl⟩ := mem_getD ha
    rw [List.length_map, Array.length_toList] at hj
    rw [← numAt_eq]; exact h2 j (by omega)
theorem min_tup_raw (hh : A.handled = none) (hl : s.heap.IsTuple l its.toArray) (hi : IntsAre its ns) (hne : 0 < ns.length)
    (h : ∀ h' tk M t', (∀ b o, s.heap.get? b = some o → h'.get? b = some o) → M ∈ ns → (∀ a, a ∈ ns → M ≤ a) → Q (.int M t') { s with heap := h', toks := tk }) : wpAny (model prog w) A (call (.builtin "min") [.ref l]) Q E s := by
  obtain ⟨xs, e⟩ := hi.allInts.items
  have hn : numsOf (intItems xs).toList = ns := by rw [← e]; exact hi.numsOf
  rw [nums_intItems] at hn
  subst hn
  rw [e] at hl
  have hsz : 0 < xs.size := by simpa using hne
  refine call_min_walk (iter_tup hl fun s₂ e st hfp hlI => ?_)
  subst e
  refine ⟨_, _, _, _, _, _, _, rfl, Walks.tuple (A := A.in1) hh _ l hlI (intItems xs), st, hfp, by simpa [intItems] using hsz, CmpOf.ints_lt (numAt xs) (fun _ _ => intItems_at), fun v h' tk hP hk => ?_⟩
  obtain ⟨t, rfl⟩ := intItems_at hP
  have hsz2 : (intItems xs).size = xs.size := by simp [intItems]
  rw [hsz2]
  obtain ⟨h1, h2⟩ := argBest_lt (numAt xs) (xs.size - 1)
  refine h h' tk _ t (old_keptT hk) ?_ fun a ha => ?_
  · rw [numAt_eq]; exact PySem.getD_mem (by rw [List.length_map, Array.length_toList]; omega)
  · obtain ⟨j, hj, rfl⟩ := mem_getD ha
    rw [List.length_map, Array.length_toList] at hj
    rw [← numAt_eq]; exact h2 j (by omega)
end
def rMaxT (K : PySem.W.Frag) : List V → Hp → VK → Prop := fun vs H Q => ∃ (a : Addr) (ns : List Int), vs = [V.ref a] ∧ SqT K H a (ns.map V.int) ∧ 0 < ns.length ∧ ∀ m, m ∈ ns → (∀ y, y ∈ ns → y ≤ m) → Q (.int m) H
def rMinT (K : PySem.W.Frag) : List V → Hp → VK → Prop := fun vs H Q => ∃ (a : Addr) (ns : List Int), vs = [V.ref a] ∧ SqT K H a (ns.map V.int) ∧ 0 < ns.length ∧ ∀ m, m ∈ ns → (∀ y, y ∈ ns → m ≤ y) → Q (.int m) H
theorem cr_maxT (hc : X.calm = true) : CallR X (.builtin "max") (rMaxT X.K) := by
  intro pins s σ H vs us Q I r h
  obtain ⟨a, ns, rfl, hs, hne, q⟩ := h
  obtain ⟨its, rv, hl, _⟩ := I.tuple hs
  rw [Vals.ref1 r]
  exact max_tup_raw (I.ok.hd hc) hl rv.ints hne fun h' tk m t' hk h1 h2 => ⟨.int _, H, I.kept hk, ⟨_, rfl⟩, q m h1 h2⟩
theorem cr_minT (hc : X.calm = true) : CallR X (.builtin "min") (rMinT X.K) := by
  intro pins s σ H vs us Q I r h
  obtain ⟨a, ns, rfl, hs, hne, q⟩ := h
  obtain ⟨its, rv, hl, _⟩ := I.tuple hs
  rw [Vals.ref1 r]
  exact min_tup_raw (I.ok.hd hc) hl rv.ints hne fun h' tk m t' hk h1 h2 => ⟨.int _, H, I.kept hk, ⟨_, rfl⟩, q m h1 h2⟩
def maxG : GC := fun ds S => match ds with
  | [.int i, .int j] => .ok (.int (if j > i then j else i)) S
  | [d] => match seqOf S d with
    | some xs => match intsOf xs with
      | some ns => if ns ≠ [] then .ok (.int (maxI ns)) S else .no
      | none => .no
    | none => .no
  | _ => .no
theorem maxG_calm : CalmC maxG := by
  intro ds S c es S'
  unfold maxG
  split
  · exact calm_ok _ _ _ _ _
  · split
    · split
      · exact calm_ite (calm_ok _ _) _ _ _
      · exact calm_no _ _ _
    · exact calm_no _ _ _
  · exact calm_no _ _ _
def rMaxA (K : PySem.W.Frag) : List V → Hp → VK → Prop := fun xs H Q => (∃ i j, xs = [.int i, .int j] ∧ Q (.int (if j > i then j else i)) H) ∨ (rMax K xs H Q ∨ rMaxT K xs H Q)
theorem call_maxA (hc : X.calm = true) : CallR X (.builtin "max") (rMaxA X.K) := (call_max2 hc).or ((cr_max hc).or (cr_maxT hc))
theorem rc_max : RCo K (rMaxA K) maxG := by
  intro H ρ S ds vs Q hr dvs h
  unfold maxG at h
  split at h
  · obtain ⟨v, w, rfl, dv, dw⟩ := dvs2 dvs
    cases dv
    cases dw
    exact .inl ⟨_, _, rfl, ko_here hr h (.int _)⟩
  · rename_i d
    obtain ⟨v, rfl, dv⟩ := dvs1 dvs
    cases e : seqOf S d with
    | none => rw [e] at h; exact h.elim
    | some xs =>
      rw [e] at h
      simp only at h
      cases e2 : intsOf xs with
      | none => rw [e2] at h; exact h.elim
      | some ns =>
        rw [e2] at h
        obtain ⟨hne, h⟩ := ite_sat h
        obtain ⟨a, ws, rfl, hs, hd⟩ := seq_of hr dv e
        obtain rfl := ints_v hd e2
        have hl : 0 < ns.length := List.length_pos_iff.mpr hne
        rcases hs with hs | hs
        · exact .inr (.inl ⟨a, ns, rfl, hs, hl, fun m h1 h2 => by rw [← maxI_of h1 h2]; exact ko_here hr h (.int _)⟩)
        · exact .inr (.inr ⟨a, ns, rfl, hs, hl, fun m h1 h2 => by rw [← maxI_of h1 h2]; exact ko_here hr h (.int _)⟩)
  · exact h.elim
/-! ### methods -/
/-- the receiver is of that type -/
def tyD (T : String) (d : Dt) (S : Bxs) : Prop := match d with
  | .box n => (T = "list" ∧ (S.seq n).isSome = true) ∨ (T = "dict" ∧ ((S.dkR n).isSome = true ∨ (S.dt n).isSome = true))
  | .tup _ => T = "tuple"
  | _ => False
theorem ty_is {pins : List (Addr × Obj)} {s : Shared} {T : String} {d : Dt} {x : V} {v : Value} (I : Inv X pins τ H s) (hr : HR X.K H ρ S) (dv : DV X.K H ρ d x) (r : RelV x v) (ty : tyD T d S) :
    s.TypeIs v T ∧ ∀ a, v = .ref a → ∃ ob, s.heap.get? a = some ob ∧ ob.dict = none := by
  cases dv <;> first | exact ty.elim | skip
  · rename_i a ds vs ht hd
    obtain rfl : T = "tuple" := ty
    cases r
    rcases ht with ⟨o, ho, p⟩ | ⟨o, its, n, ho, p, _⟩
    · obtain ⟨e, _⟩ := I.hok a _ ho
      exact ⟨⟨o, e, p.1⟩, fun b eb => by cases eb; exact ⟨o, e, p.2⟩⟩
    · have e := I.kIn a o ho
      exact ⟨⟨o, e, p.1⟩, fun b eb => by cases eb; exact ⟨o, e, p.2⟩⟩
  · rename_i n a ha
    rcases ty with ⟨hT, hs⟩ | ⟨hT, hs⟩
    · subst hT
      obtain ⟨xs, hx⟩ := Option.isSome_iff_exists.mp hs
      obtain ⟨vs, h1, _⟩ := hr.rd ha hx
      exact tyV_is I r (.inl ⟨rfl, vs, h1⟩)
    · subst hT
      cases r
      rcases hs with hs | hs
      · obtain ⟨kvs, hx⟩ := Option.isSome_iff_exists.mp hs
        obtain ⟨n', a', ws, en, ea, h1, h2, h3⟩ := dkO_some hr (.box ha) hx
        cases en
        cases ea
        obtain ⟨t1, t2, _⟩ := isD_at I (.inl ⟨ws, h2⟩)
        exact ⟨t1, t2⟩
      · obtain ⟨kvs, hx⟩ := Option.isSome_iff_exists.mp hs
        obtain ⟨n', a', xs, en, ea, h1, h2, h3, h4⟩ := dtO_some hr (.box ha) hx
        cases en
        cases ea
        obtain ⟨_, dd⟩ := trd_at I h3
        obtain ⟨o, es, ep, g1, g2, _⟩ := id dd
        exact ⟨dd.typeIs, fun b eb => by cases eb; exact ⟨o, g1, g2.2.1⟩⟩
abbrev GM := Dt → List Dt → Bxs → Rs Dt
open Classical in
noncomputable def dMeth (T : String) (g : GM) (o : FE) (a : FA) : FE := fun σ S => (o σ S).bind fun d S1 => if tyD T d S1 then (a σ S1).bind fun ds S2 => g d ds S2 else .no
def RMo (K : PySem.W.Frag) (r : V → List V → Hp → VK → Prop) (g : GM) : Prop := ∀ H ρ S d v ds vs Q, HR K H ρ S → DV K H ρ d v → DVs K H ρ ds vs → (g d ds S).Sat (KO K H ρ Q) noX → r v vs H Q
def CalmM (g : GM) : Prop := ∀ d ds S c es S', g d ds S ≠ .ex c es S'
theorem se_meth {T id : String} {name : Str} {r : V → List V → Hp → VK → Prop} {g : GM} {o e : Expr} {es : List Expr} {fo : FE} {fa : FA} {apos cpos : Pos} (pa : PlainAttrs T) (slot : Slot T name id) (hty : typeOf (.builtin id) = pure (.type "method_descriptor")) (hm : MtR X id r) (hr : RMo X.K r g) (hc : CalmM g)
    (ho : SE X Er o fo) (ha : SA X Er (e :: es) fa) (hbase : attributeBase o name X.env (eval o X.env) = eval o X.env := by rfl)
    (hfew : ((backTo cpos (starEach (e :: es) X.env)).all (fun x => !x.1) && (backToKw cpos (keywordEach [] X.env)).all (fun x => x.1.isSome)
      && decide ((e :: es).length + ([] : List Keyword).length + (if ([] : List Keyword).isEmpty then 0 else 1) < 30)) = true := by rfl)
    (hline : (apos.endLine == cpos.line) = true := by rfl) (hs : starEach (e :: es) X.env = (false, eval e X.env) :: starEach es X.env := by rfl) (hplain : (backTo cpos (starEach es X.env)).any (·.1) = false := by rfl) :
    SE X Er (.Call (.Attribute o name apos) (e :: es) [] cpos) (dMeth T g fo fa) := by
  obtain ⟨to, po, qo⟩ := ho.ex
  obtain ⟨ta, pA, qa⟩ := ha.ex
  refine SE.ofCan ⟨fun pins s τ H Q I ⟨ρ, σ, S, Ty0, h⟩ => ?_⟩
  have h := link h
  refine wpAny_Call_method_late hbase hfew hline rfl (thn (po.run pins s τ H (fun x H1 => ∃ ρ1 S1 d, To H H1 ρ ρ1 ∧ HR X.K H1 ρ1 S1 ∧ DV X.K H1 ρ1 d x ∧ tyD T d S1 ∧ ((fa σ S1).bind fun ds S2 => g d ds S2).Sat (KO X.K H ρ Q) (KX Er H ρ)) I ?_) ?_)
  · exact qo τ H ρ σ S _ Ty0 (h.mono (fun d S1 q x H1 ρ1 t1 hr1 dv => ⟨ρ1, S1, d, t1, hr1, dv, (iteC_sat q).1, (iteC_sat q).2⟩) fun _ _ _ q => q)
  rintro v s1 ⟨x, H1, I1, r1, ρ1, S1, d, t1, hr1, dv, ty, q⟩
  obtain ⟨h1, h2⟩ := ty_is I1 hr1 dv r1 ty
  refine ⟨T, id, pa, slot, hty, h1, h2, ?_⟩
  have q := link q
  have hA := pA.run cpos pins s1 τ H1 (fun vs H2 => ∃ ρ2 S2 ds, To H1 H2 ρ1 ρ2 ∧ HR X.K H2 ρ2 S2 ∧ DVs X.K H2 ρ2 ds vs ∧ (g d ds S2).Sat (KO X.K H ρ Q) (KX Er H ρ)) I1
    (qa τ H1 ρ1 σ S1 _ (Ty0.to t1 hr1) (q.mono (fun ds S2 z vs H2 ρ2 t2 hr2 dvs => ⟨ρ2, S2, ds, t2, hr2, dvs, z⟩) fun _ _ _ z => z.to t1))
  rw [hs] at hA ⊢
  have hnn : ((false, eval e X.env) :: backTo cpos (starEach es X.env)).any (·.1) = false := by
    rw [List.any_cons, hplain]
    rfl
  refine Calls.callWith_builtin hnn (Calls.evalArgs_plain (thn hA ?_))
  rintro us s2 ⟨vs, H2, I2, r2, ρ2, S2, ds, t2, hr2, dvs, z⟩
  exact hm pins s2 τ H2 x vs v us Q I2 r1 r2 (hr H2 ρ2 S2 d x ds vs Q hr2 (dv.to t2) dvs (sat_calm (hc _ _ _) (Rs.Sat.toO (t1.trans t2) z)))
def appendG : GM := fun d ds S => match d, ds with
  | .box n, [e] => match S.lst n with
    | some xs => if xs.length < LIM then .ok .non (S.set n (.lst (xs ++ [e]))) else .no
    | none => .no
  | _, _ => .no
theorem appendG_calm : CalmM appendG := by
  intro d ds S c es S'
  unfold appendG
  split
  · split
    · exact calm_ite (calm_ok _ _) _ _ _
    · exact calm_no _ _ _
  · exact calm_no _ _ _
/-- a box's list changed, the answer None -/
theorem ko_set {Q : VK} {n : Nat} {a : Addr} {xs0 xs : List Dt} {vs0 vs : List V} (hr : HR K H ρ S) (e : S.lst n = some xs0) (ha : ρ[n]? = some a) (h1 : H a = some (.lst vs0)) (hd : DVs K H ρ xs vs)
    (h : KO K H ρ Q .non (S.set n (.lst xs))) : Q .non (upd H a (.lst vs)) := h _ _ ρ ⟨Ext.set h1, List.prefix_refl _⟩ (hr.set (lst_get e) ha h1 hd) .non
theorem rm_append : RMo K rAppend appendG := by
  intro H ρ S d v ds vs Q hr dv dvs h
  unfold appendG at h
  split at h
  · obtain ⟨w, rfl, dw⟩ := dvs1 dvs
    rename_i n e0
    cases dv with
    | box ha =>
      split at h
      · rename_i xs e
        obtain ⟨c, h⟩ := ite_sat h
        obtain ⟨us, h1, h2⟩ := hr.mu ha e
        exact ⟨_, us, w, rfl, rfl, h1, by rw [← h2.length]; exact lim_lt c, ko_set hr e ha h1 (h2.app (.cons dw .nil)) h⟩
      · exact h.elim
  · exact h.elim
def insertG : GM := fun d ds S => match d, ds with
  | .box n, [.int i, e] => match S.lst n with
    | some xs => if xs.length < LIM ∧ 0 ≤ i ∧ i < 2 ^ 63 then .ok .non (S.set n (.lst (xs.take i.toNat ++ [e] ++ xs.drop i.toNat))) else .no
    | none => .no
  | _, _ => .no
theorem insertG_calm : CalmM insertG := by
  intro d ds S c es S'
  unfold insertG
  split
  · split
    · exact calm_ite (calm_ok _ _) _ _ _
    · exact calm_no _ _ _
  · exact calm_no _ _ _
def rInsert : V → List V → Hp → VK → Prop := fun x vs H Q => ∃ (l : Addr) (xs : List V) (i : Int) (y : V), x = .ref l ∧ vs = [.int i, y] ∧ H l = some (.lst xs) ∧ xs.length < sizeLine ∧ 0 ≤ i ∧ i < 2 ^ 63 ∧
    Q .non (upd H l (.lst (xs.take i.toNat ++ [y] ++ xs.drop i.toNat)))
theorem rm_insert : RMo K rInsert insertG := by
  intro H ρ S d v ds vs Q hr dv dvs h
  unfold insertG at h
  split at h
  · obtain ⟨u, w, rfl, du, dw⟩ := dvs2 dvs
    cases du
    cases dv with
    | box ha =>
      split at h
      · rename_i xs e
        obtain ⟨⟨c1, c2, c3⟩, h⟩ := ite_sat h
        obtain ⟨us, h1, h2⟩ := hr.mu ha e
        exact ⟨_, us, _, w, rfl, rfl, h1, by rw [← h2.length]; exact lim_lt c1, c2, c3, ko_set hr e ha h1 (((h2.take _).app (.cons dw .nil)).app (h2.drop _)) h⟩
      · exact h.elim
  · exact h.elim
/-- the first place of a text -/
def strAt (z : Str) : List Str → Option Nat
  | [] => none
  | y :: r => if y = z then some 0 else (strAt z r).map (· + 1)
theorem strAt_get {z : Str} : ∀ {ys : List Str} {j : Nat}, strAt z ys = some j → ys[j]? = some z ∧ ∀ m, m < j → ys[m]? ≠ some z
  | [], _, h => by cases h
  | y :: r, j, h => by
    unfold strAt at h
    by_cases hy : y = z
    · rw [if_pos hy] at h
      cases h
      exact ⟨by rw [hy]; rfl, fun m hm => absurd hm (Nat.not_lt_zero _)⟩
    · rw [if_neg hy] at h
      cases e : strAt z r with
      | none => rw [e] at h; cases h
      | some k =>
        rw [e] at h
        obtain rfl : k + 1 = j := Option.some.inj h
        obtain ⟨h1, h2⟩ := strAt_get e
        refine ⟨by simpa using h1, fun m hm => ?_⟩
        cases m with
        | zero => intro q; exact hy (Option.some.inj q)
        | succ m => simpa using h2 m (by omega)
def tindexG : GM := fun d ds S => match d, ds with
  | .tup xs, [.str z] => match strsOf xs with
    | some ys => match strAt z ys with
      | some j => .ok (.int (j : Int)) S
      | none => .no
    | none => .no
  | _, _ => .no
theorem tindexG_calm : CalmM tindexG := by
  intro d ds S c es S'
  unfold tindexG
  split
  · split
    · split
      · exact calm_ok _ _ _ _ _
      · exact calm_no _ _ _
    · exact calm_no _ _ _
  · exact calm_no _ _ _
def rTindex (K : PySem.W.Frag) : V → List V → Hp → VK → Prop := fun x xs H Q => ∃ p, ∃ ys : List Str, ∃ z j, x = .ref p ∧ xs = [.str z] ∧ SqT K H p (ys.map V.str) ∧ ys[j]? = some z ∧ (∀ m, m < j → ys[m]? ≠ some z) ∧ Q (.int (j : Nat)) H
theorem rm_tindex : RMo K (rTindex K) tindexG := by
  intro H ρ S d v ds vs Q hr dv dvs h
  unfold tindexG at h
  split at h
  · obtain ⟨w, rfl, dw⟩ := dvs1 dvs
    cases dw
    cases dv with
    | tup ht hd =>
      split at h
      · rename_i ys e
        split at h
        · rename_i j e2
          have hu := strs_v hd e
          subst hu
          obtain ⟨g1, g2⟩ := strAt_get e2
          exact ⟨_, ys, _, j, rfl, rfl, ht.sqt, g1, g2, ko_here hr h (.int _)⟩
        · exact h.elim
      · exact h.elim
  · exact h.elim
end
end Mn
set_option Elab.async false
set_option linter.all false
set_option maxRecDepth 100000
set_option maxHeartbeats 4000000
/-! MnJ: xs[i] op= e, three names at once, the law's call, the end. -/
namespace Mn
open PySem PySem.Spec PyProof.Rows L2
section
variable {X : Cx} {Er : ER} {K : PySem.W.Frag} {H H1 : Hp} {ρ ρ1 : List Addr} {σ : Sg} {S S1 : Bxs} {τ : L2.St}
/-- xs[i] of a list, i from 0 on -/
def rGetL (K : PySem.W.Frag) : V → V → Hp → VK → Prop := fun o i H Q => ∃ a xs j v, o = .ref a ∧ i = .int j ∧ SqL K H a xs ∧ 0 ≤ j ∧ j < 2 ^ 63 ∧ xs[j.toNat]? = some v ∧ Q v H
theorem get_list : PGet X (rGetL X.K) := by
  rintro pins s τ H o i ov iv Q I ro ri ⟨a, xs, j, v, rfl, rfl, hq, h0, h1, hv, q⟩
  cases ro
  obtain ⟨t, rfl⟩ := ri
  obtain ⟨its, r, p, hz⟩ := I.list hq
  obtain ⟨u, hu, ru⟩ := r.get hv
  exact wpAny_getItem_list p.isList h0 h1 (by simpa using hu) ⟨v, H, I, ru, q⟩
def getL (o i : Dt) (S : Bxs) : Rs Dt := match o, i with
  | .box n, .int j => match S.lst n with
    | some xs => if 0 ≤ j ∧ j < 2 ^ 63 then match xs[j.toNat]? with
      | some d => .ok d S
      | none => .no else .no
    | none => .no
  | _, _ => .no
theorem getL_calm (o i : Dt) (S : Bxs) : ∀ c es S', getL o i S ≠ .ex c es S' := by
  intro c es S'
  unfold getL
  split
  · split
    · split
      · split
        · exact calm_ok _ _ _ _ _
        · exact calm_no _ _ _
      · exact calm_no _ _ _
    · exact calm_no _ _ _
  · exact calm_no _ _ _
theorem getL_sat {o i : Dt} {ov iv : V} {Q : VK} (hr : HR K H ρ S) (dO : DV K H ρ o ov) (di : DV K H ρ i iv) (h : (getL o i S).Sat (KO K H ρ Q) noX) : rGetL K ov iv H Q := by
  cases dO <;> first | exact h.elim | skip
  rename_i n a ha
  cases di <;> first | exact h.elim | skip
  rename_i j
  unfold getL at h
  simp only at h
  cases e : S.lst n with
  | none => rw [e] at h; exact h.elim
  | some xs =>
    rw [e] at h
    obtain ⟨c, h⟩ := ite_sat h
    cases e2 : xs[j.toNat]? with
    | none => rw [e2] at h; exact h.elim
    | some d =>
      rw [e2] at h
      obtain ⟨vs, h1, h2⟩ := hr.mu ha e
      obtain ⟨v, h3, h4⟩ := h2.get e2
      exact ⟨a, vs, j, v, rfl, rfl, SqL.of h1, c.1, c.2, h3, ko_here hr h h4⟩
def getG0 (o i : Dt) (S : Bxs) : Rs Dt := match dkO S o with
  | some kvs => dgetG kvs i S
  | none => getL o i S
theorem getG0_calm (o i : Dt) (S : Bxs) : ∀ c es S', getG0 o i S ≠ .ex c es S' := by
  intro c es S'
  unfold getG0
  split
  · exact dgetG_calm _ _ _ _ _ _
  · exact getL_calm _ _ _ _ _ _
theorem get_sat0 {o i : Dt} {ov iv : V} {Q : VK} (hr : HR K H ρ S) (dO : DV K H ρ o ov) (di : DV K H ρ i iv) (h : (getG0 o i S).Sat (KO K H ρ Q) noX) : rGetL K ov iv H Q ∨ rDGet ov iv H Q := by
  unfold getG0 at h
  cases e : dkO S o with
  | none =>
    rw [e] at h
    exact .inl (getL_sat hr dO di h)
  | some kvs =>
    rw [e] at h
    exact .inr (dget_sat hr dO di e h)
def getG (o i : Dt) (S : Bxs) : Rs Dt := match tget S o i with
  | some (some d) => .ok d S
  | some none => .no
  | none => getG0 o i S
theorem getG_calm (o i : Dt) (S : Bxs) : ∀ c es S', getG o i S ≠ .ex c es S' := by
  intro c es S'
  unfold getG
  split
  · exact calm_ok _ _ _ _ _
  · exact calm_no _ _ _
  · exact getG0_calm _ _ _ _ _ _
theorem get_sat {o i : Dt} {ov iv : V} {Q : VK} (hr : HR K H ρ S) (dO : DV K H ρ o ov) (di : DV K H ρ i iv) (h : (getG o i S).Sat (KO K H ρ Q) noX) : (rGetL K ov iv H Q ∨ rDGet ov iv H Q) ∨ rTIx K ov iv H Q := by
  unfold getG at h
  cases e : tget S o i with
  | none =>
    rw [e] at h
    exact .inl (get_sat0 hr dO di h)
  | some q =>
    rw [e] at h
    obtain ⟨a, b, k, xs, rfl, rfl, tk, t, es, c⟩ := tget_some hr dO di e
    rcases c with ⟨d, v, u, rfl, e1, r, dv⟩ | ⟨rfl, _⟩
    · exact .inr ⟨a, b, k, xs, u, v, rfl, rfl, tk, t, e1, r, ko_here hr h dv⟩
    · exact h.elim
/-- o[i] op= e -/
def sAugS (o i : FE) (g : G2) (f : FE) : FS := fun σ S => (o σ S).bind fun a S1 => (i σ S1).bind fun b S2 => (getG a b S2).bind fun d S3 => (f σ S3).bind fun e S4 => (g d e S4).bind fun z S5 => (setG a b z S5).bind fun _ S6 => .ok (.nx, σ) S6
theorem ss_augS {o i e : Expr} {fo fi f : FE} {op : Operator} {tip : TIp} {g : G2} {tpos pos : Pos} (hu : X.A.units + 128 < cLine) (hp : PIp X op tip) (hrp : RO X.K tip g) (hcp : Calm2 g) (ho : SE X Er o fo) (hi : SE X Er i fi) (he : SE X Er e f)
    (ha : ∀ ov iv new, augStore i ov iv new = (do holding [new, ov, iv] (setItem ov iv new); release [new, ov, iv] []; pure .next) := by intros; rfl) : SS X Er (.AugAssign (.Subscript o i tpos) op e pos) (sAugS fo fi g f) := by
  obtain ⟨to, po, qo⟩ := ho.ex
  obtain ⟨ti, pi, qi⟩ := hi.ex
  obtain ⟨te, pe, qe⟩ := he.ex
  refine ⟨_, ps_augS po pi (PGet.or (PGet.or get_list (get_dict (by omega))) (get_dt (by omega))) pe hp (PSet.or (PSet.or set_list (set_dict (by omega))) (set_dt (by omega))) ha, fun τ H ρ σ S D T h => qo τ H ρ σ S _ T ((link h).mono (fun a S1 h1 => ?_) fun _ _ _ q => q)⟩
  intro ov H1 ρ1 t1 hr1 da
  refine qi τ H1 ρ1 σ S1 _ (T.to t1 hr1) ((link h1).mono (fun b S2 h2 => ?_) fun _ _ _ q => q.to t1)
  intro iv H2 ρ2 t2 hr2 db
  refine get_sat hr2 (da.to t2) db (sat_calm (getG_calm _ _ _) ((link h2).mono (fun d S3 h3 => ?_) fun _ _ _ q => q))
  intro dv H3 ρ3 t3 hr3 dd
  have t13 := (t1.trans t2).trans t3
  refine qe τ H3 ρ3 σ S3 _ (T.to t13 hr3) ((link h3).mono (fun e S4 h4 => ?_) fun _ _ _ q => q.to t13)
  intro ev H4 ρ4 t4 hr4 de
  refine hrp H4 ρ4 S4 d e dv ev _ hr4 (dd.to t4) de (sat_calm (hcp _ _ _) ((link h4).mono (fun z S5 h5 => ?_) fun _ _ _ q => q))
  intro zv H5 ρ5 t5 hr5 dz
  have t25 := ((t3.trans t4).trans t5)
  refine set_sat hr5 (da.to (t2.trans t25)) (db.to t25) dz (sat_calm (setG_calm _ _ _ _) ((link h5).mono (fun _ S6 h6 => ?_) fun _ _ _ q => q))
  intro H6 t6 hr6
  have tt := (t13.trans (t4.trans t5)).trans t6
  exact h6 τ H6 ρ5 tt (T.to tt hr6)
def subI : G2 := fun x y S => match x, y with
  | .int i, .int j => .ok (.int (i - j)) S
  | _, _ => .no
/-- a, b, c = x, y, z by plain local names -/
def sPar3 (i j l : Nat) (a : FA) : FS := fun σ S => (a σ S).bind fun ds S1 => match ds with
  | [d, e, f] => .ok (.nx, ((σ.set i (some d)).set j (some e)).set l (some f)) S1
  | _ => .no
theorem ss_par3 (i j l : Nat) {x y z : Str} {a b c : Expr} {fa : FA} {px py pz pt pos : Pos} {kt k2 pt2} (hc : X.calm = true) (hN : X.N.Nodup) (ha : SA X Er [a, b, c] fa) (hi : X.N[i]? = some x := by rfl) (hj : X.N[j]? = some y := by rfl) (hl : X.N[l]? = some z := by rfl) (hij : i ≠ j := by decide) (hil : i ≠ l := by decide) (hjl : j ≠ l := by decide)
    (hx : X.env.scope.names.lookup x = some .local := by rfl) (hy : X.env.scope.names.lookup y = some .local := by rfl) (hz : X.env.scope.names.lookup z = some .local := by rfl)
    (hw : swappedStores [.Tuple [.Name x px, .Name y py, .Name z pz] kt pt] (.Tuple [a, b, c] k2 pt2) X.env = pure (some [x, y, z]) := by rfl)
    (hs : swapsWithSole [.Tuple [.Name x px, .Name y py, .Name z pz] kt pt] (.Tuple [a, b, c] k2 pt2) pos.line X.env = pure false := by rfl) :
    SS X Er (.Assign [.Tuple [.Name x px, .Name y py, .Name z pz] kt pt] (.Tuple [a, b, c] k2 pt2) pos) (sPar3 i j l fa) := by
  obtain ⟨ta, pa, qa⟩ := ha.ex
  refine ⟨_, ps_par3 hc hN hi hj hl hij hil hjl hx hy hz pa hw hs, fun τ H ρ σ S D T h => qa τ H ρ σ S _ T ((link h).mono (fun ds S1 h1 => ?_) fun _ _ _ q => q)⟩
  intro vs H1 ρ1 t1 hr1 dvs
  rcases ds with _ | ⟨d1, _ | ⟨d2, _ | ⟨d3, _ | ⟨d4, r⟩⟩⟩⟩
  · exact h1.elim
  · exact h1.elim
  · exact h1.elim
  · cases dvs with
    | cons e1 r =>
      cases r with
      | cons e2 r =>
        cases r with
        | cons e3 r =>
          cases r
          exact ⟨_, _, _, rfl, h1 _ H1 ρ1 t1 ⟨hr1, (((T.sl.to t1).set i e1).set j e2).set l e3⟩⟩
  · exact h1.elim
end
/-! ### the law's own call -/
theorem script_dvs {K : PySem.W.Frag} {H : Hp} {ρ : List Addr} : ∀ ns : List Int, DVs K H ρ (ns.map Dt.int) (ns.map V.int)
  | [] => .nil
  | n :: ns => .cons (.int n) (script_dvs ns)
theorem ro_of {K : PySem.W.Frag} {H : Hp} {a : Addr} {vs : List V} (hO : Only H) (h : SqL K H a vs) : Ro K H a vs := by
  rcases h with (h | ⟨o, h⟩) | h
  · rcases hO a with z | ⟨o, xs, z⟩
    · rw [z] at h; cases h
    · rw [z] at h; cases h
  · exact .inl ⟨o, h⟩
  · exact .inr fun H' => .inr h
end Mn
namespace Mn
open PySem PySem.Spec PyProof.Rows L2
section
variable {X : Cx} {Er : ER} {a : Expr} {fa : FE} {pos pos' : Pos} {j : Nat}
theorem st_notN (ha : SE X Er a fa) : ST X Er (.Compare a [.IsNot] [.Constant .none j pos'] pos) (dTrue (dNotN fa)) := by
  obtain ⟨te, p, q⟩ := ha.ex
  refine ⟨_, pt_cmp (pc_notN p) rfl, fun τ H ρ σ S Q T h => q τ H ρ σ S _ T ((link (true_sat h)).mono (fun d S1 h1 => ?_) fun _ _ _ q => q)⟩
  intro v H' ρ' t hr dv
  show ∃ c, V.bl (!decide (v = .non)) = V.bl c ∧ Q c H'
  rw [non_iff dv]
  exact h1 _ H' ρ' t hr (.bl _)
end
theorem SSs.nox {X : Cx} {Er : ER} {st : List Stmt} {f : FS} (h : SSs X.nox Er st f) : SSs X Er st f := by
  obtain ⟨t, p, q⟩ := h.ex
  exact ⟨t, p.nox, q⟩
end Mn
set_option Elab.async false
set_option linter.all false
set_option maxRecDepth 100000
set_option maxHeartbeats 4000000
/-! MnK: enumerate over a list or a tuple; comparisons in a chain; truth. -/
namespace Mn
open PySem PySem.Spec PyProof.Rows L2
theorem meets_enum1 {v : Value} {o : Obj} {Z : Heap → Prop} (B : Begins v o Z) :
    Meets (Builtin.«enumerate.__new__» ⟨[.type "enumerate", v], []⟩) (fun _ R s => Z s.heap ∧
      R (.ok (.ret (.ref (s.heap.push o).objs.size))) { s with heap := (s.heap.push o).push { cls := .type "enumerate", data := .fields #[.none, .bool false, .ref s.heap.objs.size, rawInt 0, .none, .none] } }) :=
  .of_wp fun prog w A R s h => by
    obtain ⟨hp, g, d, tk, os⟩ := s
    obtain ⟨h1, h⟩ := h
    have hsub := sub_enumerate
    have q1 : ∀ {A' : Around} {E : Value → Shared → Prop} {Q : Value → Shared → Prop}, Q (.ref hp.objs.size) ⟨hp.push o, g, d, tk, os⟩ →
        wpAny (model prog w) A' (pyIter v) Q E ⟨hp, g, d, tk, os⟩ := fun q => B.iter prog w _ _ ⟨hp, g, d, tk, os⟩ _ h1 q
    wp_walk using q1
    refine wpAny_stack_any fun st => wpAny_pure ?_
    split
    · rename_i c _ _ _ _ _
      cases (c == Value.type "enumerate") <;> (wp_walk using q1; exact ⟨_, rfl, h⟩)
    · wp_walk using q1
      exact ⟨_, rfl, h⟩
section
variable {prog : Program} {w : World} {A : Around} {E : Value → Shared → Prop} {s : Shared}
theorem enum1_begins {v : Value} {o : Obj} {Z : Heap → Prop} {Q : Value → Shared → Prop} (B : Begins v o Z) (h1 : Z s.heap)
    (h : ∀ h', IsEnum h' (s.heap.objs.size + 1) s.heap.objs.size 0 .none → h'.get? s.heap.objs.size = some o → h'.objs.size = s.heap.objs.size + 2 →
      (∀ b o, s.heap.get? b = some o → h'.get? b = some o) → Q (.ref (s.heap.objs.size + 1)) { s with heap := h' }) :
    wpAny (model prog w) A (call (.type "enumerate") [v]) Q E s := by
  refine callType_new F.called_enumerate (by decide) (F.typeCall_enumerate_1 _) (F.newCall_enumerate_1 _) (fun obj => F.args_object_init_2 obj _) F.entry_enumerate_new (meets_enum1 B) ⟨h1, ?_⟩
  have hz : (s.heap.push o).objs.size = s.heap.objs.size + 1 := Heap.size_push ..
  have he0 := Heap.get?_push_size (s.heap.push o) (o := { cls := .type "enumerate", data := .fields #[.none, .bool false, .ref s.heap.objs.size, rawInt 0, .none, .none] }) rfl
  show _ ∧ _
  rw [hz] at he0 ⊢
  exact ⟨⟨_, he0, rfl⟩, h _ he0 (Heap.get?_push_of_some _ (Heap.get?_push_size _ B.free)) (by rw [Heap.size_push, hz]) fun b o x => Heap.get?_push_of_some _ (Heap.get?_push_of_some _ x)⟩
end
def IteX (k : Bool) (K : PySem.W.Frag) (a : Addr) : It where
  go := fun i H => ∃ (xs : List V) (x : V), SqX k K H a xs ∧ xs[i]? = some x
  yld := fun i H v H' => ∃ T x, v = .ref T ∧ H T = none ∧ H' = upd H T (.tup [.int (i : Nat), x]) ∧ ∀ xs, SqX k K H a xs → xs[i]? = some x
  stop := fun i H => ∃ xs : List V, SqX k K H a xs ∧ i = xs.length
theorem turn_enumX {P : Program} {w : World} {K : PySem.W.Frag} {elts : List Expr} {kk : Nat} {tpos : Pos} {k : Bool} (a e it : Addr) (hae : a ≠ it) (hea : e ≠ a) :
    Turn P w K (.Tuple elts kk tpos) (IteX k K a) [e, it] e (fun i h => (∃ old, IsEnum h e it ((i : Nat) : Int) old) ∧ HIt k h it a i ∧ e ≠ it) where
  mem := by simp
  obj := fun i h st b hb => by
    obtain ⟨⟨old, he⟩, hi, _⟩ := st
    have e' : b = e ∨ b = it := by simpa using hb
    rcases e' with rfl | rfl
    · exact ⟨_, he, fun v q => nomatch q⟩
    · exact hi.obj
  keep := fun i h h' st f => by
    obtain ⟨⟨old, he⟩, hi, hne⟩ := st
    exact ⟨⟨old, f e (by simp) _ he⟩, hi.at fun o q => f it (by simp) o q, hne⟩
  item := by
    intro X hP hw hK hc i pins s σ H E I hf st hg
    subst hP hw hK
    obtain ⟨⟨old, he⟩, hit, hne⟩ := st
    obtain ⟨xs, x, hq, hx⟩ := hg
    obtain ⟨its, rv, p, _⟩ := sqx_inv I hq
    obtain ⟨u, hu, ru⟩ := rv.get hx
    have hel : e < s.heap.objs.size := Heap.lt_size he
    have hil : it < s.heap.objs.size := by obtain ⟨_, q, _⟩ := hit.obj; exact Heap.lt_size q
    have l1 : i < its.toArray.size := by rw [List.size_toArray]; exact (List.getElem?_eq_some_iff.mp hu).1
    have d1 := drawsX (prog := X.prog) (w := X.w) (A := X.A.in1) k (I.ok.hd hc) it a hae its.toArray
    refine wpAny_pyNext_enum_itemD d1 he ⟨hit, p⟩ l1 hne (by simp [hne, hea]) fun x1 h' tk y1 ho st' hT hsz hk => ?_
    obtain rfl : u = x1 := Option.some.inj ((show its[i]? = some u from hu).symm.trans (by simpa using y1))
    refine ⟨_, rfl, wpAny_letOwnedTupleGo_enum (s := { s with heap := h', toks := tk + 1 }) ho fun h'' he' sb => ?_⟩
    have hT2 : h''.get? s.heap.objs.size = some { cls := .type "tuple", data := .seq #[.int i tk, u] } := (sb.2 _ (Nat.ne_of_gt hel)).trans hT
    have new : ObjOk X.prog X.w (upd H s.heap.objs.size (.tup [.int (i : Nat), x])) h'' s.heap.objs.size (.tup [.int (i : Nat), x]) :=
      ⟨by show 2 ≤ sizeLine; decide, [.int i tk, u], .cons ⟨_, rfl⟩ (.cons ru .nil), ⟨_, hT2, rfl, _, rfl⟩⟩
    have I1 : Inv X pins σ (upd H s.heap.objs.size (.tup [.int (i : Nat), x])) { s with heap := h'', toks := tk + 1 } :=
      I.turnedNew (ch := [e, it]) (fun b ob hb q => (sb.2 b (fun z => hb (by simp [z]))).trans (hk b ob (fun z => hb (by simp [z])) (fun z => hb (by simp [z])) q)) hf (Nat.le_refl _) new
    refine ⟨.ref s.heap.objs.size, _, I1, rfl, ⟨_, x, rfl, I.hok.fresh (Nat.le_refl _), rfl, fun ys hy => by rw [sqx_inj I hy hq]; exact hx⟩, ⟨⟨u, ?_⟩, st'.1.at fun o q => (sb.2 it (Ne.symm hne)).trans q, hne⟩, fun b hb => ?_⟩
    · rw [show ((i + 1 : Nat) : Int) = (i : Int) + 1 by omega]
      exact he'
    · have e' : b = e ∨ b = it := by simpa using hb
      have hb' : b < s.heap.objs.size := by rcases e' with rfl | rfl <;> assumption
      rw [upd_ne (Nat.ne_of_lt hb')]
      exact (hf b hb).1
  done := by
    intro X hP hw hK hc i pins s σ H E I hf st hg
    subst hP hw hK
    obtain ⟨⟨old, he⟩, hit, hne⟩ := st
    obtain ⟨xs, hq, hx⟩ := hg
    obtain ⟨its, rv, p, _⟩ := sqx_inv I hq
    obtain ⟨f0, f1, f2, f3, f4, f5⟩ := hf it (by simp)
    have hl := rv.length
    have d1 := drawsX (prog := X.prog) (w := X.w) (A := X.A.in1) k (I.ok.hd hc) it a hae its.toArray
    have hi : i = its.toArray.size := by rw [List.size_toArray]; omega
    refine wpAny_pyNext_enum_endD d1 he (by rw [← hi]; exact ⟨hit, p⟩) fun h' eb => ⟨rfl, I.turned (t' := s.toks) (fun b o hb q => eb b o hb q) f0 f1 f3 f4 f5⟩
  self := fun A i s Q E st h => let ⟨⟨_, he⟩, _⟩ := st; wpAny_pyIter_enum he h
def iEnumX (k : Bool) (K : PySem.W.Frag) (ta : TA) : TI := fun σ H R => ta σ H fun vs H1 => ∃ a xs, vs = [.ref a] ∧ SqX k K H1 a xs ∧ R (IteX k K a) H1
theorem pi_enumX {X : Cx} {e : Expr} {ta : TA} {p pos tpos : Pos} {elts : List Expr} {kk : Nat} (k : Bool) (hg : Gl X "enumerate") (hm : X.mg "enumerate" = none) (ha : PA X [e] ta) (hs : starEach [e] X.env = [(false, eval e X.env)] := by rfl) :
    PI X (.Tuple elts kk tpos) (.Call (.Name "enumerate" p) [e] [] pos) (iEnumX k X.K ta) := by
  constructor
  intro pins s σ H R I h
  refine Call_ (ld_blt I hg hm boot_enumerate (PyProof.Rows.callWith_type1 (thn (ha.run pos pins s σ H _ I h) ?_) hs rfl))
  rintro us s1 ⟨vs, H1, I1, r1, a, xs, rfl, hq, q⟩
  obtain ⟨u, rfl, ru⟩ := r1.one
  cases ru
  obtain ⟨its, rv, p', la⟩ := sqx_inv I1 hq
  refine enum1_begins (beginsX k a its.toArray) p' fun h' he g1 hsz hk => wpAny_pyIter_enum he ?_
  have I2 : Inv X pins σ H1 { s1 with heap := h' } := I1.kept (t' := s1.toks) hk
  refine ⟨s1.heap.objs.size + 1, [s1.heap.objs.size + 1, s1.heap.objs.size], _, _, H1, rfl, I2, turn_enumX a (s1.heap.objs.size + 1) s1.heap.objs.size (Nat.ne_of_lt la) (Nat.ne_of_gt (Nat.lt_succ_of_lt la)), ⟨⟨.none, he⟩, hit_new g1, Nat.succ_ne_self _⟩, fun b hb => ?_, q⟩
  have hle : s1.heap.objs.size ≤ b := by
    have e' : b = s1.heap.objs.size + 1 ∨ b = s1.heap.objs.size := by simpa using hb
    rcases e' with z | z <;> rw [z] <;> first | exact Nat.le_add_right _ _ | exact Nat.le_refl _
  exact I1.fpOk hle (I1.hok.fresh hle)
theorem walkE {K : PySem.W.Frag} {k : Bool} {a : Addr} {n : Nat} : Walk (IteX k K a) n (fun H => ∃ vs, SqX k K H a vs ∧ vs.length = n)
    (fun i H v H' => ∃ T x, v = .ref T ∧ H T = none ∧ H' = upd H T (.tup [.int (i : Nat), x]) ∧ ∀ xs, SqX k K H a xs → xs[i]? = some x) :=
  ⟨fun i _ hi ⟨vs, q, hl⟩ => ⟨vs, vs[i]'(by omega), q, by simp [hl, hi]⟩, fun _ ⟨vs, q, hl⟩ => ⟨vs, q, hl.symm⟩, fun _ _ _ _ _ _ y => y⟩
section
variable {X : Cx} {Er : ER} {K : PySem.W.Frag} {H H1 : Hp} {ρ ρ1 : List Addr} {σ : Sg} {S S1 : Bxs} {τ : L2.St}
/-- pairs of a place and an item -/
def placed (xs : List Dt) : List (Dt × Dt) := (List.range xs.length).zipWith (fun (i : Nat) x => (Dt.int (i : Int), x)) xs
theorem placed_length (xs : List Dt) : (placed xs).length = xs.length := by
  unfold placed
  rw [List.length_zipWith, List.length_range, Nat.min_self]
theorem placed_get {xs : List Dt} {i : Nat} {p : Dt × Dt} (h : (placed xs)[i]? = some p) : ∃ x, xs[i]? = some x ∧ p = (.int (i : Int), x) := by
  unfold placed at h
  rw [List.getElem?_zipWith_eq_some] at h
  obtain ⟨j, x, h1, h2, rfl⟩ := h
  have hj : i < xs.length := (List.getElem?_eq_some_iff.mp h2).1
  rw [List.getElem?_range hj] at h1
  cases h1
  exact ⟨x, h2, rfl⟩
def srcEnum (f : FA) : Src (Dt × Dt) := fun σ S => (f σ S).bind fun ds S1 => match ds with
  | [d] => match seqOf S1 d with
    | some xs => .ok (placed xs, fun S' => seqOf S' d = some xs) S1
    | none => .no
  | _ => .no
theorem PI.or2 {tg iter : Expr} {w : Bool → TI} (h : ∀ a, PI X tg iter (w a)) : PI X tg iter (fun σ H R => ∃ a, w a σ H R) :=
  ⟨fun pins s σ H R I ⟨a, q⟩ => (h a).run pins s σ H R I q⟩
theorem si_enum {elts : List Expr} {kk : Nat} {tpos : Pos} {a : Expr} {fa : FA} {p pos : Pos} (hg : Gl X "enumerate") (hm : X.mg "enumerate" = none) (ha : SA X Er [a] fa) (hs : starEach [a] X.env = [(false, eval a X.env)] := by rfl) :
    SI X Er itP (.Tuple elts kk tpos) (.Call (.Name "enumerate" p) [a] [] pos) (srcEnum fa) := by
  obtain ⟨ta, pa, qa⟩ := ha.ex
  refine ⟨_, PI.or2 fun k => pi_enumX k hg hm pa hs, fun τ H ρ σ S R T h => ?_⟩
  have h := link h
  cases e : fa σ S with
  | no => rw [e] at h; exact h.elim
  | ex c ds s' =>
    rw [e] at h
    exact ⟨true, qa τ H ρ σ S _ T (by rw [e]; exact h)⟩
  | ok ds S1 =>
    rw [e] at h
    rcases ds with _ | ⟨d, _ | ⟨d2, dr⟩⟩
    · exact h.elim
    · cases e1 : seqOf S1 d with
      | none => simp only [Rs.Sat, e1] at h
      | some xs =>
        have h : KI X.K H ρ itP R (placed xs, fun S' => seqOf S' d = some xs) S1 := by simpa only [Rs.Sat, e1] using h
        refine ⟨d.isT, qa τ H ρ σ S _ T ?_⟩
        rw [e]
        intro vs H1 ρ1 t1 hr1 dvs
        obtain ⟨v, rfl, dv⟩ := dvs1 dvs
        obtain ⟨a, us, rfl, hs1, hd1⟩ := sqx_of hr1 dv e1
        refine ⟨a, us, rfl, hs1, h H1 ρ1 _ _ _ t1 hr1 (by rw [placed_length]; exact walkE (n := xs.length)) (fun H' ρ' S' t hr' st => ?_) fun i x y H' H'' ρ' S' t hr' st hi hy => ?_⟩
        · obtain ⟨a', us', ea, q1, q2⟩ := sqx_of hr' (dv.to t) st
          cases ea
          exact ⟨us', q1, q2.length.symm⟩
        · obtain ⟨U, x1, h1, h2, h3, h4⟩ := hy
          obtain ⟨a', us', ea, q1, q2⟩ := sqx_of hr' (dv.to t) st
          cases ea
          obtain ⟨z, hz, rfl⟩ := placed_get hi
          obtain ⟨v1, g1, g2⟩ := q2.get hz
          rw [h4 us' q1] at g1
          cases g1
          exact ⟨U, _, _, h1, h2, h3, .int _, g2⟩
    · exact h.elim
/-! ### a < b < c -/
end
end Mn
set_option Elab.async false
set_option linter.all false
set_option maxRecDepth 100000
set_option maxHeartbeats 4000000
/-! MnL: sorted by a def's keys. -/
namespace Mn
open PySem PySem.Spec PyProof.Rows L2
section
variable {X : Cx} {Er : ER} {K : PySem.W.Frag} {H H1 : Hp} {ρ ρ1 : List Addr} {σ : Sg} {S S1 : Bxs} {τ : L2.St}
/-! ### the heap's side -/
theorem sat_ok {α : Type} {r : Rs α} {P : α → Bxs → Prop} (h : r.Sat P noX) : ∃ a s, r = .ok a s ∧ P a s := by
  cases r with
  | ok a s => exact ⟨a, s, rfl, h⟩
  | ex c ds s => exact h.elim
  | no => exact h.elim
end
end Mn
set_option Elab.async false
set_option linter.all false
set_option maxRecDepth 100000
set_option maxHeartbeats 4000000
/-! MnM: min; xs.extend(ys). -/
namespace Mn
open PySem PySem.Spec PyProof.Rows L2
section
variable {X : Cx} {Er : ER} {K : PySem.W.Frag} {H H1 : Hp} {ρ ρ1 : List Addr} {σ : Sg} {S S1 : Bxs} {τ : L2.St}
def minI (ns : List Int) : Int := -(maxI (ns.map fun i => -i))
theorem minI_of {ns : List Int} {m : Int} (h : m ∈ ns) (hm : ∀ y, y ∈ ns → m ≤ y) : minI ns = m := by
  unfold minI
  rw [maxI_of (m := -m) (List.mem_map.mpr ⟨m, h, rfl⟩) fun y hy => by
    obtain ⟨z, hz, rfl⟩ := List.mem_map.mp hy
    have := hm z hz
    omega]
  omega
def minG : GC := fun ds S => match ds with
  | [.int i, .int j] => .ok (.int (if j < i then j else i)) S
  | [d] => match seqOf S d with
    | some xs => match intsOf xs with
      | some ns => if ns ≠ [] then .ok (.int (minI ns)) S else .no
      | none => .no
    | none => .no
  | _ => .no
theorem minG_calm : CalmC minG := by
  intro ds S c es S'
  unfold minG
  split
  · exact calm_ok _ _ _ _ _
  · split
    · split
      · exact calm_ite (calm_ok _ _) _ _ _
      · exact calm_no _ _ _
    · exact calm_no _ _ _
  · exact calm_no _ _ _
def rMinA (K : PySem.W.Frag) : List V → Hp → VK → Prop := fun xs H Q => (∃ i j, xs = [.int i, .int j] ∧ Q (.int (if j < i then j else i)) H) ∨ (rMin K xs H Q ∨ rMinT K xs H Q)
theorem call_minA (hc : X.calm = true) : CallR X (.builtin "min") (rMinA X.K) := (call_min2 hc).or ((cr_min hc).or (cr_minT hc))
theorem rc_min : RCo K (rMinA K) minG := by
  intro H ρ S ds vs Q hr dvs h
  unfold minG at h
  split at h
  · obtain ⟨v, w, rfl, dv, dw⟩ := dvs2 dvs
    cases dv
    cases dw
    exact .inl ⟨_, _, rfl, ko_here hr h (.int _)⟩
  · rename_i d
    obtain ⟨v, rfl, dv⟩ := dvs1 dvs
    cases e : seqOf S d with
    | none => rw [e] at h; exact h.elim
    | some xs =>
      rw [e] at h
      simp only at h
      cases e2 : intsOf xs with
      | none => rw [e2] at h; exact h.elim
      | some ns =>
        rw [e2] at h
        obtain ⟨hne, h⟩ := ite_sat h
        obtain ⟨a, ws, rfl, hs, hd⟩ := seq_of hr dv e
        obtain rfl := ints_v hd e2
        have hl : 0 < ns.length := List.length_pos_iff.mpr hne
        rcases hs with hs | hs
        · exact .inr (.inl ⟨a, ns, rfl, hs, hl, fun m h1 h2 => by rw [← minI_of h1 h2]; exact ko_here hr h (.int _)⟩)
        · exact .inr (.inr ⟨a, ns, rfl, hs, hl, fun m h1 h2 => by rw [← minI_of h1 h2]; exact ko_here hr h (.int _)⟩)
  · exact h.elim
end
end Mn
set_option Elab.async false
set_option linter.all false
set_option maxRecDepth 100000
set_option maxHeartbeats 4000000
/-! MnN: isinstance with a built-in type by its name. -/
namespace Mn
open PySem PySem.Spec PyProof.Rows L2
section
variable {X : Cx} {Er : ER} {K : PySem.W.Frag} {H H1 : Hp} {ρ ρ1 : List Addr} {σ : Sg} {S S1 : Bxs} {τ : L2.St}
def tyN (S : Bxs) : Dt → Option String
  | .non => some "NoneType"
  | .bl _ => some "bool"
  | .int _ => some "int"
  | .str _ => some "str"
  | .tup _ => some "tuple"
  | .box n => if (S.seq n).isSome = true then some "list" else if (S.dk n).isSome = true then some "dict" else none
def isiD (T : String) (S : Bxs) (d : Dt) : Option Bool := match tyN S d with
  | some t => kitB t T
  | none => none
end
end Mn
set_option Elab.async false
set_option linter.all false
set_option maxRecDepth 100000
set_option maxHeartbeats 4000000
/-! MnS: list(zip(xs, ys)) of two lists; list(range(..)). -/
namespace Mn
open PySem PySem.Spec PyProof.Rows L2
theorem zip_no_len : typeLookup (.type "zip") "__len__" = pure none := by rw [typeLookup_type, builtinLookup_eq_fast]; kernel_rfl
theorem zip_no_hint : typeLookup (.type "zip") "__length_hint__" = pure none := by rw [typeLookup_type, builtinLookup_eq_fast]; kernel_rfl
/-- the zip as it stands: nothing given out, or a tuple held -/
def ZAt (h : Heap) (z TI TO i1 i2 : Addr) : Prop := (IsZip h z TI TO .none ∧ ∃ x y, IsPair h TO x y) ∨ ∃ T f oT, IsZipHeld h z TI TO T f ∧ h.get? T = some oT ∧ T ≠ z ∧ T ≠ i1 ∧ T ≠ i2
theorem push_seq (acc : List Value) (c : Nat) (v : Value) : ∃ c', Obj.mapSeq (·.push v) { cls := .type "list", data := .seq acc.toArray c } = { cls := .type "list", data := .seq (acc ++ [v]).toArray c' } := ⟨_, by simp [Obj.mapSeq]; rfl⟩
/-- new pairs are tracked -/
inductive PrsAt (H : Hp) : List Addr → List V → List V → Prop
  | nil : PrsAt H [] [] []
  | snoc {ts : List Addr} {xs ys : List V} {T : Addr} {o : Obj} {x y : V} : PrsAt H ts xs ys → H T = some (.frz o (.tup [x, y])) → PT0 o → PrsAt H (ts ++ [T]) (xs ++ [x]) (ys ++ [y])
theorem PrsAt.mono {H H' : Hp} (k : ∀ a o u, H a = some (.frz o u) → H' a = some (.frz o u)) {ts : List Addr} {xs ys : List V} (h : PrsAt H ts xs ys) : PrsAt H' ts xs ys := by
  induction h with
  | nil => exact .nil
  | snoc _ a b ih => exact .snoc ih (k _ _ _ a) b
theorem PrsAt.len {H : Hp} {ts : List Addr} {xs ys : List V} (h : PrsAt H ts xs ys) : ts.length = xs.length := by
  induction h with
  | nil => rfl
  | snoc _ _ _ ih => simp [ih]
section
variable {X : Cx} {pins : List (Addr × Obj)} {σ : L2.St} {A : Around}
structure ZCells (X : Cx) (pins : List (Addr × Obj)) (H : Hp) (h : Heap) (z TI TO i1 i2 S : Addr) : Prop where
  fz : FpOk X pins H z
  fO : FpOk X pins H TO
  f1 : FpOk X pins H i1
  f2 : FpOk X pins H i2
  fI : H TI = none
  Sz : S ≠ z
  SI : S ≠ TI
  SO : S ≠ TO
  S1 : S ≠ i1
  S2 : S ≠ i2
theorem zl_loop {R : Result → Shared → Prop} {z TI TO i1 i2 l1 l2 S : Addr} {vs ws : List V} {us1 us2 : List Value} {res : Value} (hh : A.in1.handled = none) (D : ZipApart z TI TO i1 i2 l1 l2)
    (r1 : Vals vs us1) (r2 : Vals ws us2) (hz1 : vs.length < sizeLine) :
    ∀ (k i : Nat) (s : Shared) (H : Hp) (ts : List Addr) (acc : List Value) (c : Nat), min vs.length ws.length - i = k → i ≤ min vs.length ws.length → Inv X pins σ H s → ZAt s.heap z TI TO i1 i2 → TO < s.heap.objs.size → IsPair s.heap TI (.ref i1) (.ref i2) → s.heap.IsListIter i1 l1 i → s.heap.IsListIter i2 l2 i →
      s.heap.IsList l1 us1.toArray → s.heap.IsList l2 us2.toArray → l1 ≠ S → l2 ≠ S → ZCells X pins H s.heap z TI TO i1 i2 S → H S = some (.lst (ts.map V.ref)) → s.heap.get? S = some { cls := .type "list", data := .seq acc.toArray c } → Vals (ts.map V.ref) acc →
      PrsAt H ts (vs.take i) (ws.take i) →
      (∀ s' H' ts', Inv X pins σ H' s' → (∀ a u, a ≠ S → H a = some u → H' a = some u) → H' S = some (.lst (ts'.map V.ref)) → PrsAt H' ts' (vs.take (min vs.length ws.length)) (ws.take (min vs.length ws.length)) → s'.os = s.os → R (.ok (.ret res)) s') →
      codeAny (model X.prog X.w) A (.builtin "list.extend.loop" ⟨[.ref S, .ref z, res], []⟩) R s := by
  have lv := r1.length
  have lw := r2.length
  intro k
  induction k with
  | zero =>
    intro i s H ts acc c hk hi I hzz hTO0 hTI h1 h2 hl1 hl2 n1 n2 Z hS hSl ra P hR
    have hin : i = min vs.length ws.length := by omega
    refine codeAny_builtin F.entry_extend_loop ?_
    rw [Around.under_plainId F.plain_extend_loop _]
    show wpAny _ A.in1 (pyNext (.ref z) >>= _) _ _ s
    have hend : us1.toArray[i]? = none ∨ us2.toArray[i]? = none := by
      rcases Nat.le_total vs.length ws.length with q | q
      · left; simp; omega
      · right; simp; omega
    refine wpAny_bind ?_
    rcases hzz with ⟨hz0, x, y, hTO⟩ | ⟨T, f, oT, hz0, hT, hTz, hT1, hT2⟩
    · refine wpAny_pyNext_zip_end hh D hz0 hTI hTO h1 h2 hl1 hl2 hend fun h' hk' => wpAny_pure ?_
      refine hR _ H ts (I.turnedL (t' := s.toks) (ch := [z, TO, i1, i2]) (fun b o hb e => ?_) fun b hb => ?_) (fun a u _ e => e) hS (by rw [← hin]; exact P) rfl
      · simp only [List.mem_cons, List.not_mem_nil, or_false, not_or] at hb
        exact hk' b o hb.1 hb.2.1 hb.2.2.1 hb.2.2.2 e
      · simp only [List.mem_cons, List.not_mem_nil, or_false] at hb
        rcases hb with rfl | rfl | rfl | rfl
        · exact Z.fz
        · exact Z.fO
        · exact Z.f1
        · exact Z.f2
    · refine wpAny_pyNext_zip_end_held hh D hz0 hT hTI h1 h2 hl1 hl2 hend fun h' hk' => wpAny_pure ?_
      refine hR _ H ts (I.turnedL (t' := s.toks) (ch := [z, i1, i2]) (fun b o hb e => ?_) fun b hb => ?_) (fun a u _ e => e) hS (by rw [← hin]; exact P) rfl
      · simp only [List.mem_cons, List.not_mem_nil, or_false, not_or] at hb
        exact hk' b o hb.1 hb.2.1 hb.2.2 e
      · simp only [List.mem_cons, List.not_mem_nil, or_false] at hb
        rcases hb with rfl | rfl | rfl
        · exact Z.fz
        · exact Z.f1
        · exact Z.f2
  | succ k ih =>
    intro i s H ts acc c hk hi I hzz hTO0 hTI h1 h2 hl1 hl2 n1 n2 Z hS hSl ra P hR
    have hlt : i < min vs.length ws.length := by omega
    have hv : vs[i]? = some vs[i] := List.getElem?_eq_getElem (by omega)
    have hw : ws[i]? = some ws[i] := List.getElem?_eq_getElem (by omega)
    obtain ⟨u1, e1, q1⟩ := r1.get hv
    obtain ⟨u2, e2, q2⟩ := r2.get hw
    refine codeAny_builtin F.entry_extend_loop ?_
    rw [Around.under_plainId F.plain_extend_loop _]
    show wpAny _ A.in1 (pyNext (.ref z) >>= _) _ _ s
    -- what follows a pair that was given out
    have rest : ∀ h' : Heap, ZAt h' z TI TO i1 i2 → h'.IsListIter i1 l1 (i + 1) → h'.IsListIter i2 l2 (i + 1) → IsPair h' s.heap.objs.size u1 u2 → h'.objs.size = s.heap.objs.size + 1 →
        (∀ b o, b ∉ [z, TO, i1, i2] → s.heap.get? b = some o → h'.get? b = some o) →
        wpAny (model X.prog X.w) A.in1 (updateSeq S (·.push (.ref s.heap.objs.size)) >>= fun _ => again (.builtin "list.extend.loop" ⟨[.ref S, .ref z, res], []⟩))
          (fun fin s' => match fin with | .done f => R (.ok f) s' | .again c' => c'.quiet = true ∧ codeAny (model X.prog X.w) A c' R s') (fun e s' => R (.error e) s') { s with heap := h' } := by
      intro h' hz' g1 g2 hp hsz kp
      have hSn : S ∉ [z, TO, i1, i2] := by
        simp only [List.mem_cons, List.not_mem_nil, or_false, not_or]
        exact ⟨Z.Sz, Z.SO, Z.S1, Z.S2⟩
      have hfp : ∀ b ∈ [z, TO, i1, i2], FpOk X pins H b := fun b hb => by
        simp only [List.mem_cons, List.not_mem_nil, or_false] at hb
        rcases hb with rfl | rfl | rfl | rfl
        · exact Z.fz
        · exact Z.fO
        · exact Z.f1
        · exact Z.f2
      have fresh : H s.heap.objs.size = none := I.hok.fresh (Nat.le_refl _)
      have I1 : Inv X pins σ (upd H s.heap.objs.size (.frz { cls := .type "tuple", data := .seq #[u1, u2] } (.tup [vs[i], ws[i]]))) { s with heap := h', toks := s.toks } :=
        I.turnedNew (t' := s.toks) (ch := [z, TO, i1, i2]) kp hfp (Nat.le_refl _) ⟨hp, by show 2 ≤ sizeLine; decide, [u1, u2], .cons q1 (.cons q2 .nil), ⟨_, hp, rfl, _, rfl⟩⟩
      have hSlt : S < s.heap.objs.size := Heap.lt_size hSl
      have hS1 : (upd H s.heap.objs.size (.frz { cls := .type "tuple", data := .seq #[u1, u2] } (.tup [vs[i], ws[i]]))) S = some (.lst (ts.map V.ref)) := by rw [upd_ne (Nat.ne_of_lt hSlt)]; exact hS
      have hSl1 : h'.get? S = some { cls := .type "list", data := .seq acc.toArray c } := kp S _ hSn hSl
      have hal : acc.length = i := by
        have a1 := ra.length
        have a2 := P.len
        rw [List.length_map] at a1
        rw [List.length_take] at a2
        omega
      refine wpAny_bind (wpAny_updateSeq (s := { s with heap := h' }) hSl1 rfl ?_ (by rw [List.size_toArray]; omega) (by show (acc.toArray.push _).size ≤ sizeLine + 1; rw [Array.size_push, List.size_toArray]; omega))
      have ra' : Vals ((ts ++ [s.heap.objs.size]).map V.ref) (acc ++ [.ref s.heap.objs.size]) := by
        rw [List.map_append]
        exact ra.append (.cons rfl .nil)
      obtain ⟨c', hc'⟩ := push_seq acc c (.ref s.heap.objs.size)
      have I2 := I1.lstUpd (f := Obj.mapSeq (·.push (.ref s.heap.objs.size))) (n' := c') hS1 hSl1 hc' ra' (by rw [ra'.length, List.length_append]; simp; omega) s.toks
      have hTS : s.heap.objs.size ≠ S := Nat.ne_of_gt hSlt
      have keepH : ∀ a u, a ≠ S → H a = some u → (upd (upd H s.heap.objs.size (.frz { cls := .type "tuple", data := .seq #[u1, u2] } (.tup [vs[i], ws[i]]))) S (.lst ((ts ++ [s.heap.objs.size]).map V.ref))) a = some u := fun a u ha e => by
        rw [upd_ne ha, upd_ne (ne_of_none e fresh)]; exact e
      have keepn : ∀ a, a ≠ S → a ≠ s.heap.objs.size → H a = none → (upd (upd H s.heap.objs.size (.frz { cls := .type "tuple", data := .seq #[u1, u2] } (.tup [vs[i], ws[i]]))) S (.lst ((ts ++ [s.heap.objs.size]).map V.ref))) a = none := fun a ha hb e => by
        rw [upd_ne ha, upd_ne hb]; exact e
      have fpk : ∀ a, a ≠ S → a < s.heap.objs.size → FpOk X pins H a → FpOk X pins (upd (upd H s.heap.objs.size (.frz { cls := .type "tuple", data := .seq #[u1, u2] } (.tup [vs[i], ws[i]]))) S (.lst ((ts ++ [s.heap.objs.size]).map V.ref))) a := fun a ha hb f =>
        ⟨keepn a ha (Nat.ne_of_lt hb) f.1, f.2⟩
      have oth : ∀ b o, b ≠ S → h'.get? b = some o → (h'.update S (Obj.mapSeq (·.push (.ref s.heap.objs.size)))).get? b = some o := fun b o hb e => (Heap.get?_update_other _ _ (Ne.symm hb)).trans e
      have lz : z < s.heap.objs.size := by rcases hzz with ⟨q, _⟩ | ⟨_, _, _, q, _⟩ <;> exact Heap.lt_size q
      have l1' : i1 < s.heap.objs.size := by obtain ⟨_, q, _⟩ := h1; exact Heap.lt_size q
      have l2' : i2 < s.heap.objs.size := by obtain ⟨_, q, _⟩ := h2; exact Heap.lt_size q
      have lTO : H TO = none := Z.fO.1
      refine wpAny_pure ⟨plainId_quiet F.plain_extend_loop _, ih (i + 1) _ _ (ts ++ [s.heap.objs.size]) (acc ++ [.ref s.heap.objs.size]) c' (by omega) hlt I2 ?_ (by show TO < (h'.update S _).objs.size; rw [Heap.size_update, hsz]; exact Nat.lt_succ_of_lt hTO0) ?_ ?_ ?_ ?_ ?_ n1 n2 ?_ upd_same ?_ ra' ?_ fun s' H' ts' I' kH hS' P' os => hR s' H' ts' I' (fun a u ha e => kH a u ha (keepH a u ha e)) hS' P' os⟩
      · rcases hz' with ⟨q, x, y, q'⟩ | ⟨T, f, oT, q, q', q''⟩
        · exact .inl ⟨oth _ _ Z.Sz.symm q, x, y, oth _ _ Z.SO.symm q'⟩
        · by_cases hT : T = S
          · subst hT
            exact .inr ⟨T, f, _, oth _ _ Z.Sz.symm q, Heap.get?_update_self _ hSl1 (by rw [hc']; rfl), q''⟩
          · exact .inr ⟨T, f, oT, oth _ _ Z.Sz.symm q, oth _ _ hT q', q''⟩
      · exact oth _ _ Z.SI.symm (kp _ _ (by
          simp only [List.mem_cons, List.not_mem_nil, or_false, not_or]
          exact ⟨D.TIz, D.TITO, D.TIi1, D.TIi2⟩) hTI)
      · exact g1.at fun o e => oth _ _ Z.S1.symm e
      · exact g2.at fun o e => oth _ _ Z.S2.symm e
      · exact hl1.at fun o e => oth _ _ n1 (kp _ _ (by
          simp only [List.mem_cons, List.not_mem_nil, or_false, not_or]
          exact ⟨D.l1z, D.l1TO, D.l1i1, D.l1i2⟩) e)
      · exact hl2.at fun o e => oth _ _ n2 (kp _ _ (by
          simp only [List.mem_cons, List.not_mem_nil, or_false, not_or]
          exact ⟨D.l2z, D.l2TO, D.l2i1, D.l2i2⟩) e)
      · refine ⟨fpk _ Z.Sz.symm lz Z.fz, ?_, fpk _ Z.S1.symm l1' Z.f1, fpk _ Z.S2.symm l2' Z.f2, ?_, Z.Sz, Z.SI, Z.SO, Z.S1, Z.S2⟩
        · exact fpk _ Z.SO.symm hTO0 Z.fO
        · exact keepn _ Z.SI.symm (Nat.ne_of_lt (Heap.lt_size hTI)) Z.fI
      · exact (Heap.get?_update_self _ hSl1 (by rw [hc']; rfl)).trans (congrArg some hc')
      · rw [List.take_add_one, List.take_add_one, hv, hw]
        refine .snoc (P.mono fun a o w e => ?_) (by rw [upd_ne hTS, upd_same]) ⟨rfl, rfl⟩
        have ha : a ≠ S := fun q => by rw [q, hS] at e; cases e
        exact keepH a _ ha e
    refine wpAny_bind ?_
    rcases hzz with ⟨hz0, x, y, hTO⟩ | ⟨T, f, oT, hz0, hT, hTz, hT1, hT2⟩
    · refine wpAny_pyNext_zip_item D hz0 hTI hTO h1 h2 hl1 hl2 (by simpa using e1) (by simpa using e2) fun h' a1 a2 a3 a4 a5 a6 a7 => ?_
      exact rest h' (.inr ⟨s.heap.objs.size, false, _, a1, a5, Nat.ne_of_gt (Heap.lt_size hz0), by obtain ⟨_, q, _⟩ := h1; exact Nat.ne_of_gt (Heap.lt_size q), by obtain ⟨_, q, _⟩ := h2; exact Nat.ne_of_gt (Heap.lt_size q)⟩) a3 a4 a5 a6 fun b o hb e => by
        simp only [List.mem_cons, List.not_mem_nil, or_false, not_or] at hb
        exact a7 b o hb.1 hb.2.1 hb.2.2.1 hb.2.2.2 e
    · refine wpAny_pyNext_zip_item_held D hz0 hT hTI h1 h2 hl1 hl2 (by simpa using e1) (by simpa using e2) fun h' a1 a3 a4 a5 a6 a7 => ?_
      exact rest h' (.inr ⟨T, true, oT, a1, a7 T oT hTz hT1 hT2 hT, hTz, hT1, hT2⟩) a3 a4 a5 a6 fun b o hb e => by
        simp only [List.mem_cons, List.not_mem_nil, or_false, not_or] at hb
        exact a7 b o hb.1 hb.2.2.1 hb.2.2.2 e
/-- list(zip) of two lists, at the call of list -/
theorem call_list_zip {z TI TO i1 i2 l1 l2 : Addr} {vs ws : List V} {us1 us2 : List Value} {s : Shared} {H : Hp} {Q : VK} (hh : X.A.handled = none) (D : ZipApart z TI TO i1 i2 l1 l2)
    (r1 : Vals vs us1) (r2 : Vals ws us2) (hz1 : vs.length < sizeLine) (I : Inv X pins σ H s) (hz : IsZip s.heap z TI TO .none) (hTO : ∃ x y, IsPair s.heap TO x y) (hTI : IsPair s.heap TI (.ref i1) (.ref i2)) (h1 : s.heap.IsListIter i1 l1 0) (h2 : s.heap.IsListIter i2 l2 0)
    (hl1 : s.heap.IsList l1 us1.toArray) (hl2 : s.heap.IsList l2 us2.toArray) (fz : FpOk X pins H z) (fO : FpOk X pins H TO) (f1 : FpOk X pins H i1) (f2 : FpOk X pins H i2) (fI : H TI = none)
    (hQ : ∀ S H' ts, H S = none → (∀ a u, H a = some u → H' a = some u) → H' S = some (.lst (ts.map V.ref)) → PrsAt H' ts (vs.take (min vs.length ws.length)) (ws.take (min vs.length ws.length)) → Q (.ref S) H') :
    wpAny (model X.prog X.w) X.A (call (.type "list") [.ref z]) (EP X pins σ Q) X.xe s := by
  refine callType_codes (Q₁ := fun obj s₁ => obj = .ref s.heap.objs.size ∧ s₁ = { s with heap := s.heap.push { cls := .type "list", data := .seq #[] } }) F.called_list (F.typeCall_list_1 _) F.entry_list_init
    (code_list_new _ ⟨rfl, rfl⟩) fun obj s₁ h₁ => ?_
  obtain ⟨rfl, rfl⟩ := h₁
  have hS : (s.heap.push { cls := .type "list", data := .seq #[] }).get? s.heap.objs.size = some { cls := .type "list", data := .seq #[] } := Heap.get?_push_size _ rfl
  refine ⟨⟨_, hS, rfl⟩, F.args_list_init_2 _ _, ?_⟩
  have lt : ∀ {b o}, s.heap.get? b = some o → b < s.heap.objs.size := fun e => Heap.lt_size e
  have lz := lt hz
  have lTI := lt hTI
  have lTO : TO < s.heap.objs.size := by obtain ⟨x, y, q⟩ := hTO; exact lt q
  have li1 : i1 < s.heap.objs.size := by obtain ⟨_, q, _⟩ := h1; exact lt q
  have li2 : i2 < s.heap.objs.size := by obtain ⟨_, q, _⟩ := h2; exact lt q
  have ll1 : l1 < s.heap.objs.size := by obtain ⟨_, q, _⟩ := hl1; exact lt q
  have ll2 : l2 < s.heap.objs.size := by obtain ⟨_, q, _⟩ := hl2; exact lt q
  generalize hSS : s.heap.objs.size = S at hS lz lTI lTO li1 li2 ll1 ll2
  have fresh : H S = none := I.hok.fresh (Nat.le_of_eq hSS)
  show wpAny _ X.A.in1.in1 (do let old ← Builtin.List.listItems (.ref S); Builtin.List.listUpdate (.ref S) (fun _ => #[]); letGo old.toList.reverse; Builtin.List.listExtendWith (.ref S) (.ref z) .none) _ _ _
  refine wpAny_bind ?_
  unfold Builtin.List.listItems
  refine wpAny_bind (wpAny_seqItems hS rfl (wpAny_pure ?_))
  show wpAny _ _ (updateSeq S (fun _ => #[]) >>= fun _ => letGo (#[] : Array Value).toList.reverse >>= fun _ => Builtin.List.listExtendWith (.ref S) (.ref z) .none) _ _ _
  refine wpAny_bind (wpAny_updateSeq hS rfl ?_)
  have hS₂ := Heap.get?_update_self (Obj.mapSeq (fun _ => (#[] : Array Value))) hS rfl
  refine wpAny_bind (wpAny_letGo ?_)
  have ot1 : ∀ b o, s.heap.get? b = some o → ((s.heap.push { cls := .type "list", data := .seq #[] }).update S (Obj.mapSeq (fun _ => (#[] : Array Value)))).get? b = some o :=
    fun b o e => (Heap.get?_update_other _ _ (Ne.symm (Nat.ne_of_lt (by rw [← hSS]; exact lt e)))).trans (Heap.get?_push_of_some _ e)
  generalize hg1 : (s.heap.push { cls := .type "list", data := .seq #[] }).update S (Obj.mapSeq (fun _ => (#[] : Array Value))) = g1 at hS₂ ot1
  have hSz : S ≠ z := Nat.ne_of_gt lz
  show wpAny _ _ (Builtin.List.listExtendWith (.ref S) (.ref z) .none) _ _ { s with heap := g1 }
  unfold Builtin.List.listExtendWith
  have hTz : ∀ t, ({ s with heap := g1, toks := t } : Shared).TypeIs (.ref z) "zip" := fun t => ⟨_, ot1 _ _ hz, rfl⟩
  refine wpAny_bind (wpAny_typeOf (hTz _) ?_)
  have e1 : Builtin.List.listSameRef (.ref S) (.ref z) = false := by simp [Builtin.List.listSameRef, hSz]
  have e2 : (Value.type "zip" == Value.type "list") = false := by decide
  have e3 : (Value.type "zip" == Value.type "tuple") = false := by decide
  simp only [e1, e2, e3, Bool.or_false, Bool.false_eq_true, if_false]
  refine wpAny_bind (wpAny_pyIter_zip (ot1 _ _ hz) ?_)
  refine wpAny_bind (wpAny_holding ?_)
  unfold Builtin.List.listLengthHint
  refine wpAny_bind (wpAny_specialOf (hTz _) zip_no_len ?_)
  show wpAny _ _ (specialOf (Value.ref z) (Str.ofString "__length_hint__") >>= _) _ _ _
  refine wpAny_bind (wpAny_specialOf (hTz _) zip_no_hint ?_)
  refine wpAny_pure ?_
  show wpAny _ _ (rule "list.extend.makes-room" >>= fun _ => Builtin.List.listTouch (.ref S) >>= fun _ => again (.builtin "list.extend.loop" ⟨[.ref S, .ref z, .none], []⟩)) _ _ _
  refine wpAny_bind (wpAny_rule ?_)
  refine wpAny_bind ?_
  show wpAny _ _ (updateSeq S (·.push .none) >>= fun _ => updateSeq S (·.pop)) _ _ _
  refine wpAny_bind (wpAny_updateSeq hS₂ rfl ?_)
  have hS₃ := Heap.get?_update_self (Obj.mapSeq (·.push Value.none)) hS₂ rfl
  refine wpAny_updateSeq (hz := by seq_fits) hS₃ rfl ?_
  have hS₄ := Heap.get?_update_self (Obj.mapSeq (·.pop)) hS₃ rfl
  have ot2 : ∀ b o, s.heap.get? b = some o → ((g1.update S (Obj.mapSeq (·.push Value.none))).update S (Obj.mapSeq (·.pop))).get? b = some o :=
    fun b o e => (Heap.get?_update_other _ _ (Ne.symm (Nat.ne_of_lt (by rw [← hSS]; exact lt e)))).trans ((Heap.get?_update_other _ _ (Ne.symm (Nat.ne_of_lt (by rw [← hSS]; exact lt e)))).trans (ot1 b o e))
  have sz2 : ((g1.update S (Obj.mapSeq (·.push Value.none))).update S (Obj.mapSeq (·.pop))).objs.size = S + 1 := by
    rw [Heap.size_update, Heap.size_update, ← hg1, Heap.size_update, Heap.size_push, hSS]
  obtain ⟨c₄, hc₄⟩ : ∃ c, ((g1.update S (Obj.mapSeq (·.push Value.none))).update S (Obj.mapSeq (·.pop))).get? S = some { cls := .type "list", data := .seq ([] : List Value).toArray c } := ⟨_, hS₄⟩
  generalize ((g1.update S (Obj.mapSeq (·.push Value.none))).update S (Obj.mapSeq (·.pop))) = g2 at ot2 sz2 hc₄
  have I2 : Inv X pins σ (upd H S (.lst [])) { s with heap := g2, toks := s.toks } := I.laid (t' := s.toks) ot2 (Nat.le_of_eq hSS) ⟨Nat.zero_le _, [], c₄, .nil, hc₄⟩
  have fpk : ∀ a, a < S → FpOk X pins H a → FpOk X pins (upd H S (.lst [])) a := fun a ha f => ⟨by rw [upd_ne (Nat.ne_of_lt ha)]; exact f.1, f.2⟩
  refine wpAny_pure ⟨plainId_quiet F.plain_extend_loop _, ?_⟩
  refine zl_loop (A := X.A.in1) hh D r1 r2 hz1 _ 0 _ _ [] [] c₄ rfl (Nat.zero_le _) I2 (.inl ⟨ot2 _ _ hz, ?_⟩) (by show TO < g2.objs.size; rw [sz2]; exact Nat.lt_succ_of_lt lTO) (ot2 _ _ hTI) (h1.at fun o e => ot2 _ _ e) (h2.at fun o e => ot2 _ _ e) (hl1.at fun o e => ot2 _ _ e) (hl2.at fun o e => ot2 _ _ e)
    (Nat.ne_of_lt ll1) (Nat.ne_of_lt ll2) ⟨fpk _ lz fz, fpk _ lTO fO, fpk _ li1 f1, fpk _ li2 f2, by rw [upd_ne (Nat.ne_of_lt lTI)]; exact fI, hSz, Nat.ne_of_gt lTI, Nat.ne_of_gt lTO, Nat.ne_of_gt li1, Nat.ne_of_gt li2⟩ upd_same hc₄ .nil (by rw [List.take_zero, List.take_zero]; exact .nil) fun s' H' ts I' kH hS' P os => ?_
  · obtain ⟨x, y, q⟩ := hTO
    exact ⟨x, y, ot2 _ _ q⟩
  · refine ⟨rfl, .ref S, H', I', rfl, hQ S H' ts fresh (fun a u e => kH a u (ne_of_none e fresh) (by rw [upd_ne (ne_of_none e fresh)]; exact e)) hS' P⟩
end
/-! ### the rules -/
section
variable {X : Cx} {Er : ER} {K : PySem.W.Frag} {H H1 : Hp} {ρ ρ1 : List Addr} {σ : Sg} {S S1 : Bxs} {τ : L2.St}
def tListZip (K : PySem.W.Frag) (ta : TA) : TE := fun σ H Q => ta σ H fun us H1 => ∃ a b vs ws, us = [.ref a, .ref b] ∧ SqL K H1 a vs ∧ SqL K H1 b ws ∧ vs.length < sizeLine ∧
  ∀ p H' ts, H1 p = none → (∀ a u, H1 a = some u → H' a = some u) → H' p = some (.lst (ts.map V.ref)) → PrsAt H' ts (vs.take (min vs.length ws.length)) (ws.take (min vs.length ws.length)) → Q (.ref p) H'
theorem pe_listZip {e e2 : Expr} {ta : TA} {p p2 pos pos2 : Pos} (hc : X.calm = true) (hgl : Gl X "list") (hml : X.mg "list" = none) (hg : Gl X "zip") (hm : X.mg "zip" = none) (ha : PA X [e, e2] ta)
    (hs : starEach [e, e2] X.env = (false, eval e X.env) :: starEach [e2] X.env := by rfl) (hpl : (backTo pos2 (starEach [e2] X.env)).any (·.1) = false := by rfl)
    (na : starEach [.Call (.Name "zip" p2) [e, e2] [] pos2] X.env = (false, eval (.Call (.Name "zip" p2) [e, e2] [] pos2) X.env) :: starEach [] X.env := by rfl) :
    PE X (.Call (.Name "list" p) [.Call (.Name "zip" p2) [e, e2] [] pos2] [] pos) (tListZip X.K ta) := by
  refine ⟨fun pins s σ H Q I h => ?_⟩
  refine Call_ (ld_blt I hgl hml boot_list (PyProof.Rows.callWith_type1 (args_cons (Call_ (ld_blt I hg hm PyProof.Rows.boot_zip (PyProof.Rows.callWith_type1 (thn (ha.run pos2 pins s σ H _ I h) ?_) hs hpl))) na) na))
  rintro us s1 ⟨vs, H1, I1, r1, a, b, xs, ys, rfl, hqx, hqy, hz, q⟩
  obtain ⟨u1, u2, rfl, ra, rb⟩ := r1.two
  cases ra
  cases rb
  obtain ⟨its, rv, p1, la⟩ := sqx_inv (k := false) I1 hqx
  obtain ⟨its2, rv2, p2, lb⟩ := sqx_inv (k := false) I1 hqy
  refine zip_begins2 (beginsX false a its.toArray) (beginsX false b its2.toArray) p1 p2 fun h' hz' hTI hTO g1 g2 hsz hk => ?_
  have I2 : Inv X pins σ H1 { s1 with heap := h' } := I1.kept (t' := s1.toks) hk
  have fp : ∀ c, s1.heap.objs.size ≤ c → FpOk X pins H1 c := fun c hle => I1.fpOk hle (I1.hok.fresh hle)
  refine args_nil (call_list_zip (I1.ok.hd hc) (z := s1.heap.objs.size + 4) (TI := s1.heap.objs.size + 2) (TO := s1.heap.objs.size + 3) (i1 := s1.heap.objs.size) (i2 := s1.heap.objs.size + 1) (l1 := a) (l2 := b) ?_ rv rv2 hz I2 hz' ⟨_, _, hTO⟩ hTI (hit_new (k := false) g1) (hit_new (k := false) g2)
    (p1.at fun o e => hk _ _ e) (p2.at fun o e => hk _ _ e) (fp _ (by omega)) (fp _ (by omega)) (fp _ (by omega)) (fp _ (by omega)) (I1.hok.fresh (by omega)) fun S H' ts q1 q2 q3 q4 => q S H' ts q1 q2 q3 q4)
  have la' : @LT.lt Nat _ a s1.heap.objs.size := la
  have lb' : @LT.lt Nat _ b s1.heap.objs.size := lb
  constructor <;> (show ¬ (@Eq Nat _ _)) <;> omega
theorem snoc_split {α : Type} {xs : List α} {n : Nat} {d : α} (h : xs.length = n + 1) (e : xs[n]? = some d) : xs = xs.take n ++ [d] := by
  have := List.take_add_one (l := xs) (i := n)
  rw [List.take_of_length_le (by omega), e] at this
  exact this
theorem prs_dv : ∀ {H : Hp} {ts : List Addr} {vs ws : List V} {xs ys : List Dt}, PrsAt H ts vs ws → DVs K H ρ xs vs → DVs K H ρ ys ws → DVs K H ρ ((xs.zip ys).map fun p => Dt.tup [p.1, p.2]) (ts.map V.ref) := by
  intro H ts vs ws xs ys h
  induction h generalizing xs ys with
  | nil =>
    intro hx hy
    cases hx
    exact .nil
  | snoc p hT po ih =>
    rename_i ts vs ws T o x y
    intro hx hy
    have lx := hx.length
    have ly := hy.length
    rw [List.length_append] at lx ly
    have l1 := p.len
    have l2 : ts.length = ws.length := by
      have : ∀ {ts : List Addr} {vs ws : List V}, PrsAt H ts vs ws → ts.length = ws.length := fun q => by
        induction q with
        | nil => rfl
        | snoc _ _ _ ih => simp [ih]
      exact this p
    obtain ⟨d, hd1, hd2⟩ := hx.get' (i := vs.length) (v := x) (by simp)
    obtain ⟨e, he1, he2⟩ := hy.get' (i := ws.length) (v := y) (by simp)
    have cx : xs = xs.take vs.length ++ [d] := snoc_split lx hd1
    have cy : ys = ys.take ws.length ++ [e] := snoc_split ly he1
    have dx : DVs K H ρ (xs.take vs.length) vs := by
      have := hx.take vs.length
      rwa [List.take_left] at this
    have dy : DVs K H ρ (ys.take ws.length) ws := by
      have := hy.take ws.length
      rwa [List.take_left] at this
    rw [cx, cy, List.zip_append (by rw [dx.length, dy.length, ← l1, l2]), List.map_append, List.map_append]
    exact (ih dx dy).app (.cons (.tup (.inl ⟨o, hT, po⟩) (.cons hd2 (.cons he2 .nil))) .nil)
def dListZip (f : FA) : FE := fun σ S => (f σ S).bind fun ds S1 => match ds with
  | [.box m, .box n] => match S1.seq m, S1.seq n with
    | some xs, some ys => if xs.length < LIM then newL ((xs.zip ys).map fun p => Dt.tup [p.1, p.2]) S1 else .no
    | _, _ => .no
  | _ => .no
theorem zip_take {α β : Type} : ∀ (xs : List α) (ys : List β), (xs.take (min xs.length ys.length)).zip (ys.take (min xs.length ys.length)) = xs.zip ys
  | [], ys => by simp
  | _ :: _, [] => by simp
  | x :: xs, y :: ys => by
    have : min (x :: xs).length (y :: ys).length = min xs.length ys.length + 1 := by simp only [List.length_cons]; omega
    rw [this, List.take_succ_cons, List.take_succ_cons, List.zip_cons_cons, List.zip_cons_cons, zip_take xs ys]
theorem se_listZip {e e2 : Expr} {fa : FA} {p p2 pos pos2 : Pos} (hc : X.calm = true) (hgl : Gl X "list") (hml : X.mg "list" = none) (hg : Gl X "zip") (hm : X.mg "zip" = none) (ha : SA X Er [e, e2] fa)
    (hs : starEach [e, e2] X.env = (false, eval e X.env) :: starEach [e2] X.env := by rfl) (hpl : (backTo pos2 (starEach [e2] X.env)).any (·.1) = false := by rfl)
    (na : starEach [.Call (.Name "zip" p2) [e, e2] [] pos2] X.env = (false, eval (.Call (.Name "zip" p2) [e, e2] [] pos2) X.env) :: starEach [] X.env := by rfl) :
    SE X Er (.Call (.Name "list" p) [.Call (.Name "zip" p2) [e, e2] [] pos2] [] pos) (dListZip fa) := by
  obtain ⟨ta, pa, qa⟩ := ha.ex
  refine ⟨_, pe_listZip hc hgl hml hg hm pa hs hpl na, fun τ H ρ σ S Q T h => qa τ H ρ σ S _ T ((link h).mono (fun ds S1 h1 => ?_) fun _ _ _ q => q)⟩
  intro vs H1 ρ1 t1 hr1 dvs
  split at h1
  · rename_i m n
    cases dvs with
    | cons d1 r =>
    cases r with
    | cons d2 r =>
    cases r
    cases d1
    rename_i a ha1
    cases d2
    rename_i b hb1
    cases e1 : S1.seq m with
    | none => rw [e1] at h1; exact h1.elim
    | some xs =>
      cases e2 : S1.seq n with
      | none => rw [e1, e2] at h1; exact h1.elim
      | some ys =>
        rw [e1, e2] at h1
        obtain ⟨c, h1⟩ := ite_sat h1
        obtain ⟨hl, h1⟩ := newL_ok h1
        obtain ⟨us, s1, q1⟩ := hr1.rd ha1 e1
        obtain ⟨ws, s2, q2⟩ := hr1.rd hb1 e2
        have z1 := q1.length
        have z2 := q2.length
        refine ⟨a, b, us, ws, rfl, s1, s2, by rw [← z1]; exact lim_lt c, fun p H' ts hp kp hS P => ?_⟩
        have ex : Ext H1 H' := .of kp
        have pre : ρ1 <+: ρ1 ++ [p] := List.prefix_append _ _
        have dz := prs_dv P ((q1.mono ex pre).take _) ((q2.mono ex pre).take _)
        rw [← z1, ← z2, zip_take] at dz
        have hr' := hr1.grown (b := .lst ((xs.zip ys).map fun p => Dt.tup [p.1, p.2])) kp hp ⟨_, hS, dz⟩
        refine h1 _ H' (ρ1 ++ [p]) (t1.trans ⟨ex, pre⟩) hr' (.box ?_)
        rw [← hr1.len, List.getElem?_append_right (Nat.le_refl _), Nat.sub_self]; rfl
  · exact h1.elim
def dListR2 (f g : FE) : FE := fun σ S => (f σ S).bind fun d S1 => (g σ S1).bind fun e S2 => match d, e with
  | .int i, .int j => if inR i ∧ inR j ∧ (j - i).toNat ≤ 100000 then newL (rgD i (j - i).toNat) S2 else .no
  | _, _ => .no
theorem rg_dvs (lo : Int) : ∀ n : Nat, DVs K H ρ (rgD lo n) ((List.range n).map fun i => V.int (lo + (i : Nat))) := by
  have : ∀ l : List Nat, DVs K H ρ (l.map fun (i : Nat) => Dt.int (lo + (i : Int))) (l.map fun i => V.int (lo + (i : Nat))) := fun l => by
    induction l with
    | nil => exact .nil
    | cons a l ih => exact .cons (.int _) ih
  exact fun n => this _
theorem se_listR2 {a b : Expr} {fa fb : FE} {p p2 pos pos2 : Pos} (hc : X.calm = true) (hgl : Gl X "list") (hml : X.mg "list" = none) (hg : Gl X "range") (hm : X.mg "range" = none) (ha : SE X Er a fa) (hb : SE X Er b fb)
    (na : starEach [.Call (.Name "range" p2) [a, b] [] pos2] X.env = (false, eval (.Call (.Name "range" p2) [a, b] [] pos2) X.env) :: starEach [] X.env := by rfl) (na2 : starEach [a, b] X.env = (false, eval a X.env) :: starEach [b] X.env := by rfl)
    (nb : starEach [b] X.env = (false, eval b X.env) :: starEach [] X.env := by rfl) (hp : (backTo pos2 (starEach [b] X.env)).any (·.1) = false := by rfl) :
    SE X Er (.Call (.Name "list" p) [.Call (.Name "range" p2) [a, b] [] pos2] [] pos) (dListR2 fa fb) := by
  obtain ⟨ta, pa, qa⟩ := ha.ex
  obtain ⟨tb, pb, qb⟩ := hb.ex
  refine ⟨_, pe_listRg hc hgl hml (prg_2 hg hm pa pb na2 nb hp) na, fun τ H ρ σ S Q T h => qa τ H ρ σ S _ T ((link h).mono (fun d S1 h1 => ?_) fun _ _ _ q => q)⟩
  intro v H1 ρ1 t1 hr1 dv
  refine qb τ H1 ρ1 σ S1 _ (T.to t1 hr1) ((link h1).mono (fun e S2 h2 => ?_) fun _ _ _ q => q.to t1)
  intro w H2 ρ2 t2 hr2 dw
  split at h2
  · rename_i i j
    cases dv.to t2
    cases dw
    obtain ⟨c, h2⟩ := ite_sat h2
    obtain ⟨hl, h2⟩ := newL_ok h2
    exact ⟨i, j, rfl, rfl, ⟨c.1.1, c.1.2, c.2.1.1, c.2.1.2, by have := c.2.2; omega⟩, fun q hq => new_lst hr2 (vs := rgV i j) (rg_dvs i _) hq fun v H' ρ' t' => h2 v H' ρ' ((t1.trans t2).trans t')⟩
  · exact h2.elim
/-- {} -/
def dNewD : FE := fun _ S => .ok (.box S.length) (S ++ [.dk []])
theorem se_newD {pos : Pos} : SE X Er (.Dict [] [] pos) dNewD := by
  refine ⟨_, pe_dnewK, fun τ H ρ σ S Q T h p hp => ?_⟩
  have hr' := T.hr.newB (b := .dk []) (o := .dK []) hp ⟨[], upd_same, .nil⟩
  refine h _ _ (ρ ++ [p]) ⟨Ext.new hp, List.prefix_append _ _⟩ hr' (.box ?_)
  rw [← T.hr.len, List.getElem?_append_right (Nat.le_refl _), Nat.sub_self]; rfl
end
end Mn
set_option Elab.async false
set_option linter.all false
set_option maxRecDepth 100000
set_option maxHeartbeats 4000000
/-! MnX: raise, try, on plain data. -/
namespace Mn
open PySem PySem.Spec PyProof.Rows L2
/-- one except clause: the class that it names, the slot of its own name, what its suite reads -/
structure Clause where
  cls : Value
  slot : Option Nat
  ts : Addr → Value → Option Addr → TS
def goneE (D : Ends) (i : Nat) : Ends := { nx := fun τ H => D.nx (τ.set i none) H, rt := D.rt, bk := fun τ H => D.bk (τ.set i none) H, ct := fun τ H => D.ct (τ.set i none) H }
/-- what clauses ask of an exception that one of them meets -/
def wishC (K : PySem.W.Frag) (D : Ends) : List Clause → WX
  | [] => fun _ _ _ _ => False
  | c :: r => fun cls d τ H => ∃ b, PySem.W.exmOne K cls c.cls = some b ∧ (b = false → wishC K D r cls d τ H) ∧ (b = true → ∀ a, H a = none → match c.slot with
    | none => c.ts a cls d D τ H
    | some i => c.ts a cls d (goneE D i) (τ.set i (some (.ref a))) H)
/-- a suite's reading, for whatever exception is held -/
def SuiteOk (X : Cx) (b : List Stmt) (ts : Addr → Value → Option Addr → TS) : Prop :=
  ∀ (a : Addr) (o : Obj) (cls : Value) (d : Option Addr) (pn : List (Addr × Obj)), Zc cls d o → (∃ vs, o.data = .fields vs) → PSs (X.suite a ((a, o) :: pn)) b (ts a cls d)
inductive ClOk (X : Cx) : ExceptHandler → Clause → Prop
  | only {x : Str} {c : Value} {ts : Addr → Value → Option Addr → TS} {b : Stmt} {r : List Stmt} {p1 p2 : Pos} (hc : Names X x c) (hs : SuiteOk X (b :: r) ts) : ClOk X (.ExceptHandler (some (.Name x p1)) none (b :: r) p2) ⟨c, none, ts⟩
  | named {x n : Str} {i : Nat} {c : Value} {ts : Addr → Value → Option Addr → TS} {b : Stmt} {r : List Stmt} {p1 p2 : Pos} (hc : Names X x c) (hN : X.N.Nodup) (hi : X.N[i]? = some n) (hn : X.env.kindOf n = some .local) (hs : SuiteOk X (b :: r) ts) :
      ClOk X (.ExceptHandler (some (.Name x p1)) (some n) (b :: r) p2) ⟨c, some i, ts⟩
inductive ClsOk (X : Cx) : List ExceptHandler → List Clause → Prop
  | nil : ClsOk X [] []
  | cons {h : ExceptHandler} {c : Clause} {hs : List ExceptHandler} {cs : List Clause} : ClOk X h c → ClsOk X hs cs → ClsOk X (h :: hs) (c :: cs)
section
variable {X : Cx} {body : List Stmt} {h0 : ExceptHandler} {hr : List ExceptHandler} {cl : List Clause} {pos : Pos} {tb : WX → TS}
/-- an exception that has landed where X stands, its ground B -/
structure Down (X : Cx) (pins : List (Addr × Obj)) (a : Addr) (B : Heap) (cls : Value) (d : Option Addr) (τ : L2.St) (H : Hp) (s : Shared) : Prop where
  inv : Inv X pins τ H s
  fly : HandSPX.FlyingZ B (X.env :: X.outer) a (Zc cls d) s.heap
  na : H a = none
  nl : a ≠ X.env.locals
  nf : a ∉ X.fs
  go : ∀ h', HandSPX.FlyingZ B (X.env :: X.outer) a (Zc cls d) h' → s.heap.UpToSlots h' → Inv X pins τ H { s with heap := h' }
/-- the clauses, one behind the other -/
theorem clauses_ok {pins : List (Addr × Obj)} {D : Ends} {a : Addr} {B : Heap} {cls : Value} {d : Option Addr} {τ : L2.St} {H : Hp} {s : Shared} (G : Down X pins a B cls d τ H s) :
    ∀ {hs : List ExceptHandler} {cs : List Clause}, ClsOk X hs cs → wishC X.K D cs cls d τ H → wpAny (model X.prog X.w) X.A (handleBy (.ref a) X.env hs) (SP X pins D) X.xe s := by
  intro hs cs hk
  induction hk with
  | nil => exact fun w => w.elim
  | @cons h c hs cs hc hr ih =>
    rintro ⟨b, hb, no, yes⟩
    have ok := G.inv.ok
    obtain ⟨o3, v3, e3, z3, q3⟩ := G.fly.there
    have S3 := G.inv.suite e3 q3 G.na G.nl G.nf
    have ty : PySem.W.Looks (model X.prog X.w) s.heap (typeOf (.ref a)) cls := fun _ _ _ _ k q => wpAny_typeOf_ref (k _ _ e3) (by rw [z3.1]; exact q)
    have meets := PySem.W.exm_one (M := model X.prog X.w) G.inv.kIn ty hb
    have name : ∀ {x : Str} {v : Value} {p1 : Pos} {Q E : Value → Shared → Prop}, Names X x v → Q v s → wpAny (model X.prog X.w) (X.A.mark (some (.ref a))) (eval (.Name x p1) X.env) Q E s := fun {x v p1 Q E} hv q => by
      obtain ⟨g, hdb, m | ⟨m, bt, nn⟩⟩ := hv
      · exact ld_glob (X := X.suite a ((a, o3) :: (X.pn ++ pins))) S3 g m q hdb
      · exact ld_blt (X := X.suite a ((a, o3) :: (X.pn ++ pins))) S3 g m bt q nn hdb
    cases hc with
    | only hv hsu =>
      refine wpAny_handleBy_cons (codeAny_handlers_test (name hv (meets.here ?_))) (by intro z; cases z)
      cases b with
      | false => exact ih (no rfl)
      | true =>
        refine codeAny_handlers_suite (HandSPX.lands_againZ G.fly fun h4 f4 u4 => ?_)
        have J := G.go h4 f4 u4
        obtain ⟨o4, v4, e4, z4, q4⟩ := f4.there
        have S4 := J.suite e4 q4 G.na G.nl G.nf
        refine wpAny_mono ((hsu a o4 cls d (X.pn ++ pins) z4 ⟨_, q4⟩).run [] _ _ H _ S4 (yes rfl a G.na)) (fun f s6 hsp => ?_) fun _ _ z => z.elim
        cases f with
        | next => obtain ⟨τ6, H6, J6, k6⟩ := hsp; exact ⟨τ6, H6, J6.unsuite ok, k6⟩
        | brk => obtain ⟨τ6, H6, J6, k6⟩ := hsp; exact ⟨τ6, H6, J6.unsuite ok, k6⟩
        | cont => obtain ⟨τ6, H6, J6, k6⟩ := hsp; exact ⟨τ6, H6, J6.unsuite ok, k6⟩
        | ret u => obtain ⟨v, τ6, H6, J6, r6, k6⟩ := hsp; exact ⟨v, τ6, H6, J6.unsuite ok, r6, k6⟩
    | @named x n i v ts b₀ r p1 p2 hv hN hi hn hsu =>
      refine wpAny_handleBy_cons (codeAny_handlers_test (name hv (meets.here ?_))) (by intro z; cases z)
      cases b with
      | false => exact ih (no rfl)
      | true =>
        refine codeAny_handlers_suite_as (HandSPX.lands_againZ G.fly fun h4 f4 u4 => ?_)
        have J := G.go h4 f4 u4
        obtain ⟨o4, v4, e4, z4, q4⟩ := f4.there
        have S4 := J.suite e4 q4 G.na G.nl G.nf
        refine store_ok (X := X.suite a ((a, o4) :: (X.pn ++ pins))) (v := .ref a) S4 hN hi (.inl hn) rfl (fun s5 S5 => ?_) (.inr hn)
        refine wpAny_mono ((hsu a o4 cls d (X.pn ++ pins) z4 ⟨_, q4⟩).run [] s5 _ H _ S5 (yes rfl a G.na)) (fun f s6 hsp => ?_) fun _ _ z => z.elim
        have off : ∀ {τ6 : L2.St} {H6 : Hp} {Q : Shared → Prop}, Inv (X.suite a ((a, o4) :: (X.pn ++ pins))) [] τ6 H6 s6 → (∀ s7, Inv X pins (τ6.set i none) H6 s7 → Q s7) →
          wpAny (model X.prog X.w) X.A (do bindName X.env n .none; unbindBehindTheSuite X.env n p2) (fun _ s7 => Q s7) X.xe s6 := fun J6 k => gone_ok (J6.unsuite ok) hN hi hn k
        cases f with
        | next => obtain ⟨τ6, H6, J6, k6⟩ := hsp; exact off J6 fun s7 J7 => ⟨_, _, J7, k6⟩
        | brk => obtain ⟨τ6, H6, J6, k6⟩ := hsp; exact off J6 fun s7 J7 => ⟨_, _, J7, k6⟩
        | cont => obtain ⟨τ6, H6, J6, k6⟩ := hsp; exact off J6 fun s7 J7 => ⟨_, _, J7, k6⟩
        | ret u => obtain ⟨v, τ6, H6, J6, r6, k6⟩ := hsp; exact off J6 fun s7 J7 => ⟨v, _, _, J7, r6, k6⟩
/-- try: body, then clauses of which one meets whatever the body raises -/
theorem ps_tryC (hst : X.stack = X.env :: X.outer) (hfr : X.env.frame = some X.env.locals)
    (hb : ∀ (W : WX) (pn : List (Addr × Obj)) (xe : Value → Shared → Prop), Takes (X.tr pn xe) W → PassesOwn (model X.prog X.w) X.A X.env xe → PSs (X.tr pn xe) body (tb W))
    (hc : ClsOk X (h0 :: hr) cl) : PS X (.Try body (h0 :: hr) [] [] pos) (fun D τ H => tb (wishC X.K D cl) D τ H) := by
  constructor
  intro pins s τ H D I w
  have ok := I.ok
  have fr : X.A.frames = some (X.env :: X.outer) := by rw [ok.frames, hst]
  refine wpAny_Try_except (wpAny_mono ((hb (wishC X.K D cl) (X.pn ++ pins) (fun e s1 => wpAny (model X.prog X.w) X.A (noteFrame e X.env) (fun _ s2 => wpAny (model X.prog X.w) X.A (setFlight e none) (fun _ s3 => wpAny (model X.prog X.w) X.A (handleBy e X.env (h0 :: hr)) (SP X pins D) X.xe s3) X.xe s2) X.xe s1)
    (fun u s1 x => ?_) PassesOwn.looking).run [] s τ H D (I.toTry _) w) (fun f s1 hsp => ?_) fun e s1 z => z)
  · obtain ⟨a, B, sI, ps', τ1, H1, cls, d, rfl, J0, nb, up, sky, na, os, ag, w1⟩ := x
    have J : Inv X pins τ1 H1 sI := J0.ofTry ok
    rw [show (X.tr (X.pn ++ pins) _).stack = X.stack from rfl, hst] at sky
    show wpAny (model X.prog X.w) X.A (noteFrame (.ref a) X.env) _ _ _
    refine Sky.land Zc.steady fr hfr sky fun h3 f3 u3 => ?_
    obtain ⟨o3, v3, e3, z3, q3⟩ := f3.there
    have off : a ∉ frs (X.env :: X.outer) := fun hm => by
      obtain ⟨_, o', e', k'⟩ := f3.2.2.1.mem hm
      rw [e3] at e'; cases e'
      exact k' _ q3
    refine clauses_ok (s := { s1 with heap := h3 }) ⟨J.landed nb f3.1 (up.trans u3) os ag, f3, na, fun z => off (List.mem_filterMap.mpr ⟨X.env, List.mem_cons_self, by rw [hfr, z]⟩), fun hm => ?_, fun h4 f4 u4 => J.landed nb f4.1 ((up.trans u3).trans u4) os ag⟩ hc w1
    obtain ⟨e, he, q⟩ := List.mem_filterMap.mp hm
    exact off (List.mem_filterMap.mpr ⟨e, List.mem_cons_of_mem _ he, q⟩)
  · cases f with
    | next => obtain ⟨τ1, H1, J1, k1⟩ := hsp; exact wpAny_execs_nil ⟨τ1, H1, J1.ofTry ok, k1⟩
    | brk => obtain ⟨τ1, H1, J1, k1⟩ := hsp; exact ⟨τ1, H1, J1.ofTry ok, k1⟩
    | cont => obtain ⟨τ1, H1, J1, k1⟩ := hsp; exact ⟨τ1, H1, J1.ofTry ok, k1⟩
    | ret u => obtain ⟨v, τ1, H1, J1, r1, k1⟩ := hsp; exact ⟨v, τ1, H1, J1.ofTry ok, r1, k1⟩
end
/-! ### the classes; an exception's fields -/
/-- the classes by number: where each stands, its fields -/
abbrev CT := Nat → Option (Addr × List Str)
/-- 18 is the base of all others -/
def subC (c k : Nat) : Bool := c == k || k == 18
def FldR (K : PySem.W.Frag) (H : Hp) (ρ : List Addr) (ns : List Str) (fs : List (Str × V)) (es : List Dt) : Prop := ∀ (j : Nat) f d, ns[j]? = some f → es[j]? = some d → ∃ v, fs.lookup f = some v ∧ DV K H ρ d v
/-- an exception of the class c with these fields, its dict at dd -/
def ExR (K : PySem.W.Frag) (ct : CT) (H : Hp) (ρ : List Addr) (c : Nat) (es : List Dt) (C dd : Addr) : Prop := ∃ ns fs, ct c = some (C, ns) ∧ H dd = some (.xd fs) ∧ FldR K H ρ ns fs es
def eoX (K : PySem.W.Frag) (ct : CT) (E : XK) : ER := fun c es S H ρ => ∀ C dd, HR K H ρ S → ExR K ct H ρ c es C dd → E (.ref C) (some dd) H
/-- a method of a class's text -/
def methS (st : Stmt) (j : Nat) : Stmt := match st with
  | .ClassDef _ _ _ b _ _ _ _ _ _ _ => b.getD j (.Pass ⟨0, 0, 0, 0⟩)
  | _ => .Pass ⟨0, 0, 0, 0⟩
/-- what __init__ of such a class does -/
def spI (C : Addr) (ns : List Str) : Sp := fun vs H Q _ => ∃ a ws, vs = .ref a :: ws ∧ ws.length = ns.length ∧ H a = some (exo a C none) ∧
  ∀ d fs H', H d = none → d ≠ a → H' a = some (exo a C (some d)) → H' d = some (exd d fs) → (∀ b, b ≠ a → b ≠ d → H' b = H b) → (∀ (j : Nat) f w, ns[j]? = some f → ws[j]? = some w → fs.lookup f = some w) → Q .non H'
theorem init_pure1 {K : PySem.W.Frag} {C : Addr} {f : Str} {vs : List V} {H : Hp} {Q : VK} {E : XK} (T : OexC K C) (hno : PySem.W.findIn K (.ref C) f = some none) (h : spI C [f] vs H Q E) :
    tOst K f (tVar 0) (tVar 1) { nx := fun _ H' => Q .non H', rt := Q } (L2.start ["self", f] vs) H := by
  obtain ⟨a, ws, rfl, hl, ha, k⟩ := h
  match ws, hl with
  | [y], _ =>
    refine ⟨y, rfl, .ref a, rfl, a, C, rfl, T, hno, .inl ⟨ha, fun dx n ne => k dx [(f, y)] _ n ne upd_same ?_ (fun b h1 h2 => ?_) fun j g w hg hw => ?_⟩⟩
    · rw [upd_ne ne]; exact upd_same
    · rw [upd_ne h1, upd_ne h2]
    · cases j with
      | zero => simp at hg hw; subst hg; subst hw; simp [List.lookup]
      | succ j => simp at hg
section
variable {X : Cx} {ct : CT} {E : XK} {H H1 : Hp} {ρ ρ1 : List Addr} {σ : Sg} {S S1 : Bxs} {τ : L2.St}
def sRaise (c : Nat) (fa : FA) : FS := fun σ S => (fa σ S).bind fun ds S1 => .ex c ds S1
theorem ss_raise (n c : Nat) {C fI : Addr} {ns : List Str} {fd : FuncData} {ps : List Str} {x : Str} {e : Expr} {es : List Expr} {fa : FA} {k : Nat} {p pos pos2 : Pos} (hc : X.calm = true) (tk : Takes X (fun cls d _ H => E cls d H)) (T : OexC X.K C)
    (iC : PySem.W.findIn X.K (.ref C) "__init__" = some (some (.ref fI))) (tI : PySem.W.typeIn X.K (.ref fI) = some (.type "function")) (FI : FnOk X.prog X.w X.K X.mg X.base CX0 k fI fd ps (spI C ns)) (hr : Room (k + 1) X.A) (hb : Binds X.K fd ps [])
    (hg : Gl X x) (hm : X.mg x = some (.ref C)) (hct : ct c = some (C, ns)) (ha : SA X (eoX X.K ct E) (e :: es) fa) (hn : ∀ σ S ds S', fa σ S = .ok ds S' → ds.length = n) (hl : ns.length = n) (h1 : n ≤ 1000)
    (hdb : (x == ("__debug__" : Str)) = false := by decide) (he : starEach (e :: es) X.env = (false, eval e X.env) :: starEach es X.env := by rfl) (hpl : (backTo pos (starEach es X.env)).any (·.1) = false := by rfl) :
    SS X (eoX X.K ct E) (.Raise (some (.Call (.Name x p) (e :: es) [] pos)) none pos2) (sRaise c fa) := by
  obtain ⟨ta, pa, qa⟩ := ha.ex
  refine ⟨_, ps_raise hc tk (pmk_oex T iC tI FI hr hb .nil pass0 hg hm pa hdb he hpl), fun τ H ρ σ S D Ty h => ?_⟩
  have h := link h
  have h' : (fa σ S).Sat (fun ds S1 => ds.length = n ∧ KX (eoX X.K ct E) H ρ c ds S1) (KX (eoX X.K ct E) H ρ) := by
    cases e0 : fa σ S with
    | ok ds S1 => rw [e0] at h; exact ⟨hn σ S ds S1 e0, h⟩
    | ex c ds S1 => rw [e0] at h; exact h
    | no => rw [e0] at h; exact h
  refine qa τ H ρ σ S _ Ty (h'.mono (fun ds S1 q => ?_) fun _ _ _ q => q)
  obtain ⟨q1, q2⟩ := q
  intro vs H1 ρ1 t1 hr1 dvs
  have vl : vs.length = n := by rw [← dvs.length]; exact q1
  refine ⟨by rw [vl]; exact h1, fun a hna => ⟨a, vs ++ [], rfl, by rw [List.append_nil, vl, hl], upd_same, fun d fs H' hd hda ea ed hk hf => ⟨rfl, d, fs, ea, ed, ?_, ?_⟩⟩⟩
  · rw [upd_ne hda] at hd; exact hd
  · have hd1 : H1 d = none := by rw [upd_ne hda] at hd; exact hd
    have eq : upd (L2.del H' a) d (.xd fs) = upd H1 d (.xd fs) := by
      funext b
      by_cases hbd : b = d
      · rw [hbd, upd_same, upd_same]
      · rw [upd_ne hbd, upd_ne hbd]
        by_cases hba : b = a
        · rw [hba, L2.del_same, hna]
        · rw [L2.del_ne hba, hk b hba hbd, upd_ne hba]
    show E (.ref C) (some d) (upd (L2.del H' a) d (.xd fs))
    rw [eq]
    refine q2 _ ρ1 (t1.trans ⟨Ext.new hd1, List.prefix_refl _⟩) C d (hr1.tup hd1) ⟨ns, fs, hct, upd_same, fun j f x hj hx => ?_⟩
    obtain ⟨v, hv, dv⟩ := dvs.get hx
    exact ⟨v, hf j f v hj (by rw [List.append_nil]; exact hv), dv.mono (Ext.new hd1) (List.prefix_refl _)⟩
/-! ### calls -/
def quietF (F : FN) : FN := fun ds S => (F ds S).quiet
theorem FnD.quiet {P : Program} {w : World} {K : PySem.W.Frag} {mg : Str → Option Value} {base : Heap} {CX : CXT} {eo : XK → ER} {k : Nat} {f : Addr} {fd : FuncData} {ps : List Str} {F : FN} (Er : ER) (h : FnD P w K mg base CX eo k f fd ps F) :
    FnD P w K mg base CX (fun _ => Er) k f fd ps (quietF F) := ⟨fun A outer s H args us vs ρ S ds Q E hg hr e0 b r hl hR dvs hs => h.run A outer s H args us vs ρ S ds Q E hg hr e0 b r hl hR dvs (quiet_sat hs)⟩
/-- of a def that lets nothing out, where exceptions may fly -/
theorem se_callQ {Er : ER} {eo : XK → ER} {k : Nat} {f : Addr} {fd : FuncData} {ps : List Str} {F : FN} {x : Str} {p pos : Pos} {e : Expr} {es : List Expr} {fa : FA} (n : Nat) (FD : FnD X.prog X.w X.K X.mg X.base CX0 eo k f fd ps F) (hgd : X.A.guards = some []) (hr : Room k X.A) (hg : Gl X x) (hm : X.mg x = some (.ref f))
    (hk : PySem.W.keepIn X.K (.ref f) = true) (hb : Binds X.K fd ps []) (ha : SA X Er (e :: es) fa) (hn : ∀ σ S ds S', fa σ S = .ok ds S' → ds.length = n) (hps : ps.length = n)
    (hdb : (x == ("__debug__" : Str)) = false := by decide) (he : starEach (e :: es) X.env = (false, eval e X.env) :: starEach es X.env := by rfl) (hpl : (backTo pos (starEach es X.env)).any (·.1) = false := by rfl) :
    SE X Er (.Call (.Name x p) (e :: es) [] pos) (dCall (quietF F) fa) := se_call n (FD.quiet Er) hgd hr hg hm hk hb (E := E0) pass0 (fun _ _ _ _ _ h => h) ha hn hps hdb he hpl
/-! ### a try -/
def enc (σ : Sg) : Dt := .tup (σ.map fun o => match o with | none => .non | some d => .tup [d])
abbrev Hds := List (Nat × (List Dt → FS))
def pickH : Hds → Nat → List Dt → FS
  | [], _, _ => fun _ _ => .no
  | (k, h) :: r, c, es => if subC c k = true then h es else pickH r c es
def canSs (K : PySem.W.Frag) (Er : ER) (f : FS) : TS := fun D τ H => ∃ ρ σ S, Ty K H ρ σ S τ ∧ (f σ S).Sat (KF K H ρ D) (KX Er H ρ)
theorem SSs.can {Er : ER} {st : List Stmt} {f : FS} (h : SSs X Er st f) : PSs X st (canSs X.K Er f) := by
  obtain ⟨t, p, q⟩ := h.ex
  exact ⟨fun pins s τ H D I ⟨ρ, σ, S, T, w⟩ => p.run pins s τ H D I (q τ H ρ σ S D T w)⟩
structure HsD (X : Cx) (ct : CT) (hs : List ExceptHandler) (pl : Hds) : Prop where
  ex : ∃ cl, ClsOk X hs cl ∧ ∀ D H ρ c es C dd σ S τ, ExR X.K ct H ρ c es C dd → Ty X.K H ρ σ S τ → (pickH pl c es σ S).Sat (KF X.K H ρ D) (KX noEr H ρ) → wishC X.K D cl (.ref C) (some dd) τ H
theorem hd_nil : HsD X ct [] [] := ⟨[], .nil, fun D H ρ c es C dd σ S τ _ _ h => h.elim⟩
theorem hd_only (k : Nat) {x : Str} {Ck : Addr} {b : Stmt} {r : List Stmt} {hs : List ExceptHandler} {pl : Hds} {f : FS} {p1 p2 : Pos} (hc : Names X x (.ref Ck)) (hx : ∀ c C ns, ct c = some (C, ns) → PySem.W.exmOne X.K (.ref C) (.ref Ck) = some (subC c k))
    (hb : ∀ a pn, SSs (X.suite a pn) noEr (b :: r) f) (rest : HsD X ct hs pl) : HsD X ct (.ExceptHandler (some (.Name x p1)) none (b :: r) p2 :: hs) ((k, fun _ => f) :: pl) := by
  obtain ⟨cl, h1, h2⟩ := rest.ex
  refine ⟨⟨.ref Ck, none, fun _ _ _ => canSs X.K noEr f⟩ :: cl, .cons (.only hc fun a o cls d pn _ _ => (hb a _).can) h1, fun D H ρ c es C dd σ S τ hx2 T h => ?_⟩
  obtain ⟨ns, fs, e1, e2, e3⟩ := id hx2
  refine ⟨_, hx c C ns e1, fun hq => ?_, fun hq a _ => ⟨ρ, σ, S, T, ?_⟩⟩
  · rw [show pickH ((k, fun _ => f) :: pl) c es = (if subC c k = true then f else pickH pl c es) from rfl, if_neg (by rw [hq]; decide)] at h
    exact h2 D H ρ c es C dd σ S τ hx2 T h
  · rw [show pickH ((k, fun _ => f) :: pl) c es = (if subC c k = true then f else pickH pl c es) from rfl, if_pos hq] at h
    exact h
/-- return z, e.f -/
def hRet (i : Nat) (z : Str) (j : Nat) : List Dt → FS := fun es σ S => match es[j]? with
  | some d => if i < σ.length then .ok (.rt (.tup [.str z, d]), σ) S else .no
  | none => .no
theorem hd_ret (k i j : Nat) {x n fld z : Str} {Ck : Addr} {ns : List Str} {hs : List ExceptHandler} {pl : Hds} {q1 q2 : Nat} {p1 p2 p3 p4 p5 p6 p7 : Pos} (hc : Names X x (.ref Ck)) (hx : ∀ c C ns, ct c = some (C, ns) → PySem.W.exmOne X.K (.ref C) (.ref Ck) = some (subC c k))
    (hk : ∀ c, subC c k = true → c = k) (hck : ct k = some (Ck, ns)) (hj : ns[j]? = some fld) (XF : XfC X.K Ck) (hno : PySem.W.findIn X.K (.ref Ck) fld = some none) (hN : X.N.Nodup) (hi : X.N[i]? = some n) (hn : X.env.kindOf n = some .local) (hv : Vis X.env.scope n) (hd : (n == ("__debug__" : Str)) = false) (hcd : (n == ("__classdict__" : Str)) = false)
    (hab : attributeBase (.Name n p4) fld X.env (eval (.Name n p4) X.env) = eval (.Name n p4) X.env)
    (rest : HsD X ct hs pl) : HsD X ct (.ExceptHandler (some (.Name x p1)) (some n) [.Return (some (.Tuple [.Constant (.str z) q1 p3, .Attribute (.Name n p4) fld p5] q2 p6)) p7] p2 :: hs) ((k, hRet i z j) :: pl) := by
  obtain ⟨cl, h1, h2⟩ := rest.ex
  refine ⟨⟨.ref Ck, some i, fun a cls d => tRet (tTupZ (tCons (tC (.str z)) (tCons (tXf a cls d Ck fld (tVar i)) tNil)))⟩ :: cl,
    .cons (.named hc hN hi hn fun a o cls d pn hz hf => pss_one (ps_ret (pe_tupZ (pa_cons pe_str (pa_cons (pe_xf XF hno hz hf (pe_var hi hv hd hcd) hab) pa_nil))))) h1, fun D H ρ c es C dd σ S τ hx2 T h => ?_⟩
  obtain ⟨ms, fs, e1, e2, e3⟩ := id hx2
  refine ⟨_, hx c C ms e1, fun hq => ?_, fun hq a _ => ?_⟩
  · rw [show pickH ((k, hRet i z j) :: pl) c es = (if subC c k = true then hRet i z j es else pickH pl c es) from rfl, if_neg (by rw [hq]; decide)] at h
    exact h2 D H ρ c es C dd σ S τ hx2 T h
  · rw [show pickH ((k, hRet i z j) :: pl) c es = (if subC c k = true then hRet i z j es else pickH pl c es) from rfl, if_pos hq] at h
    have hck2 := hk c hq
    subst hck2
    rw [hck] at e1
    cases e1
    unfold hRet at h
    cases ej : es[j]? with
    | none => rw [ej] at h; exact h.elim
    | some d =>
      rw [ej] at h
      by_cases hil : i < σ.length
      · have h : (if i < σ.length then Rs.ok (Fl.rt (.tup [.str z, d]), σ) S else .no).Sat (KF X.K H ρ D) (KX noEr H ρ) := h
        rw [if_pos hil] at h
        obtain ⟨v, hv1, dv⟩ := e3 j fld d hj ej
        have hlt : i < τ.length := by rw [← T.sl.len]; exact hil
        refine ⟨.ref a, by rw [List.getElem?_set_self hlt], rfl, rfl, dd, fs, v, rfl, e2, hv1, ?_⟩
        refine ⟨Nat.le_of_ble_eq_true (by rfl), ?_⟩
        exact new_tup T.hr (.cons (.str z) (.cons dv .nil)) h
      · have h : (if i < σ.length then Rs.ok (Fl.rt (.tup [.str z, d]), σ) S else .no).Sat (KF X.K H ρ D) (KX noEr H ρ) := h
        rw [if_neg hil] at h
        exact h.elim
end
/-! ### is True, is not True -/
/-! ### the table -/
def ctL (l : List (Nat × Addr × List Str)) : CT := fun c => l.lookup c
theorem ctL_mem {l : List (Nat × Addr × List Str)} {c : Nat} {C : Addr} {ns : List Str} (h : ctL l c = some (C, ns)) : (c, C, ns) ∈ l := by
  unfold ctL at h
  induction l with
  | nil => cases h
  | cons x l ih =>
    obtain ⟨k, D, ms⟩ := x
    by_cases e : c = k
    · subst e
      simp [List.lookup] at h
      rw [h.1, h.2]; exact List.mem_cons_self
    · have : (c == k) = false := by simpa using e
      simp [List.lookup, this] at h
      exact List.mem_cons_of_mem _ (ih h)
theorem ctL_all {l : List (Nat × Addr × List Str)} {P : Nat → Addr → Prop} (h : ∀ x ∈ l, P x.1 x.2.1) : ∀ c C ns, ctL l c = some (C, ns) → P c C := fun c C ns e => h _ (ctL_mem e)
/-- an exception of the class at S, held against the class at T -/
theorem exm_of {K : PySem.W.Frag} {S T : Addr} {b : Bool} (h1 : PySem.W.subIn K (.ref T) (.type "BaseException") = some true) (h2 : PySem.W.isClsIn K T = true) (h3 : PySem.W.typeIn K (.ref T) = some (.type "type")) (h4 : PySem.W.subIn K (.ref S) (.ref T) = some b) :
    PySem.W.exmOne K (.ref S) (.ref T) = some b := by
  have e1 : (PySem.W.subIn K (.ref T) (.type "BaseException") == some true) = true := by rw [h1] <;> rfl
  have e2 : ((PySem.W.clsIn K T).isSome && PySem.W.typeIn K (.ref T) == some (.type "type")) = true := by
    rw [show (PySem.W.clsIn K T).isSome = true from h2, h3] <;> rfl
  show (if (PySem.W.subIn K (.ref T) (.type "BaseException") == some true) = true then (if ((PySem.W.clsIn K T).isSome && PySem.W.typeIn K (.ref T) == some (.type "type")) = true then PySem.W.subIn K (.ref S) (.ref T) else none) else none) = some b
  rw [if_pos e1, if_pos e2]
  exact h4
/-! ### tuple(range(n)) -/
/-! ### texts walked, compared -/
/-! ### truth of values -/
def truD (S : Bxs) : Dt → Option Bool
  | .non => some false
  | .bl b => some b
  | .int i => some (i != 0)
  | d => (seqOf S d).map fun xs => !xs.isEmpty
section
variable {X : Cx} {Er : ER} {K : PySem.W.Frag} {H : Hp} {ρ : List Addr} {S : Bxs}
theorem tru_of {d : Dt} {v : V} {b : Bool} (hr : HR K H ρ S) (dv : DV K H ρ d v) (h : truD S d = some b) : TruV K v H b := by
  cases dv with
  | non => cases h; rfl
  | bl c => cases h; rfl
  | int i => cases h; rfl
  | str x => cases h
  | @tup a ds vs ht hd =>
    obtain ⟨xs, e1, e2⟩ := Option.map_eq_some_iff.mp (show (seqOf S (.tup ds)).map (fun xs => !xs.isEmpty) = some b from h)
    obtain ⟨a', ws, ea, hs, hd'⟩ := seq_of hr (.tup ht hd) e1
    cases ea
    have hl := hd'.length
    have : b = !ws.isEmpty := by
      rw [← e2]
      cases xs <;> cases ws <;> first | rfl | cases hl
    rcases hs with hs | hs
    · exact .inl ⟨ws, hs, this⟩
    · exact .inr (.inl ⟨ws, hs, this⟩)
  | @box n a ha =>
    obtain ⟨xs, e1, e2⟩ := Option.map_eq_some_iff.mp (show (seqOf S (.box n)).map (fun xs => !xs.isEmpty) = some b from h)
    obtain ⟨a', ws, ea, hs, hd'⟩ := seq_of hr (.box ha) e1
    cases ea
    have hl := hd'.length
    have : b = !ws.isEmpty := by
      rw [← e2]
      cases xs <;> cases ws <;> first | rfl | cases hl
    rcases hs with hs | hs
    · exact .inl ⟨ws, hs, this⟩
    · exact .inr (.inl ⟨ws, hs, this⟩)
def dTru (f : FE) : FB := fun σ S => (f σ S).bind fun d S1 => match truD S1 d with
  | some b => .ok b S1
  | none => .no
theorem st_truth {e : Expr} {f : FE} (h : SE X Er e f) (he : ∀ whole, isTrue e X.env whole = (do let v ← whole; standAt e.pos; holding [v] (truthy v)) := by intro _; rfl) : ST X Er e (dTru f) := by
  obtain ⟨te, p, q⟩ := h.ex
  refine ⟨_, pt_truth p he, fun τ H ρ σ S Q T h => q τ H ρ σ S _ T ((link h).mono (fun d S1 h1 => ?_) fun _ _ _ q => q)⟩
  intro v H' ρ' t hr dv
  cases e1 : truD S1 d with
  | none => rw [e1] at h1; exact h1.elim
  | some b => rw [e1] at h1; exact ⟨b, tru_of hr dv e1, h1 H' ρ' t hr⟩
end
end Mn
set_option Elab.async false
set_option linter.all false
set_option maxRecDepth 100000
set_option maxHeartbeats 4000000
/-! Mn3: zip of three lists or tuples. -/
namespace Mn
open PySem PySem.Spec PyProof.Rows L2
end Mn
set_option Elab.async false
set_option linter.all false
set_option maxRecDepth 100000
set_option maxHeartbeats 4000000
/-! Mn4: xs.extend(list or tuple), xs.count(int), t[::-1]. -/
namespace Mn
open PySem PySem.Spec PyProof.Rows L2
theorem extend_any (l : Addr) (items : Array Value) (n : Nat) (b : Addr) (items2 : Array Value) (hlong : ¬ (!items.isEmpty && Builtin.List.listTooLong (items.size + items2.size)) = true) (h1 : items.size ≤ sizeLine) (h2 : items.size + items2.size ≤ sizeLine) :
    Meets (Builtin.«list.extend» ⟨[.ref l, .ref b], []⟩) (fun _ R s => s.heap.get? l = some { cls := .type "list", dict := none, data := .seq items n, slots := #[] } ∧ (∃ (T : String) (o : Obj) (n2 : Nat), (T = "list" ∨ T = "tuple") ∧ s.heap.get? b = some o ∧ o.cls = .type T ∧ o.data = .seq items2 n2) ∧
      R (.ok (.ret Value.none)) { s with heap := s.heap.update l (Obj.mapSeq fun x => x ++ items2), toks := s.toks }) :=
  .of_wp fun prog w A R s h => by
    obtain ⟨hl, ⟨T, o, n2, hT, ho, hc, hd⟩, hR⟩ := h
    show wpAny _ A.in1 (Builtin.List.listExtendWith (.ref l) (.ref b) .none) _ _ s
    unfold Builtin.List.listExtendWith
    refine wpAny_bind (wpAny_typeOf ⟨o, ho, hc⟩ ?_)
    have e1 : (Builtin.List.listSameRef (.ref l) (.ref b) || Value.type T == Value.type "list" || Value.type T == Value.type "tuple") = true := by
      rcases hT with rfl | rfl <;> simp
    simp only [e1, if_true]
    refine wpAny_bind ?_
    unfold Builtin.List.listItems
    refine wpAny_bind (wpAny_seqItems ho hd (wpAny_pure ?_))
    refine wpAny_bind ?_
    refine wpAny_bind (wpAny_seqItems hl rfl (wpAny_pure ?_))
    rw [if_neg hlong]
    first
      | refine wpAny_bind (wpAny_pure ?_)
      | skip
    refine wpAny_bind (wpAny_updateSeq hl rfl ?_ h1 (by rw [Array.size_append]; exact Nat.le_succ_of_le h2))
    exact wpAny_pure ⟨_, rfl, hR⟩
def rExtZ (K : PySem.W.Frag) : V → List V → Hp → VK → Prop := fun x vs H Q => ∃ l b xs zs, x = .ref l ∧ vs = [.ref b] ∧ H l = some (.lst xs) ∧ (SqL K H b zs ∨ SqT K H b zs) ∧ xs.length + zs.length ≤ sizeLine ∧ Q .non (upd H l (.lst (xs ++ zs)))
section
variable {X : Cx} {Er : ER} {K : PySem.W.Frag} {H : Hp} {ρ : List Addr} {S : Bxs}
theorem mt_extZ : MtR X "list.extend" (rExtZ X.K) := by
  rintro pins s σ H x vs v us Q I rx rv ⟨l, b, xs, zs, rfl, rfl, hH, hB, hz, q⟩
  cases rx
  obtain ⟨u, rfl, ru⟩ := rv.one
  cases ru
  obtain ⟨z, its, n, r, hl, e⟩ := I.lstM hH
  have src : ∃ its2 : List Value, Vals zs its2 ∧ ∃ (T : String) (o : Obj) (n2 : Nat), (T = "list" ∨ T = "tuple") ∧ s.heap.get? b = some o ∧ o.cls = .type T ∧ o.data = .seq its2.toArray n2 := by
    rcases hB with hB | hB
    · obtain ⟨its2, r2, pl, _⟩ := I.list hB
      obtain ⟨o, n2, ho, hc, hd, hdt⟩ := pl
      exact ⟨its2, r2, "list", o, n2, .inl rfl, ho, hc, hdt⟩
    · obtain ⟨its2, r2, ⟨o, ho, hc, n2, hd⟩, _⟩ := I.tuple hB
      exact ⟨its2, r2, "tuple", o, n2, .inr rfl, ho, hc, hd⟩
  obtain ⟨its2, r2, hsrc⟩ := src
  have hl2 := r2.length
  have hsz : its.toArray.size + its2.toArray.size ≤ sizeLine := by rw [List.size_toArray, List.size_toArray]; omega
  have hlong : ¬ (!its.toArray.isEmpty && Builtin.List.listTooLong (its.toArray.size + its2.toArray.size)) = true := by
    rw [notLongL hsz, Bool.and_false]
    exact Bool.false_ne_true
  refine call_meets F.slot_list_extend ⟨_, e, rfl⟩ F.entry_list_extend (F.args_list_extend_2 _ _) (extend_any l its.toArray n b its2.toArray hlong (by rw [List.size_toArray]; omega) hsz) ⟨e, hsrc, ?_⟩
  exact ⟨.non, _, I.lset (its' := its ++ its2) hH e (by simp) (r.append r2) (by rw [List.length_append]; omega), rfl, q⟩
def extendG : GM := fun d ds S => match d, ds with
  | .box n, [e] => match S.lst n, seqOf S e with
    | some xs, some ys => if xs.length + ys.length ≤ LIM then .ok .non (S.set n (.lst (xs ++ ys))) else .no
    | _, _ => .no
  | _, _ => .no
theorem extendG_calm : CalmM extendG := by
  intro d ds S c es S'
  unfold extendG
  split
  · split
    · exact calm_ite (calm_ok _ _) _ _ _
    · exact calm_no _ _ _
  · exact calm_no _ _ _
theorem rm_extend : RMo K (rExtZ K) extendG := by
  intro H ρ S d v ds vs Q hr dv dvs h
  unfold extendG at h
  split at h
  · obtain ⟨w, rfl, dw⟩ := dvs1 dvs
    cases dv with
    | box ha =>
      split at h
      · rename_i xs ys e1 e2
        obtain ⟨c, h⟩ := ite_sat h
        obtain ⟨us, h1, h2⟩ := hr.mu ha e1
        obtain ⟨b, ws, rfl, h3, h4⟩ := seq_of hr dw e2
        exact ⟨_, b, us, ws, rfl, rfl, h1, h3, by rw [← h2.length, ← h4.length]; exact lim_le c, ko_set hr e1 ha h1 (h2.app h4) h⟩
      · exact h.elim
  · exact h.elim
end
/-! ### t[::-1] -/
/-! ### a call of a def that may raise, where it does not -/
theorem se_callQX {X : Cx} {Er : ER} {eo : XK → ER} {k : Nat} {f : Addr} {fd : FuncData} {ps : List Str} {F : FN} {x : Str} {p pos : Pos} {e : Expr} {es : List Expr} {fa : FA} (n : Nat) (FD : FnD X.prog X.w X.K X.mg X.base (L2.CX X.prog X.w) eo k f fd ps F) (hgd : X.A.guards = some []) (hr : Room k X.A) (hg : Gl X x) (hm : X.mg x = some (.ref f))
    (hk : PySem.W.keepIn X.K (.ref f) = true) (hb : Binds X.K fd ps []) (ha : SA X Er (e :: es) fa) (hn : ∀ σ S ds S', fa σ S = .ok ds S' → ds.length = n) (hps : ps.length = n)
    (hdb : (x == ("__debug__" : Str)) = false := by decide) (he : starEach (e :: es) X.env = (false, eval e X.env) :: starEach es X.env := by rfl) (hpl : (backTo pos (starEach es X.env)).any (·.1) = false := by rfl) :
    SE X Er (.Call (.Name x p) (e :: es) [] pos) (dCall (quietF F) fa) := se_call n (FD.quiet Er) hgd hr hg hm hk hb (E := E0) passL (fun _ _ _ _ _ h => h) ha hn hps hdb he hpl
end Mn
set_option Elab.async false
set_option linter.all false
set_option maxRecDepth 100000
set_option maxHeartbeats 4000000
/-! MnP: reasoning on the plain programs: rules of weakest premises. -/
namespace Mn
open PySem PySem.Spec PyProof.Rows L2
/-- Sat, closed up -/
structure Rs.Wp {α : Type} (r : Rs α) (P : α → Bxs → Prop) (E : Nat → List Dt → Bxs → Prop) : Prop where
  sat : r.Sat P E
theorem Rs.Wp.mono {α : Type} {r : Rs α} {P P' : α → Bxs → Prop} {E E' : Nat → List Dt → Bxs → Prop} (h : r.Wp P E) (hp : ∀ a s, P a s → P' a s) (he : ∀ c ds s, E c ds s → E' c ds s) : r.Wp P' E' := ⟨h.sat.mono hp he⟩
theorem sat_mk {α : Type} {a : α} {s : Bxs} {P : α → Bxs → Prop} {E : Nat → List Dt → Bxs → Prop} (h : P a s) : (Rs.ok a s).Wp P E := ⟨h⟩
section
variable {α β : Type} {σ : Sg} {S : Bxs} {E : Nat → List Dt → Bxs → Prop}
theorem w_bind {r : Rs α} {k : α → Bxs → Rs β} {P : β → Bxs → Prop} (h : r.Wp (fun a s => (k a s).Wp P E) E) : (r.bind k).Wp P E := ⟨Rs.sat_bind.mpr (h.sat.mono (fun _ _ q => q.sat) fun _ _ _ q => q)⟩
theorem w_bindP {r : Rs α} {k : α → Bxs → Rs β} {P : β → Bxs → Prop} (h : r.Wp (fun a s => (k a s).Sat P E) E) : (r.bind k).Wp P E := ⟨Rs.sat_bind.mpr h.sat⟩
theorem w_var {i : Nat} {d : Dt} {P : Dt → Bxs → Prop} (e : σ[i]? = some (some d)) (h : P d S) : (dVar i σ S).Wp P E := by unfold dVar; rw [e]; exact ⟨h⟩
theorem w_c {d : Dt} {P : Dt → Bxs → Prop} (h : P d S) : (dC d σ S).Wp P E := ⟨h⟩
theorem w_bin {g : G2} {a b : FE} {P : Dt → Bxs → Prop} (h : (a σ S).Wp (fun x S1 => (b σ S1).Wp (fun y S2 => (g x y S2).Wp P E) E) E) : (dBin g a b σ S).Wp P E := w_bind (h.mono (fun _ _ q => w_bind q) fun _ _ _ q => q)
theorem w_true {f : FE} {P : Bool → Bxs → Prop} (h : (f σ S).Wp (fun d S1 => ∃ b, d = .bl b ∧ P b S1) E) : (dTrue f σ S).Wp P E := w_bind (h.mono (fun d S1 ⟨b, e, q⟩ => by subst e; exact ⟨q⟩) fun _ _ _ q => q)
theorem w_isN {a : FE} {P : Dt → Bxs → Prop} (h : (a σ S).Wp (fun d S1 => P (.bl d.isN) S1) E) : (dIsN a σ S).Wp P E := w_bindP h
theorem w_notN {a : FE} {P : Dt → Bxs → Prop} (h : (a σ S).Wp (fun d S1 => P (.bl (!d.isN)) S1) E) : (dNotN a σ S).Wp P E := w_bindP h
theorem w_cond {c : Bool} {a b : Rs α} {P : α → Bxs → Prop} (h1 : c = true → a.Wp P E) (h2 : c = false → b.Wp P E) : (if c = true then a else b).Wp P E := by
  cases c with
  | true => rw [if_pos rfl]; exact h1 rfl
  | false => rw [if_neg Bool.false_ne_true]; exact h2 rfl
theorem w_and {a b : FB} {P : Bool → Bxs → Prop} (h : (a σ S).Wp (fun c S1 => (c = true → (b σ S1).Wp P E) ∧ (c = false → P false S1)) E) : (dAnd a b σ S).Wp P E := w_bind (h.mono (fun c S1 q => w_cond q.1 (fun z => ⟨q.2 z⟩)) fun _ _ _ q => q)
theorem w_or {a b : FB} {P : Bool → Bxs → Prop} (h : (a σ S).Wp (fun c S1 => (c = true → P true S1) ∧ (c = false → (b σ S1).Wp P E)) E) : (dOr a b σ S).Wp P E := w_bind (h.mono (fun c S1 q => w_cond (fun z => ⟨q.1 z⟩) q.2) fun _ _ _ q => q)
theorem w_not {a : FB} {P : Bool → Bxs → Prop} (h : (a σ S).Wp (fun c S1 => P (!c) S1) E) : (dNot a σ S).Wp P E := w_bindP h
theorem w_andV {a b : FE} {P : Dt → Bxs → Prop} (h : (a σ S).Wp (fun d S1 => ∃ c, d = .bl c ∧ (c = true → (b σ S1).Wp P E) ∧ (c = false → P (.bl false) S1)) E) : (dAndV a b σ S).Wp P E :=
  w_bind (h.mono (fun d S1 ⟨c, e, q1, q2⟩ => by subst e; cases c <;> first | exact q1 rfl | exact ⟨q2 rfl⟩) fun _ _ _ q => q)
theorem w_ifE {c : FB} {a b : FE} {P : Dt → Bxs → Prop} (h : (c σ S).Wp (fun k S1 => (k = true → (a σ S1).Wp P E) ∧ (k = false → (b σ S1).Wp P E)) E) : (dIf c a b σ S).Wp P E := w_bind (h.mono (fun c S1 q => w_cond q.1 q.2) fun _ _ _ q => q)
theorem w_neg {a : FE} {P : Dt → Bxs → Prop} (h : (a σ S).Wp (fun d S1 => ∃ i, d = .int i ∧ P (.int (-i)) S1) E) : (dNeg a σ S).Wp P E := w_bind (h.mono (fun d S1 ⟨b, e, q⟩ => by subst e; exact ⟨q⟩) fun _ _ _ q => q)
theorem w_nil {P : List Dt → Bxs → Prop} (h : P [] S) : (aNil σ S).Wp P E := ⟨h⟩
theorem w_consA {a : FE} {r : FA} {P : List Dt → Bxs → Prop} (h : (a σ S).Wp (fun d S1 => (r σ S1).Wp (fun ds S2 => P (d :: ds) S2) E) E) : (aCons a r σ S).Wp P E := w_bind (h.mono (fun _ _ q => w_bindP q) fun _ _ _ q => q)
theorem w_tup {a : FA} {P : Dt → Bxs → Prop} (h : (a σ S).Wp (fun ds S1 => ds.length ≤ LIM ∧ P (.tup ds) S1) E) : (dTup a σ S).Wp P E := w_bind (h.mono (fun _ _ q => by rw [if_pos q.1]; exact ⟨q.2⟩) fun _ _ _ q => q)
theorem w_newL {ds : List Dt} {P : Dt → Bxs → Prop} (hl : ds.length ≤ LIM) (h : P (.box S.length) (S ++ [.lst ds])) : (newL ds S).Wp P E := by unfold newL; rw [if_pos hl]; exact ⟨h⟩
theorem w_lst {a : FA} {P : Dt → Bxs → Prop} (h : (a σ S).Wp (fun ds S1 => (newL ds S1).Wp P E) E) : (dLst a σ S).Wp P E := w_bind h
theorem w_call {g : GC} {a : FA} {P : Dt → Bxs → Prop} (h : (a σ S).Wp (fun ds S1 => (g ds S1).Wp P E) E) : (dCall g a σ S).Wp P E := w_bind h
theorem w_sl {f : FE} {lo hi : FO} {P : Dt → Bxs → Prop} (h : (f σ S).Wp (fun d S1 => (lo σ S1).Wp (fun l S2 => (hi σ S2).Wp (fun u S3 => (slG l u d S3).Wp P E) E) E) E) : (dSl f lo hi σ S).Wp P E :=
  w_bind (h.mono (fun _ _ q => w_bind (q.mono (fun _ _ q => w_bind q) fun _ _ _ q => q)) fun _ _ _ q => q)
theorem w_oN {P : Option Int → Bxs → Prop} (h : P none S) : (oNone σ S).Wp P E := ⟨h⟩
theorem w_oS {f : FE} {P : Option Int → Bxs → Prop} (h : (f σ S).Wp (fun d S1 => ∃ i, d = .int i ∧ P (some i) S1) E) : (oSome f σ S).Wp P E := w_bind (h.mono (fun d S1 ⟨b, e, q⟩ => by subst e; exact ⟨q⟩) fun _ _ _ q => q)
theorem w_meth {T : String} {g : GM} {o : FE} {a : FA} {P : Dt → Bxs → Prop} (h : (o σ S).Wp (fun d S1 => tyD T d S1 ∧ (a σ S1).Wp (fun ds S2 => (g d ds S2).Wp P E) E) E) : (dMeth T g o a σ S).Wp P E :=
  w_bind (h.mono (fun d S1 q => by rw [if_pos q.1]; exact w_bind q.2) fun _ _ _ q => q)
/-! statements -/
theorem w_sNil {P : Fl × Sg → Bxs → Prop} (h : P (.nx, σ) S) : (sNil σ S).Wp P E := ⟨h⟩
theorem w_cons {f g : FS} {P : Fl × Sg → Bxs → Prop} (h : (f σ S).Wp (fun r S1 => (r.1 = .nx → (g r.2 S1).Wp P E) ∧ (r.1 ≠ .nx → P r S1)) E) : (sCons f g σ S).Wp P E :=
  w_bind (h.mono (fun r S1 q => by
    obtain ⟨fl, σ1⟩ := r
    cases fl <;> first | exact q.1 rfl | exact ⟨q.2 (fun z => nomatch z)⟩) fun _ _ _ q => q)
theorem w_set {i : Nat} {f : FE} {P : Fl × Sg → Bxs → Prop} (h : (f σ S).Wp (fun d S1 => P (.nx, σ.set i (some d)) S1) E) : (sSet i f σ S).Wp P E := w_bindP h
theorem w_asg {f : FE} {g : FT} {P : Fl × Sg → Bxs → Prop} (h : (f σ S).Wp (fun d S1 => (g d σ S1).Wp (fun σ1 S2 => P (.nx, σ1) S2) E) E) : (sAsg f g σ S).Wp P E := w_bind (h.mono (fun _ _ q => w_bindP q) fun _ _ _ q => q)
theorem w_par2 {i j : Nat} {a : FA} {P : Fl × Sg → Bxs → Prop} (h : (a σ S).Wp (fun ds S1 => ∃ d e, ds = [d, e] ∧ P (.nx, (σ.set i (some d)).set j (some e)) S1) E) : (sPar2 i j a σ S).Wp P E := w_bind (h.mono (fun _ _ ⟨d, e, z, q⟩ => by subst z; exact ⟨q⟩) fun _ _ _ q => q)
theorem w_par3 {i j l : Nat} {a : FA} {P : Fl × Sg → Bxs → Prop} (h : (a σ S).Wp (fun ds S1 => ∃ d e f, ds = [d, e, f] ∧ P (.nx, ((σ.set i (some d)).set j (some e)).set l (some f)) S1) E) : (sPar3 i j l a σ S).Wp P E := w_bind (h.mono (fun _ _ ⟨d, e, f, z, q⟩ => by subst z; exact ⟨q⟩) fun _ _ _ q => q)
theorem w_if {c : FB} {a b : FS} {P : Fl × Sg → Bxs → Prop} (h : (c σ S).Wp (fun k S1 => (k = true → (a σ S1).Wp P E) ∧ (k = false → (b σ S1).Wp P E)) E) : (sIf c a b σ S).Wp P E := w_bind (h.mono (fun c S1 q => w_cond q.1 q.2) fun _ _ _ q => q)
theorem w_ret {f : FE} {P : Fl × Sg → Bxs → Prop} (h : (f σ S).Wp (fun d S1 => P (.rt d, σ) S1) E) : (sRet f σ S).Wp P E := w_bindP h
theorem w_expr {f : FE} {P : Fl × Sg → Bxs → Prop} (h : (f σ S).Wp (fun _ S1 => P (.nx, σ) S1) E) : (sExpr f σ S).Wp P E := w_bindP h
theorem w_augS {o i f : FE} {g : G2} {P : Fl × Sg → Bxs → Prop} (h : (o σ S).Wp (fun a S1 => (i σ S1).Wp (fun b S2 => (getG a b S2).Wp (fun d S3 => (f σ S3).Wp (fun e S4 => (g d e S4).Wp (fun z S5 => (setG a b z S5).Wp (fun _ S6 => P (.nx, σ) S6) E) E) E) E) E) E) : (sAugS o i g f σ S).Wp P E :=
  w_bind (h.mono (fun _ _ q => w_bind (q.mono (fun _ _ q => w_bind (q.mono (fun _ _ q => w_bind (q.mono (fun _ _ q => w_bind (q.mono (fun _ _ q => w_bindP q) fun _ _ _ q => q)) fun _ _ _ q => q)) fun _ _ _ q => q)) fun _ _ _ q => q)) fun _ _ _ q => q)
theorem w_aug {i : Nat} {f : FE} {g : G2} {d : Dt} {P : Fl × Sg → Bxs → Prop} (e : σ[i]? = some (some d)) (h : (f σ S).Wp (fun e S1 => (g d e S1).Wp (fun z S2 => P (.nx, σ.set i (some z)) S2) E) E) : (sAug i g f σ S).Wp P E := by
  unfold sAug; rw [e]; exact w_bind (h.mono (fun _ _ q => w_bindP q) fun _ _ _ q => q)
theorem w_tName {i : Nat} {d : Dt} {P : Sg → Bxs → Prop} (h : P (σ.set i (some d)) S) : (tName i d σ S).Wp P E := ⟨h⟩
theorem w_tSub {o i : FE} {d : Dt} {P : Sg → Bxs → Prop} (h : (o σ S).Wp (fun a S1 => (i σ S1).Wp (fun b S2 => (setG a b d S2).Wp (fun _ S3 => P σ S3) E) E) E) : (tSubG o i d σ S).Wp P E :=
  w_bind (h.mono (fun _ _ q => w_bind (q.mono (fun _ _ q => w_bindP q) fun _ _ _ q => q)) fun _ _ _ q => q)
theorem w_body {n : Nat} {f : FS} {ds : List Dt} {P : Dt → Bxs → Prop} (h : (f (startD n ds) S).Wp (fun r S1 => (∃ d, r.1 = .rt d ∧ P d S1) ∨ (r.1 = .nx ∧ P .non S1)) E) : (bodyF n f ds S).Wp P E :=
  w_bind (h.mono (fun r S1 q => by
    obtain ⟨fl, σ1⟩ := r
    rcases q with ⟨d, e, q⟩ | ⟨e, q⟩
    · cases e; exact ⟨q⟩
    · cases e; exact ⟨q⟩) fun _ _ _ q => q)
/-! leaves -/
theorem w_add {i j : Int} {P : Dt → Bxs → Prop} (h : P (.int (i + j)) S) : (addG (.int i) (.int j) S).Wp P E := ⟨h⟩
theorem w_sub {i j : Int} {P : Dt → Bxs → Prop} (h : P (.int (i - j)) S) : (subG (.int i) (.int j) S).Wp P E := ⟨h⟩
theorem w_addI {i j : Int} {P : Dt → Bxs → Prop} (h : P (.int (i + j)) S) : (addI (.int i) (.int j) S).Wp P E := ⟨h⟩
theorem w_subI {i j : Int} {P : Dt → Bxs → Prop} (h : P (.int (i - j)) S) : (subI (.int i) (.int j) S).Wp P E := ⟨h⟩
theorem w_mul {i j : Int} {P : Dt → Bxs → Prop} (c : mulOk i j) (h : P (.int (i * j)) S) : (mulG (.int i) (.int j) S).Wp P E := by
  show (if mulOk i j then Rs.ok (Dt.int (i * j)) S else .no).Wp P E
  rw [if_pos c]; exact ⟨h⟩
theorem w_fdiv {i j : Int} {P : Dt → Bxs → Prop} (c : divOk j) (h : P (.int (i / j)) S) : (fdivG (.int i) (.int j) S).Wp P E := by
  show (if divOk j then Rs.ok (Dt.int (i / j)) S else .no).Wp P E
  rw [if_pos c]; exact ⟨h⟩
theorem w_mod {i j : Int} {P : Dt → Bxs → Prop} (c : 0 < j) (h : P (.int (i % j)) S) : (modG (.int i) (.int j) S).Wp P E := by
  show (if 0 < j then Rs.ok (Dt.int (i % j)) S else .no).Wp P E
  rw [if_pos c]; exact ⟨h⟩
theorem w_pow {i j : Int} {P : Dt → Bxs → Prop} (c : powOk i j) (h : P (.int (i ^ j.toNat)) S) : (powG (.int i) (.int j) S).Wp P E := by
  show (if powOk i j then Rs.ok (Dt.int (i ^ j.toNat)) S else .no).Wp P E
  rw [if_pos c]; exact ⟨h⟩
theorem w_cmp {p : Int → Int → Bool} {i j : Int} {P : Dt → Bxs → Prop} (h : P (.bl (p i j)) S) : (cmpG p (.int i) (.int j) S).Wp P E := ⟨h⟩
theorem w_int {i : Int} {P : Dt → Bxs → Prop} (h : P (.int i) S) : (intG [.int i] S).Wp P E := ⟨h⟩
theorem w_abs {i : Int} {P : Dt → Bxs → Prop} (h : P (.int (if i < 0 then -i else i)) S) : (absG [.int i] S).Wp P E := ⟨h⟩
theorem w_max2 {i j : Int} {P : Dt → Bxs → Prop} (h : P (.int (if j > i then j else i)) S) : (maxG [.int i, .int j] S).Wp P E := ⟨h⟩
theorem w_eqI {i j : Int} {P : Dt → Bxs → Prop} (h : P (.bl (decide (i = j))) S) : (eqG false (.int i) (.int j) S).Wp P E := by
  have e : eqG false (.int i) (.int j) S = .ok (.bl (decide (i = j))) S := by
    unfold eqG pdo DEEP pd
    simp only [PyData.eqv, SeqAt.shaped]
    rfl
  rw [e]; exact ⟨h⟩
theorem seq_lst {n : Nat} {xs : List Dt} (e : S[n]? = some (.lst xs)) : S.seq n = some xs := by unfold Bxs.seq; rw [e]
theorem lst_of {n : Nat} {xs : List Dt} (e : S[n]? = some (.lst xs)) : S.lst n = some xs := by unfold Bxs.lst; rw [e]
theorem dk_seq {n : Nat} {xs : List Dt} (e : S.seq n = some xs) : dkO S (.box n) = none := by
  unfold Bxs.seq at e
  show S.dkR n = none
  unfold Bxs.dkR
  cases q : S[n]? with
  | none => rfl
  | some b =>
    rw [q] at e
    cases b <;> first | rfl | cases e
theorem dkw_seq {n : Nat} {xs : List Dt} (e : S.seq n = some xs) : dkW S (.box n) = none := by
  unfold Bxs.seq at e
  show S.dk n = none
  unfold Bxs.dk
  cases q : S[n]? with
  | none => rfl
  | some b =>
    rw [q] at e
    cases b <;> first | rfl | cases e
theorem w_ixB {n : Nat} {xs : List Dt} {i : Int} {d : Dt} {P : Dt → Bxs → Prop} (e : S.seq n = some xs) (a : atI xs i = some d) (h : P d S) : (ixG (.box n) (.int i) S).Wp P E := by
  have z : ixG (.box n) (.int i) S = .ok d S := by
    show ixG0 (.box n) (.int i) S = .ok d S
    unfold ixG0
    rw [dk_seq e]
    show (match seqOf S (.box n) with
      | some xs => match atI xs i with
        | some d => Rs.ok d S
        | none => .no
      | none => .no) = _
    rw [show seqOf S (.box n) = some xs from e]
    show (match atI xs i with
        | some d => Rs.ok d S
        | none => .no) = _
    rw [a]
  rw [z]; exact ⟨h⟩
theorem w_ixT {xs : List Dt} {i : Int} {d : Dt} {P : Dt → Bxs → Prop} (a : atI xs i = some d) (h : P d S) : (ixG (.tup xs) (.int i) S).Wp P E := by
  have z : ixG (.tup xs) (.int i) S = .ok d S := by
    show (match atI xs i with
        | some d => Rs.ok d S
        | none => .no) = _
    rw [a]
  rw [z]; exact ⟨h⟩
theorem w_slB {n : Nat} {lo hi : Option Int} {xs : List Dt} {P : Dt → Bxs → Prop} (e : S.seq n = some xs) (h : (newL (cutD xs lo hi) S).Wp P E) : (slG lo hi (.box n) S).Wp P E := by
  show (match S.seq n with
    | some xs => newL (cutD xs lo hi) S
    | none => .no).Wp P E
  rw [e]; exact h
theorem w_slT {lo hi : Option Int} {xs : List Dt} {P : Dt → Bxs → Prop} (h : P (.tup (cutD xs lo hi)) S) : (slG lo hi (.tup xs) S).Wp P E := ⟨h⟩
theorem w_addL {m n : Nat} {xs ys : List Dt} {P : Dt → Bxs → Prop} (e1 : S.lst m = some xs) (e2 : S.lst n = some ys) (h : (newL (xs ++ ys) S).Wp P E) : (addG (.box m) (.box n) S).Wp P E := by
  show (match S.lst m, S.lst n with
    | some xs, some ys => newL (xs ++ ys) S
    | _, _ => .no).Wp P E
  rw [e1, e2]; exact h
theorem w_mulL {n : Nat} {k : Int} {xs : List Dt} {P : Dt → Bxs → Prop} (e : S.lst n = some xs) (c : -1000 ≤ k ∧ k ≤ 1000 ∧ xs.length ≤ 100) (h : (newL (List.replicate k.toNat xs).flatten S).Wp P E) : (mulG (.box n) (.int k) S).Wp P E := by
  show (match S.lst n with
    | some xs => if -1000 ≤ k ∧ k ≤ 1000 ∧ xs.length ≤ 100 then newL (List.replicate k.toNat xs).flatten S else .no
    | none => .no).Wp P E
  rw [e]
  show (if -1000 ≤ k ∧ k ≤ 1000 ∧ xs.length ≤ 100 then newL (List.replicate k.toNat xs).flatten S else .no).Wp P E
  rw [if_pos c]; exact h
theorem seq_of_lst {n : Nat} {xs : List Dt} (e : S.lst n = some xs) : S.seq n = some xs := by
  have := lst_get e
  unfold Bxs.seq; rw [this]
theorem w_setG {n : Nat} {k : Int} {j : Nat} {xs : List Dt} {d : Dt} {P : Unit → Bxs → Prop} (e : S.lst n = some xs) (c : ixN xs.length k = some j) (h : P () (S.set n (.lst (xs.set j d)))) : (setG (.box n) (.int k) d S).Wp P E := by
  show (setG0 (.box n) (.int k) d S).Wp P E
  unfold setG0
  rw [dkw_seq (seq_of_lst e)]
  show (match S.lst n with
    | some xs => match ixN xs.length k with
      | some j => Rs.ok () (S.set n (.lst (xs.set j d)))
      | none => .no
    | none => .no).Wp P E
  rw [e]
  show (match ixN xs.length k with
      | some j => Rs.ok () (S.set n (.lst (xs.set j d)))
      | none => .no).Wp P E
  rw [c]; exact ⟨h⟩
theorem w_getG {n : Nat} {k : Int} {xs : List Dt} {d : Dt} {P : Dt → Bxs → Prop} (e : S.lst n = some xs) (c : 0 ≤ k ∧ k < 2 ^ 63) (a : xs[k.toNat]? = some d) (h : P d S) : (getG (.box n) (.int k) S).Wp P E := by
  show (getG0 (.box n) (.int k) S).Wp P E
  unfold getG0
  rw [dk_seq (seq_of_lst e)]
  show (match S.lst n with
    | some xs => if 0 ≤ k ∧ k < 2 ^ 63 then match xs[k.toNat]? with
      | some d => Rs.ok d S
      | none => .no else .no
    | none => .no).Wp P E
  rw [e]
  show (if 0 ≤ k ∧ k < 2 ^ 63 then match xs[k.toNat]? with
      | some d => Rs.ok d S
      | none => .no else .no).Wp P E
  rw [if_pos c, a]; exact ⟨h⟩
theorem w_lenB {n : Nat} {xs : List Dt} {P : Dt → Bxs → Prop} (e : S.seq n = some xs) (h : P (.int (xs.length : Int)) S) : (lenG [.box n] S).Wp P E := by
  show (match S.seq n with
    | some xs => Rs.ok (Dt.int (xs.length : Int)) S
    | none => .no).Wp P E
  rw [e]; exact ⟨h⟩
theorem w_lenT {xs : List Dt} {P : Dt → Bxs → Prop} (h : P (.int (xs.length : Int)) S) : (lenG [.tup xs] S).Wp P E := ⟨h⟩
theorem w_append {n : Nat} {xs : List Dt} {d : Dt} {P : Dt → Bxs → Prop} (e : S.lst n = some xs) (c : xs.length < LIM) (h : P .non (S.set n (.lst (xs ++ [d])))) : (appendG (.box n) [d] S).Wp P E := by
  show (match S.lst n with
    | some xs => if xs.length < LIM then Rs.ok Dt.non (S.set n (.lst (xs ++ [d]))) else .no
    | none => .no).Wp P E
  rw [e]
  show (if xs.length < LIM then Rs.ok Dt.non (S.set n (.lst (xs ++ [d]))) else .no).Wp P E
  rw [if_pos c]; exact ⟨h⟩
theorem w_insert {n : Nat} {i : Int} {xs : List Dt} {d : Dt} {P : Dt → Bxs → Prop} (e : S.lst n = some xs) (c : xs.length < LIM ∧ 0 ≤ i ∧ i < 2 ^ 63) (h : P .non (S.set n (.lst (xs.take i.toNat ++ [d] ++ xs.drop i.toNat)))) : (insertG (.box n) [.int i, d] S).Wp P E := by
  show (match S.lst n with
    | some xs => if xs.length < LIM ∧ 0 ≤ i ∧ i < 2 ^ 63 then Rs.ok Dt.non (S.set n (.lst (xs.take i.toNat ++ [d] ++ xs.drop i.toNat))) else .no
    | none => .no).Wp P E
  rw [e]
  show (if xs.length < LIM ∧ 0 ≤ i ∧ i < 2 ^ 63 then Rs.ok Dt.non (S.set n (.lst (xs.take i.toNat ++ [d] ++ xs.drop i.toNat))) else .no).Wp P E
  rw [if_pos c]; exact ⟨h⟩
end
theorem divOk_small {j : Int} (h : 0 < j) (h1 : j < 2 ^ 64) : divOk j := ⟨h, by
  have : j.natAbs < 2 ^ 64 := by omega
  have h2 : j.natAbs.log2 < 64 := (Nat.log2_lt (by omega)).mpr this
  omega⟩
structure BagAt (S : Bxs) (b c : Nat) (h x i : Int) (ns : List Int) : Prop where
  at_ : S[b]? = some (.lst [.int h, .int x, .int i, .box c])
  cells : S[c]? = some (.lst (ns.map Dt.int))
  ne : c ≠ b
  h0 : 0 ≤ h
  x0 : 0 ≤ x
  x1 : x < 2147483647
  i0 : 0 ≤ i
  pos : ∀ n ∈ ns, 0 ≤ n
  len : ns.length ≤ 63
def Bag (S : Bxs) (b c : Nat) : Prop := ∃ h x i ns, BagAt S b c h x i ns
theorem get_pre {S S' : Bxs} (p : S <+: S') {n : Nat} {x : MBox} (h : S[n]? = some x) : S'[n]? = some x := pre_get p h
theorem BagAt.pre {S S' : Bxs} {b c : Nat} {h x i : Int} {ns : List Int} (B : BagAt S b c h x i ns) (p : S <+: S') : BagAt S' b c h x i ns := ⟨get_pre p B.at_, get_pre p B.cells, B.ne, B.h0, B.x0, B.x1, B.i0, B.pos, B.len⟩
theorem get_lt {S : Bxs} {n : Nat} {x : MBox} (h : S[n]? = some x) : n < S.length := (List.getElem?_eq_some_iff.mp h).1
theorem BagAt.set {S : Bxs} {b c : Nat} {h x i h' x' i' : Int} {ns : List Int} (B : BagAt S b c h x i ns) (h0 : 0 ≤ h') (x0 : 0 ≤ x') (x1 : x' < 2147483647) (i0 : 0 ≤ i') : BagAt (S.set b (.lst [.int h', .int x', .int i', .box c])) b c h' x' i' ns :=
  ⟨by rw [List.getElem?_set_self (get_lt B.at_)], by rw [List.getElem?_set_ne B.ne.symm]; exact B.cells, B.ne, h0, x0, x1, i0, B.pos, B.len⟩
/-- all but the bag stays -/
structure Fr (b : Nat) (S S' : Bxs) : Prop where
  len : S.length ≤ S'.length
  get : ∀ n, n < S.length → n ≠ b → S'[n]? = S[n]?
theorem Fr.refl (b : Nat) (S : Bxs) : Fr b S S := ⟨Nat.le_refl _, fun _ _ _ => rfl⟩
theorem Fr.trans {b : Nat} {S S1 S2 : Bxs} (h : Fr b S S1) (k : Fr b S1 S2) : Fr b S S2 := ⟨Nat.le_trans h.len k.len, fun n hn hb => (k.get n (Nat.lt_of_lt_of_le hn h.len) hb).trans (h.get n hn hb)⟩
theorem Fr.pre {b : Nat} {S S' : Bxs} (p : S <+: S') : Fr b S S' := by
  obtain ⟨t, rfl⟩ := p
  exact ⟨by simp, fun n hn _ => List.getElem?_append_left hn⟩
theorem Fr.set {b : Nat} {S : Bxs} {x : MBox} : Fr b S (S.set b x) := ⟨by simp, fun n _ hb => List.getElem?_set_ne hb.symm⟩
/-- a box of one's own is changed -/
theorem Fr.own {b n : Nat} {S S1 : Bxs} {x : MBox} (h : Fr b S S1) (hn : S.length ≤ n) : Fr b S (S1.set n x) := ⟨by rw [List.length_set]; exact h.len, fun k hk hb => by rw [List.getElem?_set_ne (Nat.ne_of_gt (Nat.lt_of_lt_of_le hk hn))]; exact h.get k hk hb⟩
theorem Fr.at_ {b n : Nat} {S S' : Bxs} {x : MBox} (h : Fr b S S') (e : S[n]? = some x) (hb : n ≠ b) : S'[n]? = some x := (h.get n (get_lt e) hb).trans e
theorem get_last {S : Bxs} {x : MBox} : (S ++ [x])[S.length]? = some x := by simp
theorem Rs.Wp.ok {α : Type} {r : Rs α} {P : α → Bxs → Prop} (h : r.Wp P noX) : ∃ a s, r = .ok a s ∧ P a s := sat_ok h.sat
theorem Rs.Wp.of {α : Type} {r : Rs α} {a : α} {s : Bxs} {P : α → Bxs → Prop} {E : Nat → List Dt → Bxs → Prop} (e : r = .ok a s) (h : P a s) : r.Wp P E := by rw [e]; exact ⟨h⟩
section
variable {α : Type} {σ : Sg} {S : Bxs} {E : Nat → List Dt → Bxs → Prop}
theorem w_loop {st : Bxs → Prop} {g : α → Sg → Bxs → Rs Sg} {body : FS} {P : Fl × Sg → Bxs → Prop} (I : Nat → Sg → Bxs → Prop) {xs : List α} (hst : ∀ i σ S, I i σ S → st S)
    (step : ∀ i x σ S, xs[i]? = some x → I i σ S → (g x σ S).Wp (fun σ1 S1 => (body σ1 S1).Wp (fun r S2 => (r.1 = .nx ∧ I (i + 1) r.2 S2) ∨ ∃ d, r.1 = .rt d ∧ P (.rt d, r.2) S2) E) E)
    (fin : ∀ σ S, I xs.length σ S → P (.nx, σ) S) (h0 : I 0 σ S) : (loopF st g body xs σ S).Wp P E := by
  have go : ∀ (k : Nat) (ys : List α) (σ : Sg) (S : Bxs), k + ys.length = xs.length → ys = xs.drop k → I k σ S → (loopF st g body ys σ S).Wp P E := by
    intro k ys
    induction ys generalizing k with
    | nil =>
      intro σ S hk he hI
      unfold loopF
      rw [if_pos (hst _ _ _ hI)]
      have : k = xs.length := by simpa using hk
      subst this
      exact ⟨fin _ _ hI⟩
    | cons y ys ih =>
      intro σ S hk he hI
      unfold loopF
      rw [if_pos (hst _ _ _ hI)]
      have hkl : k < xs.length := by rw [List.length_cons] at hk; omega
      have hd := List.drop_eq_getElem_cons hkl
      rw [← he] at hd
      injection hd with e1 e2
      have hx : xs[k]? = some y := by rw [List.getElem?_eq_getElem hkl, e1]
      refine w_bind ((step k y σ S hx hI).mono (fun σ1 S1 h1 => w_bind (h1.mono (fun r S2 h2 => ?_) fun _ _ _ q => q)) fun _ _ _ q => q)
      obtain ⟨fl, σ2⟩ := r
      rcases h2 with ⟨e, hI2⟩ | ⟨d, e, hP⟩
      · cases e
        exact ih (k + 1) σ2 S2 (by rw [List.length_cons] at hk; omega) e2 hI2
      · cases e
        exact ⟨hP⟩
  exact go 0 xs σ S (by simp) rfl h0
theorem w_for {src : Src α} {g : α → Sg → Bxs → Rs Sg} {body : FS} {P : Fl × Sg → Bxs → Prop} (h : (src σ S).Wp (fun r S1 => (loopF r.2 g body r.1 σ S1).Wp P E) E) : (sFor src g body σ S).Wp P E := w_bind h
theorem w_srcSeq {f : FE} {P : List Dt × (Bxs → Prop) → Bxs → Prop} (h : (f σ S).Wp (fun d S1 => ∃ xs, seqOf S1 d = some xs ∧ P (xs, fun S' => seqOf S' d = some xs) S1) E) : (srcSeq f σ S).Wp P E :=
  w_bind (h.mono (fun d S1 ⟨xs, e, q⟩ => by rw [e]; exact ⟨q⟩) fun _ _ _ q => q)
theorem w_srcR1 {f : FA} {P : List Dt × (Bxs → Prop) → Bxs → Prop} (h : (f σ S).Wp (fun ds S1 => ∃ j, ds = [.int j] ∧ inR j ∧ P (rgD 0 j.toNat, fun _ => True) S1) E) : (srcR1 f σ S).Wp P E :=
  w_bind (h.mono (fun d S1 ⟨j, e, c, q⟩ => by subst e; show (if inR j then Rs.ok (rgD 0 j.toNat, fun _ => True) S1 else .no).Wp P E; rw [if_pos c]; exact ⟨q⟩) fun _ _ _ q => q)
theorem w_srcZip {f : FA} {P : List (Dt × Dt) × (Bxs → Prop) → Bxs → Prop} (h : (f σ S).Wp (fun ds S1 => ∃ d e xs ys, ds = [d, e] ∧ seqOf S1 d = some xs ∧ seqOf S1 e = some ys ∧ P (xs.zip ys, fun S' => seqOf S' d = some xs ∧ seqOf S' e = some ys) S1) E) : (srcZip f σ S).Wp P E :=
  w_bind (h.mono (fun ds S1 ⟨d, e, xs, ys, z, e1, e2, q⟩ => by
    subst z
    show (match seqOf S1 d, seqOf S1 e with
    | some xs, some ys => Rs.ok (xs.zip ys, fun S' => seqOf S' d = some xs ∧ seqOf S' e = some ys) S1
    | _, _ => .no).Wp P E
    rw [e1, e2]; exact ⟨q⟩) fun _ _ _ q => q)
theorem quiet_of {r : Rs α} {P : α → Bxs → Prop} (h : r.Wp P noX) : r.quiet.Wp P E := by
  cases r with
  | ok a s => exact ⟨h.sat⟩
  | ex c ds s => exact h.sat.elim
  | no => exact h.sat.elim
theorem w_lc {src : Src α} {g : α → Sg → Bxs → Rs Sg} {tt : FB} {te : FE} {vs : List Nat} {P : Dt → Bxs → Prop}
    (h : (src σ S).Wp (fun r S1 => ∃ I : Nat → List Dt → Bxs → Prop, (∀ i acc S, I i acc S → r.2 S) ∧
      (∀ i x acc S, r.1[i]? = some x → S[S1.length]? = some (.lst acc) → I i acc S → (g x (wipeD σ vs) S).Wp (fun σ1 S2 => (tt σ1 S2).Wp (fun b S3 => (b = true → (te σ1 S3).Wp (fun d S4 => S4[S1.length]? = some (.lst acc) ∧ acc.length < LIM ∧ I (i + 1) (acc ++ [d]) (S4.set S1.length (.lst (acc ++ [d])))) noX) ∧
        (b = false → S3[S1.length]? = some (.lst acc) ∧ I (i + 1) acc S3)) noX) noX) ∧
      I 0 [] (S1 ++ [.lst []]) ∧ ∀ acc S, S[S1.length]? = some (.lst acc) → I r.1.length acc S → P (.box S1.length) S) E) : (dLc src g tt te vs σ S).Wp P E := by
  refine w_bind (h.mono (fun r S1 h1 => ?_) fun _ _ _ q => q)
  obtain ⟨xs, st⟩ := r
  obtain ⟨I, hst, step, h0, fin⟩ := h1
  refine w_bind (quiet_of ?_)
  have go : ∀ (k : Nat) (ys : List α) (acc : List Dt) (S : Bxs), k + ys.length = xs.length → ys = xs.drop k → S[S1.length]? = some (.lst acc) → I k acc S → (lcF st g tt te (wipeD σ vs) S1.length ys S).Wp (fun _ S2 => P (.box S1.length) S2) noX := by
    intro k ys
    induction ys generalizing k with
    | nil =>
      intro acc S hk he hn hI
      unfold lcF
      rw [if_pos (hst _ _ _ hI)]
      have : k = xs.length := by simpa using hk
      subst this
      exact ⟨fin _ _ hn hI⟩
    | cons y ys ih =>
      intro acc S hk he hn hI
      unfold lcF
      rw [if_pos (hst _ _ _ hI)]
      have hkl : k < xs.length := by rw [List.length_cons] at hk; omega
      have hd := List.drop_eq_getElem_cons hkl
      rw [← he] at hd
      injection hd with e1 e2
      have hx : xs[k]? = some y := by rw [List.getElem?_eq_getElem hkl, e1]
      refine w_bind ((step k y acc S hx hn hI).mono (fun σ1 S2 h1 => w_bind (h1.mono (fun b S3 h2 => w_cond (fun hb => w_bind ((h2.1 hb).mono (fun d S4 h3 => ?_) fun _ _ _ q => q)) fun hb => ?_) fun _ _ _ q => q)) fun _ _ _ q => q)
      · obtain ⟨hn4, hl, hI2⟩ := h3
        rw [lst_of hn4]
        show (if acc.length < LIM then lcF st g tt te (wipeD σ vs) S1.length ys (S4.set S1.length (.lst (acc ++ [d]))) else .no).Wp _ _
        rw [if_pos hl]
        exact ih (k + 1) _ _ (by rw [List.length_cons] at hk; omega) e2 (List.getElem?_set_self (get_lt hn4)) hI2
      · obtain ⟨hn3, hI2⟩ := h2.2 hb
        exact ih (k + 1) acc S3 (by rw [List.length_cons] at hk; omega) e2 hn3 hI2
  exact (go 0 xs [] _ (by simp) rfl get_last h0).mono (fun _ _ q => ⟨q⟩) fun _ _ _ q => q
/-- items that change nothing -/
theorem w_lcMap {src : Src α} {g : α → Sg → Bxs → Rs Sg} {te : FE} {vs : List Nat} {P : Dt → Bxs → Prop}
    (h : (src σ S).Wp (fun r S1 => ∃ f : α → Dt, r.1.length < LIM ∧ (∀ acc, r.2 (S1 ++ [.lst acc])) ∧
      (∀ x acc, x ∈ r.1 → (g x (wipeD σ vs) (S1 ++ [.lst acc])).Wp (fun σ1 S2 => S2 = S1 ++ [.lst acc] ∧ (te σ1 (S1 ++ [.lst acc])).Wp (fun d S4 => d = f x ∧ S4 = S1 ++ [.lst acc]) noX) noX) ∧
      P (.box S1.length) (S1 ++ [.lst (r.1.map f)])) E) : (dLc src g bYes te vs σ S).Wp P E := by
  refine w_lc (h.mono (fun r S1 ⟨f, hl, hst, step, fin⟩ => ?_) fun _ _ _ q => q)
  refine ⟨fun i acc S => acc = (r.1.take i).map f ∧ S = S1 ++ [.lst acc], fun i acc S ⟨_, e⟩ => by rw [e]; exact hst _, fun i x acc S hx hn ⟨ea, eS⟩ => ?_, ⟨by simp, rfl⟩, fun acc S hn ⟨ea, eS⟩ => ?_⟩
  · subst eS
    refine (step x acc (List.mem_of_getElem? hx)).mono (fun σ1 S2 ⟨e2, q⟩ => ?_) fun _ _ _ q => q
    subst e2
    refine ⟨fun _ => q.mono (fun d S4 ⟨ed, e4⟩ => ?_) fun _ _ _ q => q, fun z => nomatch z⟩
    subst e4
    have hil : i < r.1.length := (List.getElem?_eq_some_iff.mp hx).1
    refine ⟨get_last, ?_, ?_, ?_⟩
    · rw [ea, List.length_map, List.length_take]; omega
    · rw [ed, ea, List.take_add_one, hx]; simp
    · rw [List.set_append_right _ _ (Nat.le_refl _)]; simp
  · rw [List.take_length] at ea
    rw [eS, ea]; exact fin
end
theorem Bag.lt {S : Bxs} {b c : Nat} (B : Bag S b c) : b < S.length ∧ c < S.length := let ⟨_, _, _, _, B⟩ := B; ⟨get_lt B.at_, get_lt B.cells⟩
theorem Bag.pre {S S' : Bxs} {b c : Nat} (B : Bag S b c) (p : S <+: S') : Bag S' b c := let ⟨h, x, i, ns, B⟩ := B; ⟨h, x, i, ns, B.pre p⟩
theorem Bag.own {S : Bxs} {b c n : Nat} {x : MBox} (B : Bag S b c) (hb : n ≠ b) (hc : n ≠ c) : Bag (S.set n x) b c := by
  obtain ⟨h, y, i, ns, B⟩ := B
  exact ⟨h, y, i, ns, by rw [List.getElem?_set_ne hb]; exact B.at_, by rw [List.getElem?_set_ne hc]; exact B.cells, B.ne, B.h0, B.x0, B.x1, B.i0, B.pos, B.len⟩
theorem Bag.app {S : Bxs} {b c : Nat} {x : MBox} (B : Bag S b c) : Bag (S ++ [x]) b c := B.pre (List.prefix_append _ _)
theorem Fr.app {b : Nat} {S S1 : Bxs} {x : MBox} (h : Fr b S S1) : Fr b S (S1 ++ [x]) := h.trans (Fr.pre (List.prefix_append _ _))
theorem Fr.seq {b n : Nat} {S S' : Bxs} {xs : List Dt} (h : Fr b S S') (e : S.seq n = some xs) (hb : n ≠ b) : S'.seq n = some xs := by
  have hl : n < S.length := by
    unfold Bxs.seq at e
    cases z : S[n]? with
    | none => rw [z] at e; cases e
    | some x => exact get_lt z
  unfold Bxs.seq at e ⊢
  rw [h.get n hl hb]; exact e
theorem seq_lt {n : Nat} {S : Bxs} {xs : List Dt} (e : S.seq n = some xs) : n < S.length := by
  unfold Bxs.seq at e
  cases z : S[n]? with
  | none => rw [z] at e; cases e
  | some x => exact get_lt z
theorem ins_perm {α : Type} (xs : List α) (i : Nat) (d : α) : (xs.take i ++ [d] ++ xs.drop i).Perm (xs ++ [d]) := by
  have h : (xs.take i ++ [d] ++ xs.drop i).Perm (xs.take i ++ xs.drop i ++ [d]) := by
    rw [List.append_assoc, List.append_assoc]
    exact List.Perm.append_left _ List.perm_append_comm
  rwa [List.take_append_drop] at h
theorem ixN_mk {n : Nat} {i : Int} (h0 : 0 ≤ i) (h1 : i < n) : ixN n i = some i.toNat := by unfold ixN; rw [if_pos h0, if_pos h1]
theorem w_idx {S : Bxs} {E : Nat → List Dt → Bxs → Prop} {n : Nat} {xs : List Dt} {i : Int} {P : Dt → Bxs → Prop} (e : S.seq n = some xs) (h0 : 0 ≤ i) (h1 : i < xs.length) (h : ∀ d, xs[i.toNat]? = some d → P d S) : (ixG (.box n) (.int i) S).Wp P E := by
  have hl : i.toNat < xs.length := by omega
  have e2 : xs[i.toNat]? = some xs[i.toNat] := List.getElem?_eq_getElem hl
  refine w_ixB e (d := xs[i.toNat]) ?_ (h _ e2)
  unfold atI; rw [ixN_mk h0 h1]; exact e2
theorem ty_list {S : Bxs} {n : Nat} {xs : List Dt} (e : S[n]? = some (.lst xs)) : tyD "list" (.box n) S := .inl ⟨rfl, by rw [seq_lst e]; rfl⟩
section
variable {S : Bxs} {E : Nat → List Dt → Bxs → Prop}
theorem w_listT {xs : List Dt} {P : Dt → Bxs → Prop} (h : (newL xs S).Wp P E) : (listG [.tup xs] S).Wp P E := h
theorem w_seqB {n : Nat} {xs : List Dt} (e : S[n]? = some (.lst xs)) : seqOf S (.box n) = some xs := seq_lst e
end
theorem zeros (k : Nat) : (List.replicate k [Dt.int 0]).flatten = (List.replicate k (0 : Int)).map Dt.int := by
  induction k with
  | zero => rfl
  | succ k ih => rw [List.replicate_succ, List.flatten_cons, ih, List.replicate_succ]; rfl
section
variable {S : Bxs} {E : Nat → List Dt → Bxs → Prop}
theorem w_tupB {n : Nat} {xs : List Dt} {P : Dt → Bxs → Prop} (e : S.seq n = some xs) (h : P (.tup xs) S) : (tupleG [.box n] S).Wp P E := by
  show (match S.seq n with
    | some xs => Rs.ok (Dt.tup xs) S
    | none => .no).Wp P E
  rw [e]; exact ⟨h⟩
end
/-- a list of ints in a box -/
def IL (S : Bxs) (n : Nat) (is : List Int) : Prop := S[n]? = some (.lst (is.map Dt.int))
theorem IL.seq {S : Bxs} {n : Nat} {is : List Int} (h : IL S n is) : S.seq n = some (is.map Dt.int) := seq_lst h
theorem IL.fr {S S' : Bxs} {b n : Nat} {is : List Int} (h : IL S n is) (F : Fr b S S') (hb : n ≠ b) : IL S' n is := F.at_ h hb
theorem IL.set {S : Bxs} {n : Nat} {is js : List Int} {xs : List Dt} (h : IL S n js) (e : xs = is.map Dt.int) : IL (S.set n (.lst xs)) n is := by
  subst e; exact List.getElem?_set_self (get_lt h)
theorem IL.skip {S : Bxs} {n m : Nat} {is : List Int} {x : MBox} (h : IL S n is) (hn : m ≠ n) : IL (S.set m x) n is := by unfold IL; rw [List.getElem?_set_ne hn]; exact h
theorem IL.pre {S S' : Bxs} {n : Nat} {is : List Int} (h : IL S n is) (p : S <+: S') : IL S' n is := get_pre p h
section
variable {σ : Sg} {S : Bxs} {E : Nat → List Dt → Bxs → Prop}
theorem w_pair {g : FTs} {a : Dt × Dt} {P : Sg → Bxs → Prop} (h : (g [a.1, a.2] σ S).Wp P E) : (tPairG g a σ S).Wp P E := h
theorem w_tNil {P : Sg → Bxs → Prop} (h : P σ S) : (tNilG [] σ S).Wp P E := ⟨h⟩
theorem w_tCons {g : FT} {r : FTs} {d : Dt} {ds : List Dt} {P : Sg → Bxs → Prop} (h : (g d σ S).Wp (fun σ1 S1 => (r ds σ1 S1).Wp P E) E) : (tConsG g r (d :: ds) σ S).Wp P E := w_bind h
theorem w_tTup {g : FTs} {n : Nat} {ds : List Dt} {P : Sg → Bxs → Prop} (hn : ds.length = n) (h : (g ds σ S).Wp P E) : (tTupG n g (.tup ds) σ S).Wp P E := by
  show (if ds.length = n then g ds σ S else .no).Wp P E
  rw [if_pos hn]; exact h
end
theorem c_nx {σ : Sg} {A B : Prop} (h : A) : ((Fl.nx, σ).1 = Fl.nx → A) ∧ ((Fl.nx, σ).1 ≠ Fl.nx → B) := ⟨fun _ => h, fun z => absurd rfl z⟩
theorem c_rt {d : Dt} {σ : Sg} {A B : Prop} (h : B) : ((Fl.rt d, σ).1 = Fl.nx → A) ∧ ((Fl.rt d, σ).1 ≠ Fl.nx → B) := ⟨(fun z => nomatch z), fun _ => h⟩
end Mn
local macro_rules | `(tactic| and_intros) => `(tactic| repeat (first | (first
  | with_reducible refine Mn.w_cons ?_ | with_reducible refine Mn.w_set ?_ | with_reducible refine Mn.w_asg ?_ | with_reducible refine Mn.w_par2 ?_ | with_reducible refine Mn.w_par3 ?_ | with_reducible refine Mn.w_if ?_ | with_reducible refine Mn.w_ret ?_ | with_reducible refine Mn.w_expr ?_ | with_reducible refine Mn.w_augS ?_ | with_reducible refine Mn.w_sNil ?_
  | with_reducible refine Mn.w_bin ?_ | (with_reducible refine Mn.w_var (by with_unfolding_all rfl) ?_) | with_reducible refine Mn.w_c ?_ | with_reducible refine Mn.w_true ?_ | with_reducible refine Mn.w_isN ?_ | with_reducible refine Mn.w_notN ?_ | with_reducible refine Mn.w_and ?_ | with_reducible refine Mn.w_or ?_ | with_reducible refine Mn.w_not ?_ | with_reducible refine Mn.w_andV ?_ | with_reducible refine Mn.w_ifE ?_ | with_reducible refine Mn.w_neg ?_
  | with_reducible refine Mn.w_nil ?_ | with_reducible refine Mn.w_consA ?_ | with_reducible refine Mn.w_tup ?_ | with_reducible refine Mn.w_lst ?_ | with_reducible refine Mn.w_call ?_ | with_reducible refine Mn.w_sl ?_ | with_reducible refine Mn.w_oN ?_ | with_reducible refine Mn.w_oS ?_ | with_reducible refine Mn.w_meth ?_ | with_reducible refine Mn.w_tName ?_ | with_reducible refine Mn.w_tSub ?_ | with_reducible refine Mn.w_for ?_ | with_reducible refine Mn.w_pair ?_ | with_reducible refine Mn.w_tNil ?_ | with_reducible refine Mn.w_tCons ?_ | ((with_reducible refine Mn.w_tTup ?_ ?_); rfl) | with_reducible refine Mn.w_srcSeq ?_ | with_reducible refine Mn.w_srcR1 ?_ | with_reducible refine Mn.w_srcZip ?_
  | with_reducible refine Mn.w_add ?_ | with_reducible refine Mn.w_sub ?_ | with_reducible refine Mn.w_addI ?_ | with_reducible refine Mn.w_subI ?_ | with_reducible refine Mn.w_cmp ?_ | with_reducible refine Mn.w_int ?_ | with_reducible refine Mn.w_abs ?_ | with_reducible refine Mn.w_max2 ?_ | with_reducible refine Mn.w_eqI ?_ | with_reducible refine Mn.w_slT ?_ | with_reducible refine Mn.w_lenT ?_
  | ((with_reducible refine Mn.w_mul ?_ ?_); first | exact Mn.mulOk.small2 (by decide) (by decide) | exact Mn.mulOk.small (by decide) (by decide))
  | ((with_reducible refine Mn.w_mod ?_ ?_); first | decide | assumption | omega)
  | ((with_reducible refine Mn.w_pow ?_ ?_); exact ⟨by decide, by decide, by decide⟩)
  | ((with_reducible refine Mn.w_fdiv ?_ ?_); exact Mn.divOk_small (by first | decide | assumption | omega) (by first | decide | assumption | omega))
  | (with_reducible refine Mn.w_ixB (Mn.seq_lst (by assumption)) (by with_unfolding_all rfl) ?_)
  | ((with_reducible refine Mn.w_newL ?_ ?_); exact Nat.le_of_ble_eq_true (by rfl))
  | (with_reducible refine Mn.w_ixT (by with_unfolding_all rfl) ?_)) | with_reducible refine Exists.intro _ (And.intro rfl ?_) | with_reducible refine Exists.intro _ (Exists.intro _ (And.intro rfl ?_)) | with_reducible refine Exists.intro _ (Exists.intro _ (Exists.intro _ (And.intro rfl ?_))) | ((with_reducible refine Mn.c_nx ?_); try simp only [List.set_cons_zero, List.set_cons_succ]) | ((with_reducible refine Mn.c_rt ?_); try simp only [List.set_cons_zero, List.set_cons_succ])))
set_option Elab.async false
set_option linter.all false
set_option maxRecDepth 100000
set_option maxHeartbeats 4000000
/-! MnQ: plain data: what it reads as, how long its text is. -/
namespace Mn
open PySem PySem.Spec PyProof.Rows L2
theorem ok_string (s : String) : PyData.strOk (Str.ofString s) = true := by
  unfold PyData.strOk
  rw [Str.ofString_eq_toList]
  rw [Array.all_eq_true]
  intro i hi
  simp at hi ⊢
  have := (s.toList[i]).valid
  have h2 : s.toList[i].toNat < 0x110000 := by
    have h3 : s.toList[i].toNat.isValidChar := this
    rcases h3 with h3 | h3
    · omega
    · exact h3.2
  exact h2
theorem ok_app {x y : Str} (hx : PyData.strOk x = true) (hy : PyData.strOk y = true) : PyData.strOk (x ++ y) = true := by
  show (x.cps ++ y.cps).all (· < 0x110000) = true
  rw [Array.all_append]
  unfold PyData.strOk at hx hy
  rw [hx, hy]; rfl
theorem ok_from : ∀ (ts : List Str) (k : Nat) (acc : Str), PyData.strOk acc = true → (∀ t ∈ ts, PyData.strOk t = true) → PyData.strOk (textFrom k acc ts) = true
  | [], _, _, h, _ => h
  | t :: ts, k, acc, h, ht => ok_from ts (k + 1) _ (ok_app (ok_app h (ok_string _)) (ht t List.mem_cons_self)) fun u hu => ht u (List.mem_cons_of_mem _ hu)
theorem ok_join (sep : Str) (hs : PyData.strOk sep = true) : ∀ (ts : List Str), (∀ t ∈ ts, PyData.strOk t = true) → PyData.strOk (Str.join sep ts) = true
  | [], _ => by unfold Str.join Str.empty PyData.strOk; simp
  | [t], h => h t List.mem_cons_self
  | t :: u :: ts, h => ok_app (ok_app (h t List.mem_cons_self) hs) (ok_join sep hs (u :: ts) fun v hv => h v (List.mem_cons_of_mem _ hv))
theorem ok_list {ts : List Str} (h : ∀ t ∈ ts, PyData.strOk t = true) : PyData.strOk (listText ts) = true := ok_app (ok_from ts 0 _ (ok_string _) h) (ok_string _)
theorem ok_tuple {ts : List Str} (h : ∀ t ∈ ts, PyData.strOk t = true) : PyData.strOk (tupleText ts) = true := ok_app (ok_app (ok_string _) (ok_join _ (ok_string _) ts h)) (ok_string _)
mutual
inductive Pl (S : Bxs) : Nat → Dt → PyData → Nat → Prop
  | non {n w : Nat} : 4 ≤ w → Pl S (n + 1) .non .none w
  | bl {n w : Nat} (b : Bool) : 5 ≤ w → Pl S (n + 1) (.bl b) (.bool b) w
  | int {n w : Nat} {i : Int} : i.natAbs.log2 < 1920 → (PyData.shown (.int i)).length ≤ w → Pl S (n + 1) (.int i) (.int i) w
  | str {n w : Nat} {x : Str} : PyData.strOk x = true → PyData.strOk (PyData.shown (.str x)) = true → (PyData.shown (.str x)).length ≤ w → Pl S (n + 1) (.str x) (.str x) w
  | tup {n w w' : Nat} {xs : List Dt} {ps : List PyData} : Pls S n xs ps w → w + 3 ≤ w' → Pl S (n + 1) (.tup xs) (.tuple ps) w'
  | box {n w w' m : Nat} {xs : List Dt} {ps : List PyData} : S.seq m = some xs → Pls S n xs ps w → w + 3 ≤ w' → Pl S (n + 1) (.box m) (.list ps) w'
inductive Pls (S : Bxs) : Nat → List Dt → List PyData → Nat → Prop
  | nil {n : Nat} : Pls S n [] [] 0
  | cons {n w w' : Nat} {d : Dt} {p : PyData} {ds : List Dt} {ps : List PyData} : Pl S n d p w → Pls S n ds ps w' → Pls S n (d :: ds) (p :: ps) (w + 2 + w')
end
structure PF (p : PyData) (n w : Nat) : Prop where
  lay : p.canLay0 = true
  show_ : p.showable = true
  dict : p.hasDict = false
  deep : p.depth ≤ n
  len : p.shown.length ≤ w
  eqv : p.eqv p = true
  ok : PyData.strOk p.shown = true
structure PFs (ps : List PyData) (n w : Nat) : Prop where
  lay : PyData.canLayAll0 ps = true
  show_ : PyData.showableAll ps = true
  dict : PyData.hasDictAll ps = false
  deep : PyData.depthAll ps ≤ n
  len : ((PyData.shownAll ps).map (·.length)).sum + 2 * (PyData.shownAll ps).length ≤ w
  eqv : PyData.eqvAll ps ps = true
  ok : ∀ t ∈ PyData.shownAll ps, PyData.strOk t = true
mutual
theorem Pl.pd {S : Bxs} : ∀ {n w : Nat} {d : Dt} {p : PyData}, Pl S n d p w → pd S n d = some p
  | _, _, _, _, .non _ => rfl
  | _, _, _, _, .bl b _ => rfl
  | _, _, _, _, .int _ _ => rfl
  | _, _, _, _, .str _ _ _ => rfl
  | _, _, _, _, .tup h _ => by unfold Mn.pd; rw [Pls.pd h]; rfl
  | _, _, _, _, .box e h _ => by unfold Mn.pd; rw [e]; show (optAll _).map _ = _; rw [Pls.pd h]; rfl
theorem Pls.pd {S : Bxs} : ∀ {n w : Nat} {d : List Dt} {p : List PyData}, Pls S n d p w → optAll (d.map (Mn.pd S n)) = some p
  | _, _, _, _, .nil => rfl
  | _, _, _, _, .cons h t => by rw [List.map_cons, Pl.pd h]; unfold optAll; rw [Pls.pd t]; rfl
end
mutual
theorem Pl.pf {S : Bxs} : ∀ {n w : Nat} {d : Dt} {p : PyData}, Pl S n d p w → PF p n w
  | _, _, _, _, .non hw => ⟨by simp [PyData.canLay0], by simp [PyData.showable], by simp [PyData.hasDict], by simp [PyData.depth], by simp only [PyData.shown]; exact Nat.le_trans (by decide) hw, by simp [PyData.eqv], by simp only [PyData.shown]; exact ok_string _⟩
  | _, _, _, _, .bl b hw => ⟨by simp [PyData.canLay0], by simp [PyData.showable], by simp [PyData.hasDict], by simp [PyData.depth], by simp only [PyData.shown]; cases b <;> exact Nat.le_trans (by decide) hw, by simp [PyData.eqv], by simp only [PyData.shown]; cases b <;> exact ok_string _⟩
  | _, _, _, _, .int a b => ⟨by simp [PyData.canLay0], by simp [PyData.showable]; exact a, by simp [PyData.hasDict], by simp [PyData.depth], b, by simp [PyData.eqv], by simp only [PyData.shown]; exact ok_string _⟩
  | _, _, _, _, .str a b c => ⟨by simp [PyData.canLay0]; exact a, by simp [PyData.showable], by simp [PyData.hasDict], by simp [PyData.depth], c, by simp [PyData.eqv], b⟩
  | _, _, _, _, .tup h hw => by
    have q := Pls.pf h
    refine ⟨by simp only [PyData.canLay0]; exact q.lay, by simp only [PyData.showable]; exact q.show_, by simp only [PyData.hasDict]; exact q.dict, by simp only [PyData.depth]; exact Nat.succ_le_succ q.deep, ?_, by simp only [PyData.eqv]; exact q.eqv, by simp only [PyData.shown]; exact ok_tuple q.ok⟩
    simp only [PyData.shown]
    refine Nat.le_trans (tupleText_len_le _) ?_
    have := q.len
    omega
  | _, _, _, _, .box _ h hw => by
    have q := Pls.pf h
    refine ⟨by simp only [PyData.canLay0]; exact q.lay, by simp only [PyData.showable]; exact q.show_, by simp only [PyData.hasDict]; exact q.dict, by simp only [PyData.depth]; exact Nat.succ_le_succ q.deep, ?_, by simp only [PyData.eqv]; exact q.eqv, by simp only [PyData.shown]; exact ok_list q.ok⟩
    simp only [PyData.shown]
    refine Nat.le_trans (listText_len_le _) ?_
    have := q.len
    omega
theorem Pls.pf {S : Bxs} : ∀ {n w : Nat} {d : List Dt} {p : List PyData}, Pls S n d p w → PFs p n w
  | _, _, _, _, .nil => ⟨by simp [PyData.canLayAll0], by simp [PyData.showableAll], by simp [PyData.hasDictAll], by simp [PyData.depthAll], by simp [PyData.shownAll], by simp [PyData.eqvAll], by simp [PyData.shownAll]⟩
  | _, _, _, _, .cons h t => by
    have a := Pl.pf h
    have q := Pls.pf t
    refine ⟨by simp only [PyData.canLayAll0, a.lay, q.lay]; rfl, by simp only [PyData.showableAll, a.show_, q.show_]; rfl, by simp only [PyData.hasDictAll, a.dict, q.dict]; rfl, ?_, ?_, by simp only [PyData.eqvAll, a.eqv, q.eqv]; rfl, fun u hu => ?_⟩
    · simp only [PyData.depthAll]
      have := a.deep
      have := q.deep
      omega
    · simp only [PyData.shownAll, List.map_cons, List.sum_cons, List.length_cons]
      have := a.len
      have := q.len
      omega
    · simp only [PyData.shownAll, List.mem_cons] at hu
      rcases hu with rfl | hu
      · exact a.ok
      · exact q.ok u hu
end
theorem Pl.mono {S : Bxs} {n w w' : Nat} {d : Dt} {p : PyData} (h : Pl S n d p w) (hw : w ≤ w') : Pl S n d p w' := by
  cases h with
  | non h => exact .non (Nat.le_trans h hw)
  | bl b h => exact .bl b (Nat.le_trans h hw)
  | int a b => exact .int a (Nat.le_trans b hw)
  | str a b c => exact .str a b (Nat.le_trans c hw)
  | tup h k => exact .tup h (Nat.le_trans k hw)
  | box e h k => exact .box e h (Nat.le_trans k hw)
/-- the text of an int -/
theorem int_len {i : Int} (k : Nat) (hk : 1 ≤ k) (h : i.natAbs < 10 ^ k) : (PyData.shown (.int i)).length ≤ k + 1 := by
  simp only [PyData.shown]
  have go : ∀ m : Nat, m < 10 ^ k → (Str.ofString (toString m)).length ≤ k := fun m hm => by
    rw [ofString_len]
    show (Nat.repr m).length ≤ k
    have := digitsCore_len_pow 10 (by decide) k (m + 1) m [] hk hm
    have e : (Nat.repr m).length = (Nat.toDigits 10 m).length := by unfold Nat.repr; simp
    rw [e]
    unfold Nat.toDigits
    simpa using this
  cases i with
  | ofNat m =>
    have := go m h
    exact Nat.le_trans this (Nat.le_succ _)
  | negSucc m =>
    have hz : Int.negSucc m < 0 := Int.negSucc_lt_zero m
    show (Str.ofString (toString (Int.negSucc m))).length ≤ _
    rw [len_text_neg hz]
    have e : (0 : Int) - Int.negSucc m = Int.ofNat (m + 1) := by
      rw [Int.negSucc_eq]; show _ = ((m + 1 : Nat) : Int); omega
    rw [e]
    have := go (m + 1) h
    show 1 + (Str.ofString (toString (m + 1))).length ≤ _
    omega
theorem Pl.mkInt {S : Bxs} {n : Nat} {i : Int} (k : Nat) (hk : 1 ≤ k) (hk2 : k ≤ 500) (h : i.natAbs < 10 ^ k) : Pl S (n + 1) (.int i) (.int i) (k + 1) := by
  refine .int ?_ (int_len k hk h)
  by_cases h0 : i.natAbs = 0
  · rw [h0]; decide
  · refine (Nat.log2_lt h0).mpr ?_
    refine Nat.lt_of_lt_of_le h ?_
    refine Nat.le_trans (Nat.pow_le_pow_right (by decide) hk2) ?_
    decide +kernel
section
variable {S : Bxs} {E : Nat → List Dt → Bxs → Prop}
theorem w_repr {d : Dt} {p : PyData} {w : Nat} {P : Dt → Bxs → Prop} (h : Pl S 60 d p w) (hw : w ≤ 1000000) (q : P (.str p.shown) S) : (reprG [d] S).Wp P E := by
  have e : reprG [d] S = .ok (.str p.shown) S := by
    show (match pdo S d with
    | some p => if showOk p = true then Rs.ok (Dt.str p.shown) S else .no
    | none => .no) = _
    have e1 : pdo S d = some p := h.pd
    rw [e1]
    have f := h.pf
    have hs : showOk p = true := by
      unfold showOk
      rw [f.show_, f.dict]
      have := f.deep
      have := f.len
      have l : strLim = 1000000 := rfl
      simp
      exact ⟨by omega, by omega⟩
    show (if showOk p = true then Rs.ok (Dt.str p.shown) S else .no) = _
    rw [if_pos hs]
  rw [e]; exact sat_mk q
theorem shaped_pl {d : Dt} {p : PyData} {w : Nat} (h : Pl S 60 d p w) : SeqAt.shaped p = true := by
  have f := h.pf
  unfold SeqAt.shaped
  rw [f.lay]
  have := f.deep
  simp
  omega
theorem w_eq {neg : Bool} {x y : Dt} {p q : PyData} {w w' : Nat} {P : Dt → Bxs → Prop} (hx : Pl S 60 x p w) (hy : Pl S 60 y q w') (h : P (.bl (if neg then !PyData.eqv p q else PyData.eqv p q)) S) : (eqG neg x y S).Wp P E := by
  have e : eqG neg x y S = .ok (.bl (if neg then !PyData.eqv p q else PyData.eqv p q)) S := by
    have e1 : pdo S x = some p := hx.pd
    have e2 : pdo S y = some q := hy.pd
    unfold eqG
    rw [e1, e2]
    show (if SeqAt.shaped p = true ∧ SeqAt.shaped q = true then _ else _) = _
    rw [if_pos ⟨shaped_pl hx, shaped_pl hy⟩]
  rw [e]; exact sat_mk h
end
mutual
theorem Pl.pre {S S' : Bxs} (q : S <+: S') : ∀ {n w : Nat} {d : Dt} {p : PyData}, Pl S n d p w → Pl S' n d p w
  | _, _, _, _, .non h => .non h
  | _, _, _, _, .bl b h => .bl b h
  | _, _, _, _, .int a b => .int a b
  | _, _, _, _, .str a b c => .str a b c
  | _, _, _, _, .tup h k => .tup (Pls.pre q h) k
  | _, _, _, _, .box (m := m) e h k => .box (by
      obtain ⟨t, rfl⟩ := q
      have hl := seq_lt e
      unfold Bxs.seq at e ⊢
      rw [List.getElem?_append_left hl]; exact e) (Pls.pre q h) k
theorem Pls.pre {S S' : Bxs} (q : S <+: S') : ∀ {n w : Nat} {d : List Dt} {p : List PyData}, Pls S n d p w → Pls S' n d p w
  | _, _, _, _, .nil => .nil
  | _, _, _, _, .cons h t => .cons (Pl.pre q h) (Pls.pre q t)
end
end Mn
set_option Elab.async false
set_option linter.all false
set_option maxRecDepth 100000
set_option maxHeartbeats 4000000
/-! MnY: rules of weakest premises for what raises. -/
namespace Mn
open PySem PySem.Spec PyProof.Rows L2
section
variable {σ : Sg} {S : Bxs} {E : Nat → List Dt → Bxs → Prop}
theorem w_raise {c : Nat} {fa : FA} {P : Fl × Sg → Bxs → Prop} (h : (fa σ S).Wp (fun ds S1 => E c ds S1) E) : (sRaise c fa σ S).Wp P E := ⟨Rs.sat_bind.mpr (h.sat.mono (fun _ _ q => q) fun _ _ _ q => q)⟩
theorem w_quiet {F : FN} {ds : List Dt} {P : Dt → Bxs → Prop} (h : (F ds S).Wp P noX) : (quietF F ds S).Wp P E := quiet_of h
end
end Mn
set_option Elab.async false
set_option linter.all false
set_option maxRecDepth 100000
set_option maxHeartbeats 4000000
/-! MnU: while; methods without arguments, pop; sorted of data; displays and comprehensions of dicts; get. -/
namespace Mn
open PySem PySem.Spec PyProof.Rows L2
section
variable {X : Cx} {Er : ER} {K : PySem.W.Frag} {H H1 : Hp} {ρ ρ1 : List Addr} {σ : Sg} {S S1 : Bxs} {τ : L2.St}
/-! ### while -/
def wlN (c : FB) (b : FS) : Nat → FS
  | 0 => fun _ _ => .no
  | n + 1 => fun σ S => (c σ S).bind fun k S1 => if k = true then (b σ S1).bind fun r S2 => match r.1 with
      | .nx => wlN c b n r.2 S2
      | .ct => wlN c b n r.2 S2
      | .bk => .ok (.nx, r.2) S2
      | .rt d => .ok (.rt d, r.2) S2
    else .ok (.nx, σ) S1
open Classical in
noncomputable def sWhile (c : FB) (b : FS) : FS := fun σ S => if h : ∃ n, wlN c b n σ S ≠ .no then wlN c b h.choose σ S else .no
theorem while_some {c : FB} {b : FS} {P : Fl × Sg → Bxs → Prop} {E : Nat → List Dt → Bxs → Prop} (h : (sWhile c b σ S).Sat P E) : ∃ n, (wlN c b n σ S).Sat P E := by
  unfold sWhile at h
  split at h
  · exact ⟨_, h⟩
  · exact h.elim
theorem ss_while {c : Expr} {body : List Stmt} {fc : FB} {fb : FS} {pos : Pos} (hp : PassesOwn (model X.prog X.w) X.A X.env X.xe) (hc : ST X Er c fc) (hb : SSs X Er body fb) : SS X Er (.While c body [] pos) (sWhile fc fb) := by
  obtain ⟨tc, pc, qc⟩ := hc.ex
  obtain ⟨tb, pb, qb⟩ := hb.ex
  refine ⟨_, ps_while hp pc pb, fun τ H ρ σ S D T h => ?_⟩
  obtain ⟨n, h⟩ := while_some h
  refine ⟨fun m τ' H' => ∃ ρ' σ' S', To H H' ρ ρ' ∧ Ty X.K H' ρ' σ' S' τ' ∧ (wlN fc fb m σ' S').Sat (KF X.K H' ρ' D) (KX Er H' ρ'), ⟨n, ρ, σ, S, To.refl _ _, T, h⟩, ?_⟩
  rintro m τ1 H1 ⟨ρ1, σ1, S1, t1, T1, h1⟩
  cases m with
  | zero => exact h1.elim
  | succ m =>
    refine qc τ1 H1 ρ1 σ1 S1 _ T1 ((link h1).mono (fun k S2 h2 => ?_) fun _ _ _ q => q)
    intro H2 ρ2 t2 hr2
    cases k with
    | false =>
      rw [if_neg Bool.false_ne_true] at h2
      show if false = true then _ else _
      rw [if_neg Bool.false_ne_true]
      exact h2 τ1 H2 ρ2 t2 (T1.to t2 hr2)
    | true =>
      rw [if_pos rfl] at h2
      show if true = true then _ else _
      rw [if_pos rfl]
      refine ⟨fun τ' H' => ∃ ρ' σ' S', To H H' ρ ρ' ∧ Ty X.K H' ρ' σ' S' τ' ∧ (wlN fc fb m σ' S').Sat (KF X.K H' ρ' D) (KX Er H' ρ'), fun τ' H' q => ⟨m, Nat.lt_succ_self m, q⟩, ?_⟩
      refine qb τ1 H2 ρ2 σ1 S2 _ (T1.to t2 hr2) ((link (Rs.Sat.toF t2 h2)).mono (fun r S3 h3 => ?_) fun _ _ _ q => q)
      obtain ⟨fl, σ3⟩ := r
      cases fl with
      | nx =>
        intro τ3 H3 ρ3 t3 T3
        exact ⟨ρ3, σ3, S3, (t1.trans t2).trans t3, T3, Rs.Sat.toF t3 h3⟩
      | ct =>
        intro τ3 H3 ρ3 t3 T3
        exact ⟨ρ3, σ3, S3, (t1.trans t2).trans t3, T3, Rs.Sat.toF t3 h3⟩
      | bk =>
        intro τ3 H3 ρ3 t3 T3
        exact h3 τ3 H3 ρ3 t3 T3
      | rt d =>
        intro v H3 ρ3 t3 hr3 dv
        exact h3 v H3 ρ3 t3 hr3 dv
/-! ### methods without arguments -/
abbrev GM0 := Dt → Bxs → Rs Dt
open Classical in
noncomputable def dMeth0 (T : String) (g : GM0) (o : FE) : FE := fun σ S => (o σ S).bind fun d S1 => if tyD T d S1 then g d S1 else .no
def RM0 (K : PySem.W.Frag) (r : V → List V → Hp → VK → Prop) (g : GM0) : Prop := ∀ H ρ S d v Q, HR K H ρ S → DV K H ρ d v → (g d S).Sat (KO K H ρ Q) noX → r v [] H Q
def CalmM0 (g : GM0) : Prop := ∀ d S c es S', g d S ≠ .ex c es S'
theorem se_meth0 {T id : String} {name : Str} {r : V → List V → Hp → VK → Prop} {g : GM0} {o : Expr} {fo : FE} {apos cpos : Pos} (pa : PlainAttrs T) (slot : Slot T name id) (hty : typeOf (.builtin id) = pure (.type "method_descriptor")) (hm : MtR X id r) (hr : RM0 X.K r g) (hc : CalmM0 g)
    (ho : SE X Er o fo) (hbase : attributeBase o name X.env (eval o X.env) = eval o X.env := by rfl) (hline : (apos.endLine == cpos.line) = true := by rfl) :
    SE X Er (.Call (.Attribute o name apos) [] [] cpos) (dMeth0 T g fo) := by
  obtain ⟨to, po, qo⟩ := ho.ex
  refine SE.ofCan ⟨fun pins s τ H Q I ⟨ρ, σ, S, Ty0, h⟩ => ?_⟩
  have h := link h
  refine wpAny_Call_method0_late hbase hline (thn (po.run pins s τ H (fun x H1 => ∃ ρ1 S1 d, To H H1 ρ ρ1 ∧ HR X.K H1 ρ1 S1 ∧ DV X.K H1 ρ1 d x ∧ tyD T d S1 ∧ (g d S1).Sat (KO X.K H ρ Q) (KX Er H ρ)) I ?_) ?_)
  · exact qo τ H ρ σ S _ Ty0 (h.mono (fun d S1 q x H1 ρ1 t1 hr1 dv => ⟨ρ1, S1, d, t1, hr1, dv, (iteC_sat q).1, (iteC_sat q).2⟩) fun _ _ _ q => q)
  rintro v s1 ⟨x, H1, I1, r1, ρ1, S1, d, t1, hr1, dv, ty, q⟩
  obtain ⟨h1, h2⟩ := ty_is I1 hr1 dv r1 ty
  exact ⟨T, id, pa, slot, hty, h1, h2, Calls.callWith_builtin rfl (PySem.evalArgs_none (hm pins s1 τ H1 x [] v [] Q I1 r1 .nil (hr H1 ρ1 S1 d x Q hr1 dv (sat_calm (hc _ _) (Rs.Sat.toO t1 q)))))⟩
/-- xs.pop() -/
def popG : GM0 := fun d S => match d with
  | .box n => match S.lst n with
    | some xs => match xs.getLast? with
      | some x => .ok x (S.set n (.lst xs.dropLast))
      | none => .no
    | none => .no
  | _ => .no
theorem popG_calm : CalmM0 popG := by
  intro d S c es S'
  unfold popG
  split
  · split
    · split
      · exact calm_ok _ _ _ _ _
      · exact calm_no _ _ _
    · exact calm_no _ _ _
  · exact calm_no _ _ _
theorem DVs.dropLast : ∀ {ds : List Dt} {vs : List V}, DVs K H ρ ds vs → DVs K H ρ ds.dropLast vs.dropLast
  | _, _, .nil => .nil
  | _, _, .cons (ds := []) h t => by cases t; exact .nil
  | _, _, .cons (ds := d :: ds) h t => by
    cases t with
    | cons h2 t2 =>
      rw [List.dropLast_cons₂, List.dropLast_cons₂]
      exact .cons h (DVs.dropLast (.cons h2 t2))
theorem rm_pop : RM0 K rPop popG := by
  intro H ρ S d v Q hr dv h
  unfold popG at h
  split at h
  · rename_i n
    cases dv with
    | box ha =>
      split at h
      · rename_i xs e
        split at h
        · rename_i x ex
          obtain ⟨us, h1, h2⟩ := hr.mu ha e
          have hx : xs[xs.length - 1]? = some x := by rw [← List.getLast?_eq_getElem?]; exact ex
          obtain ⟨y, hy, dy⟩ := h2.get hx
          rw [h2.length] at hy
          have t : To H (upd H _ (.lst us.dropLast)) ρ ρ := ⟨Ext.set h1, List.prefix_refl _⟩
          refine ⟨_, us, y, rfl, rfl, h1, hy, ?_⟩
          exact h y _ ρ t (hr.set (lst_get e) ha h1 h2.dropLast) (dy.to t)
        · exact h.elim
      · exact h.elim
  · exact h.elim
/-! ### sorted -/
def sortV (bs : List (V × PyData)) : List V := (bs.mergeSort (PySem.W.dataLe false (·.2))).map (·.1)
/-- what is asked of the data that are sorted -/
def SrtOk (ps : List PyData) : Prop := PySem.W.AllAlike ps ∧ PySem.W.Sortable ps ∧ ∀ p ∈ ps, p.depth ≤ 60
theorem each_vals {h' : Heap} : ∀ {bs : List (V × PyData)} {its : List Value}, Vals (bs.map (·.1)) its → (∀ b ∈ bs, ∀ u, RelV b.1 u → ∃ as, Reads h' u b.2 as) → PySem.W.EachIs (fun v (b : V × PyData) => RelV b.1 v) its bs ∧ PySem.W.EachIs (fun v (b : V × PyData) => ∃ as, Reads h' v b.2 as) its bs
  | [], _, r, _ => by cases r; exact ⟨.nil, .nil⟩
  | b :: bs, _, r, q => by
    rw [List.map_cons] at r
    cases r with
    | cons h t =>
      obtain ⟨e1, e2⟩ := each_vals t fun b' hb' => q b' (List.mem_cons_of_mem _ hb')
      exact ⟨.cons h e1, .cons (q b List.mem_cons_self _ h) e2⟩
theorem vals_each : ∀ {bs : List (V × PyData)} {its : List Value}, PySem.W.EachIs (fun v (b : V × PyData) => RelV b.1 v) its bs → Vals (bs.map (·.1)) its
  | _, _, .nil => .nil
  | _, _, .cons h t => .cons h (vals_each t)
theorem each_map2 {α β γ : Type} {R : α → γ → Prop} (f : β → γ) : ∀ {as : List α} {bs : List β}, PySem.W.EachIs (fun a b => R a (f b)) as bs → PySem.W.EachIs R as (bs.map f)
  | _, _, .nil => .nil
  | _, _, .cons h t => .cons h (each_map2 f t)
def rSortedA (K : PySem.W.Frag) : List V → Hp → VK → Prop := fun vs H Q => ∃ (a : Addr) (bs : List (V × PyData)), vs = [.ref a] ∧ SqL K H a (bs.map (·.1)) ∧ (∀ b ∈ bs, Dp K H b.1 b.2) ∧ SrtOk (bs.map (·.2)) ∧ ∀ p, H p = none → Q (.ref p) (upd H p (.lst (sortV bs)))
theorem cr_sortedA (hu : X.A.units + 128 < cLine) : CallR X (.builtin "sorted") (rSortedA X.K) := by
  rintro pins s σ H vs us Q I r ⟨a, bs, rfl, hs, hd, ⟨hal, hso, hdp⟩, q⟩
  obtain ⟨its, rv, hl, hz⟩ := I.list hs
  rw [Vals.ref1 r]
  have hlen := rv.length
  rw [List.length_map] at hlen hz
  have kp : ∀ b o, s.heap.get? b = some o → (PySem.W.sortingHeap (PySem.W.copyHeap s.heap its) (s.heap.objs.size + 1) its).get? b = some o := fun b o e => PySem.W.sorting_copy_old e
  have I' : Inv X pins σ H { s with heap := PySem.W.sortingHeap (PySem.W.copyHeap s.heap its) (s.heap.objs.size + 1) its, toks := s.toks } := I.kept kp
  obtain ⟨e1, e2⟩ := each_vals (h' := PySem.W.sortingHeap (PySem.W.copyHeap s.heap its) (s.heap.objs.size + 1) its) rv fun b hb u ru => Dp.reads I' b.2 b.1 u (hd b hb) ru
  have e3 := each_map2 (R := fun v d => ∃ as, Reads (PySem.W.sortingHeap (PySem.W.copyHeap s.heap its) (s.heap.objs.size + 1) its) v d as) (fun b : V × PyData => b.2) e2
  refine PySem.W.sorted_vals (κ := PySem.W.dataKind (PySem.W.sortingHeap (PySem.W.copyHeap s.heap its) (s.heap.objs.size + 1) its) (bs.map (·.2))) hl.isList (PySem.W.SortsAt.data (s := { s with heap := PySem.W.sortingHeap (PySem.W.copyHeap s.heap its) (s.heap.objs.size + 1) its }) e3 hal hso fun d hd => ?_) (by rw [← hlen]; exact hz) ?_
  · have := hdp d hd
    show X.A.units + 1 + 1 + d.depth < cLine
    omega
  have out := vals_each (PySem.W.sortVals_data (h' := PySem.W.sortingHeap (PySem.W.copyHeap s.heap its) (s.heap.objs.size + 1) its) (enc := fun b : V × PyData => b.2) false e1 e2 hal)
  obtain ⟨ep, he'⟩ := PyProof.Rows.sortedAll_at s.heap its (PySem.W.sortVals (PySem.W.dataKind (PySem.W.sortingHeap (PySem.W.copyHeap s.heap its) (s.heap.objs.size + 1) its) (bs.map (·.2))) false its its).toArray
  have hlen' : (sortV bs).length ≤ sizeLine := by
    unfold sortV
    rw [List.length_map, (List.mergeSort_perm _ _).length_eq]
    exact hz
  exact ⟨.ref _, upd H (s.heap.objs.size + 1) (.lst (sortV bs)), I.laid (t' := s.toks) (fun _ _ => PyProof.Rows.sortedAll_old) (Nat.le_succ _) ⟨hlen', _, ep, out, he'⟩, rfl, q _ (I.hok.fresh (Nat.le_succ _))⟩
end
end Mn
set_option Elab.async false
set_option linter.all false
set_option maxRecDepth 100000
set_option maxHeartbeats 4000000
/-! MnV: sorted at the data; sorted(dict); displays and comprehensions of dicts; get. -/
namespace Mn
open PySem PySem.Spec PyProof.Rows L2
section
variable {X : Cx} {Er : ER} {K : PySem.W.Frag} {H H1 : Hp} {ρ ρ1 : List Addr} {σ : Sg} {S S1 : Bxs} {τ : L2.St}
def sortD (bs : List (Dt × PyData)) : List Dt := (bs.mergeSort (PySem.W.dataLe false (·.2))).map (·.1)
def keyPd : Key → PyData
  | .inl i => .int i
  | .inr x => .str x
def keyDt : Key → Dt
  | .inl i => .int i
  | .inr x => .str x
theorem key_dp (k : Key) : Dp K H (kV k) (keyPd k) := by
  cases k with
  | inl i => exact .int i
  | inr x => exact .str x
theorem key_dvd (k : Key) : DV K H ρ (keyDt k) (kV k) := by
  cases k with
  | inl i => exact .int i
  | inr x => exact .str x
/-- sorted(d), the keys -/
def rSortedDk : List V → Hp → VK → Prop := fun vs H Q => ∃ (a : Addr) (kvs : List (Key × V)), vs = [.ref a] ∧ H a = some (.dK kvs) ∧ SrtOk (kvs.map fun kv => keyPd kv.1) ∧ ∀ p, H p = none → Q (.ref p) (upd H p (.lst (sortV (kvs.map fun kv => (kV kv.1, keyPd kv.1)))))
theorem cr_sortedDk (hu : X.A.units + 128 < cLine) (hcalm : X.calm = true) : CallR X (.builtin "sorted") rSortedDk := by
  rintro pins s σ H xs us Q I r ⟨a, kvs, rfl, hd, ⟨hal, hso, hdp⟩, q⟩
  obtain ⟨u, rfl, rx⟩ := vals1 r
  cases rx
  obtain ⟨z, lo, vs, rel, dd⟩ := dk_rd I.hok (.inl hd)
  obtain ⟨ep, hat⟩ := dd.dictAt
  have ek : (kvs.map fun kv => kV kv.1) = vs.map fun p => kV p.1 := by
    have e := congrArg (List.map kV) rel.keys
    rw [List.map_map, List.map_map] at e
    exact e
  have h16 : vs.length ≤ sizeLine := by rw [← rel.length]; exact z
  refine Calls.call_function_entry PyProof.Rows.kind_sorted PyProof.Rows.plain_sorted PyProof.Rows.entry_sorted (PyProof.Rows.args_sorted1 _) ?_
  unfold Builtin.«sorted»
  refine wpAny_bind (m := checkCount "sorted" 1 1 _) (wpAny_pure ?_)
  refine wpAny_bind (PySem.W.kdu_collect (A := X.A.in1) (PySem.W.kdl_dict (knd := mixKind X.prog X.w) (kvs := vs) (ep := ep) lo) (I.ok.hd hcalm) hat h16 fun h' tk acc hk hacc => ?_)
  have hv0 : Vals (vs.map fun p => kV p.1) acc.toList := keys_at (by rw [Array.length_toList]; exact hacc.1) fun j v e => hacc.2 j v (by rw [← Array.getElem?_toList]; exact e)
  have hv : Vals ((kvs.map fun kv => (kV kv.1, keyPd kv.1)).map (·.1)) acc.toList := by
    rw [List.map_map]
    show Vals (kvs.map fun kv => kV kv.1) _
    rw [ek]; exact hv0
  have hal' : acc.toList.length = kvs.length := by
    have := hv.length
    rw [List.length_map, List.length_map] at this
    exact this.symm
  have I1 : Inv X pins σ H { s with heap := h', toks := tk } := I.kept hk
  refine wpAny_bind (wpAny_newList ?_ (by rw [hal']; exact z))
  have hoL : (h'.push (seqObj "list" acc.toList.toArray 0)).get? h'.objs.size = some (seqObj "list" acc.toList.toArray 0) := Heap.get?_push_size _ rfl
  show wpAny _ _ _ _ _ { s with heap := h'.push (seqObj "list" acc.toList.toArray 0), toks := tk }
  generalize hh2 : PySem.W.sortingHeap (h'.push (seqObj "list" acc.toList.toArray 0)) h'.objs.size acc.toList = h2
  have kp : ∀ b o, h'.get? b = some o → h2.get? b = some o := fun b o e => by
    rw [← hh2]
    exact PySem.W.sortingHeap_old (Nat.ne_of_lt (Heap.lt_size e)) (Heap.get?_push_of_some _ e)
  have I' : Inv X pins σ H { s with heap := h2, toks := tk } := I1.kept (t' := tk) kp
  obtain ⟨e1, e2⟩ := each_vals (h' := h2) hv fun b hb u ru => by
    obtain ⟨kv, _, rfl⟩ := List.mem_map.mp hb
    exact Dp.reads I' _ _ u (key_dp kv.1) ru
  have e3 := each_map2 (R := fun v d => ∃ as, Reads h2 v d as) (fun b : V × PyData => b.2) e2
  have em : (kvs.map fun kv => (kV kv.1, keyPd kv.1)).map (·.2) = kvs.map fun kv => keyPd kv.1 := by rw [List.map_map]; rfl
  rw [← em] at hal hso hdp
  have e4 := PySem.W.sortVals_data (h' := h2) (enc := fun b : V × PyData => b.2) false e1 e2 hal
  have S0 : PySem.W.SortsAt X.prog X.w X.A.in1.in1 { s with heap := h2, toks := tk } (PySem.W.dataKind h2 ((kvs.map fun kv => (kV kv.1, keyPd kv.1)).map (·.2))) acc.toList :=
    PySem.W.SortsAt.data (s := { s with heap := h2, toks := tk }) e3 hal hso fun d hd => by
      have := hdp d hd
      show X.A.units + 1 + 1 + d.depth < cLine
      omega
  rw [← hh2] at S0
  refine wpAny_bind (wpAny_holding (wpAny_call_entry PyProof.Rows.slot_list_sort ⟨_, hoL, rfl⟩ PyProof.Rows.entry_list_sort
    (PySem.W.list_sort_vals (s := { s with heap := h'.push (seqObj "list" acc.toList.toArray 0), toks := tk }) hoL S0 (by rw [hal']; exact z) ⟨_, rfl, ?_⟩) (PyProof.Rows.args_list_sort _)))
  have out := vals_each e4
  rw [← hh2] at out
  obtain ⟨e', he'⟩ := PyProof.Rows.sortedHeap_at (vs := acc.toList) (out := (PySem.W.sortVals (PySem.W.dataKind (PySem.W.sortingHeap (h'.push (seqObj "list" acc.toList.toArray 0)) h'.objs.size acc.toList) ((kvs.map fun kv => (kV kv.1, keyPd kv.1)).map (·.2))) false acc.toList acc.toList).toArray) hoL
  have hlen : (sortV (kvs.map fun kv => (kV kv.1, keyPd kv.1))).length ≤ sizeLine := by
    unfold sortV
    rw [List.length_map, (List.mergeSort_perm _ _).length_eq, List.length_map]
    exact z
  refine wpAny_pure ⟨_, rfl, .ref h'.objs.size, upd H h'.objs.size (.lst (sortV (kvs.map fun kv => (kV kv.1, keyPd kv.1)))), I1.laid (t' := tk) (fun b u e => ?_) (Nat.le_refl _)
    (show ObjOk X.prog X.w _ _ _ (.lst (sortV (kvs.map fun kv => (kV kv.1, keyPd kv.1)))) from ⟨hlen, _, e', out, he'⟩), rfl, q _ (I1.hok.fresh (Nat.le_refl _))⟩
  have hb : b < h'.objs.size := Heap.lt_size e
  rw [PyProof.Rows.sortedHeap_old (Nat.ne_of_lt hb) (by rw [size_push']; exact Nat.lt_succ_of_lt hb)]
  exact Heap.get?_push_of_some _ e
open Classical in
noncomputable def sortedG : GC := fun ds S => match ds with
  | [.box n] => match S.seq n with
    | some xs => match optAll (xs.map (pdo S)) with
      | some ps => if SrtOk ps then newL (sortD (xs.zip ps)) S else .no
      | none => .no
    | none => match S.dk n with
      | some kvs => if SrtOk (kvs.map fun kv => keyPd kv.1) then newL (sortD (kvs.map fun kv => (keyDt kv.1, keyPd kv.1))) S else .no
      | none => .no
  | _ => .no
theorem sortedG_calm : CalmC sortedG := by
  intro ds S c es S'
  unfold sortedG
  split
  · split
    · split
      · split
        · unfold newL; exact calm_ite (calm_ok _ _) _ _ _
        · exact calm_no _ _ _
      · exact calm_no _ _ _
    · split
      · split
        · unfold newL; exact calm_ite (calm_ok _ _) _ _ _
        · exact calm_no _ _ _
      · exact calm_no _ _ _
  · exact calm_no _ _ _
theorem optAll_len : ∀ {α β : Type} {f : α → Option β} {xs : List α} {ps : List β}, optAll (xs.map f) = some ps → ps.length = xs.length
  | _, _, _, [], _, h => by cases h; rfl
  | _, _, f, x :: xs, ps, h => by
    rw [List.map_cons] at h
    cases e : f x with
    | none => rw [e] at h; cases h
    | some p =>
      rw [e] at h
      unfold optAll at h
      cases e2 : optAll (xs.map f) with
      | none => rw [e2] at h; cases h
      | some qs =>
        rw [e2] at h
        cases h
        rw [List.length_cons, List.length_cons, optAll_len e2]
theorem each_of_dvs (hr : HR K H ρ S) : ∀ {xs : List Dt} {vs : List V} {ps : List PyData}, DVs K H ρ xs vs → optAll (xs.map (pdo S)) = some ps → PySem.W.EachIs (fun (x : Dt × PyData) (y : V × PyData) => (DV K H ρ x.1 y.1 ∧ Dp K H y.1 y.2) ∧ x.2 = y.2) (xs.zip ps) (vs.zip ps)
  | [], _, _, h, e => by cases h; cases e; exact .nil
  | x :: xs, _, ps, .cons hx hs, e => by
    rw [List.map_cons] at e
    cases e1 : pdo S x with
    | none => rw [e1] at e; cases e
    | some p =>
      rw [e1] at e
      unfold optAll at e
      cases e2 : optAll (xs.map (pdo S)) with
      | none => rw [e2] at e; cases e
      | some qs =>
        rw [e2] at e
        cases e
        rw [List.zip_cons_cons, List.zip_cons_cons]
        exact .cons ⟨⟨hx, dp_of hr _ x _ p hx e1⟩, rfl⟩ (each_of_dvs hr hs e2)
theorem dvs_of_each : ∀ {as : List (Dt × PyData)} {bs : List (V × PyData)}, PySem.W.EachIs (fun (x : Dt × PyData) (y : V × PyData) => (DV K H ρ x.1 y.1 ∧ Dp K H y.1 y.2) ∧ x.2 = y.2) as bs → DVs K H ρ (as.map (·.1)) (bs.map (·.1))
  | _, _, .nil => .nil
  | _, _, .cons h t => .cons h.1.1 (dvs_of_each t)
theorem sort_dvs {as : List (Dt × PyData)} {bs : List (V × PyData)} (h : PySem.W.EachIs (fun (x : Dt × PyData) (y : V × PyData) => (DV K H ρ x.1 y.1 ∧ Dp K H y.1 y.2) ∧ x.2 = y.2) as bs) : DVs K H ρ (sortD as) (sortV bs) := by
  refine dvs_of_each (PySem.W.sort_each h fun p hp q hq => ?_)
  have a1 := (h.zip p hp).2
  have a2 := (h.zip q hq).2
  dsimp only [PySem.W.dataLe, PySem.W.sortLe]
  rw [a1, a2]
def rSortAll (K : PySem.W.Frag) : List V → Hp → VK → Prop := fun vs H Q => rSortedA K vs H Q ∨ rSortedDk vs H Q
theorem cr_sortAll (hu : X.A.units + 128 < cLine) (hcalm : X.calm = true) : CallR X (.builtin "sorted") (rSortAll X.K) := by
  intro pins s σ H xs us Q I r q
  rcases q with q | q
  · exact cr_sortedA hu pins s σ H xs us Q I r q
  · exact cr_sortedDk hu hcalm pins s σ H xs us Q I r q
theorem dps_keys : ∀ {kvs : List (Key × Dt)} {ws : List (Key × V)}, DPs K H ρ kvs ws → kvs.map (·.1) = ws.map (·.1)
  | _, _, .nil => rfl
  | _, _, .cons _ t => by rw [List.map_cons, List.map_cons, dps_keys t]
theorem rc_sorted : RCo K (rSortAll K) sortedG := by
  intro H ρ S ds vs Q hr dvs h
  unfold sortedG at h
  split at h
  · rename_i n
    obtain ⟨v, rfl, dv⟩ := dvs1 dvs
    cases dv with
    | box ha =>
      split at h
      · rename_i xs e
        split at h
        · rename_i ps ep
          obtain ⟨c, h⟩ := iteC_sat h
          obtain ⟨hl, h⟩ := newL_ok h
          obtain ⟨us, h1, h2⟩ := hr.rd ha e
          have hl2 := optAll_len ep
          have hle : us.length = ps.length := by rw [hl2, h2.length]
          have ea := each_of_dvs hr h2 ep
          have m1 : (us.zip ps).map (·.1) = us := List.map_fst_zip (by omega)
          have m2 : (us.zip ps).map (·.2) = ps := List.map_snd_zip (by omega)
          refine .inl ⟨_, us.zip ps, rfl, by rw [m1]; exact h1, fun b hb => ?_, by rw [m2]; exact c, fun p hp => new_lst hr (sort_dvs ea) hp h⟩
          have hz : ∀ {as : List (Dt × PyData)} {bs : List (V × PyData)}, PySem.W.EachIs (fun (x : Dt × PyData) (y : V × PyData) => (DV K H ρ x.1 y.1 ∧ Dp K H y.1 y.2) ∧ x.2 = y.2) as bs → ∀ b ∈ bs, Dp K H b.1 b.2 := by
            intro as bs q
            induction q with
            | nil => intro b hb; cases hb
            | cons h _ ih =>
              intro b hb
              rcases List.mem_cons.mp hb with rfl | hb
              · exact h.1.2
              · exact ih b hb
          exact hz ea b hb
        · exact h.elim
      · split at h
        · rename_i kvs e
          obtain ⟨c, h⟩ := iteC_sat h
          obtain ⟨hl, h⟩ := newL_ok h
          obtain ⟨a', ws, h1, h2, h3⟩ := hr.dk _ _ (dk_get e)
          rw [ha] at h1; cases h1
          have ek := dps_keys h3
          have c' : SrtOk (ws.map fun kv => keyPd kv.1) := by
            have : (kvs.map fun kv => keyPd kv.1) = ws.map fun kv => keyPd kv.1 := by
              have := congrArg (List.map keyPd) ek
              rwa [List.map_map, List.map_map] at this
            rwa [this] at c
          refine .inr ⟨_, ws, rfl, h2, c', fun p hp => new_lst hr (sort_dvs ?_) hp h⟩
          have : ∀ {kvs : List (Key × Dt)} {ws : List (Key × V)}, DPs K H ρ kvs ws → PySem.W.EachIs (fun (x : Dt × PyData) (y : V × PyData) => (DV K H ρ x.1 y.1 ∧ Dp K H y.1 y.2) ∧ x.2 = y.2) (kvs.map fun kv => (keyDt kv.1, keyPd kv.1)) (ws.map fun kv => (kV kv.1, keyPd kv.1)) := by
            intro kvs ws q
            induction q with
            | nil => exact .nil
            | cons _ _ ih => exact .cons ⟨⟨key_dvd _, key_dp _⟩, rfl⟩ ih
          exact this h3
        · exact h.elim
  · exact h.elim
/-! ### {k: v, ..} -/
def fPairs : List (FE × FE) → Sg → Bxs → Rs (List (Dt × Dt))
  | [], _, S => .ok [] S
  | (fk, fv) :: r, σ, S => (fk σ S).bind fun k S1 => (fv σ S1).bind fun v S2 => (fPairs r σ S2).bind fun ps S3 => .ok ((k, v) :: ps) S3
inductive DPP (K : PySem.W.Frag) (H : Hp) (ρ : List Addr) : List (Dt × Dt) → List (V × V) → Prop
  | nil : DPP K H ρ [] []
  | cons {k v : Dt} {x y : V} {ds : List (Dt × Dt)} {vs : List (V × V)} : DV K H ρ k x → DV K H ρ v y → DPP K H ρ ds vs → DPP K H ρ ((k, v) :: ds) ((x, y) :: vs)
structure SPs (X : Cx) (Er : ER) (pos : Pos) (keys : List (Option Expr)) (values : List Expr) (fs : List (FE × FE)) : Prop where
  ex : ∃ trs, PPs X pos keys values trs ∧ ∀ τ H ρ σ S (Q : List (V × V) → Hp → Prop), Ty X.K H ρ σ S τ → (fPairs fs σ S).Sat (fun ps S' => ∀ vs H' ρ', To H H' ρ ρ' → HR X.K H' ρ' S' → DPP X.K H' ρ' ps vs → Q vs H') (KX Er H ρ) → tPairs trs τ H Q
theorem sps_nil {pos : Pos} : SPs X Er pos [] [] [] := ⟨_, pps_nil, fun τ H ρ σ S Q T h => h [] H ρ (To.refl _ _) T.hr .nil⟩
theorem sps_cons {pos : Pos} {k v : Expr} {ks : List (Option Expr)} {vs : List Expr} {fk fv : FE} {fs : List (FE × FE)} (hk : SE X Er k fk) (hv : SE X Er v fv) (hr : SPs X Er pos ks vs fs) : SPs X Er pos (some k :: ks) (v :: vs) ((fk, fv) :: fs) := by
  obtain ⟨tk, pk, qk⟩ := hk.ex
  obtain ⟨tv, pv, qv⟩ := hv.ex
  obtain ⟨tr, pr, qr⟩ := hr.ex
  refine ⟨_, pps_cons pk pv pr, fun τ H ρ σ S Q T h => qk τ H ρ σ S _ T ((link h).mono (fun d S1 h1 => ?_) fun _ _ _ q => q)⟩
  intro x H1 ρ1 t1 hr1 dx
  refine qv τ H1 ρ1 σ S1 _ (T.to t1 hr1) ((link h1).mono (fun e S2 h2 => ?_) fun _ _ _ q => q.to t1)
  intro y H2 ρ2 t2 hr2 dy
  refine qr τ H2 ρ2 σ S2 _ ((T.to t1 hr1).to t2 hr2) ((link h2).mono (fun ps S3 h3 => ?_) fun _ _ _ q => (q.to t1).to t2)
  intro vs H3 ρ3 t3 hr3 dp
  exact h3 _ H3 ρ3 ((t1.trans t2).trans t3) hr3 (.cons ((dx.to t2).to t3) (dy.to t3) dp)
/-- the keys of the pairs, all -/
def keysD : List (Dt × Dt) → Option (List (Key × Dt))
  | [] => some []
  | (k, v) :: r => match keyOf k, keysD r with
    | some k, some r => some ((k, v) :: r)
    | _, _ => none
def mergeD (kvs more : List (Key × Dt)) : List (Key × Dt) := more.foldl (fun acc kv => putD acc kv.1 kv.2) kvs
theorem dps_merge : ∀ {more : List (Key × Dt)} {ms : List (Key × V)} {kvs : List (Key × Dt)} {ws : List (Key × V)}, DPs K H ρ more ms → DPs K H ρ kvs ws → DPs K H ρ (mergeD kvs more) (mergeK ws ms)
  | _, _, _, _, .nil, h => h
  | _, _, kvs, ws, .cons (k := k) (d := d) (v := v) (ds := ds) (vs := vs) hd t, h => by
    show DPs K H ρ (mergeD (putD kvs k d) ds) (mergeK (putK ws k v) vs)
    exact dps_merge t (dps_put (k := k) hd h)
theorem keysD_dpp : ∀ {ps : List (Dt × Dt)} {vs : List (V × V)} {kvs : List (Key × Dt)}, DPP K H ρ ps vs → keysD ps = some kvs → ∃ ws : List (Key × V), vs = ws.map (fun kv => (kV kv.1, kv.2)) ∧ DPs K H ρ kvs ws
  | _, _, _, .nil, h => by cases h; exact ⟨[], rfl, .nil⟩
  | _, _, _, .cons (ds := ds) hk hv t, h => by
    unfold keysD at h
    split at h
    · rename_i k r e1 e2
      cases h
      obtain ⟨ws, rfl, q⟩ := keysD_dpp t e2
      exact ⟨(k, _) :: ws, by rw [List.map_cons, key_dv hk e1], .cons hv q⟩
    · cases h
/-- a new dict; it stands empty while its pairs are made -/
def dDisp (fs : List (FE × FE)) : FE := fun σ S => (fPairs fs σ (S ++ [.dk []])).bind fun ps S1 => match keysD ps, S1.dk S.length with
  | some kvs, some [] => if kvs.length ≤ 15 then .ok (.box S.length) (S1.set S.length (.dk (mergeD [] kvs))) else .no
  | _, _ => .no
theorem se_disp {pos : Pos} {keys : List (Option Expr)} {values : List Expr} {fs : List (FE × FE)} (h : SPs X Er pos keys values fs) (hall : keys.all (·.isSome) = true := by rfl) (hl : keys.length = values.length := by rfl) (h0 : keys ≠ [] := by simp) (h15 : keys.length ≤ 15 := by decide) :
    SE X Er (.Dict keys values pos) (dDisp fs) := by
  obtain ⟨trs, pp, qp⟩ := h.ex
  refine ⟨_, pe_disp pp hall hl h0 h15, fun τ H ρ σ S Q T h => ?_⟩
  intro p hp
  have hr' := T.hr.newB (b := .dk []) (o := .dK []) hp ⟨[], upd_same, .nil⟩
  have t0 : To H (upd H p (.dK [])) ρ (ρ ++ [p]) := ⟨Ext.new hp, List.prefix_append _ _⟩
  have hpr : (ρ ++ [p])[S.length]? = some p := by rw [← T.hr.len, List.getElem?_append_right (Nat.le_refl _), Nat.sub_self]; rfl
  refine qp τ _ (ρ ++ [p]) σ _ _ (T.to t0 hr') ((link h).mono (fun ps S1 h1 => ?_) fun _ _ _ q => q.to t0)
  intro vs H1 ρ1 t1 hr1 dp
  split at h1
  · rename_i kvs ek ed
    obtain ⟨c, h1⟩ := ite_sat h1
    obtain ⟨ws, rfl, dw⟩ := keysD_dpp dp ek
    obtain ⟨a, ws0, g1, g2, g3⟩ := hr1.dk _ _ (dk_get ed)
    rw [pre_get t1.pre hpr] at g1
    cases g1
    cases g3
    have tu : To H1 (upd H1 p (.dK (mergeK [] ws))) ρ1 ρ1 := ⟨Ext.setD g2, List.prefix_refl _⟩
    refine ⟨g2, ws, rfl, by rw [← dw.length]; exact c, ?_⟩
    exact h1 _ _ ρ1 ((t0.trans t1).trans tu) (hr1.setD (dk_get ed) (pre_get t1.pre hpr) g2 (dps_merge dw .nil)) (.box (pre_get t1.pre hpr))
  · exact h1.elim
/-! ### {k: v for ..} -/
open Classical in
noncomputable def dcF {α : Type} (st : Bxs → Prop) (g : α → Sg → Bxs → Rs Sg) (tt : FB) (tk te : FE) (σw : Sg) (n : Nat) : List α → Bxs → Rs Unit
  | [], S => if st S then .ok () S else .no
  | x :: xs, S => if st S then (g x σw S).bind fun σ1 S1 => (tt σ1 S1).bind fun b S2 => if b = true then (tk σ1 S2).bind fun y S3 => (te σ1 S3).bind fun d S4 => match keyOf y, S4.dk n with
      | some k, some acc => if acc.length < LIM then dcF st g tt tk te σw n xs (S4.set n (.dk (putD acc k d))) else .no
      | _, _ => .no else dcF st g tt tk te σw n xs S2 else .no
noncomputable def dDc {α : Type} (src : Src α) (g : α → Sg → Bxs → Rs Sg) (tt : FB) (tk te : FE) (vs : List Nat) : FE := fun σ S => (src σ S).bind fun r S1 =>
  (dcF r.2 g tt tk te (wipeD σ vs) S1.length r.1 (S1 ++ [.dk []])).quiet.bind fun _ S2 => .ok (.box S1.length) S2
theorem dcF_st {α : Type} {st : Bxs → Prop} {g : α → Sg → Bxs → Rs Sg} {tt : FB} {tk te : FE} {n : Nat} {xs : List α} {P : Unit → Bxs → Prop} {E : Nat → List Dt → Bxs → Prop} (h : (dcF st g tt tk te σ n xs S).Sat P E) : st S := by
  cases xs with
  | nil => unfold dcF at h; exact (iteC_sat h).1
  | cons x xs => unfold dcF at h; exact (iteC_sat h).1
theorem dc_it {J : It} {n : Nat} {G : Hp → Prop} {Y : Nat → Hp → V → Hp → Prop} (w : Walk J n G Y) {g : TG} {tt : TT} {tk tv : TE} {vs : List Nat} {σ : L2.St} {H1 : Hp} {D : Addr} {Qd : Hp → Prop} (Pv : Nat → Hp → Prop) (h0 : Pv 0 (upd H1 D (.dK []))) (hG : ∀ i H, i ≤ n → Pv i H → G H)
    (hs : ∀ i x H H', i < n → Pv i H → Y i H x H' → g x (L2.wipe σ vs) H' fun σ2 H2 => L2.wipe σ2 vs = L2.wipe σ vs ∧ tt σ2 H2 fun b H3 =>
      if b = true then tk σ2 H3 fun y H4 => tv σ2 H4 fun z H5 => ∃ kvs k, y = kV k ∧ H5 D = some (.dK kvs) ∧ kvs.length < sizeLine ∧ Pv (i + 1) (upd H5 D (.dK (putK kvs k z))) else Pv (i + 1) H3) (hd : ∀ H, Pv n H → Qd H) :
    ∃ W : Nat → Nat → Hp → Prop, (∃ m, W 0 m (upd H1 D (.dK []))) ∧ ∀ i m H, W i m H →
      (J.stop i H ∧ Qd H) ∨ (J.go i H ∧ ∃ Nx : Hp → Prop, (∀ H', Nx H' → ∃ m', m' < m ∧ W (i + 1) m' H') ∧ ∀ x H', J.yld i H x H' → g x (L2.wipe σ vs) H' fun σ2 H2 => L2.wipe σ2 vs = L2.wipe σ vs ∧ tt σ2 H2 fun b H3 =>
        if b = true then tk σ2 H3 fun y H4 => tv σ2 H4 fun z H5 => ∃ kvs k, y = kV k ∧ H5 D = some (.dK kvs) ∧ kvs.length < sizeLine ∧ Nx (upd H5 D (.dK (putK kvs k z))) else Nx H3) := by
  refine ⟨fun i m H => m = n - i ∧ i ≤ n ∧ Pv i H, ⟨n, by simp, Nat.zero_le _, h0⟩, ?_⟩
  rintro i m H ⟨rfl, hi, p⟩
  have q := hG i H hi p
  by_cases hlt : i < n
  · refine .inr ⟨w.goes i H hlt q, Pv (i + 1), fun H' p' => ⟨n - (i + 1), by omega, rfl, hlt, p'⟩, fun x H' y => hs i x H H' hlt p (w.yields i H x H' hlt q y)⟩
  · have e : i = n := by omega
    subst e
    exact .inl ⟨w.stops H q, hd H p⟩
theorem dc_sat {α : Type} {it : IRel α} {src : Src α} {g : α → Sg → Bxs → Rs Sg} {ft : FB} {fk fe : FE} {vs : List Nat} {wi : TI} (qi : ∀ τ H ρ σ S R, Ty X.K H ρ σ S τ → (src σ S).Sat (KI X.K H ρ it R) (KX Er H ρ) → wi τ H R)
    {Q : VK} (T : Ty X.K H ρ σ S τ) (h : (dDc src g ft fk fe vs σ S).Sat (KO X.K H ρ Q) (KX Er H ρ)) : tDc wi (canV X.K vs it g) (canT X.K noEr ft) (canE X.K noEr fk) (canE X.K noEr fe) vs τ H Q := by
  refine qi τ H ρ σ S _ T ((link h).mono (fun r S1 h1 => ?_) fun _ _ _ q => q)
  obtain ⟨xs, st⟩ := r
  intro H1 ρ1 J G Y t1 hr1 w hG hY
  intro D hD
  have h2 : (dcF st g ft fk fe (wipeD σ vs) S1.length xs (S1 ++ [MBox.dk []])).Sat (fun _ S2 => KO X.K H ρ Q (.box S1.length) S2) noX := quiet_sat (link h1)
  have tD : To H1 (upd H1 D (.dK [])) ρ1 (ρ1 ++ [D]) := ⟨Ext.new hD, List.prefix_append _ _⟩
  have hDr : (ρ1 ++ [D])[S1.length]? = some D := by rw [← hr1.len, List.getElem?_append_right (Nat.le_refl _), Nat.sub_self]; rfl
  refine dc_it w (fun i H' => ∃ ρ' S', To (upd H1 D (.dK [])) H' (ρ1 ++ [D]) ρ' ∧ HR X.K H' ρ' S' ∧ (dcF st g ft fk fe (wipeD σ vs) S1.length (xs.drop i) S').Sat (fun _ S2 => KO X.K H ρ Q (.box S1.length) S2) noX)
    ⟨ρ1 ++ [D], S1 ++ [MBox.dk []], To.refl _ _, hr1.newB (b := .dk []) (o := .dK []) hD ⟨[], upd_same, .nil⟩, h2⟩ (fun i H' _ ⟨ρ', S', t', hr', h'⟩ => hG H' ρ' S' (tD.trans t') hr' (dcF_st h')) (fun i x H' H'' hlt ⟨ρ', S', t', hr', h'⟩ hy => ?_) fun H' ⟨ρ', S', t', hr', h'⟩ => ?_
  · have hi : xs[i]? = some xs[i] := List.getElem?_eq_getElem hlt
    have hd : xs.drop i = xs[i] :: xs.drop (i + 1) := List.drop_eq_getElem_cons hlt
    rw [hd] at h'
    have hst := dcF_st h'
    unfold dcF at h'
    obtain ⟨_, h'⟩ := iteC_sat h'
    have Tw : Ty X.K H' ρ' (wipeD σ vs) S' (L2.wipe τ vs) := ⟨hr', (T.sl.to ((t1.trans tD).trans t')).wipe vs⟩
    refine ⟨H', xs[i], ρ', wipeD σ vs, S', Tw, hY i _ x H' H'' ρ' S' (tD.trans t') hr' hst hi hy, (link h').mono (fun σ1 S2 h3 => ?_) fun _ _ _ q => q⟩
    intro τ2 H2 ρ2 t2 T2 w2
    refine ⟨?_, ρ2, σ1, S2, T2, (link h3).mono (fun b S3 h4 => ?_) fun c ds s q => q.elim⟩
    · rw [w2]
      have idem : ∀ (us : List Nat) (τ : L2.St), (∀ u ∈ us, u ∈ vs) → L2.wipe (L2.wipe τ us) vs = L2.wipe τ vs := by
        intro us
        induction us with
        | nil => intro τ _; rfl
        | cons u us ih =>
          intro τ hu
          show L2.wipe ((L2.wipe τ us).set u none) vs = L2.wipe τ vs
          rw [wipe_set (hu u List.mem_cons_self)]
          exact ih τ fun x hx => hu x (List.mem_cons_of_mem _ hx)
      exact idem vs τ fun u hu => hu
    intro H3 ρ3 t3 hr3
    cases b with
    | true =>
      rw [if_pos rfl] at h4
      show if true = true then _ else _
      rw [if_pos rfl]
      refine ⟨ρ3, σ1, S3, T2.to t3 hr3, (link h4).mono (fun yk S4 h5 => ?_) fun c ds s q => q.elim⟩
      intro y H4 ρ4 t4 hr4 dk
      refine ⟨ρ4, σ1, S4, (T2.to t3 hr3).to t4 hr4, (link h5).mono (fun d S5 h6 => ?_) fun c ds s q => q.elim⟩
      intro z H5 ρ5 t5 hr5 dv
      split at h6
      · rename_i k acc ek ea
        obtain ⟨hl, h6⟩ := ite_sat h6
        have ha : ρ5[S1.length]? = some D := pre_get ((((t'.trans t2).trans t3).trans t4).trans t5).pre hDr
        obtain ⟨a', us, g0, g1, g2⟩ := hr5.dk _ _ (dk_get ea)
        rw [ha] at g0; cases g0
        have tu : To H5 (upd H5 D (.dK (putK us k z))) ρ5 ρ5 := ⟨Ext.setD g1, List.prefix_refl _⟩
        exact ⟨us, k, key_dv dk ek, g1, by rw [← g2.length]; exact lim_lt hl, ρ5, _, ((((t'.trans t2).trans t3).trans t4).trans t5).trans tu, hr5.setD (dk_get ea) ha g1 (dps_put dv g2), h6⟩
      · exact h6.elim
    | false =>
      rw [if_neg Bool.false_ne_true] at h4
      show if false = true then _ else _
      rw [if_neg Bool.false_ne_true]
      exact ⟨ρ3, S3, (t'.trans t2).trans t3, hr3, h4⟩
  · rw [List.drop_length] at h'
    unfold dcF at h'
    obtain ⟨_, h'⟩ := iteC_sat h'
    exact h' (.ref D) H' ρ' ((t1.trans tD).trans t') hr' (.box (pre_get t'.pre hDr))
theorem se_dc {α : Type} {it : IRel α} {kx vx tg iter : Expr} {ifs : List Expr} {scope : Scope} {pos : Pos} {src : Src α} {g : α → Sg → Bxs → Rs Sg} {ft : FB} {fk fe : FE} (own : List (Str × Nat)) (hc : X.calm = true) (hN : X.N.Nodup) (hi : SI X Er it tg iter src) (ok : BlkOk X.N X.env.scope scope own)
    (hg : ∀ (s : Shared) (H : Hp) (C : Addr) (cl : List (Str × Addr)) (fp : List Addr), SVi (X.blk s H scope (compEnvC scope cl C X.env) fp) (own.map (·.2)) it tg g)
    (ht : ∀ (s : Shared) (H : Hp) (C : Addr) (cl : List (Str × Addr)) (fp : List Addr), STs (X.blk s H scope (compEnvC scope cl C X.env) fp) ifs ft)
    (hk : ∀ (s : Shared) (H : Hp) (C : Addr) (cl : List (Str × Addr)) (fp : List Addr), SE (X.blk s H scope (compEnvC scope cl C X.env) fp) noEr kx fk)
    (he : ∀ (s : Shared) (H : Hp) (C : Addr) (cl : List (Str × Addr)) (fp : List Addr), SE (X.blk s H scope (compEnvC scope cl C X.env) fp) noEr vx fe)
    (hs : ∀ x, foldedSetIterable iter X.env x = pure x := by intro _; rfl) : SE X Er (.DictComp kx vx [⟨tg, iter, ifs, 0⟩] scope pos) (dDc src g ft fk fe (own.map (·.2))) := by
  obtain ⟨wi, pi, qi⟩ := hi.ex
  exact ⟨_, pe_dc hc hN pi ok (fun s H C cl fp => (hg s H C cl fp).can) (fun s H C cl fp => (ht s H C cl fp).can) (fun s H C cl fp => (hk s H C cl fp).can) (fun s H C cl fp => (he s H C cl fp).can) hs, fun τ H ρ σ S Q T h => dc_sat qi T h⟩
end
end Mn
set_option Elab.async false
set_option linter.all false
set_option maxRecDepth 100000
set_option maxHeartbeats 4000000
/-! MnW: or, and by truth; repr of an empty dict. -/
namespace Mn
open PySem PySem.Spec PyProof.Rows L2
section
variable {X : Cx} {Er : ER} {K : PySem.W.Frag} {H H1 : Hp} {ρ ρ1 : List Addr} {σ : Sg} {S S1 : Bxs} {τ : L2.St}
/-- repr, of an empty dict too -/
def reprE : GC := fun ds S => match ds with
  | [.box n] => match S.dk n with
    | some [] => .ok (.str (PyData.dict []).shown) S
    | _ => reprG ds S
  | _ => reprG ds S
end
end Mn
set_option Elab.async false
set_option linter.all false
set_option maxRecDepth 100000
set_option maxHeartbeats 4000000
/-! MnR: gcd; get; walks over a dict. -/
namespace Mn
open PySem PySem.Spec PyProof.Rows L2
section
variable {X : Cx} {Er : ER} {K : PySem.W.Frag} {H H1 : Hp} {ρ ρ1 : List Addr} {σ : Sg} {S S1 : Bxs} {τ : L2.St}
/-! ### a module's name for a built-in -/
/-! ### get -/
def rKGet (K : PySem.W.Frag) : V → List V → Hp → VK → Prop := fun x vs H Q => ∃ (a : Addr) (y z : V) (o : Option V), x = .ref a ∧ (vs = [y, z] ∨ (vs = [y] ∧ z = .non)) ∧ DGet H a y o ∧ Q (o.getD z) H
theorem mt_kget (hu : X.A.units + 1 < cLine) : MtR X "dict.get" (rKGet X.K) := by
  rintro pins s σ H x vs v us Q I rx rv ⟨a, y, z, o, rfl, hvs, g, q⟩
  cases rx
  rcases hvs with rfl | ⟨rfl, rfl⟩
  · obtain ⟨u1, u2, rfl, r1, r2⟩ := vals2 rv
    exact d_get2 hu I g r1 r2 fun w' s4 I4 rw' => ⟨_, H, I4, rw', q⟩
  · obtain ⟨u1, rfl, r1⟩ := vals1 rv
    exact d_get1 hu I g r1 fun w' s4 I4 rw' => ⟨_, H, I4, rw', q⟩
def rDGetA (K : PySem.W.Frag) : V → List V → Hp → VK → Prop := fun x vs H Q => rKGet K x vs H Q ∨ rTGet K x vs H Q
theorem mt_dgetA (hu : X.A.units + 128 < cLine) : MtR X "dict.get" (rDGetA X.K) := by
  rintro pins s σ H x vs v us Q I rx rv (q | q)
  · exact mt_kget (by omega) pins s σ H x vs v us Q I rx rv q
  · exact mt_tget (by omega) pins s σ H x vs v us Q I rx rv q
def dgetD (d y z : Dt) (S : Bxs) : Rs Dt := match tget S d y with
  | some (some v) => .ok v S
  | some none => .ok z S
  | none => match dkO S d, keyOf y with
    | some kvs, some k => .ok ((valD kvs k).getD z) S
    | _, _ => .no
def dgetMG : GM := fun d ds S => match ds with
  | [y] => dgetD d y .non S
  | [y, z] => dgetD d y z S
  | _ => .no
theorem dgetD_calm (d y z : Dt) (S : Bxs) : ∀ c es S', dgetD d y z S ≠ .ex c es S' := by
  intro c es S'
  unfold dgetD
  split
  · exact calm_ok _ _ _ _ _
  · exact calm_ok _ _ _ _ _
  · split
    · exact calm_ok _ _ _ _ _
    · exact calm_no _ _ _
theorem dgetMG_calm : CalmM dgetMG := by
  intro d ds S c es S'
  unfold dgetMG
  split
  · exact dgetD_calm _ _ _ _ _ _ _
  · exact dgetD_calm _ _ _ _ _ _ _
  · exact calm_no _ _ _
theorem dgetD_sat {d y z : Dt} {v yv zv : V} {vs : List V} {Q : VK} (hr : HR K H ρ S) (dv : DV K H ρ d v) (dy : DV K H ρ y yv) (dz : DV K H ρ z zv) (hvs : vs = [yv, zv] ∨ (vs = [yv] ∧ zv = .non)) (h : (dgetD d y z S).Sat (KO K H ρ Q) noX) : rDGetA K v vs H Q := by
  unfold dgetD at h
  cases e : tget S d y with
  | some o =>
    rw [e] at h
    obtain ⟨a, b, k, xs, rfl, rfl, tk, t, es, c⟩ := tget_some hr dv dy e
    refine .inr ⟨a, b, k, xs, zv, rfl, hvs, tk, t, ?_⟩
    rcases c with ⟨d', v', u, rfl, e1, r, dv'⟩ | ⟨rfl, e1⟩
    · exact .inl ⟨u, v', e1, r, ko_here hr h dv'⟩
    · exact .inr ⟨e1, ko_here hr h dz⟩
  | none =>
    rw [e] at h
    simp only at h
    cases e1 : dkO S d with
    | none => rw [e1] at h; exact h.elim
    | some kvs =>
      cases e2 : keyOf y with
      | none => rw [e1, e2] at h; exact h.elim
      | some k =>
        rw [e1, e2] at h
        have h : (Rs.ok ((valD kvs k).getD z) S).Sat (KO K H ρ Q) noX := h
        obtain ⟨n, a, ws, rfl, rfl, ha, hH, hd⟩ := dkO_some hr dv e1
        refine .inl ⟨a, yv, zv, valV ws k, rfl, hvs, by rw [key_dv dy e2]; exact DGet.rd hH, ?_⟩
        rcases dps_val k hd with ⟨d', v', e3, e4, dv'⟩ | ⟨e3, e4⟩
        · rw [e4]
          rw [e3] at h
          exact ko_here hr h dv'
        · rw [e4]
          rw [e3] at h
          exact ko_here hr h dz
theorem rm_dget : RMo K (rDGetA K) dgetMG := by
  intro H ρ S d v ds vs Q hr dv dvs h
  unfold dgetMG at h
  split at h
  · obtain ⟨yv, rfl, dy⟩ := dvs1 dvs
    exact dgetD_sat hr dv dy .non (.inr ⟨rfl, rfl⟩) h
  · obtain ⟨yv, zv, rfl, dy, dz⟩ := dvs2 dvs
    exact dgetD_sat hr dv dy dz (.inl rfl) h
  · exact h.elim
/-! ### a dict is walked -/
end
end Mn
set_option Elab.async false
set_option linter.all false
set_option maxRecDepth 100000
set_option maxHeartbeats 4000000
/-! MnO: len(set(xs)); xs.index(x), whole numbers; min of a dict. -/
namespace Mn
open PySem PySem.Spec PyProof.Rows L2
end Mn
set_option Elab.async false
set_option linter.all false
set_option maxRecDepth 100000
set_option maxHeartbeats 4000000
/-! MnO2: dict(list of pairs). -/
namespace Mn
open PySem PySem.Spec PyProof.Rows L2
end Mn
set_option Elab.async false
set_option linter.all false
set_option maxRecDepth 100000
set_option maxHeartbeats 4000000
/-! MnZr: list(zip(range(n), xs)). -/
namespace Mn
open PySem PySem.Spec PyProof.Rows L2
/-! ### the rule -/
end Mn
set_option Elab.async false
set_option linter.all false
set_option maxRecDepth 100000
set_option maxHeartbeats 4000000
/-! MnLam: g(lambda: ..), where g is: try: return (z, a()) and clauses. -/
namespace Mn
open PySem PySem.Spec PyProof.Rows L2
open LamX (CodeO TabS Tabs ExtN TabB LamS lamCx lamEnv lam_start2 lam_make2 run_ofS lamS_by)
section
variable {X : Cx} {pins : List (Addr × Obj)} {σ : L2.St} {H HZ : Hp} {s s1 : Shared}
/-- a(), where the slots are known -/
theorem pe_actT {CXg : CXT} {Eg : XK} {Ng : List Str} {qg : Str} {sg : Scope} {g f c' : Addr} {cdg pm ctv : Value} {params : Arguments} {body : Expr} {scope : Scope} {k i : Nat} {a : Str} {pn : List (Addr × Obj)} {xe : Value → Shared → Prop} {W : WX} {tb : XK → TE} {p1 p2 : Pos}
    (I : Inv X pins σ H s) (L : LamS X.env.scope scope) (hf : s.heap.get? f = some (PySem.W.kla_obj "<lambda>" (X.env.qual ++ "<lambda>") params body scope (cloFrom X.env.cells scope.names []) pm c' ctv)) (hfn : H f = none) (hfr : f ∉ frs X.stack)
    (hbind : bindArgs (PySem.W.kla_fn "<lambda>" (X.env.qual ++ "<lambda>") params body scope (cloFrom X.env.cells scope.names []) pm (.ref c') ctv) ⟨[], []⟩ = pure [])
    (tk : Takes ((cxOf CXg X.prog X.w X.K X.mg X.base Ng qg sg g cdg X.A X.stack s H Eg).tr pn xe) W) (hr : Room (k + 1) (X.A.deeper (envOfC qg sg s.heap.objs.size g cdg))) (hgd : X.A.guards = some [])
    (hbody : ∀ (A : Around) (outer : List Env) (s : Shared) (H : Hp) (E : XK), Room k (A.deeper (lamEnv X scope s.heap.objs.size f c')) → A.guards = some [] → PE (lamCx X A outer s H E scope f c') body (tb E))
    (hN : Ng[i]? = some a) (hv : Vis sg a) (hd : (a == ("__debug__" : Str)) = false := by decide) (hcd : (a == ("__classdict__" : Str)) = false := by decide) :
    PE ((cxOf CXg X.prog X.w X.K X.mg X.base Ng qg sg g cdg X.A X.stack s H Eg).tr pn xe) (.Call (.Name a p1) [] [] p2)
      (fun σZ HZ Q => σZ[i]? = some (some (.ref f)) ∧ HZ c' = some (CodeO c' (X.env.qual ++ "<lambda>")) ∧ tb (WE W σZ) σ HZ Q) := by
  refine ⟨fun pz sZ σZ HZ Q IZ ⟨hs, hc, ht⟩ => ?_⟩
  refine wpAny_Call_Name_kw (thn ((pe_var (pos := p1) (i := i) hN hv hd hcd).run pz sZ σZ HZ (fun v H1 => v = .ref f ∧ H1 = HZ) IZ ⟨.ref f, hs, rfl, rfl⟩) fun u s1 ⟨v, H1, I1, rv1, ev, eH⟩ => ?_)
  subst ev
  rw [eH] at I1
  obtain rfl : u = Value.ref f := rv1
  have of1 : s1.heap.get? f = some (PySem.W.kla_obj "<lambda>" (X.env.qual ++ "<lambda>") params body scope (cloFrom X.env.cells scope.names []) pm c' ctv) := I1.base.keep f _ hf hfn hfr (fun z => nomatch (show f ∈ ([] : List Addr) from z))
  refine PySem.W.callWith_F0 ⟨_, _, _, _, of1⟩ ?_
  have hun : Un (frs X.stack) [] H HZ s.heap s1.heap := I1.base
  obtain ⟨⟨oc, vs, t, hoc, hdc, hvc⟩, _, _⟩ := I1.hok c' _ hc
  have rc : codeAny (model X.prog X.w) (X.A.deeper (envOfC qg sg s.heap.objs.size g cdg)) (.call (.ref f) ⟨[], []⟩) (CR (L2.CX X.prog X.w) (envOfC qg sg s.heap.objs.size g cdg :: X.stack) X.prog X.w HZ s1 Q (WE W σZ)) s1 := by
    refine PySem.W.kla_callFunE hr.depth of1 rfl L.co L.gen rfl ⟨c', oc, vs, t, rfl, hoc, hdc, hvc⟩ ?_
    rw [hbind]
    refine wpAny_pure (wpAny_newFunctionEnv (fun y hy => (L.own y hy).2) (fun y hy => absurd hy (by simp)) (fun h₁ hns hsb => ⟨I1.nolimit.fresh _ hsb, ?_⟩) L.kind)
    (show codeAny _ _ (.expr body (lamEnv X scope s1.heap.objs.size f c')) _ _)
    have kps : ∀ b o, s1.heap.get? b = some o → h₁.get? b = some o := fun b o e => hsb.extBut b o (Nat.ne_of_lt (Heap.lt_size e)) (Heap.get?_push_of_some _ e)
    have J : Inv (lamCx X (X.A.deeper (envOfC qg sg s.heap.objs.size g cdg)) (envOfC qg sg s.heap.objs.size g cdg :: X.stack) s1 HZ (WE W σZ) scope f c') [] σ HZ { s1 with heap := h₁, toks := s1.toks + ([] : List (Str × Value)).length } := lam_start2 I L I1.env0 hr.hd hun hns kps
    refine PySem.W.kla_codeExpr (wpAny_mono ((hbody _ _ s1 HZ (WE W σZ) (hr.deeper _) hgd).run [] _ _ HZ Q J ht) (fun v s' ⟨w', H', J', rv, q⟩ => ⟨w', H', J'.os, J'.bare, J'.base, J'.hok, rv, q⟩) fun e s' hq => hq)
  refine wpAny_call (codeAny_mono rc fun r s' hq => ?_)
  cases r with
  | error e => exact passAt tk σZ pz HZ s1 e s' I1 hq
  | ok fl =>
    cases fl with
    | ret u => exact I1.after hq
    | next => exact False.elim hq
    | brk => exact False.elim hq
    | cont => exact False.elim hq
end
/-! ### the tables -/
def tabL (S : Bxs) (ρ : List Addr) : List (Addr × Str) := (List.range S.length).filterMap fun k => match S[k]?, ρ[k]? with
  | some (MBox.tab x), some a => some (a, x ++ ".<locals>." ++ "<lambda>")
  | _, _ => none
theorem tabL_mem {S : Bxs} {ρ : List Addr} {p : Addr × Str} : p ∈ tabL S ρ ↔ ∃ (k : Nat) (x : Str), S[k]? = some (MBox.tab x) ∧ ρ[k]? = some p.1 ∧ p.2 = x ++ ".<locals>." ++ "<lambda>" := by
  unfold tabL
  rw [List.mem_filterMap]
  constructor
  · rintro ⟨k, _, e⟩
    split at e
    · rename_i x a e1 e2
      cases e
      exact ⟨k, x, e1, e2, rfl⟩
    · cases e
  · rintro ⟨k, x, e1, e2, e3⟩
    refine ⟨k, List.mem_range.mpr (List.getElem?_eq_some_iff.mp e1).1, ?_⟩
    rw [e1, e2]
    obtain ⟨a, q⟩ := p
    have e3 : q = _ := e3
    rw [e3]
section
variable {K : PySem.W.Frag} {H H1 : Hp} {ρ : List Addr} {S : Bxs}
theorem HR.tabs (h : HR K H ρ S) : Tabs (tabL S ρ) H := fun p hp => by
  obtain ⟨k, x, e1, e2, e3⟩ := tabL_mem.mp hp
  obtain ⟨a, h1, _, h2⟩ := h.at_ k _ e1
  rw [e2] at h1
  cases h1
  rw [e3]
  exact h2
theorem ext_of_N (e : ExtN H H1) : Ext H H1 := ⟨fun a xs h => e a _ h (fun ps z => nomatch z), fun a o u h => e a _ h (fun ps z => nomatch z), fun a q h => e a _ h (fun ps => codeO_is fun φ z => nomatch z)⟩
/-- the boxes stand where tables have grown -/
theorem HR.tabled (h : HR K H ρ S) (e : ExtN H H1) (t : Tabs (tabL S ρ) H1) : HR K H1 ρ S := by
  refine ⟨h.len, fun n b hb => ?_, h.inj⟩
  obtain ⟨a, h1, h2⟩ := h.at_ n b hb
  refine ⟨a, h1, ?_⟩
  have ex := ext_of_N e
  cases b with
  | lst xs => obtain ⟨vs, g1, g2⟩ := h2; exact ⟨vs, e _ _ g1 (fun ps z => nomatch z), g2.mono ex (List.prefix_refl _)⟩
  | ro xs => obtain ⟨vs, g1, g2⟩ := h2; exact ⟨vs, g1.mono ex, g2.mono ex (List.prefix_refl _)⟩
  | dk kvs => obtain ⟨vs, g1, g2⟩ := h2; exact ⟨vs, e _ _ g1 (fun ps z => nomatch z), g2.mono ex (List.prefix_refl _)⟩
  | dkr kvs => obtain ⟨vs, o, g1, g2⟩ := h2; exact ⟨vs, o, e _ _ g1 (fun ps z => nomatch z), g2.mono ex (List.prefix_refl _)⟩
  | dt kvs => obtain ⟨vs, g1, g2⟩ := h2; exact ⟨vs, e _ _ g1 (fun ps z => by unfold DtO at z; cases z), g2.mono ex (List.prefix_refl _)⟩
  | obj C fs => obtain ⟨dx, vs, g1, g2⟩ := h2; exact ⟨dx, vs, e _ _ g1 (fun ps z => nomatch z), g2.mono ex (List.prefix_refl _)⟩
  | tab x => exact ⟨h2.1, t (a, x ++ ".<locals>." ++ "<lambda>") (tabL_mem.mpr ⟨n, x, hb, h1, rfl⟩)⟩
  | fnc x => exact h2
  | nd => exact e _ _ h2 (fun ps z => by unfold NdO at z; cases z)
end
/-! ### the call -/
def tryH : List Stmt → List ExceptHandler
  | [.Try _ h _ _ _] => h
  | _ => []
/-- g(lambda: th): (z, what th tells), or what the clauses tell; D is the def whose table keeps the lambda's code -/
noncomputable def dHeard (D : Str) (n : Nat) (z : Str) (pl : Hds) (th : FE) : FE := fun σ S => open Classical in if MBox.tab D ∈ S then (match th σ S with
  | .ok d S1 => .ok (.tup [.str z, d]) S1
  | .ex c es S1 => (match pickH pl c es (List.replicate n none) S1 with
    | .ok (.rt d, _) S2 => .ok d S2
    | _ => .no)
  | .no => .no) else .no
section
variable {X : Cx} {Er : ER} {ct : CT}
theorem sl_nones {K : PySem.W.Frag} {H : Hp} {ρ : List Addr} {τ : L2.St} : Sl K H ρ (List.replicate τ.length none) τ := ⟨List.length_replicate, fun i d e => by
  rw [List.getElem?_replicate] at e
  split at e <;> cases e⟩
theorem se_heard (D : Str) {x a z : Str} {g c P : Addr} {k : Nat} {pg : Arguments} {sg : Scope} {dV kV doc pm cdv ctv oc : Value} {an od : Option Addr} {osl : Array (Option Value)} {Ng : List Str} {params : Arguments} {body : Expr} {scope : Scope} {fe : FE} {pl : Hds} {h0 : ExceptHandler} {hs : List ExceptHandler} {j0 jt : Nat} {q1 q2 q3 q4 q5 q6 p lpos pos : Pos}
    (hg : Gl X x) (hm : X.mg x = some (.ref g)) (hk : PySem.W.keepIn X.K (.ref g) = true) (lk : X.K.lookup g = some ⟨oc, od, .func (PySem.W.fnOf x x pg [.Try [.Return (some (.Tuple [.Constant (.str z) j0 q1, .Call (.Name a q2) [] [] q3] jt q4)) q5] (h0 :: hs) [] [] q6] sg dV kV doc pm an cdv ctv), osl⟩) (hcg : PySem.W.codeIn X.K cdv x = true)
    (hb : L2.Binds X.K (PySem.W.fnOf x x pg [.Try [.Return (some (.Tuple [.Constant (.str z) j0 q1, .Call (.Name a q2) [] [] q3] jt q4)) q5] (h0 :: hs) [] [] q6] sg dV kV doc pm an cdv ctv) [a] []) (Sg : FnScope Ng [a] sg) (hNg : Ng[0]? = some a) (hva : Vis sg a)
    (hh : ∀ (A : Around) (outer : List Env) (s : Shared) (H : Hp), HsD (cxOf C8.CX0 X.prog X.w X.K X.mg X.base Ng x sg g cdv A outer s H C8.E0) ct (h0 :: hs) pl)
    (hT : PySem.W.tabIn X.K D = some (c, P)) (hC : PySem.W.codeHdIn X.K c P = true) (hbm : X.base.BuiltinsAt X.mg P) (hgP : mainGlobals ≠ P) (hcode : X.env.code = .ref c) (hq : X.env.qual ++ "<lambda>" = D ++ ".<locals>." ++ "<lambda>") (hr : Room (k + 2) X.A) (hgd : X.A.guards = some []) (L : LamS X.env.scope scope)
    (hbody : ∀ (A : Around) (outer : List Env) (s : Shared) (H : Hp) (E : XK) (f c' : Addr), Room k (A.deeper (lamEnv X scope s.heap.objs.size f c')) → A.guards = some [] → SE (lamCx X A outer s H E scope f c') (eoX X.K ct E) body fe)
    (hdef : defaultsOf params X.env = ([], []) := by rfl) (hbind : ∀ (q : Str) (cl : List (Str × Addr)) (pm cv ctv : Value), bindArgs (PySem.W.kla_fn "<lambda>" q params body scope cl pm cv ctv) ⟨[], []⟩ = pure [] := by intro _ _ _ _ _; rfl)
    (hdb : (x == ("__debug__" : Str)) = false := by decide) (hd : (a == ("__debug__" : Str)) = false := by decide) (hcd : (a == ("__classdict__" : Str)) = false := by decide) :
    SE X Er (.Call (.Name x p) [.Lambda params body scope lpos] [] pos) (dHeard D Ng.length z pl fe) := by
  refine SE.ofCan ⟨fun pins s τ H Q I ⟨ρ, σ, S, T, h⟩ => ?_⟩
  unfold dHeard at h
  by_cases hS : MBox.tab D ∈ S
  · rw [if_pos hS] at h
    obtain ⟨k0, hk0⟩ := List.mem_iff_getElem?.mp hS
    obtain ⟨a0, ha0, ⟨c0, hT0⟩, _⟩ := T.hr.at_ k0 _ hk0
    rw [hT] at hT0
    cases hT0
    have TB : TabB X.base X.mg c P := ⟨PySem.W.codeHd_of_K I.ok.mod.kin hC, hbm, hgP⟩
    refine wpAny_Call_Name_kw (ld_glob I hg hm ?_ hdb)
    refine PySem.W.callWith_K (h₀ := X.base) I.ok.mod.kin hk ?_ (by rfl) (by rfl)
    (show wpAny _ _ (spliced ((false, eval (.Lambda params body scope lpos) X.env) :: backTo pos (starEach [] X.env))) _ _ s)
    refine Calls.spliced_cons (lam_make2 (T := tabL S ρ) I TB hcode (tabL_mem.mpr ⟨k0, D, hk0, ha0, hq⟩) (fun p hp e => ?_) T.hr.tabs hdef (L.has I.ok) fun f c' pm' ctv' H1 s' I1 eN T1 hf hfn hfr hco => ?_)
    · obtain ⟨k1, y, e1, e2, e3⟩ := tabL_mem.mp hp
      rw [e] at e2
      have := T.hr.inj k1 k0 _ _ P e1 hk0 rfl rfl e2 ha0
      subst this
      rw [hk0] at e1
      cases e1
      rw [e3, hq]
    have hr1 : HR X.K H1 ρ S := T.hr.tabled eN T1
    have t1 : To H H1 ρ ρ := ⟨ext_of_N eN, List.prefix_refl _⟩
    refine Calls.spliced_nil ⟨I1.kIn, ?_⟩
    have rc : codeAny (model X.prog X.w) X.A (.call (.ref g) ⟨[.ref f], []⟩) (CR C8.CX0 X.stack X.prog X.w H1 s' Q C8.E0) s' := by
      refine run_ofS (N := Ng) (ps := [a]) (us := [.ref f]) (vs := [.ref f]) lk hcg Sg hr I1.env0 (hb s' [.ref f] I1.kIn rfl) (.cons rfl .nil) rfl fun hr' => ?_
      obtain ⟨cl, h1, h2⟩ := (hh X.A X.stack s' H1).ex
      refine ⟨_, pss_one (ps_tryC (X := cxOf C8.CX0 X.prog X.w X.K X.mg X.base Ng x sg g cdv X.A X.stack s' H1 C8.E0) (tb := fun W => tRet (tTupZ (tCons (tC (.str z)) (tCons (fun σZ HZ Q => σZ[0]? = some (some (.ref f)) ∧ HZ c' = some (CodeO c' (X.env.qual ++ "<lambda>")) ∧ canE X.K (eoX X.K ct (WE W σZ)) fe τ HZ Q) tNil)))) rfl rfl (fun W pn xe tk po => ?_) h1), ?_⟩
      · exact pss_one (ps_ret (pe_tupZ (pa_cons pe_str (pa_cons (pe_actT (i := 0) (tb := fun E => canE X.K (eoX X.K ct E) fe) I1 L hf hfn hfr (hbind _ _ _ _ _) tk hr' hgd (fun A outer s H E hr2 hg2 => (hbody A outer s H E f c' hr2 hg2).can) hNg hva hd hcd) pa_nil))))
      · have h0 : (L2.start Ng [V.ref f])[0]? = some (some (V.ref f)) := rfl
        have hlen : (L2.start Ng [V.ref f]).length = Ng.length := by
          have : 0 < Ng.length := (List.getElem?_eq_some_iff.mp hNg).1
          unfold L2.start
          simp
          omega
        refine ⟨h0, hco, ρ, σ, S, ⟨hr1, T.sl.to t1⟩, ?_⟩
        cases e : fe σ S with
        | ok d S1 =>
          rw [e] at h
          intro v H' ρ' t' hr2 dv
          refine ⟨Nat.le_of_ble_eq_true (by rfl), ?_⟩
          exact new_tup hr2 (.cons (.str z) (.cons dv .nil)) fun v' H2 ρ2 t2 => h v' H2 ρ2 ((t1.trans t').trans t2)
        | ex c1 es S1 =>
          rw [e] at h
          intro H' ρ' t' C dd hR hx
          refine h2 _ H' ρ' c1 es C dd (List.replicate (L2.start Ng [V.ref f]).length none) S1 _ hx ⟨hR, sl_nones⟩ ?_
          rw [hlen]
          cases e3 : pickH pl c1 es (List.replicate Ng.length none) S1 with
          | ok r S2 =>
            obtain ⟨fl, σ2⟩ := r
            dsimp only at h
            rw [e3] at h
            cases fl with
            | rt d => exact fun v H2 ρ2 t2 => h v H2 ρ2 ((t1.trans t').trans t2)
            | nx => exact h.elim
            | bk => exact h.elim
            | ct => exact h.elim
          | ex c2 es2 S2 => dsimp only at h; rw [e3] at h; exact h.elim
          | no => dsimp only at h; rw [e3] at h; exact h.elim
        | no => rw [e] at h; exact h.elim
    refine wpAny_call (codeAny_mono rc fun r s2 hq => ?_)
    cases r with
    | error e => exact (show False from hq).elim
    | ok fl =>
      cases fl with
      | ret u => exact I1.after hq
      | next => exact False.elim hq
      | brk => exact False.elim hq
      | cont => exact False.elim hq
  · rw [if_neg hS] at h
    exact h.elim
theorem se_heardF (D : Str) (k : Nat) {x a z : Str} {st : Stmt} {fd : FuncData} {g c P : Addr} {Ng : List Str} {params : Arguments} {body : Expr} {scope : Scope} {fe : FE} {pl : Hds} {h0 : ExceptHandler} {hs : List ExceptHandler} {j0 jt : Nat} {q1 q2 q3 q4 q5 q6 p lpos pos : Pos}
    (hg : Gl X x) (hm : X.mg x = some (.ref g)) (F : Fun X.K x x st g fd) (hst : defBody st = [.Try [.Return (some (.Tuple [.Constant (.str z) j0 q1, .Call (.Name a q2) [] [] q3] jt q4)) q5] (h0 :: hs) [] [] q6])
    (hb : L2.Binds X.K fd [a] []) (Sg : FnScope Ng [a] (defScope st)) (hNg : Ng[0]? = some a) (hva : Vis (defScope st) a)
    (hh : ∀ (cdv : Value) (A : Around) (outer : List Env) (s : Shared) (H : Hp), HsD (cxOf C8.CX0 X.prog X.w X.K X.mg X.base Ng x (defScope st) g cdv A outer s H C8.E0) ct (h0 :: hs) pl)
    (hT : PySem.W.tabIn X.K D = some (c, P)) (hC : PySem.W.codeHdIn X.K c P = true) (hbm : X.base.BuiltinsAt X.mg P) (hgP : mainGlobals ≠ P) (hcode : X.env.code = .ref c) (hq : X.env.qual ++ "<lambda>" = D ++ ".<locals>." ++ "<lambda>") (hr : Room (k + 2) X.A) (hgd : X.A.guards = some []) (L : LamS X.env.scope scope)
    (hbody : ∀ (A : Around) (outer : List Env) (s : Shared) (H : Hp) (E : XK) (f c' : Addr), Room k (A.deeper (lamEnv X scope s.heap.objs.size f c')) → A.guards = some [] → SE (lamCx X A outer s H E scope f c') (eoX X.K ct E) body fe)
    (hdef : defaultsOf params X.env = ([], []) := by rfl) (hbind : ∀ (q : Str) (cl : List (Str × Addr)) (pm cv ctv : Value), bindArgs (PySem.W.kla_fn "<lambda>" q params body scope cl pm cv ctv) ⟨[], []⟩ = pure [] := by intro _ _ _ _ _; rfl)
    (hdb : (x == ("__debug__" : Str)) = false := by decide) (hd : (a == ("__debug__" : Str)) = false := by decide) (hcd : (a == ("__classdict__" : Str)) = false := by decide) :
    SE X Er (.Call (.Name x p) [.Lambda params body scope lpos] [] pos) (dHeard D Ng.length z pl fe) := by
  obtain ⟨oc, od, kV, doc, pm, an, cdv, ctv, osl, rfl, lk, hcg⟩ := F.ex
  have kp := F.kp
  rw [hst] at lk hb
  exact se_heard D hg hm kp lk hcg hb Sg hNg hva (hh cdv) hT hC hbm hgP hcode hq hr hgd L hbody hdef hbind hdb hd hcd
end
/-! ### the law's own call, tables beside the script -/
def scriptL (ds : List Str) (ns : List Int) : Bxs := .ro (ns.map Dt.int) :: ds.map .tab
abbrev Tb := Str × Addr × Addr
theorem hr_scriptL {K : PySem.W.Frag} {H : Hp} {a : Addr} {ns : List Int} {ts : List Tb} (h : Ro K H a (ns.map V.int)) (ht : ∀ t ∈ ts, PySem.W.tabIn K t.1 = some t.2 ∧ H t.2.2 = some (.tbl #[])) (hn : (ts.map (·.2.2)).Nodup) : HR K H (a :: ts.map (·.2.2)) (scriptL (ts.map (·.1)) ns) := by
  unfold scriptL
  have get : ∀ (n : Nat) (b : MBox), (MBox.ro (ns.map Dt.int) :: (ts.map (·.1)).map MBox.tab)[n + 1]? = some b → ∃ t, ts[n]? = some t ∧ b = .tab t.1 := fun n b e => by
    rw [List.getElem?_cons_succ, List.getElem?_map, List.getElem?_map] at e
    cases e1 : ts[n]? with
    | none => rw [e1] at e; cases e
    | some t => rw [e1] at e; cases e; exact ⟨t, rfl, rfl⟩
  refine ⟨by simp, fun n b e => ?_, fun n m b c x h1 h2 hb hc h3 h4 => ?_⟩
  · cases n with
    | zero =>
      cases e
      exact ⟨a, rfl, ns.map V.int, h, script_dvs ns⟩
    | succ n =>
      obtain ⟨t, e1, rfl⟩ := get n b e
      obtain ⟨g1, g2⟩ := ht t (List.mem_of_getElem? e1)
      refine ⟨t.2.2, by rw [List.getElem?_cons_succ, List.getElem?_map, e1]; rfl, ⟨t.2.1, g1⟩, LamX.TabS.nil g2⟩
  · cases n with
    | zero => cases h1; cases hb
    | succ n =>
      cases m with
      | zero => cases h2; cases hc
      | succ m =>
        rw [List.getElem?_cons_succ] at h3 h4
        obtain ⟨l1, q1⟩ := List.getElem?_eq_some_iff.mp h3
        obtain ⟨l2, q2⟩ := List.getElem?_eq_some_iff.mp h4
        rcases Nat.lt_trichotomy n m with z | z | z
        · exact absurd (q1.trans q2.symm) (List.pairwise_iff_getElem.mp hn _ _ l1 l2 z)
        · rw [z]
        · exact absurd (q2.trans q1.symm) (List.pairwise_iff_getElem.mp hn _ _ l2 l1 z)
theorem walkL {l : PySem.W.OpenLaw} {n k : Nat} {q : Program} {loose : List Str} {XP : (Str → Option Value) → Heap → Prop} {YP : World → Heap → Prop} {d : DefRec} {K : Params → PySem.W.Frag} {CX : World → CXT} {eo : World → XK → ER} {F : FN} {x : Str} {Ps : List Addr} (ds : List Str)
    (hn : l.most = some n) (hn2 : n ≤ sizeLine) (hdf : d.params.defaults = []) (hr : Room k callerA)
    (hY : ∀ (w : World) (h : Heap), YP w h → (K w.params).In h) (hY2 : ∀ (w : World) (h : Heap), YP w h → ∀ P ∈ Ps, h.get? P = some (PySem.W.tabObj #[]))
    (FD : ∀ (w : World) (mg : Str → Option Value) (fa : Addr) (h : Heap), (K w.params).In h → h.Ns mainGlobals mg → mg d.name = some (.ref fa) →
      ∃ ts : List Tb, ts.map (·.1) = ds ∧ (ts.map (·.2.2)).Nodup ∧ (∀ t ∈ ts, PySem.W.tabIn (K w.params) t.1 = some t.2 ∧ PySem.W.codeHdIn (K w.params) t.2.1 t.2.2 = true ∧ (K w.params).lookup t.2.2 = none ∧ t.2.2 ∈ Ps) ∧
      ∃ fd : FuncData, (∀ (s : Shared) (u : Value), BindsTo s fd ⟨[u], []⟩ [(x, u)]) ∧
        ∀ base : Heap, (K w.params).In base → base.Ns mainGlobals mg → (∀ t ∈ ts, base.BuiltinsAt mg t.2.2) → FnD l.prog w (K w.params) mg base (CX w) (eo w) k fa fd [x] F)
    (hF : ∀ ns : List Int, ns.length ≤ n → ∃ S', F [.box 0] (scriptL ds ns) = .ok (.bl true) S')
    (hCX : ∀ (w : World) (H : Hp) (s : Shared) (e : Value) (s' : Shared), CX w [] H s (fun _ _ _ => False) e s' → False) :
    PySem.W.WalkO q loose XP YP l.row.toRowW d [] (fun f vs => PySem.call f vs) := by
  refine Att.attach_call hn hdf fun w s₀ s₁ mg mb fa o pm cd doc a vs ns G Y ho hd hcd hmg hobj hints hlen hg => ?_
  have KIn := hY w _ Y
  obtain ⟨ts, hds, htn, hts, fd, hb, hFD⟩ := FD w mg fa _ KIn G.T.g hmg
  obtain ⟨S', hS⟩ := hF ns hlen
  have hl : ns.length ≤ sizeLine := Nat.le_trans hlen hn2
  have rv := vals_ints hints
  have lenV := hints.length
  have tabs : ∀ b, b ∈ ts.map (·.2.2) → s₁.heap.get? b = some (PySem.W.tabObj #[]) := fun b hb => by
    obtain ⟨t, ht, rfl⟩ := List.mem_map.mp hb
    exact hY2 w _ Y _ (hts t ht).2.2.2
  have aT : a ∉ ts.map (·.2.2) := fun z => by
    have := tabs a z
    rw [hobj] at this
    cases this
  have core : ∀ Hb : Hp, Only Hb → SqL (K w.params) Hb a (ns.map V.int) → HOk l.prog w Hb s₁.heap → (∀ b, Hb b ≠ none → b = a) → (Hb a ≠ none → (K w.params).lookup a = none) →
      codeAny (model l.prog w) callerA (.call (.ref fa) ⟨[.ref a], []⟩) (fun r s' => r = .ok (.ret (.bool true)) ∧ OldK s₁.heap s'.heap ∧ s'.os = s₁.os ∧ AllBare s'.gens) s₁ := by
    intro Hb hO hSq hokb hA hK
    obtain ⟨H, hH⟩ : ∃ H : Hp, H = fun b => if b ∈ ts.map (·.2.2) then some (.tbl #[]) else Hb b := ⟨_, rfl⟩
    have hin : ∀ b, b ∈ ts.map (·.2.2) → H b = some (.tbl #[]) := fun b z => by rw [hH]; exact if_pos z
    have hout : ∀ b, b ∉ ts.map (·.2.2) → H b = Hb b := fun b z => by rw [hH]; exact if_neg z
    have hok : HOk l.prog w H s₁.heap := fun b u e => by
      by_cases z : b ∈ ts.map (·.2.2)
      · rw [hin b z] at e
        cases e
        exact tabs b z
      · rw [hout b z] at e
        have := hokb b u e
        have hba : b = a := hA b (by rw [e]; simp)
        subst hba
        rcases hO b with y | ⟨o2, xs, y⟩
        · rw [e] at y; cases y
        · rw [e] at y
          cases y
          exact this
    have free : ∀ {b : Addr} {ob : Obj}, s₁.heap.get? b = some ob → ob ≠ PySem.W.tabObj #[] → b ≠ a → H b = none := fun {b ob} e e2 hne => by
      have z : b ∉ ts.map (·.2.2) := fun z => by
        have := tabs b z
        rw [e] at this
        exact e2 (Option.some.inj this)
      rw [hout b z]
      cases y : Hb b with
      | none => rfl
      | some u => exact absurd (hA b (by rw [y]; simp)) hne
    have notDict : ∀ {b : Addr} {ob : Obj} {es : Array DictEntry} {ep : Nat}, s₁.heap.get? b = some ob → ob.data = .dict es ep → H b = none := by
      intro b ob es ep e dd
      refine free e (fun z => by rw [z] at dd; cases dd) fun z => ?_
      rw [z, hobj] at e
      cases e
      cases dd
    have nsK : ∀ {b : Addr} {m : Str → Option Value}, s₁.heap.Ns b m → (hidT s₁.heap H).Ns b m := by
      rintro b m ⟨ob, es, ep, e, dd, rest⟩
      exact ⟨ob, es, ep, hidT_get e (notDict e dd), dd, rest⟩
    have inB : (K w.params).In (hidT s₁.heap H) := by
      intro b ob e
      refine hidT_get (KIn b ob e) ?_
      by_cases z : b ∈ ts.map (·.2.2)
      · obtain ⟨t, ht, rfl⟩ := List.mem_map.mp z
        rw [(hts t ht).2.2.1] at e
        cases e
      · rw [hout b z]
        cases y : Hb b with
        | none => rfl
        | some u =>
          obtain rfl : b = a := hA b (by rw [y]; simp)
          rw [hK (by rw [y]; simp)] at e
          cases e
    obtain ⟨mc, m1, m2⟩ := G.T.nolimit
    have hM : Mod (K w.params) mg (hidT s₁.heap H) := ⟨inB, nsK G.T.g, ⟨mb, nsK G.T.b, G.T.builtins⟩, mc, nsK m1, m2⟩
    have e0 : Env0 l.prog w (K w.params) mg (hidT s₁.heap H) callerA [] s₁ H :=
      ⟨rfl, hM, fun b ob e => of_hidT e, Nat.le_of_eq (hidT_size _ _), trivial, fun b hb => absurd (show b ∈ ([] : List Addr) from hb) (by simp), hok, .of_eq hg⟩
    have sat : (F [.box 0] (scriptL ds ns)).Sat (KO (K w.params) H (a :: ts.map (·.2.2)) fun v _ => v = .bl true) (KX (eo w fun _ _ _ => False) H (a :: ts.map (·.2.2))) := by
      rw [hS]
      intro v H' ρ' _ _ dv
      cases dv
      rfl
    have hro : Ro (K w.params) H a (ns.map V.int) := by
      rcases ro_of hO hSq with ⟨o2, z⟩ | z
      · exact .inl ⟨o2, by rw [hout a aT]; exact z⟩
      · exact .inr z
    have hR : HR (K w.params) H (a :: ts.map (·.2.2)) (scriptL ds ns) := by
      rw [← hds]
      exact hr_scriptL hro (fun t ht => ⟨(hts t ht).1, hin _ (List.mem_map_of_mem ht)⟩) htn
    have hbm : ∀ t ∈ ts, (hidT s₁.heap H).BuiltinsAt mg t.2.2 := fun t ht => by
      obtain ⟨bm, ob, b1, b2, b3, b4, b5, b6⟩ := G.T.bmain
      obtain ⟨ob2, es, ep, c1, c2, _⟩ := G.T.g
      refine ⟨bm, ob, b1, b2, fun z => ?_, fun z => ?_, hidT_get b3 (free b3 (fun z => by rw [z] at b6; cases b6) fun z => ?_), b4, b5, b6⟩
      · rw [z, c1] at b3
        cases b3
        rw [c2] at b6
        cases b6
      · have := tabs t.2.2 (List.mem_map_of_mem ht)
        rw [← z, b3] at this
        cases this
        cases b6
      · rw [z, hobj] at b3
        cases b3
        cases b6
    refine codeAny_mono ((hFD _ inB (nsK G.T.g) hbm).run callerA [] s₁ H ⟨[.ref a], []⟩ [.ref a] [.ref a] (a :: ts.map (·.2.2)) (scriptL ds ns) [.box 0] _ _ rfl hr e0 (hb s₁ (.ref a)) (.cons rfl .nil) rfl hR (.cons (.box rfl) .nil) sat) fun r s' h => ?_
    cases r with
    | error e => exact (hCX w H s₁ e s' h).elim
    | ok fl =>
      cases fl with
      | next => exact False.elim h
      | brk => exact False.elim h
      | cont => exact False.elim h
      | ret u =>
        obtain ⟨v, H', os, bare, un, hok', r', hv⟩ := h
        obtain rfl : v = .bl true := hv
        obtain rfl : u = Value.bool true := r'
        have kept : ∀ b ob, b ∉ ts.map (·.2.2) → s₁.heap.get? b = some ob → s'.heap.get? b = some ob := fun b ob hbt e => by
          cases z : H b with
          | none => exact un.keep b ob e z (fun y => absurd (show b ∈ ([] : List Addr) from y) (by simp)) (by simp)
          | some u =>
            rw [hout b hbt] at z
            rcases hO b with y | ⟨o2, xs, y⟩
            · rw [z] at y; cases y
            · obtain ⟨g1, _⟩ := hokb b _ y
              obtain ⟨g2, _⟩ := hok' b _ (un.frzs b o2 _ (by rw [hout b hbt]; exact y))
              rw [e] at g1
              cases g1
              exact g2
        have grown : ∀ b, b ∈ ts.map (·.2.2) → isCodeTable s₁.heap b ∧ ∃ ps, s'.heap.get? b = some (PySem.W.tabObj ps) := fun b hbt => by
          have hb2 := tabs b hbt
          obtain ⟨more, hm⟩ := un.tbls b _ (hin b hbt)
          obtain ⟨t, ht, rfl⟩ := List.mem_map.mp hbt
          exact ⟨((PySem.W.codeHd_of_K KIn (hts t ht).2.1).tab hb2).isCodeTable, _, hok' _ _ hm⟩
        refine ⟨rfl, ⟨fun b ob e => ?_, fun b ob e => ?_⟩, os, bare⟩
        · by_cases z : b ∈ ts.map (·.2.2)
          · obtain ⟨g1, ps, g2⟩ := grown b z
            have := tabs b z
            rw [e] at this
            cases this
            exact .inr (.inl ⟨g1, rfl, #[], ps, rfl, by rw [Array.empty_append]; exact g2⟩)
          · exact .inl (kept b ob z e)
        · by_cases z : b ∈ ts.map (·.2.2)
          · obtain ⟨_, ps, g2⟩ := grown b z
            exact ⟨_, g2⟩
          · exact ⟨ob, kept b ob z e⟩
  cases hk : (K w.params).lookup a with
  | some ob =>
    have e := KIn a ob hk
    rw [hobj] at e
    cases e
    refine core (fun _ => none) (fun _ => .inl rfl) (.inr ⟨_, vs.toArray, _, hk, rfl, rfl, rfl, by rw [List.size_toArray, lenV]; exact hl, by simpa using rv⟩) (fun b u z => nomatch z) (fun b z => absurd rfl z) fun z => absurd rfl z
  | none =>
    let H0 : Hp := fun b => if b = a then some (.frz { cls := .type "list", data := .seq vs.toArray } (.lst (ns.map V.int))) else none
    have h0a : H0 a = some (.frz { cls := .type "list", data := .seq vs.toArray } (.lst (ns.map V.int))) := if_pos rfl
    have h0n : ∀ b, b ≠ a → H0 b = none := fun b hb => if_neg hb
    have one : ∀ b, H0 b ≠ none → b = a := fun b z => by
      by_cases hb : b = a
      · exact hb
      · exact absurd (h0n b hb) z
    refine core H0 (fun b => ?_) (.inl (.inr ⟨_, h0a⟩)) (fun b u z => ?_) one fun _ => hk
    · by_cases hb : b = a
      · subst hb
        exact .inr ⟨_, _, h0a⟩
      · exact .inl (h0n b hb)
    · obtain rfl : b = a := one b (by rw [z]; simp)
      rw [h0a] at z
      cases z
      exact ⟨hobj, by rw [List.length_map]; exact hl, vs, _, rv, hobj⟩
end Mn
set_option Elab.async false
set_option linter.all false
set_option maxRecDepth 100000
set_option maxHeartbeats 4000000
/-! MnLc2: comprehensions of two walks, x *= y, divmod, reversed(list). -/
namespace Mn
open PySem PySem.Spec PyProof.Rows L2
section
variable {X : Cx} {Er : ER} {K : PySem.W.Frag} {H H1 : Hp} {ρ ρ1 : List Addr} {σ : Sg} {S S1 : Bxs} {τ : L2.St}
/-! x *= y -/
instance (i j : Int) : Decidable (CMul i j) := by unfold CMul; infer_instance
/-! divmod -/
instance (i j : Int) : Decidable (CDiv i j) := by unfold CDiv; infer_instance
/-! reversed(list) -/
/-! two walks -/
def canI {α : Type} (K : PySem.W.Frag) (Er : ER) (it : IRel α) (src : Src α) : TI := fun τ H R => ∃ ρ σ S, Ty K H ρ σ S τ ∧ (src σ S).Sat (KI K H ρ it R) (KX Er H ρ)
theorem SI.can {α : Type} {it : IRel α} {tg iter : Expr} {src : Src α} (h : SI X Er it tg iter src) : PI X tg iter (canI X.K Er it src) := by
  obtain ⟨wi, p, q⟩ := h.ex
  exact ⟨fun pins s σ H R I ⟨ρ, σ', S, T, hs⟩ => p.run pins s σ H R I (q _ _ _ _ _ _ T hs)⟩
end
end Mn
set_option Elab.async false
set_option linter.all false
set_option maxRecDepth 100000
set_option maxHeartbeats 4000000
/-! MnDl: len of a dict with tuples of ints as keys. -/
namespace Mn
open PySem PySem.Spec PyProof.Rows L2
end Mn
set_option Elab.async false
set_option linter.all false
set_option maxRecDepth 100000
set_option maxHeartbeats 4000000
/-! MnEq: x == y for lists and tuples whose parts are the same boxes. -/
namespace Mn
open PySem PySem.Spec PyProof.Rows L2
end Mn
set_option Elab.async false
set_option linter.all false
set_option maxRecDepth 100000
set_option maxHeartbeats 4000000
/-! MnRe: repr of lists and tuples with an empty dict within. -/
namespace Mn
open PySem PySem.Spec PyProof.Rows L2
end Mn
set_option Elab.async false
set_option linter.all false
set_option maxRecDepth 100000
set_option maxHeartbeats 4000000
/-! MnDs: a text is no dict. -/
namespace Mn
open PySem PySem.Spec PyProof.Rows L2
end Mn
set_option Elab.async false
set_option linter.all false
set_option maxRecDepth 100000
set_option maxHeartbeats 4000000
/-! MnMs: 'z' * 7. -/
namespace Mn
open PySem PySem.Spec PyProof.Rows L2
section
variable {X : Cx} {Er : ER} {K : PySem.W.Frag} {H H1 : Hp} {ρ ρ1 : List Addr} {σ : Sg} {S S1 : Bxs} {τ : L2.St}
def smallMul (z : Str) (n : Int) : Prop := z.length ≤ 100 ∧ 1 ≤ n ∧ n ≤ 100
instance (z : Str) (n : Int) : Decidable (smallMul z n) := by unfold smallMul; infer_instance
theorem smallMul.ok {z : Str} {n : Int} (h : smallMul z n) : PySem.MulOk z n := by
  obtain ⟨h1, h2, h3⟩ := h
  refine ⟨?_, fun _ _ hh => ?_, fun _ _ => ?_⟩
  · simp; omega
  · have : (1000 : Int) ≤ (2 ^ 63 - 1) / n := Int.le_ediv_of_mul_le (by omega) (by omega)
    omega
  · have h4 : n.toNat ≤ 100 := by omega
    have h5 : z.length * n.toNat ≤ 100 * 100 := Nat.mul_le_mul h1 h4
    unfold PySem.Builtin.Str.tooLong
    simp
    have : 10000 ≤ PySem.sizeLine := by rw [sizeLine_eq]; decide
    omega
end
end Mn
set_option Elab.async false
set_option linter.all false
set_option maxRecDepth 100000
set_option maxHeartbeats 4000000
/-! MnFn: defs as values, a handler that compares the field of what was raised. -/
namespace Mn
open PySem PySem.Spec PyProof.Rows L2
end Mn
set_option Elab.async false
set_option linter.all false
set_option maxRecDepth 100000
set_option maxHeartbeats 4000000
/-! MnFo: dicts as odd values: ==, repr, not in; {None: None}. -/
namespace Mn
open PySem PySem.Spec PyProof.Rows L2
section
variable {X : Cx} {Er : ER} {K : PySem.W.Frag} {H H1 : Hp} {ρ ρ1 : List Addr} {σ : Sg} {S S1 : Bxs} {τ : L2.St} {pins : List (Addr × Obj)} {s : Shared}
/-! ### {None: None} -/
theorem HR.nd {n : Nat} (h : HR K H ρ S) (e : S[n]? = some MBox.nd) : ∃ a, ρ[n]? = some a ∧ H a = some (NdO a) := h.at_ n _ e
/-! ### a text and a dict, a dict and itself -/
/-! ### not in -/
/-! ### repr of a dict -/
end
end Mn
set_option Elab.async false
set_option linter.all false
set_option maxRecDepth 100000
set_option maxHeartbeats 4000000
/-! MnFp: defs as values: the boxes at the law's own call. -/
namespace Mn
open PySem PySem.Spec PyProof.Rows L2
end Mn
set_option Elab.async false
set_option linter.all false
set_option maxRecDepth 100000
set_option maxHeartbeats 4000000
/-! MnFq: a text in a text; len(set(..)) of texts that differ. -/
namespace Mn
open PySem PySem.Spec PyProof.Rows L2
/-! ### a set of texts -/
end Mn
set_option Elab.async false
set_option linter.all false
set_option maxRecDepth 100000
set_option maxHeartbeats 4000000
/-! MnFr: len(set(..)) of a tuple of texts that differ, as a program. -/
namespace Mn
open PySem PySem.Spec PyProof.Rows L2
end Mn
set_option Elab.async false
set_option linter.all false
set_option maxRecDepth 100000
set_option maxHeartbeats 4000000
/-! MnFs: d.setdefault(k, v); xs.reverse(); xs += ys. -/
namespace Mn
open PySem PySem.Spec PyProof.Rows L2
section
variable {X : Cx} {Er : ER} {K : PySem.W.Frag} {H H1 : Hp} {ρ ρ1 : List Addr} {σ : Sg} {S S1 : Bxs} {τ : L2.St}
/-! ### xs.reverse() -/
def reverseG : GM0 := fun d S => match d with
  | .box n => match S.lst n with
    | some xs => .ok .non (S.set n (.lst xs.reverse))
    | none => .no
  | _ => .no
theorem reverseG_calm : CalmM0 reverseG := by
  intro d S c es S'
  unfold reverseG
  split
  · split
    · exact calm_ok _ _ _ _ _
    · exact calm_no _ _ _
  · exact calm_no _ _ _
theorem DVs.reverse : ∀ {ds : List Dt} {vs : List V}, DVs K H ρ ds vs → DVs K H ρ ds.reverse vs.reverse
  | _, _, .nil => .nil
  | _, _, .cons h t => by
    rw [List.reverse_cons, List.reverse_cons]
    exact DVs.app (DVs.reverse t) (.cons h .nil)
theorem rm_reverse : RM0 K rReverse reverseG := by
  intro H ρ S d v Q hr dv h
  unfold reverseG at h
  split at h
  · rename_i n
    cases dv with
    | box ha =>
      split at h
      · rename_i xs e
        obtain ⟨us, h1, h2⟩ := hr.mu ha e
        have t : To H (upd H _ (.lst us.reverse)) ρ ρ := ⟨Ext.set h1, List.prefix_refl _⟩
        refine ⟨_, us, rfl, rfl, h1, ?_⟩
        exact h .non _ ρ t (hr.set (lst_get e) ha h1 h2.reverse) .non
      · exact h.elim
  · exact h.elim
theorem w_reverse {E : Nat → List Dt → Bxs → Prop} {n : Nat} {xs : List Dt} {P : Dt → Bxs → Prop} (e : S.lst n = some xs) (h : P .non (S.set n (.lst xs.reverse))) : (reverseG (.box n) S).Wp P E := by
  have q : reverseG (.box n) S = .ok .non (S.set n (.lst xs.reverse)) := by
    unfold reverseG
    simp only [e]
  rw [q]; exact ⟨h⟩
/-! ### xs += ys -/
def rAddIL : R2 := fun x y H Q => rI0 (fun i j => .int (i + j)) x y H Q ∨ rExt2 x y H Q
theorem ip_addIL : PIp X .Add rAddIL := by
  intro pins s σ H x y v u Q I rx ry h
  rcases h with h | h
  · exact ip_add pins s σ H x y v u Q I rx ry h
  · exact iop_ext pins s σ H x y v u Q I rx ry h
def addIL : G2 := fun x y S => match x, y with
  | .int i, .int j => .ok (.int (i + j)) S
  | .box m, .box n => match S.lst m, S.lst n with
    | some xs, some ys => if xs.length + ys.length ≤ LIM then .ok (.box m) (S.set m (.lst (xs ++ ys))) else .no
    | _, _ => .no
  | _, _ => .no
theorem addIL_calm : Calm2 addIL := by
  intro x y S
  unfold addIL
  split
  · exact calm_ok _ _
  · split
    · split
      · exact calm_ok _ _
      · exact calm_no
    · exact calm_no
  · exact calm_no
theorem ro_addIL : RO K rAddIL addIL := by
  intro H ρ S x y xv yv Q hr dx dy h
  cases dx with
  | int i =>
    cases dy with
    | int j => exact .inl ⟨_, _, rfl, rfl, ko_here hr h (.int _)⟩
    | _ => exact (show False from h).elim
  | @box m a ha =>
    cases dy with
    | @box n b hb =>
      unfold addIL at h
      simp only at h
      split at h
      · rename_i xs ys e1 e2
        obtain ⟨c, h⟩ := ite_sat h
        obtain ⟨us, h1, h2⟩ := hr.mu ha e1
        obtain ⟨ws, h3, h4⟩ := hr.mu hb e2
        have t : To H (upd H a (.lst (us ++ ws))) ρ ρ := ⟨Ext.set h1, List.prefix_refl _⟩
        refine .inr ⟨a, b, us, ws, rfl, rfl, h1, h3, by rw [← h2.length, ← h4.length]; exact lim_le c, ?_⟩
        exact h _ _ ρ t (hr.set (lst_get e1) ha h1 (h2.app h4)) (.box ha)
      · exact h.elim
    | _ => exact (show False from h).elim
  | non => cases dy <;> exact (show False from h).elim
  | bl _ => cases dy <;> exact (show False from h).elim
  | str _ => cases dy <;> exact (show False from h).elim
  | tup _ _ => cases dy <;> exact (show False from h).elim
theorem w_addIL {E : Nat → List Dt → Bxs → Prop} {m n : Nat} {xs ys : List Dt} {P : Dt → Bxs → Prop} (e1 : S.lst m = some xs) (e2 : S.lst n = some ys) (c : xs.length + ys.length ≤ LIM) (h : P (.box m) (S.set m (.lst (xs ++ ys)))) : (addIL (.box m) (.box n) S).Wp P E := by
  have q : addIL (.box m) (.box n) S = .ok (.box m) (S.set m (.lst (xs ++ ys))) := by
    unfold addIL
    simp only [e1, e2]
    rw [if_pos c]
  rw [q]; exact ⟨h⟩
/-! ### d.setdefault(k, v) -/
def dSetd (o f g : FE) : FE := fun σ S => (o σ S).bind fun d S1 => match d with
  | .box n => match S1.dk n with
    | some _ => (f σ S1).bind fun y S2 => (g σ S2).bind fun z S3 => match S3.dk n, keyOf y with
      | some kvs, some k => if kvs.length < LIM then (match valD kvs k with
        | some v => .ok v S3
        | none => .ok z (S3.set n (.dk (putD kvs k z)))) else .no
      | _, _ => .no
    | none => .no
  | _ => .no
theorem se_setd {o e f : Expr} {fo fe ff : FE} {apos cpos : Pos} (ho : SE X Er o fo) (he : SE X Er e fe) (hf : SE X Er f ff) (m : M2 X o "setdefault" apos e f cpos) : SE X Er (.Call (.Attribute o "setdefault" apos) [e, f] [] cpos) (dSetd fo fe ff) := by
  obtain ⟨to, po, qo⟩ := ho.ex
  obtain ⟨te, pe, qe⟩ := he.ex
  obtain ⟨tf, pf, qf⟩ := hf.ex
  refine ⟨_, pe_dsetd po pe pf m, fun τ H ρ σ S Q T h => qo τ H ρ σ S _ T ((link h).mono (fun d S1 h1 => ?_) fun _ _ _ q => q)⟩
  intro v H1 ρ1 t1 hr1 dv
  cases dv with
  | @box n a ha =>
    simp only at h1
    split at h1
    · rename_i kv0 e0
      obtain ⟨a', ws0, g1, g2, g3⟩ := hr1.dk _ _ (dk_get e0)
      rw [ha] at g1; cases g1
      refine ⟨a, rfl, .inl ⟨ws0, .inl g2⟩, ?_⟩
      refine qe τ H1 ρ1 σ S1 _ (T.to t1 hr1) ((link (Rs.Sat.toO t1 h1)).mono (fun y S2 h2 => ?_) fun _ _ _ q => q)
      intro yv H2 ρ2 t2 hr2 dy
      refine qf τ H2 ρ2 σ S2 _ (T.to (t1.trans t2) hr2) ((link (Rs.Sat.toO t2 h2)).mono (fun z S3 h3 => ?_) fun _ _ _ q => q)
      intro zv H3 ρ3 t3 hr3 dz
      split at h3
      · rename_i kvs k ek ey
        obtain ⟨c, h3⟩ := ite_sat h3
        obtain ⟨a', ws, g1, g4, g5⟩ := hr3.dk _ _ (dk_get ek)
        have ha3 := pre_get (t2.trans t3).pre ha
        rw [ha3] at g1; cases g1
        refine ⟨ws, k, g4, key_dv dy ey, by rw [← g5.length]; exact lim_lt c, fun v0 hv => ?_, fun hn => ?_⟩
        · rcases dps_val k g5 with ⟨d0, v1, e1, e2, dd⟩ | ⟨e1, e2⟩
          · rw [hv] at e2; cases e2
            rw [e1] at h3
            exact h3 _ _ ρ3 t3 hr3 dd
          · rw [hv] at e2; cases e2
        · rcases dps_val k g5 with ⟨d0, v1, e1, e2, dd⟩ | ⟨e1, e2⟩
          · rw [hn] at e2; cases e2
          · rw [e1] at h3
            have tu : To H3 (upd H3 a (.dK (putK ws k zv))) ρ3 ρ3 := ⟨Ext.setD g4, List.prefix_refl _⟩
            exact h3 _ _ ρ3 (t3.trans tu) (hr3.setD (dk_get ek) ha3 g4 (dps_put dz g5)) (dz.to tu)
      · exact h3.elim
    · exact h1.elim
  | _ => exact (show False from h1).elim
end
end Mn
set_option Elab.async false
set_option linter.all false
set_option maxRecDepth 100000
set_option maxHeartbeats 4000000
namespace Lw
open PySem PySem.Spec PyProof.Rows L2 Mn
noncomputable def B__law_bag : FS :=
  sRet (dLst (aCons (dC (.int 0)) (aCons (dC (.int 1234567891)) (aCons (dC (.int 0)) (aCons (dLc (srcSeq (dSl (dVar 0) (oNone) (oSome (dC (.int 63))))) (tName 1) (bYes) (dCall absG (aCons (dVar 1) (aNil))) [1]) (aNil))))))
noncomputable def F__law_bag : FN := bodyF 2 B__law_bag
noncomputable def B__law_take : FS :=
  sCons (sIf (dTrue (dBin (eqG false) (dBin ixG (dVar 0) (dC (.int 0))) (dC (.int 0)))) (sCons (sSet 2 (dBin ixG (dBin addG (dSl (dBin ixG (dVar 0) (dC (.int 3))) (oSome (dBin ixG (dVar 0) (dC (.int 2)))) (oNone)) (dLst (aCons (dC (.int 0)) (aNil)))) (dC (.int 0)))) (sCons (sAugS (dVar 0) (dC (.int 2)) addI (dC (.int 1))) (sCons (sIf (dTrue (dBin geG (dVar 2) (dBin powG (dC (.int 10)) (dC (.int 18))))) (sAsg (dVar 2) (tSubG (dVar 0) (dC (.int 0)))) (sNil)) (sCons (sSet 3 (dBin addG (dBin addG (dBin mulG (dBin ixG (dVar 0) (dC (.int 1))) (dC (.int 48271))) (dBin modG (dCall intG (aCons (dVar 2) (aNil))) (dC (.int 2147483647)))) (dBin mulG (dC (.int 7919)) (dBin ixG (dVar 0) (dC (.int 2)))))) (sAsg (dBin modG (dCall intG (aCons (dVar 3) (aNil))) (dC (.int 2147483647))) (tSubG (dVar 0) (dC (.int 1)))))))) (sNil)) (sCons (sIf (dTrue (dBin gtG (dBin ixG (dVar 0) (dC (.int 0))) (dC (.int 0)))) (sCons (sSet 4 (dBin modG (dCall intG (aCons (dBin ixG (dVar 0) (dC (.int 0))) (aNil))) (dVar 1))) (sCons (sAsg (dBin fdivG (dCall intG (aCons (dBin ixG (dVar 0) (dC (.int 0))) (aNil))) (dVar 1)) (tSubG (dVar 0) (dC (.int 0)))) (sRet (dVar 4)))) (sNil)) (sCons (sSet 5 (dBin modG (dCall intG (aCons (dBin mulG (dBin addG (dBin ixG (dVar 0) (dC (.int 1))) (dC (.int 1))) (dC (.int 39373))) (aNil))) (dC (.int 1000000007)))) (sCons (sSet 6 (dBin modG (dCall intG (aCons (dBin mulG (dBin modG (dCall intG (aCons (dBin mulG (dVar 5) (dVar 5)) (aNil))) (dC (.int 998244353))) (dC (.int 30011))) (aNil))) (dC (.int 998244353)))) (sRet (dBin modG (dCall intG (aCons (dBin fdivG (dVar 6) (dC (.int 7))) (aNil))) (dVar 1))))))
noncomputable def F__law_take : FN := bodyF 7 B__law_take
noncomputable def B__law_one : FS :=
  sRet (dBin ixG (dVar 1) (dCall F__law_take (aCons (dVar 0) (aCons (dCall lenG (aCons (dVar 1) (aNil))) (aNil)))))
noncomputable def F__law_one : FN := bodyF 2 B__law_one
noncomputable def B__law_mixed : FS :=
  sCons (sSet 2 (dLst (aNil))) (sCons (sFor (srcSeq (dVar 1)) (tName 3) (sExpr (dMeth "list" insertG (dVar 2) (aCons (dCall F__law_take (aCons (dVar 0) (aCons (dBin addG (dCall lenG (aCons (dVar 2) (aNil))) (dC (.int 1))) (aNil)))) (aCons (dVar 3) (aNil)))))) (sRet (dVar 2)))
noncomputable def F__law_mixed : FN := bodyF 4 B__law_mixed
noncomputable def B__law_names : FS :=
  sCons (sSet 2 (dLst (aCons (dC (.str "a")) (aCons (dC (.str "b")) (aCons (dC (.str "c")) (aCons (dC (.str "d")) (aCons (dC (.str "ab")) (aCons (dC (.str "to")) (aCons (dC (.str "by")) (aCons (dC (.str "with")) (aCons (dC (.str "kinds")) (aCons (dC (.str "hands")) (aCons (dC (.str "recipe")) (aCons (dC (.str "run")) (aCons (dC (.str "places")) (aNil)))))))))))))))) (sRet (dSl (dCall F__law_mixed (aCons (dVar 0) (aCons (dBin addG (dVar 2) (dLst (aCons (dC (.str "arrow")) (aCons (dC (.str "gym")) (aCons (dC (.str "jvl")) (aCons (dC (.str "zzzzzz")) (aCons (dC (.str "x")) (aCons (dC (.str "fq")) (aNil))))))))) (aNil)))) (oNone) (oSome (dVar 1))))
noncomputable def F__law_names : FN := bodyF 3 B__law_names
noncomputable def B__law_recipe : FS :=
  sCons (sSet 4 (dCall F__law_take (aCons (dVar 0) (aCons (dVar 1) (aNil))))) (sCons (sPar3 5 6 7 (aCons (dLst (aCons (dC (.int 0)) (aCons (dC (.int 1)) (aCons (dC (.int 0)) (aCons (dBin addG (dC (.int 1)) (dCall F__law_take (aCons (dVar 0) (aCons (dVar 3) (aNil))))) (aNil)))))) (aCons (dBin mulG (dLst (aCons (dC (.int 0)) (aNil))) (dVar 1)) (aCons (dBin mulG (dLst (aCons (dC (.int 0)) (aNil))) (dVar 1)) (aNil))))) (sCons (sFor (srcR1 (aCons (dVar 1) (aNil))) (tName 8) (sIf (dTrue (dBin ltG (dVar 8) (dVar 4))) (sAsg (dCall F__law_one (aCons (dVar 0) (aCons (dVar 5) (aNil)))) (tSubG (dVar 6) (dVar 8))) (sIf (dAnd (dTrue (dBin gtG (dVar 8) (dVar 4))) (dTrue (dBin (eqG false) (dCall F__law_take (aCons (dVar 0) (aCons (dC (.int 2)) (aNil)))) (dC (.int 0))))) (sAsg (dCall F__law_one (aCons (dVar 0) (aCons (dVar 5) (aNil)))) (tSubG (dVar 7) (dVar 8))) (sNil)))) (sCons (sAsg (dCall F__law_one (aCons (dVar 0) (aCons (dLst (aCons (dC (.int 1)) (aCons (dC (.int 1)) (aCons (dC (.int 1)) (aCons (dC (.int 2)) (aCons (dBin addG (dC (.int 1)) (dCall F__law_take (aCons (dVar 0) (aCons (dVar 3) (aNil))))) (aNil))))))) (aNil)))) (tSubG (dVar 6) (dVar 4))) (sRet (dTup (aCons (dCall tupleG (aCons (dVar 6) (aNil))) (aCons (dCall tupleG (aCons (dVar 7) (aNil))) (aCons (dCall F__law_one (aCons (dVar 0) (aCons (dBin addG (dBin mulG (dCall listG (aCons (dVar 2) (aNil))) (dC (.int 2))) (dLst (aCons (dC .non) (aNil)))) (aNil)))) (aNil)))))))))
noncomputable def F__law_recipe : FN := bodyF 9 B__law_recipe
noncomputable def B__law_out : FS :=
  sCons (sSet 4 (dBin mulG (dLst (aCons (dC (.int 0)) (aNil))) (dVar 1))) (sCons (sAsg (dC (.int 1)) (tSubG (dVar 4) (dVar 2))) (sRet (dTup (aCons (dCall tupleG (aCons (dVar 4) (aNil))) (aCons (dBin mulG (dTup (aCons (dC (.int 0)) (aNil))) (dVar 1)) (aCons (dCall F__law_one (aCons (dVar 0) (aCons (dBin addG (dBin mulG (dCall listG (aCons (dVar 3) (aNil))) (dC (.int 3))) (dLst (aCons (dC .non) (aNil)))) (aNil)))) (aNil)))))))
noncomputable def F__law_out : FN := bodyF 5 B__law_out
noncomputable def B__law_works : FS :=
  sCons (sPar3 4 5 6 (aCons (dCall F__law_names (aCons (dVar 0) (aCons (dC (.int 8)) (aNil)))) (aCons (dBin addG (dC (.int 1)) (dCall F__law_take (aCons (dVar 0) (aCons (dVar 1) (aNil))))) (aCons (dCall F__law_take (aCons (dVar 0) (aCons (dBin addG (dVar 2) (dC (.int 1))) (aNil)))) (aNil))))) (sCons (sPar2 7 8 (aCons (dCall tupleG (aCons (dSl (dVar 4) (oSome (dVar 5)) (oSome (dBin addG (dVar 5) (dVar 6)))) (aNil))) (aCons (dLst (aNil)) (aNil)))) (sCons (sSet 9 (dCall F__law_one (aCons (dVar 0) (aCons (dLst (aCons (dC (.int 1)) (aCons (dC (.int 2)) (aCons (dC (.int 2)) (aCons (dC (.int 4)) (aNil)))))) (aNil))))) (sCons (sFor (srcR1 (aCons (dCall F__law_take (aCons (dVar 0) (aCons (dBin addG (dVar 3) (dC (.int 1))) (aNil)))) (aNil))) (tName 10) (sExpr (dMeth "list" appendG (dVar 8) (aCons (dCall F__law_recipe (aCons (dVar 0) (aCons (dVar 5) (aCons (dVar 7) (aCons (dVar 9) (aNil)))))) (aNil))))) (sCons (sFor (srcR1 (aCons (dVar 5) (aNil))) (tName 11) (sIf (dTrue (dBin gtG (dCall F__law_take (aCons (dVar 0) (aCons (dC (.int 4)) (aNil)))) (dC (.int 0)))) (sExpr (dMeth "list" appendG (dVar 8) (aCons (dCall F__law_out (aCons (dVar 0) (aCons (dVar 5) (aCons (dVar 11) (aCons (dVar 7) (aNil)))))) (aNil)))) (sNil))) (sCons (sIf (dAnd (dTrue (dBin (eqG true) (dVar 8) (dLst (aNil)))) (dTrue (dBin (eqG false) (dCall F__law_take (aCons (dVar 0) (aCons (dC (.int 6)) (aNil)))) (dC (.int 0))))) (sExpr (dMeth "list" appendG (dVar 8) (aCons (dCall F__law_one (aCons (dVar 0) (aCons (dVar 8) (aNil)))) (aNil)))) (sNil)) (sRet (dTup (aCons (dCall tupleG (aCons (dSl (dVar 4) (oNone) (oSome (dVar 5))) (aNil))) (aCons (dVar 7) (aCons (dCall tupleG (aCons (dSl (dCall F__law_mixed (aCons (dVar 0) (aCons (dVar 8) (aNil)))) (oNone) (oSome (dVar 3))) (aNil))) (aNil)))))))))))
noncomputable def F__law_works : FN := bodyF 12 B__law_works
noncomputable def B__law_alike : FS :=
  sRet (dAndV (dBin (eqG false) (dVar 0) (dVar 1)) (dBin (eqG false) (dCall reprG (aCons (dVar 0) (aNil))) (dCall reprG (aCons (dVar 1) (aNil)))))
noncomputable def F__law_alike : FN := bodyF 2 B__law_alike
noncomputable def B__law_links : FS :=
  sCons (sSet 3 (dBin addG (dLst (aCons (dC (.int 0)) (aNil))) (dCall F__law_mixed (aCons (dVar 0) (aCons (dListR2 (dC (.int 1)) (dVar 1)) (aNil)))))) (sCons (sSet 4 (dBin addG (dListZip (aCons (dVar 3) (aCons (dSl (dVar 3) (oSome (dC (.int 1))) (oNone)) (aNil)))) (dLst (aCons (dTup (aCons (dBin ixG (dVar 3) (dNeg (dC (.int 1)))) (aCons (dCall F__law_one (aCons (dVar 0) (aCons (dVar 3) (aNil)))) (aNil)))) (aNil))))) (sCons (sFor (srcR1 (aCons (dCall F__law_take (aCons (dVar 0) (aCons (dBin addG (dVar 2) (dC (.int 1))) (aNil)))) (aNil))) (tName 5) (sExpr (dMeth "list" appendG (dVar 4) (aCons (dTup (aCons (dCall F__law_take (aCons (dVar 0) (aCons (dVar 1) (aNil)))) (aCons (dCall F__law_take (aCons (dVar 0) (aCons (dVar 1) (aNil)))) (aNil)))) (aNil))))) (sRet (dCall F__law_mixed (aCons (dVar 0) (aCons (dVar 4) (aNil)))))))
noncomputable def F__law_links : FN := bodyF 6 B__law_links
noncomputable def B__law_wants : FS :=
  sCons (sPar2 2 3 (aCons (dBin mulG (dLst (aCons (dC (.int 0)) (aNil))) (dCall lenG (aCons (dBin ixG (dVar 0) (dC (.int 0))) (aNil)))) (aCons (dBin mulG (dLst (aCons (dC (.int 0)) (aNil))) (dCall lenG (aCons (dBin ixG (dVar 0) (dC (.int 1))) (aNil)))) (aNil)))) (sCons (sFor (srcZip (aCons (dVar 1) (aCons (dBin ixG (dVar 0) (dC (.int 2))) (aNil)))) (tPairG (tConsG (tName 4) (tConsG (tTupG 3 (tConsG (tName 5) (tConsG (tName 6) (tConsG (tName 7) (tNilG))))) (tNilG)))) (sCons (sFor (srcR1 (aCons (dCall lenG (aCons (dVar 2) (aNil))) (aNil))) (tName 8) (sAugS (dVar 2) (dVar 8) addI (dBin mulG (dVar 4) (dBin subG (dBin ixG (dVar 5) (dVar 8)) (dBin ixG (dVar 6) (dVar 8)))))) (sIf (dTrue (dNotN (dVar 7))) (sAugS (dVar 3) (dMeth "tuple" tindexG (dBin ixG (dVar 0) (dC (.int 1))) (aCons (dVar 7) (aNil))) addI (dVar 4)) (sNil)))) (sRet (dTup (aCons (dCall tupleG (aCons (dVar 2) (aNil))) (aCons (dCall tupleG (aCons (dVar 3) (aNil))) (aNil))))))
noncomputable def F__law_wants : FN := bodyF 9 B__law_wants
noncomputable def B__law_nothing : FS :=
  sRet (dBin mulG (dTup (aCons (dC (.int 0)) (aNil))) (dCall lenG (aCons (dBin ixG (dVar 0) (dC (.int 0))) (aNil))))
noncomputable def F__law_nothing : FN := bodyF 1 B__law_nothing
noncomputable def B__law_planted : FS :=
  sCons (sFor (srcR1 (aCons (dC (.int 6)) (aNil))) (tName 3) (sCons (sSet 4 (dLc (srcSeq (dBin ixG (dVar 1) (dC (.int 2)))) (tName 10) (bYes) (dCall F__law_take (aCons (dVar 0) (aCons (dBin addG (dVar 2) (dC (.int 1))) (aNil)))) [10])) (sCons (sFor (srcR1 (aCons (dC (.int 12)) (aNil))) (tName 5) (sCons (sAsg (dCall F__law_wants (aCons (dVar 1) (aCons (dVar 4) (aNil)))) (tTupG 2 (tConsG (tName 6) (tConsG (tName 7) (tNilG))))) (sCons (sSet 8 (dLc (srcR1 (aCons (dCall lenG (aCons (dVar 6) (aNil))) (aNil))) (tName 11) (dTrue (dBin ltG (dBin ixG (dVar 6) (dVar 11)) (dC (.int 0)))) (dVar 11) [11])) (sCons (sSet 9 (dLc (srcR1 (aCons (dCall lenG (aCons (dVar 4) (aNil))) (aNil))) (tName 12) (dAnd (dTrue (dBin (eqG true) (dVar 8) (dLst (aNil)))) (dTrue (dBin gtG (dBin ixG (dBin ixG (dBin ixG (dBin ixG (dVar 1) (dC (.int 2))) (dVar 12)) (dC (.int 0))) (dBin ixG (dVar 8) (dC (.int 0)))) (dC (.int 0))))) (dVar 12) [12])) (sIf (dTrue (dBin (eqG true) (dVar 9) (dLst (aNil)))) (sAugS (dVar 4) (dCall F__law_one (aCons (dVar 0) (aCons (dVar 9) (aNil)))) addI (dC (.int 1))) (sIf (dTrue (dBin (eqG true) (dVar 8) (dLst (aNil)))) (sSet 4 (dLc (srcR1 (aCons (dCall lenG (aCons (dVar 4) (aNil))) (aNil))) (tName 12) (bYes) (dIf (dTrue (dBin gtG (dBin ixG (dBin ixG (dBin ixG (dBin ixG (dVar 1) (dC (.int 2))) (dVar 12)) (dC (.int 1))) (dBin ixG (dVar 8) (dC (.int 0)))) (dC (.int 0)))) (dC (.int 0)) (dBin ixG (dVar 4) (dVar 12))) [12])) (sNil))))))) (sCons (sAsg (dCall F__law_wants (aCons (dVar 1) (aCons (dVar 4) (aNil)))) (tTupG 2 (tConsG (tName 6) (tConsG (tName 7) (tNilG))))) (sIf (dAnd (dTrue (dBin geG (dCall minG (aCons (dVar 6) (aNil))) (dC (.int 0)))) (dTrue (dBin leG (dCall maxG (aCons (dBin addG (dVar 6) (dVar 7)) (aNil))) (dC (.int 4))))) (sRet (dTup (aCons (dVar 6) (aCons (dVar 7) (aCons (dCall tupleG (aCons (dVar 4) (aNil))) (aNil)))))) (sNil)))))) (sRet (dTup (aCons (dCall F__law_nothing (aCons (dVar 1) (aNil))) (aCons (dBin mulG (dTup (aCons (dC (.int 0)) (aNil))) (dCall lenG (aCons (dBin ixG (dVar 1) (dC (.int 1))) (aNil)))) (aCons (dBin mulG (dTup (aCons (dC (.int 0)) (aNil))) (dCall lenG (aCons (dBin ixG (dVar 1) (dC (.int 2))) (aNil)))) (aNil))))))
noncomputable def F__law_planted : FN := bodyF 13 B__law_planted
noncomputable def B__law_less : FS :=
  sRet (dCall tupleG (aCons (dLc (srcZip (aCons (dVar 0) (aCons (dVar 1) (aNil)))) (tPairG (tConsG (tName 2) (tConsG (tName 3) (tNilG)))) (bYes) (dBin subG (dVar 2) (dVar 3)) [2, 3]) (aNil)))
noncomputable def F__law_less : FN := bodyF 4 B__law_less
noncomputable def B__law_sum : FS :=
  sRet (dCall tupleG (aCons (dLc (srcZip (aCons (dVar 0) (aCons (dVar 1) (aNil)))) (tPairG (tConsG (tName 2) (tConsG (tName 3) (tNilG)))) (bYes) (dBin addG (dVar 2) (dVar 3)) [2, 3]) (aNil)))
noncomputable def F__law_sum : FN := bodyF 4 B__law_sum
noncomputable def B__law_arrow : FS :=
  sCons (sPar2 5 6 (aCons (dCall F__law_less (aCons (dBin ixG (dBin ixG (dVar 4) (dVar 2)) (dC (.int 0))) (aCons (dBin ixG (dBin ixG (dVar 4) (dVar 1)) (dC (.int 0))) (aNil)))) (aCons (dCall F__law_less (aCons (dBin ixG (dBin ixG (dVar 4) (dVar 2)) (dC (.int 1))) (aCons (dBin ixG (dBin ixG (dVar 4) (dVar 1)) (dC (.int 1))) (aNil)))) (aNil)))) (sCons (sIf (dTrue (dBin ltG (dCall minG (aCons (dVar 5) (aNil))) (dC (.int 0)))) (sPar2 5 6 (aCons (dCall F__law_sum (aCons (dVar 5) (aCons (dBin ixG (dVar 3) (dC (.int 0))) (aNil)))) (aCons (dCall F__law_sum (aCons (dVar 6) (aCons (dBin ixG (dVar 3) (dC (.int 1))) (aNil)))) (aNil)))) (sIf (dAnd (dTrue (dBin (eqG true) (dVar 6) (dTup (aNil)))) (dTrue (dBin ltG (dCall minG (aCons (dVar 6) (aNil))) (dC (.int 0))))) (sSet 6 (dCall F__law_sum (aCons (dVar 6) (aCons (dBin ixG (dVar 3) (dC (.int 1))) (aNil))))) (sNil))) (sRet (dTup (aCons (dVar 1) (aCons (dVar 2) (aCons (dVar 5) (aCons (dVar 6) (aNil))))))))
noncomputable def F__law_arrow : FN := bodyF 7 B__law_arrow
noncomputable def B__law_part : FS :=
  sRet (dCall tupleG (aCons (dLc (srcSeq (dVar 1)) (tName 2) (bYes) (dCall F__law_take (aCons (dVar 0) (aCons (dBin addG (dVar 2) (dC (.int 1))) (aNil)))) [2]) (aNil)))
noncomputable def F__law_part : FN := bodyF 3 B__law_part
noncomputable def B__law_held_sender : FS :=
  sCons (sPar2 4 5 (aCons (dBin addG (dC (.int 1)) (dCall F__law_take (aCons (dVar 0) (aCons (dVar 2) (aNil))))) (aCons (dCall F__law_planted (aCons (dVar 0) (aCons (dVar 1) (aCons (dC (.int 2)) (aNil))))) (aNil)))) (sCons (sSet 6 (dLst (aCons (dTup (aCons (dCall F__law_nothing (aCons (dVar 1) (aNil))) (aCons (dBin mulG (dTup (aCons (dC (.int 0)) (aNil))) (dCall lenG (aCons (dBin ixG (dVar 1) (dC (.int 1))) (aNil)))) (aNil)))) (aNil)))) (sCons (sFor (srcR2 (aCons (dC (.int 1)) (aCons (dVar 4) (aNil)))) (tName 7) (sExpr (dMeth "list" appendG (dVar 6) (aCons (dTup (aCons (dCall F__law_part (aCons (dVar 0) (aCons (dBin ixG (dVar 5) (dC (.int 0))) (aNil)))) (aCons (dCall F__law_part (aCons (dVar 0) (aCons (dBin ixG (dVar 5) (dC (.int 1))) (aNil)))) (aNil)))) (aNil))))) (sCons (sSet 8 (dLst (aNil))) (sCons (sFor (srcSeq (dCall F__law_links (aCons (dVar 0) (aCons (dVar 4) (aCons (dVar 3) (aNil)))))) (tTupG 2 (tConsG (tName 9) (tConsG (tName 10) (tNilG)))) (sCons (sSet 11 (dCall F__law_arrow (aCons (dVar 1) (aCons (dVar 9) (aCons (dVar 10) (aCons (dVar 5) (aCons (dVar 6) (aNil)))))))) (sCons (sIf (dAnd (dTrue (dBin (eqG false) (dVar 9) (dVar 10))) (dTrue (dBin (eqG false) (dCall F__law_take (aCons (dVar 0) (aCons (dC (.int 2)) (aNil)))) (dC (.int 0))))) (sSet 11 (dBin addG (dSl (dVar 11) (oNone) (oSome (dC (.int 2)))) (dSl (dVar 5) (oNone) (oSome (dC (.int 2)))))) (sNil)) (sExpr (dMeth "list" appendG (dVar 8) (aCons (dVar 11) (aNil))))))) (sRet (dTup (aCons (dVar 4) (aCons (dCall tupleG (aCons (dVar 8) (aNil))) (aNil)))))))))
noncomputable def F__law_held_sender : FN := bodyF 12 B__law_held_sender
noncomputable def B__law_any_sender : FS :=
  sCons (sPar2 4 5 (aCons (dBin addG (dC (.int 1)) (dCall F__law_take (aCons (dVar 0) (aCons (dVar 2) (aNil))))) (aCons (dLst (aNil)) (aNil)))) (sCons (sSet 6 (dCall F__law_links (aCons (dVar 0) (aCons (dVar 4) (aCons (dVar 3) (aNil)))))) (sCons (sFor (srcSeq (dSl (dVar 6) (oNone) (oSome (dCall F__law_one (aCons (dVar 0) (aCons (dLst (aCons (dCall lenG (aCons (dVar 6) (aNil))) (aCons (dCall lenG (aCons (dVar 6) (aNil))) (aCons (dCall F__law_take (aCons (dVar 0) (aCons (dBin addG (dCall lenG (aCons (dVar 6) (aNil))) (dC (.int 1))) (aNil)))) (aNil))))) (aNil))))))) (tTupG 2 (tConsG (tName 7) (tConsG (tName 8) (tNilG)))) (sCons (sSet 9 (dCall tupleG (aCons (dLc (srcSeq (dBin ixG (dVar 1) (dC (.int 0)))) (tName 10) (bYes) (dCall F__law_one (aCons (dVar 0) (aCons (dLst (aCons (dC (.int 0)) (aCons (dC (.int 0)) (aCons (dC (.int 1)) (aCons (dC (.int 0)) (aCons (dC (.int 2)) (aNil))))))) (aNil)))) [10]) (aNil)))) (sExpr (dMeth "list" appendG (dVar 5) (aCons (dTup (aCons (dVar 7) (aCons (dVar 8) (aCons (dVar 9) (aCons (dCall tupleG (aCons (dLc (srcSeq (dBin ixG (dVar 1) (dC (.int 1)))) (tName 11) (bYes) (dCall F__law_one (aCons (dVar 0) (aCons (dLst (aCons (dC (.int 0)) (aCons (dC (.int 1)) (aCons (dC (.int 0)) (aCons (dC (.int 2)) (aNil)))))) (aNil)))) [11]) (aNil))) (aNil)))))) (aNil)))))) (sRet (dTup (aCons (dVar 4) (aCons (dCall tupleG (aCons (dVar 5) (aNil))) (aNil)))))))
noncomputable def F__law_any_sender : FN := bodyF 12 B__law_any_sender
noncomputable def B__law_bent_sender : FS :=
  sCons (sIf (dTrue (dBin (eqG false) (dBin ixG (dVar 2) (dC (.int 1))) (dTup (aNil)))) (sRet (dVar 2)) (sNil)) (sCons (sSet 3 (dCall F__law_take (aCons (dVar 0) (aCons (dCall lenG (aCons (dBin ixG (dVar 2) (dC (.int 1))) (aNil))) (aNil))))) (sCons (sAsg (dBin ixG (dBin ixG (dVar 2) (dC (.int 1))) (dVar 3)) (tTupG 4 (tConsG (tName 4) (tConsG (tName 5) (tConsG (tName 6) (tConsG (tName 7) (tNilG))))))) (sCons (sSet 8 (dLc (srcR1 (aCons (dCall lenG (aCons (dVar 7) (aNil))) (aNil))) (tName 9) (dTrue (dBin gtG (dBin ixG (dVar 7) (dVar 9)) (dC (.int 0)))) (dVar 9) [9])) (sCons (sIf (dAnd (dTrue (dBin (eqG true) (dVar 8) (dLst (aNil)))) (dTrue (dBin (eqG false) (dCall F__law_take (aCons (dVar 0) (aCons (dC (.int 2)) (aNil)))) (dC (.int 0))))) (sCons (sSet 9 (dCall F__law_one (aCons (dVar 0) (aCons (dVar 8) (aNil))))) (sSet 7 (dBin addG (dBin addG (dSl (dVar 7) (oNone) (oSome (dVar 9))) (dTup (aCons (dBin subG (dBin ixG (dVar 7) (dVar 9)) (dC (.int 1))) (aNil)))) (dSl (dVar 7) (oSome (dBin addG (dVar 9) (dC (.int 1)))) (oNone))))) (sCons (sSet 9 (dCall F__law_take (aCons (dVar 0) (aCons (dCall lenG (aCons (dVar 6) (aNil))) (aNil))))) (sSet 6 (dBin addG (dBin addG (dSl (dVar 6) (oNone) (oSome (dVar 9))) (dTup (aCons (dCall minG (aCons (dC (.int 9)) (aCons (dBin addG (dBin ixG (dVar 6) (dVar 9)) (dC (.int 1))) (aNil)))) (aNil)))) (dSl (dVar 6) (oSome (dBin addG (dVar 9) (dC (.int 1)))) (oNone)))))) (sRet (dTup (aCons (dBin ixG (dVar 2) (dC (.int 0))) (aCons (dBin addG (dBin addG (dSl (dBin ixG (dVar 2) (dC (.int 1))) (oNone) (oSome (dVar 3))) (dTup (aCons (dTup (aCons (dVar 4) (aCons (dVar 5) (aCons (dVar 6) (aCons (dVar 7) (aNil)))))) (aNil)))) (dSl (dBin ixG (dVar 2) (dC (.int 1))) (oSome (dBin addG (dVar 3) (dC (.int 1)))) (oNone))) (aNil)))))))))
noncomputable def F__law_bent_sender : FN := bodyF 10 B__law_bent_sender
noncomputable def B__law_sender : FS :=
  sCons (sSet 4 (dCall F__law_take (aCons (dVar 0) (aCons (dC (.int 5)) (aNil))))) (sCons (sIf (dTrue (dBin (eqG false) (dVar 4) (dC (.int 0)))) (sRet (dCall F__law_any_sender (aCons (dVar 0) (aCons (dVar 1) (aCons (dVar 2) (aCons (dVar 3) (aNil))))))) (sNil)) (sCons (sSet 5 (dCall F__law_held_sender (aCons (dVar 0) (aCons (dVar 1) (aCons (dVar 2) (aCons (dVar 3) (aNil))))))) (sRet (dIf (dTrue (dBin (eqG false) (dVar 4) (dC (.int 1)))) (dCall F__law_bent_sender (aCons (dVar 0) (aCons (dVar 1) (aCons (dVar 5) (aNil))))) (dVar 5)))))
noncomputable def F__law_sender : FN := bodyF 6 B__law_sender
noncomputable def B__law_world : FS :=
  sCons (sSet 4 (dCall F__law_works (aCons (dVar 0) (aCons (dVar 1) (aCons (dC (.int 2)) (aCons (dVar 2) (aNil))))))) (sRet (dTup (aCons (dVar 4) (aCons (dCall F__law_sender (aCons (dVar 0) (aCons (dVar 4) (aCons (dVar 3) (aCons (dC (.int 4)) (aNil)))))) (aNil)))))
noncomputable def F__law_world : FN := bodyF 5 B__law_world
noncomputable def B__law_arrows_from : FS :=
  sRet (dLc (srcR1 (aCons (dCall lenG (aCons (dBin ixG (dVar 0) (dC (.int 1))) (aNil))) (aNil))) (tName 2) (dTrue (dBin (eqG false) (dBin ixG (dBin ixG (dBin ixG (dVar 0) (dC (.int 1))) (dVar 2)) (dC (.int 0))) (dVar 1))) (dVar 2) [2])
noncomputable def F__law_arrows_from : FN := bodyF 3 B__law_arrows_from
noncomputable def B__law_come_to : FS :=
  sCons (sPar2 1 2 (aCons (dLst (aCons (dC (.int 0)) (aNil))) (aCons (dLst (aCons (dC (.int 0)) (aNil))) (aNil)))) (sCons (sWhile (dTrue (dBin (eqG true) (dVar 2) (dLst (aNil)))) (sFor (srcSeq (dCall F__law_arrows_from (aCons (dVar 0) (aCons (dMeth0 "list" popG (dVar 2)) (aNil))))) (tName 3) (sIf (dTrue (dBin (inG true) (dBin ixG (dBin ixG (dBin ixG (dVar 0) (dC (.int 1))) (dVar 3)) (dC (.int 1))) (dVar 1))) (sCons (sExpr (dMeth "list" appendG (dVar 1) (aCons (dBin ixG (dBin ixG (dBin ixG (dVar 0) (dC (.int 1))) (dVar 3)) (dC (.int 1))) (aNil)))) (sExpr (dMeth "list" appendG (dVar 2) (aCons (dBin ixG (dBin ixG (dBin ixG (dVar 0) (dC (.int 1))) (dVar 3)) (dC (.int 1))) (aNil))))) (sNil)))) (sRet (dCall sortedG (aCons (dVar 1) (aNil)))))
noncomputable def F__law_come_to : FN := bodyF 4 B__law_come_to
noncomputable def B__law_rings : FS :=
  sCons (sPar3 2 3 4 (aCons (dLst (aNil)) (aCons (dC (.int 0)) (aCons (dCall F__law_come_to (aCons (dVar 0) (aNil))) (aNil))))) (sCons (sFor (srcSeq (dVar 4)) (tName 5) (sCons (sSet 6 (dLc (srcSeq (dCall F__law_arrows_from (aCons (dVar 0) (aCons (dVar 5) (aNil))))) (tName 10) (bYes) (dTup (aCons (dTup (aCons (dVar 10) (aNil))) (aCons (dBin ixG (dBin ixG (dBin ixG (dVar 0) (dC (.int 1))) (dVar 10)) (dC (.int 1))) (aNil)))) [10])) (sWhile (dTrue (dBin (eqG true) (dVar 6) (dLst (aNil)))) (sCons (sAsg (dMeth0 "list" popG (dVar 6)) (tTupG 2 (tConsG (tName 7) (tConsG (tName 8) (tNilG))))) (sCons (sAug 3 addI (dC (.int 1))) (sCons (sIf (dTrue (dBin gtG (dVar 3) (dVar 1))) (sRet (dC .non)) (sNil)) (sCons (sSet 9 (dLc (srcSeq (dVar 7)) (tName 10) (bYes) (dBin ixG (dBin ixG (dBin ixG (dVar 0) (dC (.int 1))) (dVar 10)) (dC (.int 0))) [10])) (sIf (dTrue (dBin (eqG false) (dVar 8) (dVar 5))) (sExpr (dMeth "list" appendG (dVar 2) (aCons (dVar 7) (aNil)))) (sIf (dAnd (dTrue (dBin gtG (dVar 8) (dVar 5))) (dTrue (dBin (inG true) (dVar 8) (dVar 9)))) (sExpr (dMeth "list" extendG (dVar 6) (aCons (dLc (srcSeq (dCall F__law_arrows_from (aCons (dVar 0) (aCons (dVar 8) (aNil))))) (tName 10) (bYes) (dTup (aCons (dBin addG (dVar 7) (dTup (aCons (dVar 10) (aNil)))) (aCons (dBin ixG (dBin ixG (dBin ixG (dVar 0) (dC (.int 1))) (dVar 10)) (dC (.int 1))) (aNil)))) [10]) (aNil)))) (sNil)))))))))) (sRet (dCall sortedG (aCons (dVar 2) (aNil)))))
noncomputable def F__law_rings : FN := bodyF 11 B__law_rings
noncomputable def B_places_come_to : FS :=
  sCons (sSet 1 (dDisp [(dC (.int 0), dC (.bl true))])) (sCons (sSet 2 (dC (.bl true))) (sCons (sWhile (dTrue (dVar 2)) (sCons (sSet 2 (dC (.bl false))) (sFor (srcSeq (dBin ixG (dVar 0) (dC (.int 1)))) (tTupG 4 (tConsG (tName 3) (tConsG (tName 4) (tConsG (tName 5) (tConsG (tName 5) (tNilG)))))) (sIf (dAnd (dTrue (dBin (inG false) (dVar 3) (dVar 1))) (dTrue (dBin (inG true) (dVar 4) (dVar 1)))) (sCons (sAsg (dC (.bl true)) (tSubG (dVar 1) (dVar 4))) (sSet 2 (dC (.bl true)))) (sNil))))) (sRet (dCall tupleG (aCons (dCall sortedG (aCons (dVar 1) (aNil))) (aNil))))))
noncomputable def F_places_come_to : FN := bodyF 6 B_places_come_to
noncomputable def B_come_to : FS :=
  sRet (dCall F_places_come_to (aCons (dVar 0) (aNil)))
noncomputable def F_come_to : FN := bodyF 1 B_come_to
noncomputable def B__law_thick_ring : FS :=
  sCons (sSet 3 (dBin addG (dLst (aCons (dC (.int 0)) (aNil))) (dCall F__law_mixed (aCons (dVar 0) (aCons (dLst (aCons (dC (.int 1)) (aCons (dC (.int 2)) (aCons (dC (.int 3)) (aCons (dC (.int 4)) (aNil)))))) (aNil)))))) (sCons (sSet 4 (dLst (aNil))) (sCons (sFor (srcEnum (aCons (dVar 2) (aNil))) (tPairG (tConsG (tName 5) (tConsG (tName 6) (tNilG)))) (sExpr (dMeth "list" extendG (dVar 4) (aCons (dBin mulG (dLst (aCons (dTup (aCons (dBin ixG (dVar 3) (dVar 5)) (aCons (dBin ixG (dBin addG (dSl (dVar 3) (oSome (dC (.int 1))) (oNone)) (dLst (aCons (dC (.int 0)) (aNil)))) (dVar 5)) (aCons (dCall F__law_nothing (aCons (dVar 1) (aNil))) (aCons (dBin mulG (dTup (aCons (dC (.int 0)) (aNil))) (dCall lenG (aCons (dBin ixG (dVar 1) (dC (.int 1))) (aNil)))) (aNil)))))) (aNil))) (dVar 6)) (aNil))))) (sRet (dTup (aCons (dC (.int 5)) (aCons (dCall tupleG (aCons (dCall F__law_mixed (aCons (dVar 0) (aCons (dVar 4) (aNil)))) (aNil))) (aNil)))))))
noncomputable def F__law_thick_ring : FN := bodyF 7 B__law_thick_ring
noncomputable def B__sources_into : FS :=
  sCons (sSet 1 (dNewD)) (sCons (sFor (srcSeq (dBin ixG (dVar 0) (dC (.int 1)))) (tTupG 4 (tConsG (tName 2) (tConsG (tName 3) (tConsG (tName 4) (tConsG (tName 4) (tNilG)))))) (sExpr (dMeth "list" appendG (dSetd (dVar 1) (dVar 3) (dLst (aNil))) (aCons (dVar 2) (aNil))))) (sRet (dVar 1)))
noncomputable def F__sources_into : FN := bodyF 5 B__sources_into
noncomputable def B__leading_back : FS :=
  sCons (sSet 3 (dDisp [(dVar 1, dC (.bl true))])) (sCons (sSet 4 (dLst (aCons (dVar 1) (aNil)))) (sCons (sWhile (dTru (dVar 4)) (sCons (sSet 5 (dMeth0 "list" popG (dVar 4))) (sFor (srcSeq (dMeth "dict" dgetMG (dVar 0) (aCons (dVar 5) (aCons (dLst (aNil)) (aNil))))) (tName 6) (sIf (dAnd (dTrue (dBin gtG (dVar 6) (dVar 1))) (dAnd (dTrue (dBin (inG true) (dVar 6) (dVar 3))) (dTrue (dBin (inG true) (dVar 6) (dVar 2))))) (sCons (sAsg (dC (.bl true)) (tSubG (dVar 3) (dVar 6))) (sExpr (dMeth "list" appendG (dVar 4) (aCons (dVar 6) (aNil))))) (sNil))))) (sRet (dVar 3))))
noncomputable def F__leading_back : FN := bodyF 7 B__leading_back
noncomputable def B__rings_from : FS :=
  sCons (sSet 3 (dCall F__sources_into (aCons (dVar 0) (aNil)))) (sCons (sPar2 4 5 (aCons (dLst (aNil)) (aCons (dLst (aCons (dTup (aNil)) (aNil))) (aNil)))) (sCons (sWhile (dAnd (dTru (dVar 5)) (dTrue (dBin leG (dCall lenG (aCons (dVar 4) (aNil))) (dVar 2)))) (sCons (sSet 6 (dMeth0 "list" popG (dVar 5))) (sCons (sSet 7 (dIf (dTru (dVar 6)) (dBin ixG (dBin ixG (dBin ixG (dVar 0) (dC (.int 1))) (dBin ixG (dVar 6) (dNeg (dC (.int 1))))) (dC (.int 1))) (dVar 1))) (sCons (sSet 8 (dCall F__leading_back (aCons (dVar 3) (aCons (dVar 1) (aCons (dDc (srcSeq (dVar 6)) (tName 9) (bYes) (dBin ixG (dBin ixG (dBin ixG (dVar 0) (dC (.int 1))) (dVar 9)) (dC (.int 1))) (dC (.bl true)) [9]) (aNil)))))) (sFor (srcEnum (aCons (dBin ixG (dVar 0) (dC (.int 1))) (aNil))) (tPairG (tConsG (tName 9) (tConsG (tTupG 4 (tConsG (tName 10) (tConsG (tName 11) (tConsG (tName 12) (tConsG (tName 12) (tNilG)))))) (tNilG)))) (sIf (dAnd (dTrue (dBin (eqG false) (dVar 10) (dVar 7))) (dTrue (dBin (eqG false) (dVar 11) (dVar 1)))) (sExpr (dMeth "list" appendG (dVar 4) (aCons (dBin addG (dVar 6) (dTup (aCons (dVar 9) (aNil)))) (aNil)))) (sIf (dAnd (dTrue (dBin (eqG false) (dVar 10) (dVar 7))) (dTrue (dBin (inG false) (dVar 11) (dVar 8)))) (sExpr (dMeth "list" appendG (dVar 5) (aCons (dBin addG (dVar 6) (dTup (aCons (dVar 9) (aNil)))) (aNil)))) (sNil)))))))) (sRet (dVar 4))))
noncomputable def F__rings_from : FN := bodyF 13 B__rings_from
noncomputable def B_rings_of : FS :=
  sCons (sSet 1 (dLst (aNil))) (sCons (sFor (srcSeq (dCall (quietF F_come_to) (aCons (dVar 0) (aNil)))) (tName 2) (sCons (sAug 1 addIL (dCall (quietF F__rings_from) (aCons (dVar 0) (aCons (dVar 2) (aCons (dBin subG (dC (.int 2000)) (dCall lenG (aCons (dVar 1) (aNil)))) (aNil)))))) (sIf (dTrue (dBin gtG (dCall lenG (aCons (dVar 1) (aNil))) (dC (.int 2000)))) (sRaise 15 (aCons (dC (.int 2000)) (aNil))) (sNil)))) (sRet (dCall sortedG (aCons (dVar 1) (aNil)))))
noncomputable def F_rings_of : FN := bodyF 3 B_rings_of
noncomputable def B__law_bound_right : FS :=
  sCons (sSet 2 (dCall F__law_mixed (aCons (dVar 0) (aCons (dLst (aCons (dC (.int 5)) (aCons (dC (.int 5)) (aCons (dC (.int 5)) (aCons (dC (.int 4)) (aCons (dC (.int 4)) (aNil))))))) (aNil))))) (sCons (sSet 3 (dCall F__law_thick_ring (aCons (dVar 0) (aCons (dVar 1) (aCons (dVar 2) (aNil)))))) (sCons (sSet 4 (dHeard "_law_bound_right" 2 "told" [(15, hRet 1 "many" 0), (18, fun _ => sRet (dTup (aCons (dC (.str "other")) (aCons (dC .non) (aNil)))))] (dCall F_rings_of (aCons (dVar 3) (aNil))))) (sCons (sIf (dNot (dTrue (dCall F__law_alike (aCons (dVar 4) (aCons (dTup (aCons (dC (.str "told")) (aCons (dCall F__law_rings (aCons (dVar 3) (aCons (dC (.int 10000)) (aNil)))) (aNil)))) (aNil)))))) (sRet (dC (.bl false))) (sNil)) (sCons (sSet 5 (dTup (aCons (dC (.int 6)) (aCons (dCall tupleG (aCons (dLc (srcSeq (dBin ixG (dCall F__law_thick_ring (aCons (dVar 0) (aCons (dVar 1) (aCons (dLst (aCons (dC (.int 5)) (aCons (dC (.int 5)) (aCons (dC (.int 5)) (aCons (dC (.int 5)) (aCons (dC (.int 4)) (aNil))))))) (aNil))))) (dC (.int 1)))) (tName 8) (bYes) (dBin addG (dTup (aCons (dBin addG (dBin ixG (dVar 8) (dC (.int 0))) (dC (.int 1))) (aCons (dBin addG (dBin ixG (dVar 8) (dC (.int 1))) (dC (.int 1))) (aNil)))) (dSl (dVar 8) (oSome (dC (.int 2))) (oNone))) [8]) (aNil))) (aNil))))) (sCons (sIf (dNot (dTrue (dCall F__law_alike (aCons (dLst (aCons (dHeard "_law_bound_right" 2 "told" [(15, hRet 1 "many" 0), (18, fun _ => sRet (dTup (aCons (dC (.str "other")) (aCons (dC .non) (aNil)))))] (dCall F_rings_of (aCons (dVar 5) (aNil)))) (aCons (dCall F_come_to (aCons (dVar 5) (aNil))) (aNil)))) (aCons (dLst (aCons (dTup (aCons (dC (.str "told")) (aCons (dLst (aNil)) (aNil)))) (aCons (dTup (aCons (dC (.int 0)) (aNil))) (aNil)))) (aNil)))))) (sRet (dC (.bl false))) (sNil)) (sCons (sSet 6 (dBin addG (dBin mulG (dTup (aCons (dCall F__law_take (aCons (dVar 0) (aCons (dC (.int 5)) (aNil)))) (aNil))) (dC (.int 2))) (dSl (dBin ixG (dBin ixG (dVar 3) (dC (.int 1))) (dC (.int 0))) (oSome (dC (.int 2))) (oNone)))) (sCons (sFor (srcSeq (dTup (aCons (dTup (aCons (dC (.int 5)) (aCons (dBin addG (dBin ixG (dVar 3) (dC (.int 1))) (dTup (aCons (dVar 6) (aNil)))) (aNil)))) (aCons (dCall F__law_thick_ring (aCons (dVar 0) (aCons (dVar 1) (aCons (dCall F__law_mixed (aCons (dVar 0) (aCons (dLst (aCons (dC (.int 5)) (aCons (dC (.int 5)) (aCons (dC (.int 5)) (aCons (dC (.int 5)) (aCons (dC (.int 4)) (aNil))))))) (aNil)))) (aNil))))) (aNil))))) (tName 7) (sIf (dNot (dTrue (dCall F__law_alike (aCons (dHeard "_law_bound_right" 2 "told" [(15, hRet 1 "many" 0), (18, fun _ => sRet (dTup (aCons (dC (.str "other")) (aCons (dC .non) (aNil)))))] (dCall F_rings_of (aCons (dVar 7) (aNil)))) (aCons (dTup (aCons (dC (.str "many")) (aCons (dC (.int 2000)) (aNil)))) (aNil)))))) (sRet (dC (.bl false))) (sNil))) (sRet (dC (.bl true))))))))))
noncomputable def F__law_bound_right : FN := bodyF 9 B__law_bound_right
noncomputable def B_law_v13 : FS :=
  sCons (sSet 1 (dCall F__law_bag (aCons (dVar 0) (aNil)))) (sCons (sFor (srcR1 (aCons (dC (.int 3)) (aNil))) (tName 2) (sCons (sAsg (dCall F__law_world (aCons (dVar 1) (aCons (dC (.int 2)) (aCons (dC (.int 3)) (aCons (dC (.int 5)) (aNil)))))) (tTupG 2 (tConsG (tName 3) (tConsG (tName 4) (tNilG))))) (sCons (sPar2 5 6 (aCons (dCall F__law_rings (aCons (dVar 4) (aCons (dC (.int 3000)) (aNil)))) (aCons (dCall reprG (aCons (dVar 4) (aNil))) (aNil)))) (sIf (dAnd (dTrue (dNotN (dVar 5))) (dTrue (dBin leG (dCall lenG (aCons (dVar 5) (aNil))) (dC (.int 2000))))) (sFor (srcR1 (aCons (dC (.int 2)) (aNil))) (tName 7) (sCons (sSet 8 (dCall (quietF F_rings_of) (aCons (dVar 4) (aNil)))) (sCons (sIf (dOr (dNot (dTrue (dCall F__law_alike (aCons (dLst (aCons (dCall F_come_to (aCons (dVar 4) (aNil))) (aCons (dVar 8) (aNil)))) (aCons (dLst (aCons (dCall tupleG (aCons (dCall F__law_come_to (aCons (dVar 4) (aNil))) (aNil))) (aCons (dVar 5) (aNil)))) (aNil)))))) (dTrue (dBin (eqG true) (dCall reprG (aCons (dVar 4) (aNil))) (dVar 6)))) (sRet (dC (.bl false))) (sNil)) (sCons (sExpr (dMeth "list" appendG (dVar 8) (aCons (dC .non) (aNil)))) (sExpr (dMeth0 "list" reverseG (dVar 8))))))) (sNil))))) (sRet (dOrV (dBin gtG (dCall F__law_take (aCons (dVar 1) (aCons (dC (.int 4)) (aNil)))) (dC (.int 0))) (dCall F__law_bound_right (aCons (dVar 1) (aCons (dVar 3) (aNil)))))))
noncomputable def F_law_v13 : FN := bodyF 9 B_law_v13
end Lw
set_option Elab.async false
set_option linter.all false
set_option maxRecDepth 100000
set_option maxHeartbeats 4000000
namespace Lw
open PySem PySem.Spec PyProof.Rows L2 Mn
theorem take_ok {S : Bxs} {b c : Nat} {m : Int} (B : Bag S b c) (h0 : 0 < m) (h1 : m < 2 ^ 60) : (F__law_take [.box b, .int m] S).Wp (fun d S' => ∃ i, d = .int i ∧ 0 ≤ i ∧ i < m ∧ Bag S' b c ∧ Fr b S S') noX := by
  obtain ⟨h, x, i, ns, B⟩ := B
  refine w_body ?_
  unfold B__law_take startD
  simp only [List.map_cons, List.map_nil, List.length_cons, List.length_nil, List.cons_append, List.nil_append, Nat.reduceAdd, Nat.reduceSub, List.replicate]
  refine w_cons (Rs.Wp.mono (P := fun r S1 => r.1 = .nx ∧ (∃ d2 d3, r.2 = [some (.box b), some (.int m), d2, d3, none, none, none]) ∧ Bag S1 b c ∧ Fr b S S1) ?a ?b fun _ _ _ q => q)
  case a =>
    have hb := B.at_
    and_intros
    refine ⟨fun _ => ?_, fun _ => ?_⟩
    · and_intros
      refine w_slB (seq_lst B.cells) ?_
      have hcl : (Mn.cutD (ns.map Dt.int) (some i) none).length ≤ 63 := Nat.le_trans (cutD_length _ _ _) (by rw [List.length_map]; exact B.len)
      have hcm : ∀ d ∈ Mn.cutD (ns.map Dt.int) (some i) none, ∃ k : Int, d = .int k ∧ 0 ≤ k := fun d hd => by
        unfold Mn.cutD at hd
        obtain ⟨k, hk, rfl⟩ := List.mem_map.mp (List.mem_of_mem_drop (List.mem_of_mem_take hd))
        exact ⟨k, rfl, B.pos k hk⟩
      generalize Mn.cutD (ns.map Dt.int) (some i) none = cs at hcl hcm
      refine w_newL (Nat.le_trans hcl (by decide)) ?_
      and_intros
      try refine w_newL (ds := [.int 0]) (by decide) ?_
      refine w_addL (xs := cs) (ys := [.int 0]) (lst_of (by simp)) (lst_of get_last) ?_
      refine w_newL (by rw [List.length_append]; exact Nat.le_trans (Nat.add_le_add_right hcl 1) (by decide)) ?_
      and_intros
      refine w_idx (seq_lst get_last) (Int.le_refl _) (by simp) fun d hd => ?_
      obtain ⟨k, rfl, hk⟩ : ∃ k : Int, d = .int k ∧ 0 ≤ k := by
        rcases List.mem_append.mp (List.mem_of_getElem? hd) with z | z
        · exact hcm d z
        · exact ⟨0, by simpa using z, Int.le_refl _⟩
      have p : S <+: ((S ++ [MBox.lst cs]) ++ [MBox.lst [Dt.int 0]]) ++ [MBox.lst (cs ++ [Dt.int 0])] := by rw [List.append_assoc, List.append_assoc]; exact List.prefix_append _ _
      have fin : ∀ {S3 : Bxs} {h3 : Int}, BagAt S3 b c h3 x (i + 1) ns → Fr b S S3 → (sCons (sSet 3 (dBin addG (dBin addG (dBin mulG (dBin ixG (dVar 0) (dC (.int 1))) (dC (.int 48271))) (dBin modG (dCall intG (aCons (dVar 2) (aNil))) (dC (.int 2147483647)))) (dBin mulG (dC (.int 7919)) (dBin ixG (dVar 0) (dC (.int 2)))))) (sAsg (dBin modG (dCall intG (aCons (dVar 3) (aNil))) (dC (.int 2147483647))) (tSubG (dVar 0) (dC (.int 1)))) [some (.box b), some (.int m), some (.int k), none, none, none, none] S3).Wp (fun r S1 => r.1 = .nx ∧ (∃ d2 d3, r.2 = [some (.box b), some (.int m), d2, d3, none, none, none]) ∧ Bag S1 b c ∧ Fr b S S1) noX := fun {S3 h3} B3 F3 => by
        have hb3 := B3.at_
        and_intros
        refine w_setG (j := 1) (lst_of B3.at_) (by rfl) ?_
        exact ⟨rfl, ⟨_, _, rfl⟩, ⟨h3, _, i + 1, ns, B3.set B3.h0 (Int.emod_nonneg _ (by decide)) (Int.emod_lt_of_pos _ (by decide)) B3.i0⟩, F3.trans Fr.set⟩
      have B1 := B.pre p
      have F1 := Fr.pre (b := b) p
      generalize ((S ++ [MBox.lst cs]) ++ [MBox.lst [Dt.int 0]]) ++ [MBox.lst (cs ++ [Dt.int 0])] = S1 at B1 F1
      and_intros
      refine w_getG (lst_of B1.at_) (by decide) rfl ?_
      and_intros
      refine w_setG (j := 2) (lst_of B1.at_) (by rfl) ?_
      have B2 := B1.set B1.h0 B1.x0 B1.x1 (show 0 ≤ i + 1 by have := B1.i0; omega)
      have F2 := F1.trans (Fr.set (x := .lst [.int h, .int x, .int (i + 1), .box c]))
      and_intros
      refine ⟨fun hk2 => ?_, fun _ => ?_⟩
      · and_intros
        refine w_setG (j := 0) (lst_of B2.at_) (by rfl) ?_
        have B3 := B2.set hk B2.x0 B2.x1 B2.i0
        have F3 := F2.trans (Fr.set (x := .lst [.int k, .int x, .int (i + 1), .box c]))
        exact ⟨fun _ => fin B3 F3, fun z => absurd rfl z⟩
      · refine w_sNil ?_
        exact ⟨fun _ => fin B2 F2, fun z => absurd rfl z⟩
    · and_intros
      exact ⟨rfl, ⟨_, _, rfl⟩, ⟨h, x, i, ns, B⟩, Fr.refl _ _⟩
  case b =>
    rintro ⟨fl, σ1⟩ S1 ⟨e, ⟨d2, d3, e2⟩, ⟨h, x, i, ns, B⟩, F⟩
    cases e
    cases e2
    have hb := B.at_
    and_intros
    refine ⟨fun hp => ?_, fun hp => ?_⟩
    · and_intros
      refine w_setG (j := 0) (lst_of B.at_) (by rfl) ?_
      and_intros
      exact .inl ⟨_, rfl, _, rfl, Int.emod_nonneg _ (by omega), Int.emod_lt_of_pos _ h0, ⟨_, x, i, ns, B.set (Int.ediv_nonneg B.h0 (by omega)) B.x0 B.x1 B.i0⟩, F.trans Fr.set⟩
    · and_intros
      refine w_mul (.small (by have := Int.emod_nonneg ((x + 1) * 39373) (show (1000000007 : Int) ≠ 0 by decide); omega) (by have := Int.emod_lt_of_pos ((x + 1) * 39373) (show (0 : Int) < 1000000007 by decide); omega)) ?_
      and_intros
      exact .inl ⟨_, rfl, _, rfl, Int.emod_nonneg _ (by omega), Int.emod_lt_of_pos _ h0, ⟨h, x, i, ns, B⟩, F⟩
theorem one_ok {S : Bxs} {b c t : Nat} {xs : List Dt} (B : Bag S b c) (e : S.seq t = some xs) (ht : t ≠ b) (hne : xs ≠ []) (hl : xs.length ≤ 100000) : (F__law_one [.box b, .box t] S).Wp (fun d S' => d ∈ xs ∧ Bag S' b c ∧ Fr b S S') noX := by
  refine w_body ?_
  unfold B__law_one
  simp only [startD, List.map_cons, List.map_nil, List.length_cons, List.length_nil, List.cons_append, List.nil_append, Nat.reduceAdd, Nat.reduceSub, List.replicate, List.replicate_succ, List.replicate_zero]
  and_intros
  refine w_lenB e ?_
  and_intros
  have h0 : 0 < xs.length := List.length_pos_iff.mpr hne
  refine (take_ok B (by omega) (by omega)).mono (fun d S1 ⟨i, e1, i0, i1, B1, F1⟩ => ?_) fun _ _ _ q => q
  subst e1
  refine w_idx (F1.seq e ht) i0 i1 fun d hd => ?_
  exact .inl ⟨_, rfl, List.mem_of_getElem? hd, B1, F1⟩
theorem mixed_ok {S : Bxs} {b c t : Nat} {xs : List Dt} (B : Bag S b c) (e : S.seq t = some xs) (ht : t ≠ b) (hl : xs.length ≤ 1000) :
    (F__law_mixed [.box b, .box t] S).Wp (fun d S' => ∃ r ys, d = .box r ∧ S.length ≤ r ∧ S'[r]? = some (.lst ys) ∧ ys.Perm xs ∧ Bag S' b c ∧ Fr b S S') noX := by
  refine w_body ?_
  unfold B__law_mixed
  simp only [startD, List.map_cons, List.map_nil, List.length_cons, List.length_nil, List.cons_append, List.nil_append, Nat.reduceAdd, Nat.reduceSub, List.replicate, List.replicate_succ, List.replicate_zero]
  and_intros
  have F0 : Fr b S (S ++ [.lst []]) := (Fr.refl b S).app
  refine ⟨xs, F0.seq e ht, ?_⟩
  have hb : S.length ≠ b := Nat.ne_of_gt B.lt.1
  have hc : S.length ≠ c := Nat.ne_of_gt B.lt.2
  refine w_loop (fun i σ S' => ∃ d3 ys, σ = [some (.box b), some (.box t), some (.box S.length), d3] ∧ S'[S.length]? = some (.lst ys) ∧ ys.Perm (xs.take i) ∧ Bag S' b c ∧ Fr b S S') (fun i σ S' ⟨_, _, _, _, _, _, F⟩ => F.seq e ht) (fun i x σ S' hx ⟨d3, ys, e1, e2, pm, B1, F1⟩ => ?_) (fun σ S' ⟨d3, ys, e1, e2, pm, B1, F1⟩ => ?_) ⟨none, [], rfl, get_last, by simp, B.app, F0⟩
  · subst e1
    have hyl : ys.length ≤ 1000 := by rw [pm.length_eq, List.length_take]; omega
    and_intros
    refine ⟨ty_list e2, ?_⟩
    and_intros
    refine w_lenB (seq_lst e2) ?_
    and_intros
    refine (take_ok B1 (by omega) (by omega)).mono (fun d S2 ⟨j, ed, j0, j1, B2, F2⟩ => ?_) fun _ _ _ q => q
    subst ed
    and_intros
    refine w_insert (lst_of (F2.at_ e2 hb)) ⟨Nat.lt_of_le_of_lt hyl (by decide), j0, by omega⟩ ?_
    refine .inl ⟨rfl, _, _, rfl, List.getElem?_set_self (get_lt (F2.at_ e2 hb)), ?_, B2.own hb hc, (F1.trans F2).own (Nat.le_refl _)⟩
    refine (ins_perm _ _ _).trans ?_
    rw [List.take_add_one, hx]
    exact pm.append_right _
  · subst e1
    and_intros
    rw [List.take_length] at pm
    exact .inl ⟨_, rfl, _, ys, rfl, Nat.le_refl _, e2, pm, B1, F1⟩
end Lw
set_option Elab.async false
set_option linter.all false
set_option maxRecDepth 100000
set_option maxHeartbeats 4000000
namespace Lw
open PySem PySem.Spec PyProof.Rows L2 Mn
def menuD : List Dt := [.str "a", .str "b", .str "c", .str "d", .str "ab", .str "to", .str "by", .str "with", .str "kinds", .str "hands", .str "recipe", .str "run", .str "places", .str "arrow", .str "gym", .str "jvl", .str "zzzzzz", .str "x", .str "fq"]
def menuS : List Str := ["a", "b", "c", "d", "ab", "to", "by", "with", "kinds", "hands", "recipe", "run", "places", "arrow", "gym", "jvl", "zzzzzz", "x", "fq"]
theorem menu_nodup : menuD.Nodup := by
  show (menuS.map Dt.str).Pairwise (· ≠ ·)
  refine List.Pairwise.map Dt.str (R := fun a b => a ≠ b) (fun a b h e => h (Dt.str.inj e)) ?_
  show menuS.Nodup
  decide +kernel
theorem names_ok {S : Bxs} {b c : Nat} (B : Bag S b c) : (F__law_names [.box b, .int 8] S).Wp (fun d S' => ∃ r ys, d = .box r ∧ S.length ≤ r ∧ S'[r]? = some (.lst ys) ∧ ys.length = 8 ∧ ys.Nodup ∧ (∀ y ∈ ys, y ∈ menuD) ∧ Bag S' b c ∧ Fr b S S') noX := by
  refine w_body ?_
  unfold B__law_names
  simp only [startD, List.map_cons, List.map_nil, List.length_cons, List.length_nil, List.cons_append, List.nil_append, Nat.reduceAdd, Nat.reduceSub, List.replicate, List.replicate_succ, List.replicate_zero]
  and_intros
  refine w_addL (xs := menuD.take 13) (ys := menuD.drop 13) (lst_of (by simp; rfl)) (lst_of (by simp; rfl)) ?_
  refine w_newL (by decide) ?_
  and_intros
  have p : S <+: ((S ++ [MBox.lst (menuD.take 13)]) ++ [MBox.lst (menuD.drop 13)]) ++ [MBox.lst (menuD.take 13 ++ menuD.drop 13)] := by rw [List.append_assoc, List.append_assoc]; exact List.prefix_append _ _
  refine (mixed_ok (S := ((S ++ [MBox.lst (menuD.take 13)]) ++ [MBox.lst (menuD.drop 13)]) ++ [MBox.lst (menuD.take 13 ++ menuD.drop 13)]) (B.pre p) (seq_lst get_last) (by have := B.lt.1; simp; omega) (by decide)).mono (fun d S1 ⟨r, ys, ed, hr, e1, pm, B1, F1⟩ => ?_) fun _ _ _ q => q
  subst ed
  and_intros
  have hy : ys.length = 19 := pm.length_eq
  have hc : Mn.cutD ys none (some 8) = ys.take 8 := by
    unfold Mn.cutD
    rw [HT.sIx_none, List.drop_zero, Nat.sub_zero]
    show ys.take (HT.sIx ys.length ys.length (some ((8 : Nat) : Int))) = _
    rw [HT.sIx_nat, hy]
    rfl
  refine w_slB (seq_lst e1) ?_
  rw [hc]
  have h8 : (ys.take 8).length = 8 := by rw [List.length_take, hy]; rfl
  refine w_newL (by rw [h8]; decide) ?_
  have F2 := (Fr.pre (b := b) p).trans F1
  refine .inl ⟨_, rfl, _, _, rfl, F2.len, get_last, h8, ?_, fun y hy => ?_, B1.app, F2.app⟩
  · exact (pm.nodup_iff.mpr menu_nodup).sublist (List.take_sublist _ _)
  · exact pm.mem_iff.mp (List.mem_of_mem_take hy)
def AllB (is : List Int) : Prop := ∀ i ∈ is, 0 ≤ i ∧ i ≤ 5
theorem AllB.set {is : List Int} {j : Nat} {v : Int} (h : AllB is) (hv : 0 ≤ v ∧ v ≤ 5) : AllB (is.set j v) := fun i hi => by
  rcases List.mem_or_eq_of_mem_set hi with z | z
  · exact h i z
  · rw [z]; exact hv
theorem AllB.zeros (n : Nat) : AllB (List.replicate n 0) := fun i hi => by
  rw [List.eq_of_mem_replicate hi]; omega
/-- nothing behind l; nothing up to l -/
def ZT (l : Nat) (is : List Int) : Prop := ∀ (j : Nat) v, l < j → is[j]? = some v → v = 0
def ZU (l : Nat) (is : List Int) : Prop := ∀ (j : Nat) v, j ≤ l → is[j]? = some v → v = 0
theorem ZT.set {l i : Nat} {is : List Int} {v : Int} (h : ZT l is) (hi : i ≤ l) : ZT l (is.set i v) := fun j w hj e => by
  rw [List.getElem?_set_ne (by omega)] at e; exact h j w hj e
theorem ZU.set {l i : Nat} {is : List Int} {v : Int} (h : ZU l is) (hi : l < i) : ZU l (is.set i v) := fun j w hj e => by
  rw [List.getElem?_set_ne (by omega)] at e; exact h j w hj e
theorem zero_at {n j : Nat} {v : Int} (e : (List.replicate n (0 : Int))[j]? = some v) : v = 0 := List.eq_of_mem_replicate (List.mem_of_getElem? e)
structure Recipe (size : Nat) (hs : List Dt) (d : Dt) (ts us : List Int) (h : Dt) : Prop where
  eq : d = .tup [.tup (ts.map Dt.int), .tup (us.map Dt.int), h]
  tl : ts.length = size
  ul : us.length = size
  tb : AllB ts
  ub : AllB us
  tp : ∃ i ∈ ts, 0 < i
  hh : h = .non ∨ h ∈ hs
  sb : ∃ l : Nat, (∃ v, ts[l]? = some v ∧ 0 < v) ∧ ZT l ts ∧ ZU l us
/-- a recipe's own lists, filled -/
def RI (S : Bxs) (l b c m t p : Nat) (size : Nat) (S' : Bxs) : Prop := ∃ ms ts us, IL S' m ms ∧ IL S' t ts ∧ IL S' p us ∧ ms.length = 4 ∧ AllB ms ∧ ts.length = size ∧ us.length = size ∧ AllB ts ∧ AllB us ∧ ZT l ts ∧ ZU l us ∧ Bag S' b c ∧ Fr b S S'
theorem recipe_ok {S : Bxs} {b c : Nat} {size most : Int} {hs : List Dt} (B : Bag S b c) (s0 : 0 < size) (s1 : size ≤ 10) (m0 : 0 < most) (m1 : most ≤ 4) (hl : hs.length ≤ 10) :
    (F__law_recipe [.box b, .int size, .tup hs, .int most] S).Wp (fun d S' => (∃ ts us h, Recipe size.toNat hs d ts us h) ∧ Bag S' b c ∧ Fr b S S') noX := by
  refine w_body ?_
  unfold B__law_recipe
  simp only [startD, List.map_cons, List.map_nil, List.length_cons, List.length_nil, List.cons_append, List.nil_append, Nat.reduceAdd, Nat.reduceSub, List.replicate, List.replicate_succ, List.replicate_zero]
  and_intros
  refine (take_ok B s0 (by omega)).mono (fun d S1 ⟨last, ed, l0, l1, B1, F1⟩ => ?_) fun _ _ _ q => q
  subst ed
  and_intros
  refine (take_ok B1 m0 (by omega)).mono (fun d S2 ⟨k, ed, k0, k1, B2, F2⟩ => ?_) fun _ _ _ q => q
  subst ed
  and_intros
  refine w_mulL (lst_of get_last) ⟨by omega, by omega, by decide⟩ ?_
  rw [zeros]
  have hrl : ((List.replicate size.toNat (0 : Int)).map Dt.int).length ≤ LIM := by rw [List.length_map, List.length_replicate]; exact Nat.le_trans (show size.toNat ≤ 10 by omega) (by decide)
  refine w_newL hrl ?_
  and_intros
  refine w_mulL (lst_of get_last) ⟨by omega, by omega, by decide⟩ ?_
  rw [zeros]
  refine w_newL hrl ?_
  and_intros
  have F02 := F1.trans F2
  have q1 := B.lt
  have q2 := F02.len
  have z1 : (List.map Dt.int (List.replicate size.toNat 0)).length = size.toNat := by rw [List.length_map, List.length_replicate]
  have hJ : RI S last.toNat b c S2.length (List.length (S2 ++ [MBox.lst [Dt.int 0, Dt.int 1, Dt.int 0, Dt.int (1 + k)]] ++ [MBox.lst [Dt.int 0]]))
      (List.length (S2 ++ [MBox.lst [Dt.int 0, Dt.int 1, Dt.int 0, Dt.int (1 + k)]] ++ [MBox.lst [Dt.int 0]] ++ [MBox.lst (List.map Dt.int (List.replicate size.toNat 0))] ++ [MBox.lst [Dt.int 0]])) size.toNat
      (S2 ++ [MBox.lst [Dt.int 0, Dt.int 1, Dt.int 0, Dt.int (1 + k)]] ++ [MBox.lst [Dt.int 0]] ++ [MBox.lst (List.map Dt.int (List.replicate size.toNat 0))] ++ [MBox.lst [Dt.int 0]] ++ [MBox.lst (List.map Dt.int (List.replicate size.toNat 0))]) := by
    refine ⟨[0, 1, 0, 1 + k], List.replicate size.toNat 0, List.replicate size.toNat 0, ?_, ?_, get_last, rfl, ?_, List.length_replicate, List.length_replicate, AllB.zeros _, AllB.zeros _, (fun _ _ _ e => zero_at e), (fun _ _ _ e => zero_at e), B2.app.app.app.app.app, F02.app.app.app.app.app⟩
    · exact IL.pre (IL.pre (IL.pre (IL.pre (show IL _ _ [0, 1, 0, 1 + k] from get_last) (List.prefix_append _ _)) (List.prefix_append _ _)) (List.prefix_append _ _)) (List.prefix_append _ _)
    · exact IL.pre (IL.pre (show IL _ _ (List.replicate size.toNat 0) from get_last) (List.prefix_append _ _)) (List.prefix_append _ _)
    · intro i hi
      simp at hi
      omega
  have dd : S2.length < List.length (S2 ++ [MBox.lst [Dt.int 0, Dt.int 1, Dt.int 0, Dt.int (1 + k)]] ++ [MBox.lst [Dt.int 0]]) ∧ List.length (S2 ++ [MBox.lst [Dt.int 0, Dt.int 1, Dt.int 0, Dt.int (1 + k)]] ++ [MBox.lst [Dt.int 0]]) <
      List.length (S2 ++ [MBox.lst [Dt.int 0, Dt.int 1, Dt.int 0, Dt.int (1 + k)]] ++ [MBox.lst [Dt.int 0]] ++ [MBox.lst (List.map Dt.int (List.replicate size.toNat 0))] ++ [MBox.lst [Dt.int 0]]) := by
    simp only [List.length_append, List.length_cons, List.length_nil]; omega
  generalize (S2 ++ [MBox.lst [Dt.int 0, Dt.int 1, Dt.int 0, Dt.int (1 + k)]] ++ [MBox.lst [Dt.int 0]] ++ [MBox.lst (List.map Dt.int (List.replicate size.toNat 0))] ++ [MBox.lst [Dt.int 0]] ++ [MBox.lst (List.map Dt.int (List.replicate size.toNat 0))]) = S3 at hJ ⊢
  generalize (List.length (S2 ++ [MBox.lst [Dt.int 0, Dt.int 1, Dt.int 0, Dt.int (1 + k)]] ++ [MBox.lst [Dt.int 0]] ++ [MBox.lst (List.map Dt.int (List.replicate size.toNat 0))] ++ [MBox.lst [Dt.int 0]])) = p at hJ dd ⊢
  generalize (List.length (S2 ++ [MBox.lst [Dt.int 0, Dt.int 1, Dt.int 0, Dt.int (1 + k)]] ++ [MBox.lst [Dt.int 0]])) = t at hJ dd ⊢
  generalize S2.length = m at hJ dd q2 ⊢
  refine ⟨⟨by omega, by omega⟩, ?_⟩
  have drawn : ∀ {S4 : Bxs} {ms : List Int} {P : Dt → Bxs → Prop}, IL S4 m ms → ms.length = 4 → AllB ms → Bag S4 b c → (∀ v S5, 0 ≤ v ∧ v ≤ 5 → Bag S5 b c → Fr b S4 S5 → P (.int v) S5) → (F__law_one [.box b, .box m] S4).Wp P noX := fun {S4 ms P} i1 i2 i3 i4 h => by
    refine (one_ok i4 i1.seq (by omega) (fun z => by rw [List.map_eq_nil_iff] at z; rw [z] at i2; cases i2) (by rw [List.length_map, i2]; decide)).mono (fun d S5 ⟨hd, B5, F5⟩ => ?_) fun _ _ _ q => q
    obtain ⟨v, hv, rfl⟩ := List.mem_map.mp hd
    exact h v S5 (i3 v hv) B5 F5
  refine w_loop (fun i σ S' => ∃ d8, σ = [some (.box b), some (.int size), some (.tup hs), some (.int most), some (.int last), some (.box m), some (.box t), some (.box p), d8] ∧ RI S last.toNat b c m t p size.toNat S') (fun _ _ _ _ => trivial) (fun i x σ S4 hx ⟨d8, e1, J⟩ => ?_) (fun σ S4 ⟨d8, e1, J⟩ => ?_) ⟨_, rfl, hJ⟩
  · subst e1
    have hx2 := rgD_get hx
    subst hx2
    have hil : i < size.toNat := by
      have := (List.getElem?_eq_some_iff.mp hx).1
      unfold rgD at this
      simpa using this
    obtain ⟨ms, ts, us, i1, i2, i3, i4, i5, i6, i7, i8, i9, z1, z2, B4, F4⟩ := J
    and_intros
    refine ⟨fun hlt => ?_, fun _ => ?_⟩
    · have hlt : 0 + (i : Int) < last := of_decide_eq_true hlt
      and_intros
      refine drawn i1 i4 i5 B4 fun v S5 hv B5 F5 => ?_
      and_intros
      have j2 := i2.fr F5 (by omega)
      refine w_setG (j := i) (lst_of j2) (by rw [ixN_mk (by omega) (by rw [List.length_map, i6]; omega)]; congr; omega) ?_
      refine .inl ⟨rfl, _, rfl, ms, ts.set i v, us, (i1.fr F5 (by omega)).skip (by omega), j2.set (by rw [List.map_set]), (i3.fr F5 (by omega)).skip (by omega), i4, i5, by rw [List.length_set]; exact i6, i7, i8.set hv, i9, z1.set (by omega), z2, B5.own (by omega) (by omega), (F4.trans F5).own (by omega)⟩
    · and_intros
      have skip : ∀ {S5 : Bxs}, Bag S5 b c → Fr b S4 S5 → ∃ d8, [some (Dt.box b), some (.int size), some (.tup hs), some (.int most), some (.int last), some (.box m), some (.box t), some (.box p), some (.int (0 + (i : Int)))] = [some (Dt.box b), some (.int size), some (.tup hs), some (.int most), some (.int last), some (.box m), some (.box t), some (.box p), d8] ∧ RI S last.toNat b c m t p size.toNat S5 :=
        fun {S5} B5 F5 => ⟨_, rfl, ms, ts, us, i1.fr F5 (by omega), i2.fr F5 (by omega), i3.fr F5 (by omega), i4, i5, i6, i7, i8, i9, z1, z2, B5, F4.trans F5⟩
      refine ⟨fun hgt => ?_, fun _ => ?_⟩
      · have hgt : last < 0 + (i : Int) := of_decide_eq_true hgt
        and_intros
        refine (take_ok B4 (by decide) (by decide)).mono (fun d S5 ⟨j, ed, j0, j1, B5, F5⟩ => ?_) fun _ _ _ q => q
        subst ed
        and_intros
        refine ⟨fun _ => ?_, fun _ => ?_⟩
        · and_intros
          refine drawn (i1.fr F5 (by omega)) i4 i5 B5 fun v S6 hv B6 F6 => ?_
          and_intros
          have F46 := F5.trans F6
          have j3 := i3.fr F46 (by omega)
          refine w_setG (j := i) (lst_of j3) (by rw [ixN_mk (by omega) (by rw [List.length_map, i7]; omega)]; congr; omega) ?_
          refine .inl ⟨rfl, _, rfl, ms, ts, us.set i v, (i1.fr F46 (by omega)).skip (by omega), (i2.fr F46 (by omega)).skip (by omega), j3.set (by rw [List.map_set]), i4, i5, i6, by rw [List.length_set]; exact i7, i8, i9.set hv, z1, z2.set (by omega), B6.own (by omega) (by omega), (F4.trans F46).own (by omega)⟩
        · and_intros
          exact .inl ⟨rfl, skip B5 F5⟩
      · refine ⟨fun z => absurd z Bool.false_ne_true, fun _ => ?_⟩
        and_intros
        exact .inl ⟨rfl, skip B4 (Fr.refl _ _)⟩
  · subst e1
    obtain ⟨ms, ts, us, i1, i2, i3, i4, i5, i6, i7, i8, i9, z1, z2, B4, F4⟩ := J
    and_intros
    refine (take_ok B4 m0 (by omega)).mono (fun d S5 ⟨j, ed, j0, j1, B5, F5⟩ => ?_) fun _ _ _ q => q
    subst ed
    and_intros
    have q5 := (F4.trans F5).len
    refine (one_ok (xs := [Dt.int 1, Dt.int 1, Dt.int 1, Dt.int 2, Dt.int (1 + j)]) B5.app (seq_lst get_last) (by have := B5.lt.1; omega) (fun z => nomatch z) (Nat.le_of_ble_eq_true (by rfl))).mono (fun d S6 ⟨hd, B6, F6⟩ => ?_) fun _ _ _ q => q
    obtain ⟨v, rfl, hv0, hv1⟩ : ∃ v : Int, d = .int v ∧ 0 < v ∧ v ≤ 5 := by
      simp at hd
      rcases hd with z | z | z <;> exact ⟨_, z, by omega, by omega⟩
    and_intros
    have F46 := (F5.app (x := .lst [Dt.int 1, Dt.int 1, Dt.int 1, Dt.int 2, Dt.int (1 + j)])).trans F6
    have j2 := i2.fr F46 (by omega)
    refine w_setG (j := last.toNat) (lst_of j2) (ixN_mk l0 (by rw [List.length_map, i6]; omega)) ?_
    rw [← List.map_set]
    have k2 : IL (S6.set t (.lst ((ts.set last.toNat v).map Dt.int))) t (ts.set last.toNat v) := j2.set rfl
    have k3 : IL (S6.set t (.lst ((ts.set last.toNat v).map Dt.int))) p us := (i3.fr F46 (by omega)).skip (by omega)
    have B7 : Bag (S6.set t (.lst ((ts.set last.toNat v).map Dt.int))) b c := B6.own (by omega) (by omega)
    have F7 : Fr b S (S6.set t (.lst ((ts.set last.toNat v).map Dt.int))) := (F4.trans F46).own (by omega)
    generalize S6.set t (.lst ((ts.set last.toNat v).map Dt.int)) = S7 at k2 k3 B7 F7
    and_intros
    refine w_tupB k2.seq ?_
    and_intros
    refine w_tupB k3.seq ?_
    and_intros
    refine w_listT ?_
    refine w_newL (Nat.le_trans hl (by decide)) ?_
    and_intros
    refine w_mulL (lst_of get_last) ⟨by decide, by decide, by omega⟩ ?_
    have hll : (List.replicate (Int.toNat 2) hs).flatten.length ≤ 20 := by
      show (List.replicate 2 hs).flatten.length ≤ 20
      simp [List.replicate]; omega
    refine w_newL (Nat.le_trans hll (by decide)) ?_
    and_intros
    refine w_addL (xs := (List.replicate (Int.toNat 2) hs).flatten) (ys := [.non]) (lst_of (get_pre (List.prefix_append _ _) get_last)) (lst_of get_last) ?_
    have hlm : ((List.replicate (Int.toNat 2) hs).flatten ++ [Dt.non]).length ≤ 21 := by rw [List.length_append]; simpa using hll
    refine w_newL (Nat.le_trans hlm (by decide)) ?_
    and_intros
    refine (one_ok B7.app.app.app.app (seq_lst get_last) (by have := B7.lt.1; simp only [List.length_append, List.length_cons, List.length_nil]; omega) (fun z => by simp at z) (Nat.le_trans hlm (by decide))).mono (fun h S8 ⟨hh, B8, F8⟩ => ?_) fun _ _ _ q => q
    and_intros
    refine ⟨Nat.le_of_ble_eq_true (by rfl), ?_⟩
    refine .inl ⟨_, rfl, ⟨ts.set last.toNat v, us, h, rfl, by rw [List.length_set]; exact i6, i7, i8.set ⟨by omega, hv1⟩, i9, ⟨v, List.mem_set (show last.toNat < ts.length by rw [i6]; omega) v, hv0⟩, ?_, ⟨last.toNat, ⟨v, List.getElem?_set_self (by rw [i6]; omega), hv0⟩, z1.set (Nat.le_refl _), z2⟩⟩, B8, F7.app.app.app.app.trans F8⟩
    rcases List.mem_append.mp hh with z | z
    · right
      obtain ⟨l, hl1, hl2⟩ := List.mem_flatten.mp z
      rw [List.eq_of_mem_replicate hl1] at hl2
      exact hl2
    · left
      simpa using z
end Lw
set_option Elab.async false
set_option linter.all false
set_option maxRecDepth 100000
set_option maxHeartbeats 4000000
namespace Mn
open PySem PySem.Spec PyProof.Rows L2
theorem Pls.of_all {S : Bxs} {n w : Nat} : ∀ {ds : List Dt}, (∀ d ∈ ds, ∃ p, Pl S n d p w) → ∃ ps, Pls S n ds ps (ds.length * (w + 2)) ∧ ps.length = ds.length
  | [], _ => ⟨[], by simpa using Pls.nil, rfl⟩
  | d :: ds, h => by
    obtain ⟨p, hp⟩ := h d List.mem_cons_self
    obtain ⟨ps, hps, hl⟩ := Pls.of_all (ds := ds) fun d hd => h d (List.mem_cons_of_mem _ hd)
    refine ⟨p :: ps, ?_, by simp [hl]⟩
    have := Pls.cons hp hps
    rw [List.length_cons, Nat.add_mul, Nat.one_mul, Nat.add_comm]
    exact this
theorem w_mulT {S : Bxs} {E : Nat → List Dt → Bxs → Prop} {xs : List Dt} {k : Int} {P : Dt → Bxs → Prop} (c : xs ≠ [] ∧ -1000 ≤ k ∧ k ≤ 1000 ∧ xs.length ≤ 100) (h : P (.tup (List.replicate k.toNat xs).flatten) S) : (mulG (.tup xs) (.int k) S).Wp P E := by
  show (if xs ≠ [] ∧ -1000 ≤ k ∧ k ≤ 1000 ∧ xs.length ≤ 100 then Rs.ok (Dt.tup (List.replicate k.toNat xs).flatten) S else .no).Wp P E
  rw [if_pos c]; exact sat_mk h
end Mn
namespace Lw
open PySem PySem.Spec PyProof.Rows L2 Mn
theorem pl_menu {S : Bxs} {n : Nat} {d : Dt} (h : d ∈ menuD) : ∃ p, Pl S (n + 1) d p 8 := by
  simp only [menuD, List.mem_cons, List.not_mem_nil, or_false] at h
  rcases h with h | h | h | h | h | h | h | h | h | h | h | h | h | h | h | h | h | h | h <;> subst h <;> exact ⟨_, .str (by decide +kernel) (by simp only [PyData.shown]; decide +kernel) (by simp only [PyData.shown]; decide +kernel)⟩
theorem pl_small {S : Bxs} {n : Nat} {is : List Int} (h : AllB is) : ∃ ps, Pls S (n + 1) (is.map Dt.int) ps (is.length * 4) := by
  obtain ⟨ps, h1, h2⟩ := Pls.of_all (S := S) (n := n + 1) (w := 2) (ds := is.map Dt.int) fun d hd => by
    obtain ⟨i, hi, rfl⟩ := List.mem_map.mp hd
    have := h i hi
    exact ⟨_, Pl.mkInt 1 (by decide) (by decide) (by omega)⟩
  rw [List.length_map] at h1
  exact ⟨ps, h1⟩
theorem pl_recipe {S : Bxs} {n size : Nat} {hs : List Dt} {d : Dt} {ts us : List Int} {h : Dt} (R : Recipe size hs d ts us h) (hm : ∀ x ∈ hs, x ∈ menuD) : ∃ p, Pl S (n + 3) d p (8 * size + 26) := by
  obtain ⟨p1, q1⟩ := pl_small (S := S) (n := n) R.tb
  obtain ⟨p2, q2⟩ := pl_small (S := S) (n := n) R.ub
  rw [R.tl] at q1
  rw [R.ul] at q2
  have hh : ∃ p, Pl S (n + 2) h p 8 := by
    rcases R.hh with e | e
    · subst e; exact ⟨_, .non (by decide)⟩
    · exact pl_menu (hm _ e)
  obtain ⟨p3, q3⟩ := hh
  rw [R.eq]
  exact ⟨_, .tup (.cons (.tup q1 (Nat.le_refl _)) (.cons (.tup q2 (Nat.le_refl _)) (.cons q3 .nil))) (by omega)⟩
theorem out_ok {S : Bxs} {b c : Nat} {size place : Int} {hs : List Dt} (B : Bag S b c) (s1 : size ≤ 10) (p0 : 0 ≤ place) (p1 : place < size) (hl : hs.length ≤ 10) :
    (F__law_out [.box b, .int size, .int place, .tup hs] S).Wp (fun d S' => (∃ ts us h, Recipe size.toNat hs d ts us h) ∧ Bag S' b c ∧ Fr b S S') noX := by
  refine w_body ?_
  unfold B__law_out
  simp only [startD, List.map_cons, List.map_nil, List.length_cons, List.length_nil, List.cons_append, List.nil_append, Nat.reduceAdd, Nat.reduceSub, List.replicate, List.replicate_succ, List.replicate_zero]
  and_intros
  refine w_mulL (lst_of get_last) ⟨by omega, by omega, by decide⟩ ?_
  rw [zeros]
  have hrl : ((List.replicate size.toNat (0 : Int)).map Dt.int).length ≤ LIM := by rw [List.length_map, List.length_replicate]; exact Nat.le_trans (show size.toNat ≤ 10 by omega) (by decide)
  refine w_newL hrl ?_
  and_intros
  have i2 : IL ((S ++ [MBox.lst [Dt.int 0]]) ++ [MBox.lst (List.map Dt.int (List.replicate size.toNat 0))]) (S ++ [MBox.lst [Dt.int 0]]).length (List.replicate size.toNat 0) := get_last
  refine w_setG (j := place.toNat) (lst_of i2) (ixN_mk p0 (by rw [List.length_map, List.length_replicate]; omega)) ?_
  rw [← List.map_set]
  have hne : S.length < (S ++ [MBox.lst [Dt.int 0]]).length := by simp
  have q := B.lt
  have k2 := i2.set (is := (List.replicate size.toNat 0).set place.toNat 1) rfl
  have B7 := (B.app (x := MBox.lst [Dt.int 0])).app (x := MBox.lst (List.map Dt.int (List.replicate size.toNat 0))) |>.own (n := (S ++ [MBox.lst [Dt.int 0]]).length) (x := MBox.lst (((List.replicate size.toNat 0).set place.toNat 1).map Dt.int)) (by omega) (by omega)
  have F7 := (((Fr.refl b S).app (x := MBox.lst [Dt.int 0])).app (x := MBox.lst (List.map Dt.int (List.replicate size.toNat 0)))).own (n := (S ++ [MBox.lst [Dt.int 0]]).length) (x := MBox.lst (((List.replicate size.toNat 0).set place.toNat 1).map Dt.int)) (by omega)
  generalize List.set ((S ++ [MBox.lst [Dt.int 0]]) ++ [MBox.lst (List.map Dt.int (List.replicate size.toNat 0))]) (S ++ [MBox.lst [Dt.int 0]]).length (MBox.lst (((List.replicate size.toNat 0).set place.toNat 1).map Dt.int)) = S7 at k2 B7 F7 ⊢
  and_intros
  refine w_tupB k2.seq ?_
  and_intros
  refine ⟨Nat.le_of_ble_eq_true (by rfl), ?_⟩
  and_intros
  refine w_mulT ⟨(fun z => by cases z), by omega, by omega, Nat.le_of_ble_eq_true (by rfl)⟩ ?_
  rw [zeros]
  and_intros
  refine w_listT ?_
  refine w_newL (Nat.le_trans hl (by decide)) ?_
  and_intros
  refine w_mulL (lst_of get_last) ⟨by decide, by decide, by omega⟩ ?_
  have hll : (List.replicate (Int.toNat 3) hs).flatten.length ≤ 30 := by
    show (List.replicate 3 hs).flatten.length ≤ 30
    simp [List.replicate]; omega
  refine w_newL (Nat.le_trans hll (by decide)) ?_
  and_intros
  refine w_addL (xs := (List.replicate (Int.toNat 3) hs).flatten) (ys := [.non]) (lst_of (get_pre (List.prefix_append _ _) get_last)) (lst_of get_last) ?_
  have hlm : ((List.replicate (Int.toNat 3) hs).flatten ++ [Dt.non]).length ≤ 31 := by rw [List.length_append]; simpa using hll
  refine w_newL (Nat.le_trans hlm (by decide)) ?_
  and_intros
  refine (one_ok B7.app.app.app.app (seq_lst get_last) (by have := B7.lt.1; simp only [List.length_append, List.length_cons, List.length_nil]; omega) (fun z => by simp at z) (Nat.le_trans hlm (by decide))).mono (fun h S8 ⟨hh, B8, F8⟩ => ?_) fun _ _ _ q => q
  and_intros
  refine ⟨Nat.le_of_ble_eq_true (by rfl), ?_⟩
  refine .inl ⟨_, rfl, ⟨(List.replicate size.toNat 0).set place.toNat 1, List.replicate size.toNat 0, h, rfl, by rw [List.length_set, List.length_replicate], List.length_replicate, (AllB.zeros _).set (by omega), AllB.zeros _, ⟨1, List.mem_set (show place.toNat < (List.replicate size.toNat (0 : Int)).length by rw [List.length_replicate]; omega) 1, by decide⟩, ?_, ⟨place.toNat, ⟨1, List.getElem?_set_self (by rw [List.length_replicate]; omega), by decide⟩, ZT.set (fun _ _ _ e => zero_at e) (Nat.le_refl _), fun _ _ _ e => zero_at e⟩⟩, B8, F7.app.app.app.app.trans F8⟩
  rcases List.mem_append.mp hh with z | z
  · right
    obtain ⟨l, hl1, hl2⟩ := List.mem_flatten.mp z
    rw [List.eq_of_mem_replicate hl1] at hl2
    exact hl2
  · left
    simpa using z
structure Works (d : Dt) (size : Nat) (ks hs rs : List Dt) : Prop where
  eq : d = .tup [.tup ks, .tup hs, .tup rs]
  kl : ks.length = size
  s0 : 1 ≤ size
  s1 : size ≤ 5
  hl : hs.length ≤ 3
  hn : hs.Nodup
  km : ∀ x ∈ ks, x ∈ menuD
  hm : ∀ x ∈ hs, x ∈ menuD
  rl : rs.length ≤ 8
  rr : ∀ r ∈ rs, ∃ ts us h, Recipe size hs r ts us h
  kn : ks.Nodup
  kh : ∀ x ∈ hs, x ∉ ks
/-- the recipes found so far -/
def FI (S : Bxs) (b c nb fb : Nat) (ys hs : List Dt) (size most : Nat) (S' : Bxs) : Prop := ∃ rs, S'[fb]? = some (.lst rs) ∧ rs.length ≤ most ∧ (∀ r ∈ rs, ∃ ts us h, Recipe size hs r ts us h) ∧ S'[nb]? = some (.lst ys) ∧ Bag S' b c ∧ Fr b S S'
theorem FI.fr {S S1 S2 : Bxs} {b c nb fb size most : Nat} {ys hs : List Dt} (h : FI S b c nb fb ys hs size most S1) (F : Fr b S1 S2) (B : Bag S2 b c) (h1 : fb ≠ b) (h2 : nb ≠ b) : FI S b c nb fb ys hs size most S2 := by
  obtain ⟨rs, e1, e2, e3, e4, e5, e6⟩ := h
  exact ⟨rs, F.at_ e1 h1, e2, e3, F.at_ e4 h2, B, e6.trans F⟩
theorem FI.add {S S1 : Bxs} {b c nb fb size most : Nat} {ys hs : List Dt} {r : Dt} {P : Dt → Bxs → Prop} {E : Nat → List Dt → Bxs → Prop} (h : FI S b c nb fb ys hs size most S1) (R : ∃ ts us h, Recipe size hs r ts us h) (h1 : fb ≠ b) (h2 : fb ≠ c) (h3 : fb ≠ nb) (h4 : S.length ≤ fb) (hm : most < 1000)
    (q : ∀ S2, FI S b c nb fb ys hs size (most + 1) S2 → P .non S2) : (appendG (.box fb) [r] S1).Wp P E := by
  obtain ⟨rs, e1, e2, e3, e4, e5, e6⟩ := h
  refine w_append (lst_of e1) (Nat.lt_of_le_of_lt e2 (Nat.lt_of_lt_of_le hm (by decide))) (q _ ⟨rs ++ [r], List.getElem?_set_self (get_lt e1), by simp; exact e2, fun x hx => ?_, by rw [List.getElem?_set_ne h3]; exact e4, e5.own h1 h2, e6.own h4⟩)
  rcases List.mem_append.mp hx with z | z
  · exact e3 x z
  · rw [List.mem_singleton.mp z]; exact R
theorem FI.le {S S1 : Bxs} {b c nb fb size m m' : Nat} {ys hs : List Dt} (h : FI S b c nb fb ys hs size m S1) (hm : m ≤ m') : FI S b c nb fb ys hs size m' S1 := by
  obtain ⟨rs, e1, e2, e3, e4, e5, e6⟩ := h
  exact ⟨rs, e1, Nat.le_trans e2 hm, e3, e4, e5, e6⟩
theorem rgD_len {lo : Int} {n : Nat} : (rgD lo n).length = n := by unfold rgD; rw [List.length_map, List.length_range]
theorem cut_mid {ys : List Dt} {i j : Nat} (h : i ≤ ys.length) (h2 : i + j ≤ ys.length) : Mn.cutD ys (some (i : Int)) (some ((i : Int) + j)) = (ys.drop i).take j := by
  unfold Mn.cutD
  have e : ((i : Int) + j) = ((i + j : Nat) : Int) := by omega
  rw [e, HT.sIx_nat, HT.sIx_nat, Nat.min_eq_left h, Nat.min_eq_left h2, Nat.add_sub_cancel_left]
theorem cut_to {ys : List Dt} {i : Nat} : Mn.cutD ys none (some (i : Int)) = ys.take i := by
  unfold Mn.cutD
  rw [HT.sIx_none, HT.sIx_nat, List.drop_zero, Nat.sub_zero]
  by_cases h : i ≤ ys.length
  · rw [Nat.min_eq_left h]
  · rw [Nat.min_eq_right (by omega), List.take_of_length_le (Nat.le_refl _), List.take_of_length_le (by omega)]
theorem inR_small {j : Int} (h0 : -1000 ≤ j) (h1 : j ≤ 1000) : inR j := ⟨by omega, by omega⟩
theorem works_ok {S : Bxs} {b c : Nat} {kinds hands recipes : Int} (B : Bag S b c) (k0 : 0 < kinds) (k1 : kinds ≤ 5) (h0 : 0 ≤ hands) (h1 : hands ≤ 3) (r0 : 0 ≤ recipes) (r1 : recipes ≤ 8) :
    (F__law_works [.box b, .int kinds, .int hands, .int recipes] S).Wp (fun d S' => (∃ size ks hs rs, Works d size ks hs rs) ∧ Bag S' b c ∧ Fr b S S') noX := by
  refine w_body ?_
  unfold B__law_works
  simp only [startD, List.map_cons, List.map_nil, List.length_cons, List.length_nil, List.cons_append, List.nil_append, Nat.reduceAdd, Nat.reduceSub, List.replicate, List.replicate_succ, List.replicate_zero]
  and_intros
  have qB := B.lt
  refine (names_ok B).mono (fun d S1 ⟨nb, ys, ed, hnb, e1, yl, yn, ym, B1, F1⟩ => ?_) fun _ _ _ q => q
  subst ed
  and_intros
  refine (take_ok B1 k0 (by omega)).mono (fun d S2 ⟨k, ed, kk0, kk1, B2, F2⟩ => ?_) fun _ _ _ q => q
  subst ed
  and_intros
  refine (take_ok B2 (by omega) (by omega)).mono (fun d S3 ⟨m, ed, m0, m1, B3, F3⟩ => ?_) fun _ _ _ q => q
  subst ed
  and_intros
  have hnbb : nb ≠ b := by omega
  have e3 := (F2.trans F3).at_ e1 hnbb
  have F13 := F1.trans (F2.trans F3)
  refine w_slB (seq_lst e3) ?_
  obtain ⟨kn, hkn⟩ : ∃ kn : Nat, 1 + k = (kn : Int) := ⟨(1 + k).toNat, by omega⟩
  obtain ⟨mn, hmn⟩ : ∃ mn : Nat, m = (mn : Int) := ⟨m.toNat, by omega⟩
  subst hmn
  rw [hkn, cut_mid (by rw [yl]; omega) (by rw [yl]; omega)]
  have hl3 : ((ys.drop kn).take mn).length ≤ 3 := by rw [List.length_take]; omega
  have hn3 : ((ys.drop kn).take mn).Nodup := (yn.sublist (List.drop_sublist _ _)).sublist (List.take_sublist _ _)
  have hm3 : ∀ x ∈ (ys.drop kn).take mn, x ∈ menuD := fun x hx => ym x (List.mem_of_mem_drop (List.mem_of_mem_take hx))
  have hd3 : ∀ x ∈ (ys.drop kn).take mn, x ∉ ys.take kn := fun x hx hk => by
    have yn2 := yn
    rw [← List.take_append_drop kn ys] at yn2
    exact (List.nodup_append.mp yn2).2.2 x hk x (List.mem_of_mem_take hx) rfl
  generalize (ys.drop kn).take mn = hs at hl3 hn3 hm3 hd3
  refine w_newL (Nat.le_trans hl3 (by decide)) ?_
  and_intros
  refine w_tupB (seq_lst get_last) ?_
  and_intros
  have q3 := F13.len
  have hfb : S3.length < (S3 ++ [MBox.lst hs]).length := by simp
  have J0 : FI S b c nb (S3 ++ [MBox.lst hs]).length ys hs kn 0 ((S3 ++ [MBox.lst hs]) ++ [MBox.lst []]) :=
    ⟨[], get_last, Nat.le_refl _, (fun r hr => nomatch hr), get_pre (List.prefix_append _ _) (get_pre (List.prefix_append _ _) e3), B3.app.app, F13.app.app⟩
  have hnl := get_lt e3
  generalize (S3 ++ [MBox.lst hs]) ++ [MBox.lst []] = S4 at J0 ⊢
  generalize (S3 ++ [MBox.lst hs]).length = fb at J0 hfb ⊢
  have d1 : fb ≠ b := by omega
  have d2 : fb ≠ c := by omega
  have d3 : fb ≠ nb := by omega
  have d4 : S.length ≤ fb := by omega
  have hkn0 : 1 ≤ kn := by omega
  have hkn5 : kn ≤ 5 := by omega
  and_intros
  have J1 := J0
  obtain ⟨rs0, g1, g2, g3, g4, B4, F4⟩ := J0
  refine (one_ok (xs := [Dt.int 1, Dt.int 2, Dt.int 2, Dt.int 4]) B4.app (seq_lst get_last) (by have := B4.lt.1; omega) (fun z => nomatch z) (by decide)).mono (fun d S5 ⟨hd, B5, F5⟩ => ?_) fun _ _ _ q => q
  obtain ⟨most, rfl, mo0, mo1⟩ : ∃ v : Int, d = .int v ∧ 0 < v ∧ v ≤ 4 := by
    simp at hd
    rcases hd with z | z | z <;> exact ⟨_, z, by omega, by omega⟩
  have J5 := J1.fr (((Fr.refl b S4).app (x := MBox.lst [Dt.int 1, Dt.int 2, Dt.int 2, Dt.int 4])).trans F5) B5 d1 hnbb
  clear J1 g1 g2 g3 g4 B4 F4 rs0
  and_intros
  refine (take_ok B5 (by omega) (by omega)).mono (fun d S6 ⟨tn, ed, t0, t1, B6, F6⟩ => ?_) fun _ _ _ q => q
  subst ed
  and_intros
  refine ⟨⟨by omega, by omega⟩, ?_⟩
  refine w_loop (fun i σ S' => ∃ d10, σ = [some (.box b), some (.int kinds), some (.int hands), some (.int recipes), some (.box nb), some (.int kn), some (.int mn), some (.tup hs), some (.box fb), some (.int most), d10, none] ∧ FI S b c nb fb ys hs kn i S') (fun _ _ _ _ => trivial) (fun i x σ S7 hx ⟨d10, e, J⟩ => ?_) (fun σ S7 ⟨d10, e, J⟩ => ?_) ⟨_, by rfl, J5.fr F6 B6 d1 hnbb⟩
  · subst e
    have hil := (List.getElem?_eq_some_iff.mp hx).1
    rw [rgD_len] at hil
    and_intros
    obtain ⟨rs, g1, g2, g3, g4, B7, F7⟩ := id J
    refine ⟨ty_list g1, ?_⟩
    and_intros
    refine (recipe_ok B7 (by omega) (by omega) mo0 mo1 (by omega)).mono (fun d S8 ⟨R, B8, F8⟩ => ?_) fun _ _ _ q => q
    rw [show (kn : Int).toNat = kn from Int.toNat_natCast kn] at R
    and_intros
    refine (J.fr F8 B8 d1 hnbb).add R d1 d2 d3 d4 (by omega) fun S9 J9 => ?_
    exact .inl ⟨rfl, _, rfl, J9⟩
  · subst e
    rw [rgD_len] at J
    have J8 : FI S b c nb fb ys hs kn 8 S7 := J.le (by omega)
    clear J
    and_intros
    refine ⟨inR_small (by omega) (by omega), ?_⟩
    refine w_loop (fun i σ S' => ∃ d11, σ = [some (.box b), some (.int kinds), some (.int hands), some (.int recipes), some (.box nb), some (.int kn), some (.int mn), some (.tup hs), some (.box fb), some (.int most), d10, d11] ∧ FI S b c nb fb ys hs kn (8 + i) S') (fun _ _ _ _ => trivial) (fun i x σ S8 hx ⟨d11, e, J⟩ => ?_) (fun σ S8 ⟨d11, e, J⟩ => ?_) ⟨_, by rfl, J8⟩
    · subst e
      have hx2 := rgD_get hx
      subst hx2
      have hil := (List.getElem?_eq_some_iff.mp hx).1
      rw [rgD_len] at hil
      obtain ⟨rs, g1, g2, g3, g4, B8, F8⟩ := id J
      and_intros
      refine (take_ok B8 (by decide) (by decide)).mono (fun d S9 ⟨j, ed, j0, j1, B9, F9⟩ => ?_) fun _ _ _ q => q
      subst ed
      and_intros
      have J9 := J.fr F9 B9 d1 hnbb
      refine ⟨fun _ => ?_, fun _ => ?_⟩
      · and_intros
        refine ⟨ty_list (F9.at_ g1 d1), ?_⟩
        and_intros
        refine (out_ok B9 (by omega) (by omega) (by omega) (by omega)).mono (fun d S10 ⟨R, B10, F10⟩ => ?_) fun _ _ _ q => q
        rw [show (kn : Int).toNat = kn from Int.toNat_natCast kn] at R
        and_intros
        refine (J9.fr F10 B10 d1 hnbb).add R d1 d2 d3 d4 (by omega) fun S11 J11 => ?_
        exact .inl ⟨rfl, _, rfl, J11⟩
      · and_intros
        exact .inl ⟨rfl, _, rfl, J9.le (by omega)⟩
    · subst e
      rw [rgD_len] at J
      have J8 : FI S b c nb fb ys hs kn 13 S8 := J.le (by omega)
      clear J
      obtain ⟨rs, g1, g2, g3, g4, B8, F8⟩ := id J8
      have tail : ∀ {S9 : Bxs}, FI S b c nb fb ys hs kn 14 S9 → (sRet (dTup (aCons (dCall tupleG (aCons (dSl (dVar 4) (oNone) (oSome (dVar 5))) (aNil))) (aCons (dVar 7) (aCons (dCall tupleG (aCons (dSl (dCall F__law_mixed (aCons (dVar 0) (aCons (dVar 8) (aNil)))) (oNone) (oSome (dVar 3))) (aNil))) (aNil))))) [some (.box b), some (.int kinds), some (.int hands), some (.int recipes), some (.box nb), some (.int kn), some (.int mn), some (.tup hs), some (.box fb), some (.int most), d10, d11] S9).Wp
          (fun r S1 => (∃ d, r.1 = .rt d ∧ (∃ size ks hs rs, Works d size ks hs rs) ∧ Bag S1 b c ∧ Fr b S S1) ∨ (r.1 = .nx ∧ (∃ size ks hs rs, Works .non size ks hs rs) ∧ Bag S1 b c ∧ Fr b S S1)) noX := fun {S9} J9 => by
        obtain ⟨rs, g1, g2, g3, g4, B9, F9⟩ := J9
        and_intros
        refine w_slB (seq_lst g4) ?_
        rw [cut_to]
        have hk8 : (ys.take kn).length = kn := by rw [List.length_take, yl]; omega
        refine w_newL (by rw [hk8]; exact Nat.le_trans hkn5 (by decide)) ?_
        and_intros
        refine w_tupB (seq_lst get_last) ?_
        and_intros
        refine (mixed_ok B9.app (seq_lst (get_pre (List.prefix_append _ _) g1)) d1 (by omega)).mono (fun d S10 ⟨r, zs, ed, hr, e2, pm, B10, F10⟩ => ?_) fun _ _ _ q => q
        subst ed
        and_intros
        obtain ⟨rn, hrn⟩ : ∃ rn : Nat, recipes = (rn : Int) := ⟨recipes.toNat, by omega⟩
        subst hrn
        refine w_slB (seq_lst e2) ?_
        rw [cut_to]
        have hz8 : (zs.take rn).length ≤ 8 := by rw [List.length_take]; omega
        refine w_newL (Nat.le_trans hz8 (by decide)) ?_
        and_intros
        refine w_tupB (seq_lst get_last) ?_
        and_intros
        refine ⟨Nat.le_of_ble_eq_true (by rfl), ?_⟩
        refine .inl ⟨_, rfl, ⟨kn, ys.take kn, hs, zs.take rn, rfl, hk8, hkn0, hkn5, hl3, hn3, fun x hx => ym x (List.mem_of_mem_take hx), hm3, hz8, (fun r hr => g3 r (pm.mem_iff.mp (List.mem_of_mem_take hr))), yn.sublist (List.take_sublist _ _), hd3⟩, B10.app, (F9.app.trans F10).app⟩
      and_intros
      obtain ⟨ps, hps, hpl⟩ := Pls.of_all (S := S8 ++ [MBox.lst []]) (n := 59) (w := 8 * kn + 26) (ds := rs) fun r hr => by
        obtain ⟨ts, us, h, R⟩ := g3 r hr
        exact pl_recipe R hm3
      refine w_eq (.box (seq_lst (get_pre (List.prefix_append _ _) g1)) hps (Nat.le_refl _)) (.box (seq_lst get_last) .nil (Nat.le_refl 3)) ?_
      have he : ∀ qs : List PyData, PyData.eqv (.list qs) (.list []) = decide (qs = []) := fun qs => by
        cases qs <;> simp [PyData.eqv, PyData.eqvAll]
      rw [he]
      and_intros
      have J9 : FI S b c nb fb ys hs kn 13 (S8 ++ [MBox.lst []]) := J8.fr ((Fr.refl b S8).app) B8.app d1 hnbb
      refine ⟨fun hne => ?_, fun _ => ?_⟩
      · and_intros
        refine (take_ok B8.app (by decide) (by decide)).mono (fun d S9 ⟨j, ed, j0, j1, B9, F9⟩ => ?_) fun _ _ _ q => q
        subst ed
        and_intros
        have J10 := J9.fr F9 B9 d1 hnbb
        have hrs : rs ≠ [] := fun z => by
          subst z
          have : ps = [] := List.length_eq_zero_iff.mp (by rw [hpl]; rfl)
          rw [this] at hne
          exact absurd hne (by decide)
        refine ⟨fun _ => ?_, fun _ => ?_⟩
        · and_intros
          have f1 := F9.at_ (get_pre (List.prefix_append _ _) g1) d1
          refine ⟨ty_list f1, ?_⟩
          and_intros
          refine (one_ok B9 (seq_lst f1) d1 hrs (by omega)).mono (fun d S10 ⟨hd, B10, F10⟩ => ?_) fun _ _ _ q => q
          and_intros
          refine (J10.fr F10 B10 d1 hnbb).add (g3 d hd) d1 d2 d3 d4 (by omega) fun S11 J11 => ?_
          exact c_nx (tail J11)
        · refine w_sNil ?_
          exact c_nx (tail (J10.le (by omega)))
      · refine ⟨fun z => absurd z Bool.false_ne_true, fun _ => ?_⟩
        refine w_sNil ?_
        exact c_nx (tail (J9.le (by omega)))
end Lw
set_option Elab.async false
set_option linter.all false
set_option maxRecDepth 100000
set_option maxHeartbeats 4000000
namespace Mn
open PySem PySem.Spec PyProof.Rows L2
theorem intsOf_map : ∀ is : List Int, intsOf (is.map Dt.int) = some is
  | [] => rfl
  | i :: is => by rw [List.map_cons]; unfold intsOf; rw [intsOf_map is]; rfl
def dotI (ps qs : List Int) : Int := ((ps.zip qs).map fun p => p.1 * p.2).sum
end Mn
set_option Elab.async false
set_option linter.all false
set_option maxRecDepth 100000
set_option maxHeartbeats 4000000
namespace Mn
open PySem PySem.Spec PyProof.Rows L2
theorem w_yes {σ : Sg} {S : Bxs} {E : Nat → List Dt → Bxs → Prop} {P : Bool → Bxs → Prop} (h : P true S) : (bYes σ S).Wp P E := sat_mk h
def Bd (M : Int) (is : List Int) : Prop := ∀ p ∈ is, -M ≤ p ∧ p ≤ M
theorem Bd.mono {M M' : Int} {is : List Int} (h : Bd M is) (hm : M ≤ M') : Bd M' is := fun p hp => by have := h p hp; omega
theorem Bd.set {M : Int} {is : List Int} {j : Nat} {v : Int} (h : Bd M is) (h1 : -M ≤ v) (h2 : v ≤ M) : Bd M (is.set j v) := fun p hp => by
  rcases List.mem_or_eq_of_mem_set hp with z | z
  · exact h p z
  · rw [z]; exact ⟨h1, h2⟩
theorem strs_of : ∀ {hs : List Dt}, (∀ x ∈ hs, ∃ s, x = Dt.str s) → ∃ zs : List Str, hs = zs.map Dt.str
  | [], _ => ⟨[], rfl⟩
  | x :: hs, h => by
    obtain ⟨s, rfl⟩ := h x List.mem_cons_self
    obtain ⟨zs, rfl⟩ := strs_of (hs := hs) fun y hy => h y (List.mem_cons_of_mem _ hy)
    exact ⟨s :: zs, rfl⟩
theorem strsOf_map : ∀ zs : List Str, strsOf (zs.map Dt.str) = some zs
  | [] => rfl
  | i :: is => by rw [List.map_cons]; unfold strsOf; rw [strsOf_map is]; rfl
theorem strAt_mem {z : Str} : ∀ {zs : List Str}, z ∈ zs → ∃ j, strAt z zs = some j ∧ zs[j]? = some z ∧ ∀ k, k < j → zs[k]? ≠ some z
  | [], h => nomatch h
  | y :: ys, h => by
    unfold strAt
    by_cases e : y = z
    · rw [if_pos e]
      exact ⟨0, rfl, by rw [e]; rfl, fun k hk => absurd hk (Nat.not_lt_zero _)⟩
    · rw [if_neg e]
      rcases List.mem_cons.mp h with q | q
      · exact absurd q.symm e
      · obtain ⟨j, h1, h2, h3⟩ := strAt_mem q
        refine ⟨j + 1, by rw [h1]; rfl, by simpa using h2, fun k hk => ?_⟩
        cases k with
        | zero => simpa using e
        | succ k => simpa using h3 k (by omega)
theorem w_tindex {S : Bxs} {E : Nat → List Dt → Bxs → Prop} {zs : List Str} {z : Str} {j : Nat} {P : Dt → Bxs → Prop} (e : strAt z zs = some j) (h : P (.int (j : Int)) S) : (tindexG (.tup (zs.map Dt.str)) [.str z] S).Wp P E := by
  have q : tindexG (.tup (zs.map Dt.str)) [.str z] S = .ok (.int (j : Int)) S := by
    show (match strsOf (zs.map Dt.str) with
    | some ys => match strAt z ys with
      | some j => Rs.ok (Dt.int (j : Int)) S
      | none => .no
    | none => .no) = _
    rw [strsOf_map]
    show (match strAt z zs with
      | some j => Rs.ok (Dt.int (j : Int)) S
      | none => .no) = _
    rw [e]
  rw [q]; exact sat_mk h
end Mn
namespace Lw
open PySem PySem.Spec PyProof.Rows L2 Mn
theorem IL.app {S : Bxs} {n : Nat} {is : List Int} {x : MBox} (h : IL S n is) : IL (S ++ [x]) n is := h.pre (List.prefix_append _ _)
theorem menu_str {x : Dt} (h : x ∈ menuD) : ∃ s, x = Dt.str s := by
  have : menuD = menuS.map Dt.str := rfl
  rw [this] at h
  obtain ⟨s, _, rfl⟩ := List.mem_map.mp h
  exact ⟨s, rfl⟩
/-- the tariff under way -/
def FJ (S : Bxs) (b c pb wb : Nat) (size hl : Nat) (M : Int) (S' : Bxs) : Prop := ∃ ps ws, IL S' pb ps ∧ IL S' wb ws ∧ ps.length = size ∧ ws.length = hl ∧ Bd M ps ∧ Bd M ws ∧ Bag S' b c ∧ Fr b S S'
theorem FJ.pre {S S1 S2 : Bxs} {b c pb wb size hl : Nat} {M : Int} (h : FJ S b c pb wb size hl M S1) (p : S1 <+: S2) : FJ S b c pb wb size hl M S2 := by
  obtain ⟨ps, ws, i1, i2, i3, i4, i5, i6, B, F⟩ := h
  exact ⟨ps, ws, i1.pre p, i2.pre p, i3, i4, i5, i6, B.pre p, F.trans (Fr.pre p)⟩
end Lw
set_option Elab.async false
set_option linter.all false
set_option maxRecDepth 100000
set_option maxHeartbeats 4000000
set_option Elab.async false
set_option linter.all false
set_option maxRecDepth 100000
set_option maxHeartbeats 4000000
set_option Elab.async false
set_option linter.all false
set_option maxRecDepth 100000
set_option maxHeartbeats 4000000
namespace Mn
open PySem PySem.Spec PyProof.Rows L2
theorem pre_set {S S1 : Bxs} {n : Nat} {x : MBox} (p : S <+: S1) (h : S.length ≤ n) : S <+: S1.set n x := by
  obtain ⟨t, rfl⟩ := p
  rw [List.set_append_right _ _ h]
  exact List.prefix_append _ _
end Mn
namespace Lw
open PySem PySem.Spec PyProof.Rows L2 Mn
def intsD (a : List Dt) : List Int := (intsOf a).getD []
theorem intsD_map (is : List Int) : intsD (is.map Dt.int) = is := by unfold intsD; rw [intsOf_map]; rfl
end Lw
set_option Elab.async false
set_option linter.all false
set_option maxRecDepth 100000
set_option maxHeartbeats 4000000
/-! Ld: comprehensions by what their items are; ints in tuples; small texts. -/
namespace Mn
open PySem PySem.Spec PyProof.Rows L2
section
variable {α : Type} {σ : Sg} {S : Bxs} {E : Nat → List Dt → Bxs → Prop}
/-- the items d of the walked x, in order -/
inductive Each {α β : Type} (Q : α → β → Prop) : List α → List β → Prop
  | nil : Each Q [] []
  | cons {x : α} {d : β} {xs : List α} {ds : List β} : Q x d → Each Q xs ds → Each Q (x :: xs) (d :: ds)
theorem Each.length {α β : Type} {Q : α → β → Prop} : ∀ {xs : List α} {ds : List β}, Each Q xs ds → xs.length = ds.length
  | _, _, .nil => rfl
  | _, _, .cons _ t => congrArg (· + 1) (Each.length t)
theorem Each.snoc {α β : Type} {Q : α → β → Prop} {x : α} {d : β} (h : Q x d) : ∀ {xs : List α} {ds : List β}, Each Q xs ds → Each Q (xs ++ [x]) (ds ++ [d])
  | _, _, .nil => .cons h .nil
  | _, _, .cons a t => .cons a (Each.snoc h t)
theorem Each.all {α β : Type} {Q : α → β → Prop} {P : β → Prop} (h : ∀ x d, Q x d → P d) : ∀ {xs : List α} {ds : List β}, Each Q xs ds → ∀ d ∈ ds, P d
  | _, _, .cons a t, d, hd => by
    rcases List.mem_cons.mp hd with rfl | z
    · exact h _ _ a
    · exact Each.all h t d z
theorem Each.mono {α β : Type} {Q Q' : α → β → Prop} (h : ∀ x d, Q x d → Q' x d) : ∀ {xs : List α} {ds : List β}, Each Q xs ds → Each Q' xs ds
  | _, _, .nil => .nil
  | _, _, .cons a t => .cons (h _ _ a) (Each.mono h t)
theorem Each.map {α β : Type} {f : α → β} : ∀ {xs : List α} {ds : List β}, Each (fun x d => d = f x) xs ds → ds = xs.map f
  | _, _, .nil => rfl
  | _, _, .cons a t => by rw [List.map_cons, ← Each.map t, a]
theorem Each.ints {α : Type} {Q : α → Dt → Prop} {P : Int → Prop} (h : ∀ x d, Q x d → ∃ i, d = .int i ∧ P i) : ∀ {xs : List α} {ds : List Dt}, Each Q xs ds → ∃ is : List Int, ds = is.map Dt.int ∧ is.length = xs.length ∧ ∀ i ∈ is, P i
  | _, _, .nil => ⟨[], rfl, rfl, fun _ z => nomatch z⟩
  | _, _, .cons a t => by
    obtain ⟨is, e1, e2, e3⟩ := Each.ints h t
    obtain ⟨i, rfl, hi⟩ := h _ _ a
    refine ⟨i :: is, by rw [e1]; rfl, by simp [e2], fun j hj => ?_⟩
    rcases List.mem_cons.mp hj with rfl | z
    · exact hi
    · exact e3 j z
/-- a comprehension, J what stands all the while -/
theorem w_lcJ {src : Src α} {g : α → Sg → Bxs → Rs Sg} {tt : FB} {te : FE} {vs : List Nat} {P : Dt → Bxs → Prop}
    (h : (src σ S).Wp (fun r S1 => ∃ (p : α → Bool) (Q : α → Dt → Prop) (J : Bxs → Prop), r.1.length < LIM ∧ (∀ S', J S' → r.2 S') ∧ J (S1 ++ [.lst []]) ∧ (∀ S' ds, J S' → J (S'.set S1.length (.lst ds))) ∧
      (∀ x S', x ∈ r.1 → J S' → (g x (wipeD σ vs) S').Wp (fun σ1 S2 => (tt σ1 S2).Wp (fun bv S3 => bv = p x ∧ (bv = false → J S3 ∧ S3[S1.length]? = S'[S1.length]?) ∧
        (bv = true → (te σ1 S3).Wp (fun d S4 => Q x d ∧ J S4 ∧ S4[S1.length]? = S'[S1.length]?) noX)) noX) noX) ∧
      ∀ ds S', Each Q (r.1.filter p) ds → S'[S1.length]? = some (.lst ds) → J S' → P (.box S1.length) S') E) : (dLc src g tt te vs σ S).Wp P E := by
  refine w_lc (h.mono (fun r S1 ⟨p, Q, J, hl, hst, j0, js, step, fin⟩ => ?_) fun _ _ _ q => q)
  refine ⟨fun i acc S' => Each Q ((r.1.take i).filter p) acc ∧ J S', fun i acc S' h => hst _ h.2, fun i x acc S' hx hn ⟨he, hJ⟩ => ?_, ⟨by simp; exact .nil, j0⟩, fun acc S' hn ⟨he, hJ⟩ => ?_⟩
  · have hil : i < r.1.length := (List.getElem?_eq_some_iff.mp hx).1
    have hal : acc.length < LIM := by
      have := he.length
      have h2 := List.length_filter_le p (r.1.take i)
      rw [List.length_take] at h2
      omega
    refine (step x S' (List.mem_of_getElem? hx) hJ).mono (fun σ1 S2 q => q.mono (fun bv S3 ⟨eb, qf, qt⟩ => ⟨fun hb => (qt hb).mono (fun d S4 ⟨hq, hJ4, e4⟩ => ?_) fun _ _ _ q => q, fun hb => ?_⟩) fun _ _ _ q => q) fun _ _ _ q => q
    · refine ⟨e4.trans hn, hal, ?_, js _ _ hJ4⟩
      rw [List.take_add_one, hx, List.filter_append]
      have : [x].filter p = [x] := by rw [List.filter_cons_of_pos (by rw [← eb]; exact hb)]; rfl
      show Each Q (_ ++ [x].filter p) _
      rw [this]
      exact he.snoc hq
    · obtain ⟨hJ3, e3⟩ := qf hb
      refine ⟨e3.trans hn, ?_, hJ3⟩
      rw [List.take_add_one, hx, List.filter_append]
      have : [x].filter p = [] := by rw [List.filter_cons_of_neg (by rw [← eb, hb]; decide)]; rfl
      show Each Q (_ ++ [x].filter p) _
      rw [this, List.append_nil]
      exact he
  · rw [List.take_length] at he
    exact fin acc S' he hn hJ
theorem get_pre' {S S' : Bxs} (p : S <+: S') {n : Nat} (h : n < S.length) : S'[n]? = S[n]? := by
  obtain ⟨t, rfl⟩ := p
  exact List.getElem?_append_left h
/-- pure items -/
theorem w_lcP {src : Src α} {g : α → Sg → Bxs → Rs Sg} {tt : FB} {te : FE} {vs : List Nat} {P : Dt → Bxs → Prop}
    (h : (src σ S).Wp (fun r S1 => ∃ (p : α → Bool) (Q : α → Dt → Prop), r.1.length < LIM ∧ (∀ S', S1 <+: S' → r.2 S') ∧
      (∀ x S', x ∈ r.1 → S1 <+: S' → (g x (wipeD σ vs) S').Wp (fun σ1 S2 => (tt σ1 S2).Wp (fun bv S3 => bv = p x ∧ (bv = false → S' <+: S3) ∧
        (bv = true → (te σ1 S3).Wp (fun d S4 => Q x d ∧ S' <+: S4) noX)) noX) noX) ∧
      ∀ ds S', Each Q (r.1.filter p) ds → S'[S1.length]? = some (.lst ds) → S1 <+: S' → P (.box S1.length) S') E) : (dLc src g tt te vs σ S).Wp P E := by
  refine w_lcJ (h.mono (fun r S1 ⟨p, Q, hl, hst, step, fin⟩ => ?_) fun _ _ _ q => q)
  refine ⟨p, Q, fun S' => S1 <+: S' ∧ S1.length < S'.length, hl, fun S' h => hst S' h.1, ⟨List.prefix_append _ _, by simp⟩, fun S' ds h => ⟨pre_set h.1 (Nat.le_refl _), by rw [List.length_set]; exact h.2⟩, fun x S' hx ⟨hJ, hlt⟩ => ?_, fun ds S' h1 h2 h3 => fin ds S' h1 h2 h3.1⟩
  refine (step x S' hx hJ).mono (fun σ1 S2 q => q.mono (fun bv S3 ⟨eb, qf, qt⟩ => ⟨eb, fun hb => ?_, fun hb => (qt hb).mono (fun d S4 ⟨hq, p4⟩ => ?_) fun _ _ _ q => q⟩) fun _ _ _ q => q) fun _ _ _ q => q
  · have p3 := qf hb
    exact ⟨⟨hJ.trans p3, Nat.lt_of_lt_of_le hlt p3.length_le⟩, get_pre' p3 hlt⟩
  · exact ⟨hq, ⟨hJ.trans p4, Nat.lt_of_lt_of_le hlt p4.length_le⟩, get_pre' p4 hlt⟩
/-- items that draw -/
theorem w_lcB {b c : Nat} {src : Src α} {g : α → Sg → Bxs → Rs Sg} {tt : FB} {te : FE} {vs : List Nat} {P : Dt → Bxs → Prop}
    (h : (src σ S).Wp (fun r S1 => ∃ (p : α → Bool) (Q : α → Dt → Prop), r.1.length < LIM ∧ Bag S1 b c ∧ (∀ S', Fr b S1 S' → r.2 S') ∧
      (∀ x S', x ∈ r.1 → Bag S' b c → Fr b S1 S' → (g x (wipeD σ vs) S').Wp (fun σ1 S2 => (tt σ1 S2).Wp (fun bv S3 => bv = p x ∧ (bv = false → Bag S3 b c ∧ Fr b S' S3) ∧
        (bv = true → (te σ1 S3).Wp (fun d S4 => Q x d ∧ Bag S4 b c ∧ Fr b S' S4) noX)) noX) noX) ∧
      ∀ ds S', Each Q (r.1.filter p) ds → S'[S1.length]? = some (.lst ds) → Bag S' b c → Fr b S1 S' → P (.box S1.length) S') E) : (dLc src g tt te vs σ S).Wp P E := by
  refine w_lcJ (h.mono (fun r S1 ⟨p, Q, hl, B, hst, step, fin⟩ => ?_) fun _ _ _ q => q)
  have hb : S1.length ≠ b := Nat.ne_of_gt B.lt.1
  have hc : S1.length ≠ c := Nat.ne_of_gt B.lt.2
  refine ⟨p, Q, fun S' => Bag S' b c ∧ Fr b S1 S' ∧ S1.length < S'.length, hl, fun S' h => hst S' h.2.1, ⟨B.app, (Fr.refl b S1).app, by simp⟩, fun S' ds h => ⟨h.1.own hb hc, h.2.1.own (Nat.le_refl _), by rw [List.length_set]; exact h.2.2⟩, fun x S' hx ⟨hB, hF, hlt⟩ => ?_, fun ds S' h1 h2 h3 => fin ds S' h1 h2 h3.1 h3.2.1⟩
  refine (step x S' hx hB hF).mono (fun σ1 S2 q => q.mono (fun bv S3 ⟨eb, qf, qt⟩ => ⟨eb, fun hbv => ?_, fun hbv => (qt hbv).mono (fun d S4 ⟨hq, B4, F4⟩ => ?_) fun _ _ _ q => q⟩) fun _ _ _ q => q) fun _ _ _ q => q
  · obtain ⟨B3, F3⟩ := qf hbv
    exact ⟨⟨B3, hF.trans F3, Nat.lt_of_lt_of_le hlt F3.len⟩, F3.get _ hlt hb⟩
  · exact ⟨hq, ⟨B4, hF.trans F4, Nat.lt_of_lt_of_le hlt F4.len⟩, F4.get _ hlt hb⟩
/-- .. only what the items are, and how many at most -/
theorem w_lcJA {src : Src α} {g : α → Sg → Bxs → Rs Sg} {tt : FB} {te : FE} {vs : List Nat} {P : Dt → Bxs → Prop}
    (h : (src σ S).Wp (fun r S1 => ∃ (R : Dt → Prop) (J : Bxs → Prop), r.1.length < LIM ∧ (∀ S', J S' → r.2 S') ∧ J (S1 ++ [.lst []]) ∧ (∀ S' ds, J S' → J (S'.set S1.length (.lst ds))) ∧
      (∀ x S', x ∈ r.1 → J S' → (g x (wipeD σ vs) S').Wp (fun σ1 S2 => (tt σ1 S2).Wp (fun bv S3 => (bv = false → J S3 ∧ S3[S1.length]? = S'[S1.length]?) ∧
        (bv = true → (te σ1 S3).Wp (fun d S4 => R d ∧ J S4 ∧ S4[S1.length]? = S'[S1.length]?) noX)) noX) noX) ∧
      ∀ ds S', ds.length ≤ r.1.length → (∀ d ∈ ds, R d) → S'[S1.length]? = some (.lst ds) → J S' → P (.box S1.length) S') E) : (dLc src g tt te vs σ S).Wp P E := by
  refine w_lc (h.mono (fun r S1 ⟨R, J, hl, hst, j0, js, step, fin⟩ => ?_) fun _ _ _ q => q)
  refine ⟨fun i acc S' => acc.length ≤ i ∧ (∀ d ∈ acc, R d) ∧ J S', fun i acc S' h => hst _ h.2.2, fun i x acc S' hx hn ⟨h1, h2, hJ⟩ => ?_, ⟨Nat.le_refl _, (fun d hd => nomatch hd), j0⟩, fun acc S' hn ⟨h1, h2, hJ⟩ => fin acc S' h1 h2 hn hJ⟩
  have hil : i < r.1.length := (List.getElem?_eq_some_iff.mp hx).1
  refine (step x S' (List.mem_of_getElem? hx) hJ).mono (fun σ1 S2 q => q.mono (fun bv S3 ⟨qf, qt⟩ => ⟨fun hb => (qt hb).mono (fun d S4 ⟨hq, hJ4, e4⟩ => ?_) fun _ _ _ q => q, fun hb => ?_⟩) fun _ _ _ q => q) fun _ _ _ q => q
  · refine ⟨e4.trans hn, by omega, by rw [List.length_append]; exact Nat.add_le_add_right h1 1, fun e he => ?_, js _ _ hJ4⟩
    rcases List.mem_append.mp he with z | z
    · exact h2 e z
    · rw [List.mem_singleton.mp z]; exact hq
  · obtain ⟨hJ3, e3⟩ := qf hb
    exact ⟨e3.trans hn, Nat.le_succ_of_le h1, h2, hJ3⟩
theorem w_lcPA {src : Src α} {g : α → Sg → Bxs → Rs Sg} {tt : FB} {te : FE} {vs : List Nat} {P : Dt → Bxs → Prop}
    (h : (src σ S).Wp (fun r S1 => ∃ R : Dt → Prop, r.1.length < LIM ∧ (∀ S', S1 <+: S' → r.2 S') ∧
      (∀ x S', x ∈ r.1 → S1 <+: S' → (g x (wipeD σ vs) S').Wp (fun σ1 S2 => (tt σ1 S2).Wp (fun bv S3 => (bv = false → S' <+: S3) ∧
        (bv = true → (te σ1 S3).Wp (fun d S4 => R d ∧ S' <+: S4) noX)) noX) noX) ∧
      ∀ ds S', ds.length ≤ r.1.length → (∀ d ∈ ds, R d) → S'[S1.length]? = some (.lst ds) → S1 <+: S' → P (.box S1.length) S') E) : (dLc src g tt te vs σ S).Wp P E := by
  refine w_lcJA (h.mono (fun r S1 ⟨R, hl, hst, step, fin⟩ => ?_) fun _ _ _ q => q)
  refine ⟨R, fun S' => S1 <+: S' ∧ S1.length < S'.length, hl, fun S' h => hst S' h.1, ⟨List.prefix_append _ _, by simp⟩, fun S' ds h => ⟨pre_set h.1 (Nat.le_refl _), by rw [List.length_set]; exact h.2⟩, fun x S' hx ⟨hJ, hlt⟩ => ?_, fun ds S' h0 h1 h2 h3 => fin ds S' h0 h1 h2 h3.1⟩
  refine (step x S' hx hJ).mono (fun σ1 S2 q => q.mono (fun bv S3 ⟨qf, qt⟩ => ⟨fun hb => ?_, fun hb => (qt hb).mono (fun d S4 ⟨hq, p4⟩ => ?_) fun _ _ _ q => q⟩) fun _ _ _ q => q) fun _ _ _ q => q
  · have p3 := qf hb
    exact ⟨⟨hJ.trans p3, Nat.lt_of_lt_of_le hlt p3.length_le⟩, get_pre' p3 hlt⟩
  · exact ⟨hq, ⟨hJ.trans p4, Nat.lt_of_lt_of_le hlt p4.length_le⟩, get_pre' p4 hlt⟩
theorem filter_yes (xs : List α) : xs.filter (fun _ => true) = xs := List.filter_eq_self.mpr fun _ _ => rfl
end
/-! ### ints -/
/-- all within -/
def In (lo hi : Int) (is : List Int) : Prop := ∀ i ∈ is, lo ≤ i ∧ i ≤ hi
theorem In.mono {lo hi lo' hi' : Int} {is : List Int} (h : In lo hi is) (h1 : lo' ≤ lo) (h2 : hi ≤ hi') : In lo' hi' is := fun i hi => by have := h i hi; omega
theorem In.set {lo hi : Int} {is : List Int} {j : Nat} {v : Int} (h : In lo hi is) (hv : lo ≤ v ∧ v ≤ hi) : In lo hi (is.set j v) := fun i hi => by
  rcases List.mem_or_eq_of_mem_set hi with z | z
  · exact h i z
  · rw [z]; exact hv
theorem In.rep {lo hi v : Int} (hv : lo ≤ v ∧ v ≤ hi) (n : Nat) : In lo hi (List.replicate n v) := fun i hi => by
  rw [List.eq_of_mem_replicate hi]; exact hv
theorem In.app {lo hi : Int} {is js : List Int} (h : In lo hi is) (k : In lo hi js) : In lo hi (is ++ js) := fun i hi => by
  rcases List.mem_append.mp hi with z | z
  · exact h i z
  · exact k i z
theorem In.get {lo hi : Int} {is : List Int} {j : Nat} {v : Int} (h : In lo hi is) (e : is[j]? = some v) : lo ≤ v ∧ v ≤ hi := h v (List.mem_of_getElem? e)
theorem ints_of_all {P : Int → Prop} : ∀ {ds : List Dt}, (∀ d ∈ ds, ∃ i, d = Dt.int i ∧ P i) → ∃ is : List Int, ds = is.map Dt.int ∧ ∀ i ∈ is, P i
  | [], _ => ⟨[], rfl, fun _ z => nomatch z⟩
  | d :: ds, h => by
    obtain ⟨i, rfl, hi⟩ := h d List.mem_cons_self
    obtain ⟨is, rfl, his⟩ := ints_of_all fun e he => h e (List.mem_cons_of_mem _ he)
    refine ⟨i :: is, rfl, fun j hj => ?_⟩
    rcases List.mem_cons.mp hj with rfl | z
    · exact hi
    · exact his j z
/-- item by item -/
def zw (f : Int → Int → Int) (xs ys : List Int) : List Int := (xs.zip ys).map fun p => f p.1 p.2
theorem zw_len {f : Int → Int → Int} {xs ys : List Int} (h : xs.length = ys.length) : (zw f xs ys).length = xs.length := by
  unfold zw; rw [List.length_map, List.length_zip, ← h, Nat.min_self]
abbrev iv (is : List Int) : Dt := .tup (is.map Dt.int)
/-- tuple([f(x, y) for x, y in zip(xs, ys)]) -/
theorem zip_ints {xs ys : List Int} {p : Dt × Dt} (h : p ∈ (xs.map Dt.int).zip (ys.map Dt.int)) : ∃ i j, (i, j) ∈ xs.zip ys ∧ p = (.int i, .int j) := by
  have hz : p ∈ (xs.zip ys).map (Prod.map Dt.int Dt.int) := by rw [← List.zip_map]; exact h
  obtain ⟨⟨i, j⟩, hij, rfl⟩ := List.mem_map.mp hz
  exact ⟨i, j, hij, rfl⟩
theorem each_zw {f : Int → Int → Int} {xs ys : List Int} {ds : List Dt} (h : Each (fun p d => ∀ i j, p = (Dt.int i, Dt.int j) → d = .int (f i j)) ((xs.map Dt.int).zip (ys.map Dt.int)) ds) : ds = (zw f xs ys).map Dt.int := by
  have e : ∀ {ps : List (Int × Int)} {ds : List Dt}, Each (fun (p : Dt × Dt) d => ∀ i j, p = (Dt.int i, Dt.int j) → d = .int (f i j)) (ps.map (Prod.map Dt.int Dt.int)) ds → ds = (ps.map fun p => f p.1 p.2).map Dt.int := by
    intro ps
    induction ps with
    | nil => intro ds h; cases h; rfl
    | cons p ps ih =>
      intro ds h
      cases h with
      | cons a t => rw [a p.1 p.2 rfl, ih t]; rfl
  rw [List.zip_map] at h
  exact e h
/-! ### texts of data without boxes -/
/-- data without boxes, so deep, its text at most so long -/
def Sm (n : Nat) (d : Dt) (w : Nat) : Prop := ∃ p, ∀ S, Pl S n d p w
theorem Sm.mono {n w w' : Nat} {d : Dt} (h : Sm n d w) (hw : w ≤ w') : Sm n d w' := let ⟨p, q⟩ := h; ⟨p, fun S => (q S).mono hw⟩
theorem Sm.int {n : Nat} {i : Int} (k : Nat) (hk : 1 ≤ k) (hk2 : k ≤ 500) (h : i.natAbs < 10 ^ k) : Sm (n + 1) (.int i) (k + 1) := ⟨_, fun S => Pl.mkInt k hk hk2 h⟩
theorem Sm.bl {n : Nat} (b : Bool) : Sm (n + 1) (.bl b) 5 := ⟨_, fun S => .bl b (Nat.le_refl _)⟩
theorem Sm.non {n : Nat} : Sm (n + 1) .non 4 := ⟨_, fun S => .non (Nat.le_refl _)⟩
theorem Sm.all {n w : Nat} : ∀ {ds : List Dt}, (∀ d ∈ ds, Sm n d w) → ∃ ps, ∀ S, Pls S n ds ps (ds.length * (w + 2))
  | [], _ => ⟨[], fun S => by rw [List.length_nil, Nat.zero_mul]; exact .nil⟩
  | d :: ds, h => by
    obtain ⟨p, hp⟩ := h d List.mem_cons_self
    obtain ⟨ps, hps⟩ := Sm.all fun e he => h e (List.mem_cons_of_mem _ he)
    refine ⟨p :: ps, fun S => ?_⟩
    have := Pls.cons (hp S) (hps S)
    rwa [show (d :: ds).length * (w + 2) = w + 2 + ds.length * (w + 2) by rw [List.length_cons, Nat.add_mul]; omega]
theorem Sm.tup {n w : Nat} {ds : List Dt} (h : ∀ d ∈ ds, Sm n d w) (m : Nat) (hm : ds.length * (w + 2) + 3 ≤ m) : Sm (n + 1) (.tup ds) m := by
  obtain ⟨ps, hps⟩ := Sm.all h
  exact ⟨_, fun S => .tup (hps S) hm⟩
theorem Sm.ints {n k : Nat} {is : List Int} (hk : 1 ≤ k) (hk2 : k ≤ 500) (h : ∀ i ∈ is, i.natAbs < 10 ^ k) (m : Nat) (hm : is.length * (k + 3) + 3 ≤ m) : Sm (n + 2) (iv is) m :=
  Sm.tup (w := k + 1) (fun d hd => by obtain ⟨i, hi, rfl⟩ := List.mem_map.mp hd; exact Sm.int k hk hk2 (h i hi)) m (by rw [List.length_map]; exact hm)
theorem Sm.t2 {n w : Nat} {a b : Dt} (ha : Sm n a w) (hb : Sm n b w) (m : Nat) (hm : 2 * (w + 2) + 3 ≤ m) : Sm (n + 1) (.tup [a, b]) m :=
  Sm.tup (w := w) (fun d hd => by simp at hd; rcases hd with rfl | rfl <;> assumption) m hm
theorem Sm.t4 {n w : Nat} {a b c e : Dt} (ha : Sm n a w) (hb : Sm n b w) (hc : Sm n c w) (he : Sm n e w) (m : Nat) (hm : 4 * (w + 2) + 3 ≤ m) : Sm (n + 1) (.tup [a, b, c, e]) m :=
  Sm.tup (w := w) (fun d hd => by simp at hd; rcases hd with rfl | rfl | rfl | rfl <;> assumption) m hm
section
variable {S : Bxs} {E : Nat → List Dt → Bxs → Prop}
/-- what repr tells -/
noncomputable def shD (d : Dt) : Str := match pdo [] d with
  | some p => p.shown
  | none => default
theorem w_reprS {d : Dt} {w : Nat} {P : Dt → Bxs → Prop} (h : Sm 60 d w) (hw : w ≤ 1000000) (q : P (.str (shD d)) S) : (reprG [d] S).Wp P E := by
  obtain ⟨p, hp⟩ := h
  refine w_repr (hp S) hw ?_
  have e : shD d = p.shown := by unfold shD pdo DEEP; rw [(hp []).pd]
  rw [← e]; exact q
theorem w_eqSame {d : Dt} {w : Nat} {neg : Bool} {P : Dt → Bxs → Prop} (h : Sm 60 d w) (q : P (.bl (!neg)) S) : (eqG neg d d S).Wp P E := by
  obtain ⟨p, hp⟩ := h
  refine w_eq (hp S) (hp S) ?_
  rw [(hp S).pf.eqv]
  cases neg <;> exact q
theorem w_eqShD {d : Dt} {w : Nat} {neg : Bool} {P : Dt → Bxs → Prop} (h : Sm 60 d w) (q : P (.bl (!neg)) S) : (eqG neg (.str (shD d)) (.str (shD d)) S).Wp P E := by
  obtain ⟨p, hp⟩ := h
  have e : shD d = p.shown := by unfold shD pdo DEEP; rw [(hp []).pd]
  have k := (hp S).pf.ok
  rw [e]
  have e1 : pdo S (.str p.shown) = some (.str p.shown) := rfl
  have sh : SeqAt.shaped (.str p.shown) = true := by
    unfold SeqAt.shaped
    simp [PyData.canLay0, PyData.depth, k]
  have x1 : eqG neg (.str p.shown) (.str p.shown) S = .ok (.bl (if neg then !PyData.eqv (.str p.shown) (.str p.shown) else PyData.eqv (.str p.shown) (.str p.shown))) S := by
    unfold eqG
    rw [e1]
    show (if SeqAt.shaped (.str p.shown) = true ∧ SeqAt.shaped (.str p.shown) = true then _ else _) = _
    rw [if_pos ⟨sh, sh⟩]
  have e2 : PyData.eqv (.str p.shown) (.str p.shown) = true := by simp [PyData.eqv]
  rw [e2] at x1
  have x3 : (if neg = true then !true else true) = !neg := by cases neg <;> rfl
  rw [x3] at x1
  rw [x1]; exact ⟨q⟩
end
end Mn
set_option Elab.async false
set_option linter.all false
set_option maxRecDepth 100000
set_option maxHeartbeats 4000000
namespace Mn
open PySem PySem.Spec PyProof.Rows L2
section
variable {S : Bxs} {E : Nat → List Dt → Bxs → Prop}
/-- xs != [] -/
theorem w_neNil {n m w : Nat} {ds : List Dt} {neg : Bool} {P : Dt → Bxs → Prop} (e : S.seq n = some ds) (e2 : S.seq m = some []) (hs : ∀ d ∈ ds, Sm 59 d w) (q : P (.bl (if neg then !ds.isEmpty else ds.isEmpty)) S) : (eqG neg (.box n) (.box m) S).Wp P E := by
  obtain ⟨ps, hps⟩ := Sm.all hs
  refine w_eq (.box e (hps S) (Nat.le_refl _)) (.box e2 .nil (Nat.le_refl _)) ?_
  have : PyData.eqv (.list ps) (.list []) = ds.isEmpty := by
    have h := hps S
    generalize ds.length * (w + 2) = k at h
    cases h with
    | nil => simp [PyData.eqv, PyData.eqvAll]
    | cons _ _ => simp [PyData.eqv, PyData.eqvAll]
  rw [this]; exact q
/-- t != () -/
theorem w_neNilT {w : Nat} {ds : List Dt} {neg : Bool} {P : Dt → Bxs → Prop} (hs : ∀ d ∈ ds, Sm 59 d w) (q : P (.bl (if neg then !ds.isEmpty else ds.isEmpty)) S) : (eqG neg (.tup ds) (.tup []) S).Wp P E := by
  obtain ⟨ps, hps⟩ := Sm.all hs
  refine w_eq (.tup (hps S) (Nat.le_refl _)) (.tup .nil (Nat.le_refl _)) ?_
  have : PyData.eqv (.tuple ps) (.tuple []) = ds.isEmpty := by
    have h := hps S
    generalize ds.length * (w + 2) = k at h
    cases h with
    | nil => simp [PyData.eqv, PyData.eqvAll]
    | cons _ _ => simp [PyData.eqv, PyData.eqvAll]
  rw [this]; exact q
theorem sm_ints {is : List Int} {n : Nat} (h : In (-(10 ^ 22)) (10 ^ 22) is) : ∀ d ∈ is.map Dt.int, Sm (n + 1) d 30 := fun d hd => by
  obtain ⟨i, hi, rfl⟩ := List.mem_map.mp hd
  have := h i hi
  exact (Sm.int 23 (by decide) (by decide) (by omega)).mono (by decide)
theorem maxI_ge : ∀ {is : List Int} {i : Int}, i ∈ is → i ≤ maxI is
  | [a], i, h => by
    rw [List.mem_singleton.mp h]
    show a ≤ maxI [a]
    simp [maxI]
  | a :: b :: r, i, h => by
    have ih := fun {j} (hj : j ∈ b :: r) => maxI_ge (i := j) hj
    have e : maxI (a :: b :: r) = (if maxI (b :: r) > a then maxI (b :: r) else a) := by
      simp [maxI]
    rw [e]
    rcases List.mem_cons.mp h with rfl | z
    · split <;> omega
    · have := ih z
      split <;> omega
theorem minI_le {is : List Int} {i : Int} (h : i ∈ is) : minI is ≤ i := by
  have : -i ≤ maxI (is.map fun i => -i) := maxI_ge (List.mem_map.mpr ⟨i, h, rfl⟩)
  unfold minI; omega
theorem w_minT {is : List Int} {P : Dt → Bxs → Prop} (hne : is ≠ []) (h : P (.int (minI is)) S) : (minG [iv is] S).Wp P E := by
  have z : minG [iv is] S = .ok (.int (minI is)) S := by
    show (match intsOf (is.map Dt.int) with
      | some ns => if ns ≠ [] then Rs.ok (Dt.int (minI ns)) S else .no
      | none => .no) = _
    rw [intsOf_map]
    show (if is ≠ [] then Rs.ok (Dt.int (minI is)) S else .no) = _
    rw [if_pos hne]
  rw [z]; exact sat_mk h
theorem w_maxT {is : List Int} {P : Dt → Bxs → Prop} (hne : is ≠ []) (h : P (.int (maxI is)) S) : (maxG [iv is] S).Wp P E := by
  have z : maxG [iv is] S = .ok (.int (maxI is)) S := by
    show (match intsOf (is.map Dt.int) with
      | some ns => if ns ≠ [] then Rs.ok (Dt.int (maxI ns)) S else .no
      | none => .no) = _
    rw [intsOf_map]
    show (if is ≠ [] then Rs.ok (Dt.int (maxI is)) S else .no) = _
    rw [if_pos hne]
  rw [z]; exact sat_mk h
theorem w_mulT0 {n : Nat} {P : Dt → Bxs → Prop} (hn : n ≤ 1000) (h : P (iv (List.replicate n 0)) S) : (mulG (.tup [.int 0]) (.int (n : Int)) S).Wp P E := by
  refine w_mulT ⟨fun z => (nomatch z), by omega, by omega, by decide⟩ ?_
  rw [zeros]; exact h
end
end Mn
namespace Lw
open PySem PySem.Spec PyProof.Rows L2 Mn
/-- tuple([f(x, y) for x, y in zip(xs, ys)]) -/
theorem zipT_ok {σ : Sg} {S : Bxs} {E : Nat → List Dt → Bxs → Prop} {i1 i2 v1 v2 : Nat} {g : G2} {f : Int → Int → Int} {xs ys : List Int} {P : Dt → Bxs → Prop} (h1 : σ[i1]? = some (some (iv xs))) (h2 : σ[i2]? = some (some (iv ys)))
    (hg : ∀ x y S, g (.int x) (.int y) S = .ok (.int (f x y)) S) (hl : xs.length ≤ 1000) (hv1 : ∀ a b : Dt, (((wipeD σ [v1, v2]).set v1 (some a)).set v2 (some b))[v1]? = some (some a)) (hv2 : ∀ a b : Dt, (((wipeD σ [v1, v2]).set v1 (some a)).set v2 (some b))[v2]? = some (some b))
    (h : ∀ S', S <+: S' → P (iv (zw f xs ys)) S') :
    (dCall tupleG (aCons (dLc (srcZip (aCons (dVar i1) (aCons (dVar i2) aNil))) (tPairG (tConsG (tName v1) (tConsG (tName v2) tNilG))) bYes (dBin g (dVar v1) (dVar v2)) [v1, v2]) aNil) σ S).Wp P E := by
  refine w_call (w_consA (w_lcP (w_srcZip (w_consA (w_var h1 (w_consA (w_var h2 (w_nil ?_))))))))
  refine ⟨_, _, _, _, rfl, rfl, rfl, fun _ => true, fun p d => ∀ i j, p = (Dt.int i, Dt.int j) → d = .int (f i j), ?_, fun S' _ => ⟨rfl, rfl⟩, fun p S' hp hS => ?_, fun ds S' he hn hS => ?_⟩
  · show (List.zip _ _).length < LIM
    rw [List.length_zip, List.length_map, List.length_map]
    exact Nat.lt_of_le_of_lt (Nat.le_trans (Nat.min_le_left _ _) hl) (by decide)
  · obtain ⟨i, j, hij, rfl⟩ := zip_ints hp
    refine w_pair (w_tCons (w_tName (w_tCons (w_tName (w_tNil (w_yes ⟨rfl, fun z => (nomatch z), fun _ => ?_⟩))))))
    refine w_bin (w_var (hv1 _ _) (w_var (hv2 _ _) (.of (hg i j S') ⟨fun a b e => ?_, List.prefix_refl _⟩)))
    cases e; rfl
  · rw [filter_yes] at he
    have e := each_zw he
    subst e
    exact w_nil (w_tupB (seq_lst hn) (h S' hS))
theorem sum_ok {S : Bxs} {xs ys : List Int} (hl : xs.length ≤ 1000) : (F__law_sum [iv xs, iv ys] S).Wp (fun d S' => d = iv (zw (· + ·) xs ys) ∧ S <+: S') noX := by
  refine w_body ?_
  unfold B__law_sum
  simp only [startD, List.map_cons, List.map_nil, List.length_cons, List.length_nil, List.cons_append, List.nil_append, Nat.reduceAdd, Nat.reduceSub, List.replicate, List.replicate_succ, List.replicate_zero]
  refine w_ret (zipT_ok (xs := xs) (ys := ys) rfl rfl (fun x y S => rfl) hl (fun _ _ => rfl) (fun _ _ => rfl) fun S' hS => .inl ⟨_, rfl, rfl, hS⟩)
theorem less_ok {S : Bxs} {xs ys : List Int} (hl : xs.length ≤ 1000) : (F__law_less [iv xs, iv ys] S).Wp (fun d S' => d = iv (zw (· - ·) xs ys) ∧ S <+: S') noX := by
  refine w_body ?_
  unfold B__law_less
  simp only [startD, List.map_cons, List.map_nil, List.length_cons, List.length_nil, List.cons_append, List.nil_append, Nat.reduceAdd, Nat.reduceSub, List.replicate, List.replicate_succ, List.replicate_zero]
  refine w_ret (zipT_ok (xs := xs) (ys := ys) rfl rfl (fun x y S => rfl) hl (fun _ _ => rfl) (fun _ _ => rfl) fun S' hS => .inl ⟨_, rfl, rfl, hS⟩)
theorem nothing_ok {S : Bxs} {w : Dt} {size : Nat} {ks hs rs : List Dt} (W : Works w size ks hs rs) : (F__law_nothing [w] S).Wp (fun d S' => d = iv (List.replicate size 0) ∧ S' = S) noX := by
  have hs1 := W.s1
  rw [W.eq]
  refine w_body ?_
  unfold B__law_nothing
  simp only [startD, List.map_cons, List.map_nil, List.length_cons, List.length_nil, List.cons_append, List.nil_append, Nat.reduceAdd, Nat.reduceSub, List.replicate, List.replicate_succ, List.replicate_zero]
  and_intros
  refine ⟨Nat.le_of_ble_eq_true (by rfl), ?_⟩
  and_intros
  rw [W.kl]
  exact w_mulT0 (by omega) (.inl ⟨_, rfl, rfl, rfl⟩)
/-- tuple([_law_take(bag, number + 1) for number in lot]) -/
theorem part_ok {S : Bxs} {b c : Nat} {is : List Int} {M : Int} (B : Bag S b c) (hi : In 0 M is) (hM : M ≤ 2 ^ 50) (hl : is.length ≤ 1000) :
    (F__law_part [.box b, iv is] S).Wp (fun d S' => ∃ js, d = iv js ∧ js.length = is.length ∧ (∀ (i : Nat) (x y : Int), js[i]? = some x → is[i]? = some y → 0 ≤ x ∧ x ≤ y) ∧ Bag S' b c ∧ Fr b S S') noX := by
  refine w_body ?_
  unfold B__law_part
  simp only [startD, List.map_cons, List.map_nil, List.length_cons, List.length_nil, List.cons_append, List.nil_append, Nat.reduceAdd, Nat.reduceSub, List.replicate, List.replicate_succ, List.replicate_zero]
  and_intros
  refine w_lcB (b := b) (c := c) ?_
  and_intros
  refine ⟨fun _ => true, fun (x d : Dt) => ∀ i : Int, x = Dt.int i → ∃ j : Int, d = Dt.int j ∧ 0 ≤ j ∧ j ≤ i, ?_, B, fun _ _ => rfl, fun x S' hx B' F' => ?_, fun ds S' he hn B' F' => ?_⟩
  · show (is.map Dt.int).length < LIM
    rw [List.length_map]
    exact Nat.lt_of_le_of_lt hl (by decide)
  · obtain ⟨i, hii, rfl⟩ := List.mem_map.mp hx
    have := hi i hii
    and_intros
    refine w_yes ⟨rfl, fun z => (nomatch z), fun _ => ?_⟩
    and_intros
    refine (take_ok B' (by omega) (by omega)).mono (fun d S2 ⟨j, ed, j0, j1, B2, F2⟩ => ?_) fun _ _ _ q => q
    exact ⟨fun k e => by cases e; exact ⟨j, ed, j0, by omega⟩, B2, F2⟩
  · rw [filter_yes] at he
    have key : ∀ {is : List Int} {ds : List Dt}, Each (fun x d => ∀ i, x = Dt.int i → ∃ j, d = .int j ∧ 0 ≤ j ∧ j ≤ i) (is.map Dt.int) ds → ∃ js : List Int, ds = js.map Dt.int ∧ js.length = is.length ∧ ∀ (i : Nat) (x y : Int), js[i]? = some x → is[i]? = some y → 0 ≤ x ∧ x ≤ y := by
      intro is
      induction is with
      | nil => intro ds h; cases h; exact ⟨[], rfl, rfl, fun i x y e => by simp at e⟩
      | cons a is ih =>
        intro ds h
        cases h with
        | cons q t =>
          obtain ⟨js, e1, e2, e3⟩ := ih t
          obtain ⟨j, rfl, j0, j1⟩ := q a rfl
          refine ⟨j :: js, by rw [e1]; rfl, by simp [e2], fun i x y hx hy => ?_⟩
          cases i with
          | zero => simp at hx hy; omega
          | succ i => exact e3 i x y (by simpa using hx) (by simpa using hy)
    obtain ⟨js, rfl, e2, e3⟩ := key he
    and_intros
    exact w_tupB (seq_lst hn) (.inl ⟨_, rfl, js, rfl, e2, e3, B', F'⟩)
end Lw
set_option Elab.async false
set_option linter.all false
set_option maxRecDepth 100000
set_option maxHeartbeats 4000000
namespace Lw
open PySem PySem.Spec PyProof.Rows L2 Mn
def Pos (is : List Int) : Prop := ∀ i ∈ is, 0 ≤ i
theorem Pos.set {is : List Int} {j : Nat} {v : Int} (h : Pos is) (hv : 0 ≤ v) : Pos (is.set j v) := fun i hi => by
  rcases List.mem_or_eq_of_mem_set hi with z | z
  · exact h i z
  · rw [z]; exact hv
/-- two lists of one's own, filled -/
def WI (S : Bxs) (l k size hl : Nat) (S' : Bxs) : Prop := ∃ ls ks : List Int, IL S' l ls ∧ IL S' k ks ∧ ls.length = size ∧ ks.length = hl ∧ Pos ks ∧ S <+: S'
theorem idx_get {is : List Int} {j : Nat} (h : j < is.length) : ∃ v, is[j]? = some v := ⟨is[j], List.getElem?_eq_getElem h⟩
theorem atI_int {is : List Int} {j : Nat} {v : Int} (h : is[j]? = some v) : atI (is.map Dt.int) (j : Int) = some (.int v) := by
  have hl : j < is.length := (List.getElem?_eq_some_iff.mp h).1
  unfold atI
  rw [ixN_mk (by omega) (by rw [List.length_map]; omega)]
  show (is.map Dt.int)[(j : Int).toNat]? = _
  rw [Int.toNat_natCast, List.getElem?_map, h]; rfl
theorem wants_ok {S : Bxs} {w cd : Dt} {size : Nat} {ks hs rs : List Dt} {cs : List Int} (W : Works w size ks hs rs) (hc : ∀ S', S <+: S' → seqOf S' cd = some (cs.map Dt.int)) (hp : Pos cs) :
    (F__law_wants [w, cd] S).Wp (fun d S' => ∃ ls ks' : List Int, d = .tup [iv ls, iv ks'] ∧ ls.length = size ∧ ks'.length = hs.length ∧ Pos ks' ∧ S <+: S') noX := by
  have hs1 := W.s1
  have hhl := W.hl
  have hkl := W.kl
  have hm := W.hm
  have hrr := W.rr
  obtain ⟨zs, hz⟩ := strs_of (hs := hs) (fun x hx => menu_str (hm x hx))
  rw [W.eq]
  refine w_body ?_
  unfold B__law_wants
  simp only [startD, List.map_cons, List.map_nil, List.length_cons, List.length_nil, List.cons_append, List.nil_append, Nat.reduceAdd, Nat.reduceSub, List.replicate, List.replicate_succ, List.replicate_zero]
  and_intros
  refine w_mulL (lst_of get_last) ⟨by omega, by omega, by decide⟩ ?_
  rw [zeros]
  refine w_newL (by rw [List.length_map, List.length_replicate]; exact Nat.le_trans (show (ks.length : Int).toNat ≤ 10 by omega) (by decide)) ?_
  and_intros
  refine w_mulL (lst_of get_last) ⟨by omega, by omega, by decide⟩ ?_
  rw [zeros]
  refine w_newL (by rw [List.length_map, List.length_replicate]; exact Nat.le_trans (show (hs.length : Int).toNat ≤ 10 by omega) (by decide)) ?_
  and_intros
  have J0 : WI S (S ++ [MBox.lst [Dt.int 0]]).length (S ++ [MBox.lst [Dt.int 0]] ++ [MBox.lst ((List.replicate (ks.length : Int).toNat 0).map Dt.int)] ++ [MBox.lst [Dt.int 0]]).length size hs.length
      (S ++ [MBox.lst [Dt.int 0]] ++ [MBox.lst ((List.replicate (ks.length : Int).toNat 0).map Dt.int)] ++ [MBox.lst [Dt.int 0]] ++ [MBox.lst ((List.replicate (hs.length : Int).toNat 0).map Dt.int)]) :=
    ⟨_, _, IL.pre (IL.pre (show IL _ _ _ from get_last) (List.prefix_append _ _)) (List.prefix_append _ _), get_last, by simp [hkl], by simp, fun i hi => by rw [List.eq_of_mem_replicate hi]; exact Int.le_refl _,
      ((List.prefix_append _ _).trans (List.prefix_append _ _)).trans ((List.prefix_append _ _).trans (List.prefix_append _ _))⟩
  have dd : S.length ≤ (S ++ [MBox.lst [Dt.int 0]]).length ∧ (S ++ [MBox.lst [Dt.int 0]]).length < (S ++ [MBox.lst [Dt.int 0]] ++ [MBox.lst ((List.replicate (ks.length : Int).toNat 0).map Dt.int)] ++ [MBox.lst [Dt.int 0]]).length := by
    simp only [List.length_append, List.length_cons, List.length_nil]; omega
  generalize (S ++ [MBox.lst [Dt.int 0]] ++ [MBox.lst ((List.replicate (ks.length : Int).toNat 0).map Dt.int)] ++ [MBox.lst [Dt.int 0]] ++ [MBox.lst ((List.replicate (hs.length : Int).toNat 0).map Dt.int)]) = S1 at J0 ⊢
  generalize (S ++ [MBox.lst [Dt.int 0]] ++ [MBox.lst ((List.replicate (ks.length : Int).toNat 0).map Dt.int)] ++ [MBox.lst [Dt.int 0]]).length = k at J0 dd ⊢
  generalize (S ++ [MBox.lst [Dt.int 0]]).length = l at J0 dd ⊢
  obtain ⟨_, _, _, _, _, _, _, p1⟩ := id J0
  refine ⟨_, _, _, _, rfl, hc S1 p1, rfl, ?_⟩
  refine w_loop (fun i σ S' => ∃ d4 d5 d6 d7 d8, σ = [some (.tup [.tup ks, .tup hs, .tup rs]), some cd, some (.box l), some (.box k), d4, d5, d6, d7, d8] ∧ WI S l k size hs.length S')
    (fun i σ S' ⟨_, _, _, _, _, _, _, _, _, _, _, _, _, p⟩ => ⟨hc S' p, rfl⟩) (fun i x σ S2 hx ⟨d4, d5, d6, d7, d8, e1, J⟩ => ?_) (fun σ S2 ⟨d4, d5, d6, d7, d8, e1, J⟩ => ?_) ⟨_, _, _, _, _, rfl, J0⟩
  · subst e1
    obtain ⟨x1, x2⟩ := x
    have hxz := List.of_mem_zip (List.mem_of_getElem? hx)
    obtain ⟨m, hmm, rfl⟩ := List.mem_map.mp hxz.1
    have m0 := hp m hmm
    obtain ⟨ts, us, h, R⟩ := hrr x2 hxz.2
    obtain ⟨rfl, tl, ul, tb, ub, tp, hh⟩ := R
    obtain ⟨ls, ks', i1, i2, i3, i4, i5, p2⟩ := J
    and_intros
    refine w_lenB i1.seq ?_
    and_intros
    refine ⟨⟨by rw [List.length_map, i3]; omega, by rw [List.length_map, i3]; omega⟩, ?_⟩
    refine w_loop (fun i σ S' => ∃ d8, σ = [some (.tup [.tup ks, .tup hs, .tup rs]), some cd, some (.box l), some (.box k), some (.int m), some (.tup (ts.map Dt.int)), some (.tup (us.map Dt.int)), some h, d8] ∧ WI S l k size hs.length S')
      (fun _ _ _ _ => trivial) (fun j y σ S3 hy ⟨d8, e1, J⟩ => ?_) (fun σ S3 ⟨d8, e1, J⟩ => ?_) ⟨_, rfl, ⟨ls, ks', i1, i2, i3, i4, i5, p2⟩⟩
    · subst e1
      have hy2 := rgD_get hy
      subst hy2
      have hjl : j < size := by
        have := (List.getElem?_eq_some_iff.mp hy).1
        rw [rgD_len, List.length_map, i3] at this
        omega
      obtain ⟨ls, ks', i1, i2, i3, i4, i5, p3⟩ := J
      obtain ⟨v, hv⟩ := idx_get (is := ls) (j := j) (by omega)
      obtain ⟨t, ht⟩ := idx_get (is := ts) (j := j) (by omega)
      obtain ⟨u, hu⟩ := idx_get (is := us) (j := j) (by omega)
      have tb' := tb t (List.mem_of_getElem? ht)
      have ub' := ub u (List.mem_of_getElem? hu)
      and_intros
      rw [Int.zero_add]
      refine w_getG (d := .int v) (lst_of i1) ⟨by omega, by omega⟩ (by rw [Int.toNat_natCast, List.getElem?_map, hv]; rfl) ?_
      and_intros
      refine w_ixT (atI_int ht) ?_
      and_intros
      refine w_ixT (atI_int hu) ?_
      and_intros
      refine w_mul (.small2 (by omega) (by omega)) ?_
      and_intros
      refine w_setG (j := j) (lst_of i1) (by rw [ixN_mk (by omega) (by rw [List.length_map]; omega), Int.toNat_natCast]) ?_
      refine .inl ⟨rfl, _, rfl, ls.set j (v + m * (t - u)), ks', i1.set (by rw [List.map_set]), i2.skip (by omega), by rw [List.length_set]; exact i3, i4, i5, pre_set p3 (by omega)⟩
    · subst e1
      obtain ⟨ls, ks', i1, i2, i3, i4, i5, p3⟩ := J
      refine c_nx ?_
      and_intros
      refine ⟨fun hn => ?_, fun _ => ?_⟩
      · rcases hh with rfl | hh
        · cases hn
        · rw [hz] at hh ⊢
          obtain ⟨z, hzz, rfl⟩ := List.mem_map.mp hh
          obtain ⟨j, sj, hj, _⟩ := strAt_mem hzz
          have hjl : j < hs.length := by rw [hz, List.length_map]; exact (List.getElem?_eq_some_iff.mp hj).1
          obtain ⟨v, hv⟩ := idx_get (is := ks') (j := j) (by omega)
          have v0 := i5 v (List.mem_of_getElem? hv)
          and_intros
          refine ⟨rfl, ?_⟩
          and_intros
          refine w_tindex sj ?_
          refine w_getG (d := .int v) (lst_of i2) ⟨by omega, by omega⟩ (by rw [Int.toNat_natCast, List.getElem?_map, hv]; rfl) ?_
          and_intros
          refine w_setG (j := j) (lst_of i2) (by rw [ixN_mk (by omega) (by rw [List.length_map]; omega), Int.toNat_natCast]) ?_
          refine .inl ⟨rfl, _, _, _, _, _, rfl, ls, ks'.set j (v + m), i1.skip (by omega), i2.set (by rw [List.map_set]), i3, by rw [List.length_set, ← hz]; exact i4, i5.set (by omega), pre_set p3 (by omega)⟩
      · and_intros
        exact .inl ⟨rfl, _, _, _, _, _, rfl, ls, ks', i1, i2, i3, i4, i5, p3⟩
  · subst e1
    obtain ⟨ls, ks', i1, i2, i3, i4, i5, p3⟩ := J
    and_intros
    refine w_tupB i1.seq ?_
    and_intros
    refine w_tupB i2.seq ?_
    and_intros
    refine ⟨Nat.le_of_ble_eq_true (by rfl), .inl ⟨_, rfl, ls, ks', rfl, i3, i4, i5, p3⟩⟩
end Lw
set_option Elab.async false
set_option linter.all false
set_option maxRecDepth 100000
set_option maxHeartbeats 4000000
namespace Lw
open PySem PySem.Spec PyProof.Rows L2 Mn
theorem atI_zero (d : Dt) (xs : List Dt) : atI (d :: xs) 0 = some d := by
  unfold atI
  rw [ixN_mk (Int.le_refl _) (by rw [List.length_cons]; omega)]; rfl
/-- the counts, drawn -/
def CI (S : Bxs) (b c many n : Nat) (cs : List Int) (S' : Bxs) : Prop := IL S' n cs ∧ cs.length = many ∧ Pos cs ∧ Bag S' b c ∧ Fr b S S' ∧ S.length ≤ n
theorem CI.step {S S1 S2 : Bxs} {b c many n : Nat} {cs : List Int} (h : CI S b c many n cs S1) (B : Bag S2 b c) (F : Fr b S1 S2) (hb : n ≠ b) : CI S b c many n cs S2 := ⟨h.1.fr F hb, h.2.1, h.2.2.1, B, h.2.2.2.2.1.trans F, h.2.2.2.2.2⟩
theorem planted_ok {S : Bxs} {b c : Nat} {w : Dt} {size : Nat} {ks hs rs : List Dt} {most : Int} (B : Bag S b c) (W : Works w size ks hs rs) (m0 : 0 ≤ most) (m1 : most ≤ 1000) :
    (F__law_planted [.box b, w, .int most] S).Wp (fun d S' => ∃ ls ks' cs : List Int, d = .tup [iv ls, iv ks', iv cs] ∧ ls.length = size ∧ ks'.length = hs.length ∧ cs.length = rs.length ∧ In 0 4 ls ∧ In 0 4 ks' ∧ Pos cs ∧ Bag S' b c ∧ Fr b S S') noX := by
  have qB := B.lt
  have ws1 := W.s1
  have ws0 := W.s0
  have wrl := W.rl
  have whl := W.hl
  have wrr := W.rr
  have wkl := W.kl
  have hwe := W.eq
  subst hwe
  refine w_body ?_
  unfold B__law_planted
  simp only [startD, List.map_cons, List.map_nil, List.length_cons, List.length_nil, List.cons_append, List.nil_append, Nat.reduceAdd, Nat.reduceSub, List.replicate, List.replicate_succ, List.replicate_zero]
  and_intros
  refine ⟨by decide, ?_⟩
  refine w_loop (fun i σ S' => ∃ d3 d4 d5 d6 d7 d8 d9 d10 d11 d12, σ = [some (.box b), some (.tup [.tup ks, .tup hs, .tup rs]), some (.int most), d3, d4, d5, d6, d7, d8, d9, d10, d11, d12] ∧ Bag S' b c ∧ Fr b S S')
    (fun _ _ _ _ => trivial) (fun i x σ S1 hx ⟨d3, d4, d5, d6, d7, d8, d9, d10, d11, d12, e1, B1, F1⟩ => ?_) (fun σ S1 ⟨d3, d4, d5, d6, d7, d8, d9, d10, d11, d12, e1, B1, F1⟩ => ?_) ⟨_, _, _, _, _, _, _, _, _, _, rfl, B, Fr.refl _ _⟩
  · subst e1
    clear hx
    have F1l := F1.len
    and_intros
    -- counts
    refine w_lcB (b := b) (c := c) ?_
    and_intros
    refine ⟨fun _ => true, fun (_ : Dt) d => ∃ i : Int, d = .int i ∧ 0 ≤ i, Nat.lt_of_le_of_lt wrl (by decide), B1, fun _ _ => rfl, fun x S' hx B' F' => ?_, fun ds S2 he hn B2 F2 => ?_⟩
    · and_intros
      refine w_yes ⟨rfl, fun z => (nomatch z), fun _ => ?_⟩
      and_intros
      exact (take_ok B' (by omega) (by omega)).mono (fun d S4 ⟨j, ed, j0, j1, B4, F4⟩ => ⟨⟨j, ed, j0⟩, B4, F4⟩) fun _ _ _ q => q
    rw [filter_yes] at he
    obtain ⟨cs, rfl, ecl, ecp⟩ := Each.ints (fun _ _ h => h) he
    have hC : CI S b c rs.length S1.length cs S2 := ⟨hn, ecl, ecp, B2, F1.trans F2, F1l⟩
    clear hn he ecl ecp
    and_intros
    refine ⟨by decide, ?_⟩
    refine w_loop (fun i σ S' => ∃ d5 d6 d7 d8 d9 d10 d11 d12 n cs, σ = [some (.box b), some (.tup [.tup ks, .tup hs, .tup rs]), some (.int most), some x, some (.box n), d5, d6, d7, d8, d9, d10, d11, d12] ∧ CI S b c rs.length n cs S')
      (fun _ _ _ _ => trivial) (fun i y σ S3 hy ⟨d5, d6, d7, d8, d9, d10, d11, d12, n, cs, e1, C⟩ => ?_) (fun σ S3 ⟨d5, d6, d7, d8, d9, d10, d11, d12, n, cs, e1, C⟩ => ?_) ⟨_, _, _, _, _, _, _, _, _, _, rfl, hC⟩
    · subst e1
      obtain ⟨ci, cl, cp, B3, F3, cn⟩ := C
      have hnb : n ≠ b := by omega
      have hnc : n ≠ c := by omega
      and_intros
      refine (wants_ok (cd := .box n) W (cs := cs) (fun S' p => (seq_lst (get_pre p ci))) cp).mono (fun d S4 ⟨ls, ks', ed, hll, hkl, hkp, p4⟩ => ?_) fun _ _ _ q => q
      subst ed
      have B4 := B3.pre p4
      have F4 := F3.trans (Fr.pre (b := b) p4)
      have ci4 : IL S4 n cs := ci.pre p4
      and_intros
      -- bad
      refine w_lcPA ?_
      and_intros
      rw [List.length_map]
      refine ⟨⟨by omega, by omega⟩, fun d => ∃ j : Int, d = .int j ∧ 0 ≤ j ∧ j < size, by rw [rgD_len]; exact Nat.lt_of_le_of_lt (show (ls.length : Int).toNat ≤ 10 by omega) (by decide), fun _ _ => trivial, fun z S' hz hS' => ?_, fun ds S5 hl5 hall hn5 p5 => ?_⟩
      · obtain ⟨j, hj⟩ := List.mem_iff_getElem?.mp hz
        have hz2 := rgD_get hj
        subst hz2
        have hjl : j < ls.length := by
          have := (List.getElem?_eq_some_iff.mp hj).1
          rw [rgD_len] at this
          omega
        obtain ⟨v, hv⟩ := idx_get hjl
        and_intros
        rw [Int.zero_add]
        refine w_ixT (atI_int hv) ?_
        and_intros
        refine ⟨fun _ => List.prefix_refl _, fun _ => ?_⟩
        and_intros
        exact ⟨⟨_, rfl, by omega, by omega⟩, List.prefix_refl _⟩
      obtain ⟨bad, rfl, hbad⟩ := ints_of_all hall
      clear hall
      have B5 := B4.pre p5
      have F5 := F4.trans (Fr.pre (b := b) p5)
      have ci5 : IL S5 n cs := ci4.pre p5
      have hbl : bad.length ≤ 10 := by
        have : (bad.map Dt.int).length ≤ (rgD 0 (ls.length : Int).toNat).length := hl5
        rw [List.length_map, rgD_len] at this
        omega
      have smb : ∀ d ∈ bad.map Dt.int, Sm 59 d 30 := sm_ints fun i hi => by have := hbad i hi; omega
      generalize hS4 : S4.length = m at hn5
      have hmn : m ≠ n := by have := get_lt ci4; omega
      have hmS : S.length ≤ m := by have := F4.len; omega
      and_intros
      -- takers
      refine w_lcPA ?_
      and_intros
      refine w_lenB ci5.seq ?_
      and_intros
      rw [List.length_map]
      have rec_at : ∀ {j : Nat}, j < cs.length → ∃ ts us h, Recipe size hs rs[j]! ts us h ∧ rs[j]? = some rs[j]! := fun {j} hj => by
        have hj' : j < rs.length := by omega
        have e : rs[j]? = some rs[j]! := by rw [List.getElem?_eq_getElem hj', getElem!_pos rs j hj']
        obtain ⟨ts, us, h, R⟩ := wrr _ (List.mem_of_getElem? e)
        exact ⟨ts, us, h, R, e⟩
      have at_nat : ∀ {xs : List Dt} {j : Nat} {d : Dt}, xs[j]? = some d → atI xs (j : Int) = some d := fun {xs j d} h => by
        have hl : j < xs.length := (List.getElem?_eq_some_iff.mp h).1
        unfold atI
        rw [ixN_mk (by omega) (by omega)]
        show xs[(j : Int).toNat]? = _
        rw [Int.toNat_natCast, h]
      refine ⟨⟨by omega, by omega⟩, fun d => ∃ j : Int, d = .int j ∧ 0 ≤ j ∧ j < rs.length, by rw [rgD_len]; exact Nat.lt_of_le_of_lt (show (cs.length : Int).toNat ≤ 10 by omega) (by decide), fun _ _ => trivial, fun z S' hz hS' => ?_, fun ds S6 hl6 hall hn6 p6 => ?_⟩
      · obtain ⟨j, hj⟩ := List.mem_iff_getElem?.mp hz
        have hz2 := rgD_get hj
        subst hz2
        have hjl : j < cs.length := by
          have := (List.getElem?_eq_some_iff.mp hj).1
          rw [rgD_len] at this
          omega
        have hm' : Bxs.seq (S' ++ [MBox.lst []]) m = some (bad.map Dt.int) := seq_lst (get_pre (hS'.trans (List.prefix_append _ _)) hn5)
        and_intros
        refine w_neNil hm' (seq_lst get_last) smb ?_
        refine ⟨_, rfl, fun hb => ?_, fun _ => ⟨fun _ => List.prefix_append _ _, fun z => (nomatch z)⟩⟩
        cases bad with
        | nil => cases hb
        | cons b0 br =>
          have hb0 := hbad b0 List.mem_cons_self
          obtain ⟨ts, us, h, R, er⟩ := rec_at hjl
          obtain ⟨t, ht⟩ := idx_get (is := ts) (j := b0.toNat) (by rw [R.tl]; omega)
          and_intros
          and_intros
          rw [Int.zero_add]
          refine w_ixT (at_nat er) ?_
          rw [R.eq]
          and_intros
          refine w_ixB hm' (atI_zero _ _) ?_
          have hb0' : b0 = ((b0.toNat : Nat) : Int) := by omega
          rw [hb0']
          refine w_ixT (atI_int ht) ?_
          and_intros
          refine ⟨fun _ => List.prefix_append _ _, fun _ => ?_⟩
          and_intros
          exact ⟨⟨_, rfl, by omega, by omega⟩, List.prefix_append _ _⟩
      obtain ⟨tk, rfl, htk⟩ := ints_of_all hall
      clear hall
      have B6 := B5.pre p6
      have F6 := F5.trans (Fr.pre (b := b) p6)
      have ci6 : IL S6 n cs := ci5.pre p6
      have hm6 : S6[m]? = some (.lst (bad.map Dt.int)) := get_pre p6 hn5
      have smt : ∀ d ∈ tk.map Dt.int, Sm 59 d 30 := sm_ints fun i hi => by have := htk i hi; omega
      have htl : tk.length ≤ 10 := by
        have : (tk.map Dt.int).length ≤ (rgD 0 (cs.length : Int).toNat).length := hl6
        rw [List.length_map, rgD_len] at this
        omega
      generalize hS5 : S5.length = q at hn6
      have hqS : S.length ≤ q := by have := F5.len; omega
      and_intros
      have p7 := List.prefix_append S6 [MBox.lst []]
      refine w_neNil (seq_lst (get_pre p7 hn6)) (seq_lst get_last) smt ?_
      have keep : ∀ S9 : Bxs, S6 <+: S9 → CI S b c rs.length n cs S9 := fun S9 p => ⟨ci6.pre p, cl, cp, B6.pre p, F6.trans (Fr.pre p), cn⟩
      refine ⟨_, rfl, fun ht => ?_, fun ht => ?_⟩
      · cases tk with
        | nil => cases ht
        | cons t0 tr =>
          and_intros
          refine (one_ok (B6.pre p7) (seq_lst (get_pre p7 hn6)) (by omega) (fun z => nomatch z) (by rw [List.length_map]; omega)).mono (fun d S8 ⟨hd, B8, F8⟩ => ?_) fun _ _ _ q => q
          obtain ⟨t, htm, rfl⟩ := List.mem_map.mp hd
          have ht' := htk t htm
          have ci8 : IL S8 n cs := (ci6.pre p7).fr F8 hnb
          obtain ⟨v, hv⟩ := idx_get (is := cs) (j := t.toNat) (by omega)
          have v0 := cp v (List.mem_of_getElem? hv)
          refine w_getG (d := .int v) (lst_of ci8) ⟨by omega, by omega⟩ (by rw [List.getElem?_map, hv]; rfl) ?_
          and_intros
          refine w_setG (j := t.toNat) (lst_of ci8) (ixN_mk (by omega) (by rw [List.length_map]; omega)) ?_
          refine .inl ⟨rfl, _, _, _, _, _, _, _, _, n, cs.set t.toNat (v + 1), rfl, ci8.set (by rw [List.map_set]), by rw [List.length_set]; exact cl, cp.set (by omega), B8.own hnb hnc, ((F6.trans (Fr.pre p7)).trans F8).own cn, cn⟩
      · and_intros
        have p8 : S6 <+: (S6 ++ [MBox.lst []]) ++ [MBox.lst []] := p7.trans (List.prefix_append _ _)
        refine w_neNil (seq_lst (get_pre p8 hm6)) (seq_lst get_last) smb ?_
        refine ⟨_, rfl, fun hb => ?_, fun _ => ?_⟩
        · cases bad with
          | nil => cases hb
          | cons b0 br =>
            have hb0 := hbad b0 List.mem_cons_self
            and_intros
            refine w_lcP ?_
            and_intros
            refine w_lenB (seq_lst (get_pre p8 ci6)) ?_
            and_intros
            rw [List.length_map]
            refine ⟨⟨by omega, by omega⟩, fun _ => true, fun (_ : Dt) d => ∃ j : Int, d = .int j ∧ 0 ≤ j, by rw [rgD_len]; exact Nat.lt_of_le_of_lt (show (cs.length : Int).toNat ≤ 10 by omega) (by decide), fun _ _ => trivial, fun z S' hz hS' => ?_, fun ds S9 he hn9 p9 => ?_⟩
            · obtain ⟨j, hj⟩ := List.mem_iff_getElem?.mp hz
              have hz2 := rgD_get hj
              subst hz2
              have hjl : j < cs.length := by
                have := (List.getElem?_eq_some_iff.mp hj).1
                rw [rgD_len] at this
                omega
              obtain ⟨ts, us, h, R, er⟩ := rec_at hjl
              obtain ⟨u, hu⟩ := idx_get (is := us) (j := b0.toNat) (by rw [R.ul]; omega)
              obtain ⟨v, hv⟩ := idx_get (is := cs) (j := j) hjl
              have v0 := cp v (List.mem_of_getElem? hv)
              and_intros
              refine w_yes ⟨rfl, fun z => (nomatch z), fun _ => ?_⟩
              and_intros
              and_intros
              rw [Int.zero_add]
              refine w_ixT (at_nat er) ?_
              rw [R.eq]
              and_intros
              refine w_ixB (seq_lst (get_pre (p8.trans hS') hm6)) (atI_zero _ _) ?_
              have hb0' : b0 = ((b0.toNat : Nat) : Int) := by omega
              rw [hb0']
              refine w_ixT (atI_int hu) ?_
              and_intros
              refine ⟨fun _ => ?_, fun _ => ?_⟩
              · and_intros
                exact ⟨⟨0, rfl, Int.le_refl _⟩, List.prefix_refl _⟩
              · and_intros
                refine w_ixB (seq_lst (get_pre (p8.trans hS') ci6)) (atI_int hv) ?_
                exact ⟨⟨v, rfl, v0⟩, List.prefix_refl _⟩
            · rw [filter_yes] at he
              obtain ⟨cs', rfl, ecl, ecp⟩ := Each.ints (fun _ _ h => h) he
              rw [rgD_len] at ecl
              have pp := p8.trans p9
              refine .inl ⟨rfl, _, _, _, _, _, _, _, _, _, cs', rfl, hn9, by omega, ecp, B6.pre pp, F6.trans (Fr.pre pp), ?_⟩
              have := F6.len
              have := p8.length_le
              omega
        · and_intros
          exact .inl ⟨rfl, _, _, _, _, _, _, _, _, n, cs, rfl, keep _ p8⟩
    · subst e1
      obtain ⟨ci, cl, cp, B3, F3, cn⟩ := C
      refine c_nx ?_
      and_intros
      refine (wants_ok (cd := .box n) W (cs := cs) (fun S' p => (seq_lst (get_pre p ci))) cp).mono (fun d S4 ⟨ls, ks', ed, hll, hkl, hkp, p4⟩ => ?_) fun _ _ _ q => q
      subst ed
      have hlne : ls ≠ [] := fun z => by rw [z] at hll; simp at hll; omega
      have ci4 : IL S4 n cs := ci.pre p4
      and_intros
      refine w_minT hlne ?_
      and_intros
      refine ⟨fun h0 => ?_, fun _ => ?_⟩
      · and_intros
        have ea : addG (iv ls) (iv ks') S4 = .ok (iv (ls ++ ks')) S4 := by
          show (if _ then Rs.ok _ _ else _) = _
          rw [if_pos (by rw [List.length_map, List.length_map]; exact Nat.le_trans (show ls.length + ks'.length ≤ 20 by omega) (by decide)), ← List.map_append]
        refine .of ea ?_
        and_intros
        refine w_maxT (fun z => hlne (List.append_eq_nil_iff.mp z).1) ?_
        and_intros
        refine ⟨fun h4 => ?_, fun _ => ?_⟩
        · and_intros
          refine w_tupB ci4.seq ?_
          and_intros
          have h0' : 0 ≤ minI ls := of_decide_eq_true h0
          have h4' : maxI (ls ++ ks') ≤ 4 := of_decide_eq_true h4
          refine ⟨Nat.le_of_ble_eq_true (by rfl), .inr ⟨_, rfl, ⟨(fun z => nomatch z), fun _ => .inl ⟨_, rfl, ls, ks', cs, rfl, hll, hkl, cl, fun i hi => ?_, fun i hi => ?_, cp, B3.pre p4, F3.trans (Fr.pre p4)⟩⟩⟩⟩
          · have := minI_le hi
            have := maxI_ge (List.mem_append_left ks' hi)
            omega
          · have := hkp i hi
            have := maxI_ge (List.mem_append_right ls hi)
            omega
        · and_intros
          exact .inl ⟨rfl, _, _, _, _, _, _, _, _, _, _, rfl, B3.pre p4, F3.trans (Fr.pre p4)⟩
      · and_intros
        refine ⟨fun z => absurd z Bool.false_ne_true, fun _ => ?_⟩
        and_intros
        exact .inl ⟨rfl, _, _, _, _, _, _, _, _, _, _, rfl, B3.pre p4, F3.trans (Fr.pre p4)⟩
  · subst e1
    and_intros
    refine (nothing_ok W).mono (fun d S2 ⟨ed, e2⟩ => ?_) fun _ _ _ q => q
    subst ed
    subst e2
    and_intros
    and_intros
    refine ⟨Nat.le_of_ble_eq_true (by rfl), ?_⟩
    and_intros
    refine w_mulT0 (by omega) ?_
    and_intros
    refine ⟨Nat.le_of_ble_eq_true (by rfl), ?_⟩
    and_intros
    refine w_mulT0 (by omega) ?_
    and_intros
    have z4 : ∀ n, Mn.In 0 4 (List.replicate n 0) := fun n => In.rep ⟨by decide, by decide⟩ n
    refine ⟨Nat.le_of_ble_eq_true (by rfl), .inl ⟨_, rfl, _, _, _, rfl, List.length_replicate, List.length_replicate, List.length_replicate, z4 _, z4 _, fun i hi => (z4 _ i hi).1, B1, F1⟩⟩
end Lw
set_option Elab.async false
set_option linter.all false
set_option maxRecDepth 100000
set_option maxHeartbeats 4000000
namespace Mn
open PySem PySem.Spec PyProof.Rows L2
section
variable {σ : Sg} {S : Bxs} {E : Nat → List Dt → Bxs → Prop}
theorem w_listR2 {f g : FE} {P : Dt → Bxs → Prop} (h : (f σ S).Wp (fun d S1 => (g σ S1).Wp (fun e S2 => ∃ i j : Int, d = .int i ∧ e = .int j ∧ inR i ∧ inR j ∧ (j - i).toNat ≤ 100000 ∧ (newL (rgD i (j - i).toNat) S2).Wp P E) E) E) : (dListR2 f g σ S).Wp P E :=
  w_bind (h.mono (fun d S1 q0 => w_bind (q0.mono (fun e S2 ⟨i, j, e1, e2, c1, c2, c3, q⟩ => by
    subst e1; subst e2
    show (if inR i ∧ inR j ∧ (j - i).toNat ≤ 100000 then newL (rgD i (j - i).toNat) S2 else .no).Wp P E
    rw [if_pos ⟨c1, c2, c3⟩]; exact q) fun _ _ _ q => q)) fun _ _ _ q => q)
theorem w_listZip {f : FA} {P : Dt → Bxs → Prop} (h : (f σ S).Wp (fun ds S1 => ∃ m n xs ys, ds = [.box m, .box n] ∧ S1.seq m = some xs ∧ S1.seq n = some ys ∧ xs.length < LIM ∧ (newL ((xs.zip ys).map fun (p : Dt × Dt) => Dt.tup [p.1, p.2]) S1).Wp P E) E) : (dListZip f σ S).Wp P E :=
  w_bind (h.mono (fun ds S1 ⟨m, n, xs, ys, e, e1, e2, c, q⟩ => by
    subst e
    show (match S1.seq m, S1.seq n with
    | some xs, some ys => if xs.length < LIM then newL ((xs.zip ys).map fun (p : Dt × Dt) => Dt.tup [p.1, p.2]) S1 else .no
    | _, _ => .no).Wp P E
    rw [e1, e2]
    show (if xs.length < LIM then newL ((xs.zip ys).map fun (p : Dt × Dt) => Dt.tup [p.1, p.2]) S1 else .no).Wp P E
    rw [if_pos c]; exact q) fun _ _ _ q => q)
theorem w_newD {P : Dt → Bxs → Prop} (h : P (.box S.length) (S ++ [.dk []])) : (dNewD σ S).Wp P E := ⟨h⟩
theorem w_srcR2 {f : FA} {P : List Dt × (Bxs → Prop) → Bxs → Prop} (h : (f σ S).Wp (fun ds S1 => ∃ i j, ds = [.int i, .int j] ∧ inR i ∧ inR j ∧ P (rgD i (j - i).toNat, fun _ => True) S1) E) : (srcR2 f σ S).Wp P E :=
  w_bind (h.mono (fun d S1 ⟨i, j, e, c1, c2, q⟩ => by subst e; show (if inR i ∧ inR j then Rs.ok (rgD i (j - i).toNat, fun _ => True) S1 else .no).Wp P E; rw [if_pos ⟨c1, c2⟩]; exact ⟨q⟩) fun _ _ _ q => q)
theorem atI_last {xs : List Dt} (h : xs ≠ []) : ∃ d ∈ xs, atI xs (-1) = some d := by
  have hl : 0 < xs.length := List.length_pos_iff.mpr h
  refine ⟨xs[xs.length - 1], List.getElem_mem _, ?_⟩
  unfold atI ixN
  rw [if_neg (by omega), if_pos (by omega)]
  show xs[_]? = _
  rw [List.getElem?_eq_getElem (by omega)]
  congr 2
  omega
theorem at_nat {xs : List Dt} {j : Nat} {d : Dt} (h : xs[j]? = some d) : atI xs (j : Int) = some d := by
  have hl : j < xs.length := (List.getElem?_eq_some_iff.mp h).1
  unfold atI
  rw [ixN_mk (by omega) (by omega)]
  show xs[(j : Int).toNat]? = _
  rw [Int.toNat_natCast, h]
theorem at_int {xs : List Dt} {i : Int} {d : Dt} (h0 : 0 ≤ i) (h : xs[i.toNat]? = some d) : atI xs i = some d := by
  have := at_nat h
  rwa [Int.toNat_of_nonneg h0] at this
end
end Mn
namespace Lw
open PySem PySem.Spec PyProof.Rows L2 Mn
/-- ints from 0 on, below -/
def OI (pl : Int) (x : Dt) : Prop := ∃ i : Int, x = .int i ∧ 0 ≤ i ∧ i < pl
def OP (pl : Int) (x : Dt) : Prop := ∃ s t : Int, x = .tup [.int s, .int t] ∧ 0 ≤ s ∧ s < pl ∧ 0 ≤ t ∧ t < pl
theorem links_ok {S : Bxs} {b c : Nat} {pl more : Int} (B : Bag S b c) (p0 : 1 ≤ pl) (p1 : pl ≤ 10) (m0 : 0 ≤ more) (m1 : more ≤ 20) :
    (F__law_links [.box b, .int pl, .int more] S).Wp (fun d S' => ∃ r ys, d = .box r ∧ S.length ≤ r ∧ S'[r]? = some (.lst ys) ∧ ys.length ≤ 40 ∧ (∀ y ∈ ys, OP pl y) ∧ Bag S' b c ∧ Fr b S S') noX := by
  have qB := B.lt
  refine w_body ?_
  unfold B__law_links
  simp only [startD, List.map_cons, List.map_nil, List.length_cons, List.length_nil, List.cons_append, List.nil_append, Nat.reduceAdd, Nat.reduceSub, List.replicate, List.replicate_succ, List.replicate_zero]
  and_intros
  refine w_listR2 ?_
  and_intros
  refine ⟨1, pl, rfl, rfl, ⟨by decide, by decide⟩, ⟨by omega, by omega⟩, by omega, ?_⟩
  have hrl : (rgD 1 (pl - 1).toNat).length ≤ 10 := by rw [rgD_len]; omega
  refine w_newL (Nat.le_trans hrl (by decide)) ?_
  and_intros
  have hin : ∀ x ∈ rgD 1 (pl - 1).toNat, OI pl x := fun x hx => by
    obtain ⟨j, hj⟩ := List.mem_iff_getElem?.mp hx
    have e := rgD_get hj
    have := (List.getElem?_eq_some_iff.mp hj).1
    rw [rgD_len] at this
    exact ⟨_, e, by omega, by omega⟩
  refine (mixed_ok (t := (S ++ [MBox.lst [Dt.int 0]]).length) (xs := rgD 1 (pl - 1).toNat) B.app.app (seq_lst get_last) (by simp; omega) (by omega)).mono (fun d S1 ⟨r, ys, ed, hr, e1, pm, B1, F1⟩ => ?_) fun _ _ _ q => q
  subst ed
  have F01 := ((Fr.refl b S).app (x := .lst [Dt.int 0])).app (x := .lst (rgD 1 (pl - 1).toNat)) |>.trans F1
  have e0 : S1[S.length]? = some (.lst [Dt.int 0]) := F1.at_ (get_pre (List.prefix_append _ _) get_last) (by omega)
  refine w_addL (lst_of e0) (lst_of e1) ?_
  have hyl : ys.length ≤ 10 := by rw [pm.length_eq]; exact hrl
  refine w_newL (by rw [List.length_append]; exact Nat.le_trans (show 1 + ys.length ≤ 20 by omega) (by decide)) ?_
  have hO : ∀ x ∈ [Dt.int 0] ++ ys, OI pl x := fun x hx => by
    rcases List.mem_append.mp hx with z | z
    · rw [List.mem_singleton.mp z]; exact ⟨0, rfl, by omega, by omega⟩
    · exact hin x (pm.mem_iff.mp z)
  have hOl : ([Dt.int 0] ++ ys).length ≤ 11 := by simp; omega
  have hOn : [Dt.int 0] ++ ys ≠ [] := fun z => nomatch z
  have B2 := B1.app (x := .lst ([Dt.int 0] ++ ys))
  have F2 := F01.app (x := .lst ([Dt.int 0] ++ ys))
  have eo : (S1 ++ [MBox.lst ([Dt.int 0] ++ ys)])[S1.length]? = some (.lst ([Dt.int 0] ++ ys)) := get_last
  have q1 := F01.len
  generalize [Dt.int 0] ++ ys = os at hO hOl hOn B2 F2 eo ⊢
  generalize S1 ++ [MBox.lst os] = S2 at B2 F2 eo ⊢
  generalize S1.length = o at eo q1 ⊢
  have hob : o ≠ b := by omega
  and_intros
  refine w_listZip ?_
  and_intros
  refine w_slB (seq_lst eo) ?_
  have hcl := cutD_length os (some 1) none
  have hcm : ∀ x ∈ Mn.cutD os (some 1) none, OI pl x := fun x hx => by
    unfold Mn.cutD at hx
    exact hO x (List.mem_of_mem_drop (List.mem_of_mem_take hx))
  refine w_newL (Nat.le_trans hcl (Nat.le_trans hOl (by decide))) ?_
  and_intros
  refine ⟨_, _, _, _, rfl, seq_lst (get_pre (List.prefix_append _ _) eo), seq_lst get_last, Nat.lt_of_le_of_lt hOl (by decide), ?_⟩
  have hzl : ((os.zip (Mn.cutD os (some 1) none)).map fun (p : Dt × Dt) => Dt.tup [p.1, p.2]).length ≤ 11 := by rw [List.length_map, List.length_zip]; omega
  have hzm : ∀ x ∈ (os.zip (Mn.cutD os (some 1) none)).map (fun (p : Dt × Dt) => Dt.tup [p.1, p.2]), OP pl x := fun x hx => by
    obtain ⟨⟨x1, x2⟩, hp, rfl⟩ := List.mem_map.mp hx
    have hz := List.of_mem_zip hp
    obtain ⟨s, rfl, s0, s1⟩ := hO _ hz.1
    obtain ⟨t, rfl, t0, t1⟩ := hcm _ hz.2
    exact ⟨s, t, rfl, s0, s1, t0, t1⟩
  generalize (os.zip (Mn.cutD os (some 1) none)).map (fun (p : Dt × Dt) => Dt.tup [p.1, p.2]) = zs at hzl hzm ⊢
  refine w_newL (Nat.le_trans hzl (by decide)) ?_
  have B3 := (B2.app (x := .lst (Mn.cutD os (some 1) none))).app (x := .lst zs)
  have F3 := (F2.app (x := .lst (Mn.cutD os (some 1) none))).app (x := .lst zs)
  have eo3 : (S2 ++ [MBox.lst (Mn.cutD os (some 1) none)] ++ [MBox.lst zs])[o]? = some (.lst os) := get_pre (List.prefix_append _ _) (get_pre (List.prefix_append _ _) eo)
  have ez3 : (S2 ++ [MBox.lst (Mn.cutD os (some 1) none)] ++ [MBox.lst zs])[(S2 ++ [MBox.lst (Mn.cutD os (some 1) none)]).length]? = some (.lst zs) := get_last
  have q3 : S.length ≤ (S2 ++ [MBox.lst (Mn.cutD os (some 1) none)]).length := (F2.app (x := .lst (Mn.cutD os (some 1) none))).len
  generalize S2 ++ [MBox.lst (Mn.cutD os (some 1) none)] ++ [MBox.lst zs] = S3 at B3 F3 eo3 ez3 ⊢
  generalize (S2 ++ [MBox.lst (Mn.cutD os (some 1) none)]).length = zb at ez3 q3 ⊢
  and_intros
  obtain ⟨dl, hdl, hat⟩ := atI_last hOn
  refine w_ixB (seq_lst eo3) hat ?_
  and_intros
  refine (one_ok B3 (seq_lst eo3) hob hOn (by omega)).mono (fun d S4 ⟨hd, B4, F4⟩ => ?_) fun _ _ _ q => q
  obtain ⟨s, rfl, s0, s1⟩ := hO _ hdl
  obtain ⟨t, rfl, t0, t1⟩ := hO _ hd
  and_intros
  refine ⟨Nat.le_of_ble_eq_true (by rfl), ?_⟩
  and_intros
  have ez4 : (S4 ++ [MBox.lst [Dt.tup [Dt.int s, Dt.int t]]])[zb]? = some (.lst zs) := get_pre (List.prefix_append _ _) (F4.at_ ez3 (by omega))
  refine w_addL (lst_of ez4) (lst_of get_last) ?_
  refine w_newL (by rw [List.length_append]; exact Nat.le_trans (show zs.length + 1 ≤ 20 by omega) (by decide)) ?_
  and_intros
  have F4' := ((F3.trans F4).app (x := .lst [Dt.tup [Dt.int s, Dt.int t]])).app (x := .lst (zs ++ [Dt.tup [Dt.int s, Dt.int t]]))
  have B4' := (B4.app (x := .lst [Dt.tup [Dt.int s, Dt.int t]])).app (x := .lst (zs ++ [Dt.tup [Dt.int s, Dt.int t]]))
  refine (take_ok B4' (by omega) (by omega)).mono (fun d S5 ⟨k, ed, k0, k1, B5, F5⟩ => ?_) fun _ _ _ q => q
  subst ed
  have q5 : S.length ≤ (S4 ++ [MBox.lst [Dt.tup [Dt.int s, Dt.int t]]]).length := ((F3.trans F4).app (x := .lst [Dt.tup [Dt.int s, Dt.int t]])).len
  have ef5 : S5[(S4 ++ [MBox.lst [Dt.tup [Dt.int s, Dt.int t]]]).length]? = some (.lst (zs ++ [Dt.tup [Dt.int s, Dt.int t]])) := F5.at_ get_last (by omega)
  have hfm : ∀ x ∈ zs ++ [Dt.tup [Dt.int s, Dt.int t]], OP pl x := fun x hx => by
    rcases List.mem_append.mp hx with z | z
    · exact hzm x z
    · rw [List.mem_singleton.mp z]; exact ⟨s, t, rfl, s0, s1, t0, t1⟩
  have hfl : (zs ++ [Dt.tup [Dt.int s, Dt.int t]]).length ≤ 12 := by simp; omega
  generalize zs ++ [Dt.tup [Dt.int s, Dt.int t]] = fs at ef5 hfm hfl
  generalize (S4 ++ [MBox.lst [Dt.tup [Dt.int s, Dt.int t]]]).length = f at ef5 q5 ⊢
  have F05 := F4'.trans F5
  have hfb : f ≠ b := by omega
  have hfc : f ≠ c := by omega
  and_intros
  refine ⟨⟨by omega, by omega⟩, ?_⟩
  refine w_loop (fun i σ S' => ∃ d5 fs, σ = [some (.box b), some (.int pl), some (.int more), some (.box o), some (.box f), d5] ∧ S'[f]? = some (.lst fs) ∧ fs.length ≤ 12 + i ∧ (∀ x ∈ fs, OP pl x) ∧ Bag S' b c ∧ Fr b S S')
    (fun _ _ _ _ => trivial) (fun i x σ S6 hx ⟨d5, fs, e, ef, hl, hm, B6, F6⟩ => ?_) (fun σ S6 ⟨d5, fs, e, ef, hl, hm, B6, F6⟩ => ?_) ⟨_, fs, rfl, ef5, hfl, hfm, B5, F05⟩
  · subst e
    have hik : i < 21 := by
      have := (List.getElem?_eq_some_iff.mp hx).1
      rw [rgD_len] at this
      omega
    and_intros
    refine ⟨ty_list ef, ?_⟩
    and_intros
    refine (take_ok B6 (by omega) (by omega)).mono (fun d S7 ⟨u, ed, u0, u1, B7, F7⟩ => ?_) fun _ _ _ q => q
    subst ed
    and_intros
    refine (take_ok B7 (by omega) (by omega)).mono (fun d S8 ⟨v, ed, v0, v1, B8, F8⟩ => ?_) fun _ _ _ q => q
    subst ed
    and_intros
    refine ⟨Nat.le_of_ble_eq_true (by rfl), ?_⟩
    and_intros
    have F78 := F7.trans F8
    refine w_append (lst_of (F78.at_ ef hfb)) (Nat.lt_of_le_of_lt (show fs.length ≤ 40 by omega) (by decide)) ?_
    refine .inl ⟨rfl, _, fs ++ [Dt.tup [.int u, .int v]], rfl, List.getElem?_set_self (get_lt (F78.at_ ef hfb)), by rw [List.length_append]; simp; omega, fun x hx => ?_, B8.own hfb hfc, (F6.trans F78).own q5⟩
    rcases List.mem_append.mp hx with z | z
    · exact hm x z
    · rw [List.mem_singleton.mp z]; exact ⟨u, v, rfl, u0, u1, v0, v1⟩
  · subst e
    rw [rgD_len] at hl
    refine c_nx ?_
    and_intros
    refine (mixed_ok B6 (seq_lst ef) hfb (by omega)).mono (fun d S7 ⟨r, ys, ed, hr, e7, pm, B7, F7⟩ => ?_) fun _ _ _ q => q
    subst ed
    have := F6.len
    exact .inl ⟨_, rfl, r, ys, rfl, by omega, e7, by rw [pm.length_eq]; omega, fun y hy => hm y (pm.mem_iff.mp hy), B7, F6.trans F7⟩
end Lw
set_option Elab.async false
set_option linter.all false
set_option maxRecDepth 100000
set_option maxHeartbeats 4000000
namespace Mn
open PySem PySem.Spec PyProof.Rows L2
theorem zw_get {f : Int → Int → Int} {xs ys : List Int} {i : Nat} {v : Int} (h : (zw f xs ys)[i]? = some v) : ∃ x y, xs[i]? = some x ∧ ys[i]? = some y ∧ v = f x y := by
  unfold zw at h
  rw [List.getElem?_map] at h
  cases e : (xs.zip ys)[i]? with
  | none => rw [e] at h; cases h
  | some p =>
    rw [e] at h
    have := List.getElem?_zip_eq_some.mp e
    exact ⟨p.1, p.2, this.1, this.2, (Option.some.inj h).symm⟩
theorem In.of_get {lo hi : Int} {is : List Int} (h : ∀ (i : Nat) v, is[i]? = some v → lo ≤ v ∧ v ≤ hi) : In lo hi is := fun v hv => by
  obtain ⟨i, hi⟩ := List.mem_iff_getElem?.mp hv
  exact h i v hi
/-- from 0 on, at most so much, item by item -/
structure Le (xs ys : List Int) : Prop where
  len : xs.length = ys.length
  get : ∀ (i : Nat) x y, xs[i]? = some x → ys[i]? = some y → 0 ≤ x ∧ x ≤ y
theorem Le.at_ {xs ys : List Int} (h : Le xs ys) {i : Nat} {x : Int} (e : xs[i]? = some x) : ∃ y, ys[i]? = some y ∧ 0 ≤ x ∧ x ≤ y := by
  have hl := (List.getElem?_eq_some_iff.mp e).1
  have hl' : i < ys.length := by rw [← h.len]; exact hl
  exact ⟨ys[i], List.getElem?_eq_getElem hl', h.get i x _ e (List.getElem?_eq_getElem hl')⟩
theorem Le.zeros {ys : List Int} (h : In 0 4 ys) : Le (List.replicate ys.length 0) ys :=
  ⟨List.length_replicate, fun i x y hx hy => by
    rw [List.getElem?_replicate] at hx
    split at hx
    · cases hx; have := h.get hy; omega
    · cases hx⟩
end Mn
namespace Lw
open PySem PySem.Spec PyProof.Rows L2 Mn
structure Arw (pl : Int) (size hl : Nat) (d : Dt) (s t : Int) (lot crew : List Int) : Prop where
  eq : d = .tup [.int s, .int t, iv lot, iv crew]
  s0 : 0 ≤ s
  s1 : s < pl
  t0 : 0 ≤ t
  t1 : t < pl
  ll : lot.length = size
  cl : crew.length = hl
  lb : Mn.In 0 9 lot
  cb : Mn.In 0 9 crew
structure Snd (size hl : Nat) (d : Dt) (pl : Int) (as : List Dt) : Prop where
  eq : d = .tup [.int pl, .tup as]
  p0 : 1 ≤ pl
  p1 : pl ≤ 10
  al : as.length ≤ 40
  ar : ∀ a ∈ as, ∃ s t lot crew, Arw pl size hl a s t lot crew
/-- a place's mark -/
def Mk (tl tc : List Int) (d : Dt) : Prop := ∃ l c : List Int, d = .tup [iv l, iv c] ∧ Le l tl ∧ Le c tc
theorem arrow_ok {S : Bxs} {w x3 : Dt} {mb : Nat} {tl tc : List Int} {ms : List Dt} {pl s t : Int} (ht : Mn.In 0 4 tl) (hc : Mn.In 0 4 tc) (hne : tl ≠ []) (l1 : tl.length ≤ 10) (l2 : tc.length ≤ 10)
    (em : S[mb]? = some (.lst ms)) (hm : ∀ m ∈ ms, Mk tl tc m) (hml : (ms.length : Int) = pl) (s0 : 0 ≤ s) (s1 : s < pl) (t0 : 0 ≤ t) (t1 : t < pl) :
    (F__law_arrow [w, .int s, .int t, .tup [iv tl, iv tc, x3], .box mb] S).Wp (fun d S' => ∃ lot crew, Arw pl tl.length tc.length d s t lot crew ∧ S <+: S') noX := by
  have ats : ∀ {i : Int}, 0 ≤ i → i < pl → ∃ d, d ∈ ms ∧ atI ms i = some d := fun {i} h0 h1 => by
    have hl : i.toNat < ms.length := by omega
    exact ⟨ms[i.toNat], List.getElem_mem _, at_int h0 (List.getElem?_eq_getElem hl)⟩
  obtain ⟨ds, hds, es⟩ := ats s0 s1
  obtain ⟨dt, hdt, et⟩ := ats t0 t1
  obtain ⟨sl, sc, rfl, sl1, sc1⟩ := hm _ hds
  obtain ⟨ul, uc, rfl, ul1, uc1⟩ := hm _ hdt
  have lsl := sl1.len
  have lsc := sc1.len
  have lul := ul1.len
  have luc := uc1.len
  refine w_body ?_
  unfold B__law_arrow
  simp only [startD, List.map_cons, List.map_nil, List.length_cons, List.length_nil, List.cons_append, List.nil_append, Nat.reduceAdd, Nat.reduceSub, List.replicate, List.replicate_succ, List.replicate_zero]
  and_intros
  refine w_ixB (seq_lst em) et ?_
  and_intros
  refine w_ixB (seq_lst em) es ?_
  and_intros
  refine (less_ok (by omega)).mono (fun d S1 ⟨ed, p1⟩ => ?_) fun _ _ _ q => q
  subst ed
  and_intros
  refine w_ixB (seq_lst (get_pre p1 em)) et ?_
  and_intros
  refine w_ixB (seq_lst (get_pre p1 em)) es ?_
  and_intros
  refine (less_ok (by omega)).mono (fun d S2 ⟨ed, p2⟩ => ?_) fun _ _ _ q => q
  subst ed
  have zl1 : (zw (· - ·) ul sl).length = tl.length := by rw [zw_len (by omega)]; exact lul
  have zl2 : (zw (· - ·) uc sc).length = tc.length := by rw [zw_len (by omega)]; exact luc
  have dl : ∀ (i : Nat) v, (zw (· - ·) ul sl)[i]? = some v → ∃ y, tl[i]? = some y ∧ -y ≤ v ∧ v ≤ y ∧ y ≤ 4 := fun i v hv => by
    obtain ⟨x, y, hx, hy, e⟩ := zw_get hv
    obtain ⟨z, hz, h1⟩ := ul1.at_ hx
    obtain ⟨z', hz', h2⟩ := sl1.at_ hy
    rw [hz] at hz'; cases hz'
    have := ht.get hz
    exact ⟨z, hz, by omega, by omega, by omega⟩
  have dc : ∀ (i : Nat) v, (zw (· - ·) uc sc)[i]? = some v → ∃ y, tc[i]? = some y ∧ -y ≤ v ∧ v ≤ y ∧ y ≤ 4 := fun i v hv => by
    obtain ⟨x, y, hx, hy, e⟩ := zw_get hv
    obtain ⟨z, hz, h1⟩ := uc1.at_ hx
    obtain ⟨z', hz', h2⟩ := sc1.at_ hy
    rw [hz] at hz'; cases hz'
    have := hc.get hz
    exact ⟨z, hz, by omega, by omega, by omega⟩
  have sl_in : Mn.In 0 9 (zw (· + ·) (zw (· - ·) ul sl) tl) := In.of_get fun i v hv => by
    obtain ⟨x, y, hx, hy, e⟩ := zw_get hv
    obtain ⟨z, hz, h1, h2, h3⟩ := dl i x hx
    rw [hy] at hz; cases hz
    omega
  have sc_in : Mn.In 0 9 (zw (· + ·) (zw (· - ·) uc sc) tc) := In.of_get fun i v hv => by
    obtain ⟨x, y, hx, hy, e⟩ := zw_get hv
    obtain ⟨z, hz, h1, h2, h3⟩ := dc i x hx
    rw [hy] at hz; cases hz
    omega
  have lne : zw (· - ·) ul sl ≠ [] := fun z => by rw [z] at zl1; exact hne (List.eq_nil_of_length_eq_zero zl1.symm)
  and_intros
  refine w_minT lne ?_
  and_intros
  refine ⟨fun _ => ?_, fun hmin => ?_⟩
  · and_intros
    refine (sum_ok (by omega)).mono (fun d S3 ⟨ed, p3⟩ => ?_) fun _ _ _ q => q
    subst ed
    and_intros
    refine (sum_ok (by omega)).mono (fun d S4 ⟨ed, p4⟩ => ?_) fun _ _ _ q => q
    subst ed
    and_intros
    refine ⟨Nat.le_of_ble_eq_true (by rfl), .inl ⟨_, rfl, _, _, ⟨rfl, s0, s1, t0, t1, ?_, ?_, sl_in, sc_in⟩, p1.trans (p2.trans (p3.trans p4))⟩⟩
    · rw [zw_len (by omega)]; exact zl1
    · rw [zw_len (by omega)]; exact zl2
  · have hmin' : ¬ minI (zw (· - ·) ul sl) < 0 := of_decide_eq_false hmin
    have lb : Mn.In 0 9 (zw (· - ·) ul sl) := In.of_get fun i v hv => by
      obtain ⟨z, hz, h1, h2, h3⟩ := dl i v hv
      have := minI_le (List.mem_of_getElem? hv)
      omega
    have smc : ∀ d ∈ (zw (· - ·) uc sc).map Dt.int, Sm 59 d 30 := sm_ints (In.of_get fun i v hv => by
      obtain ⟨z, hz, h1, h2, h3⟩ := dc i v hv
      omega)
    and_intros
    refine ⟨Nat.le_of_ble_eq_true (by rfl), ?_⟩
    refine w_neNilT smc ?_
    refine ⟨_, rfl, fun hcn => ?_, fun hcn => ?_⟩
    · have cne : zw (· - ·) uc sc ≠ [] := fun z => by rw [z] at hcn; cases hcn
      and_intros
      refine w_minT cne ?_
      and_intros
      refine ⟨fun _ => ?_, fun hmc => ?_⟩
      · and_intros
        refine (sum_ok (by omega)).mono (fun d S4 ⟨ed, p4⟩ => ?_) fun _ _ _ q => q
        subst ed
        and_intros
        refine ⟨Nat.le_of_ble_eq_true (by rfl), .inl ⟨_, rfl, _, _, ⟨rfl, s0, s1, t0, t1, zl1, ?_, lb, sc_in⟩, p1.trans (p2.trans p4)⟩⟩
        rw [zw_len (by omega)]; exact zl2
      · have hmc' : ¬ minI (zw (· - ·) uc sc) < 0 := of_decide_eq_false hmc
        and_intros
        refine ⟨Nat.le_of_ble_eq_true (by rfl), .inl ⟨_, rfl, _, _, ⟨rfl, s0, s1, t0, t1, zl1, zl2, lb, ?_⟩, p1.trans p2⟩⟩
        exact In.of_get fun i v hv => by
          obtain ⟨z, hz, h1, h2, h3⟩ := dc i v hv
          have := minI_le (List.mem_of_getElem? hv)
          omega
    · have ce : zw (· - ·) uc sc = [] := by
        cases h : zw (· - ·) uc sc with
        | nil => rfl
        | cons a r => rw [h] at hcn; cases hcn
      refine ⟨(fun z => nomatch z), fun _ => ?_⟩
      and_intros
      refine ⟨Nat.le_of_ble_eq_true (by rfl), .inl ⟨_, rfl, _, _, ⟨rfl, s0, s1, t0, t1, zl1, zl2, lb, ?_⟩, p1.trans p2⟩⟩
      rw [ce]; exact fun i hi => nomatch hi
theorem Works.ne {d : Dt} {size : Nat} {ks hs rs : List Dt} (W : Works d size ks hs rs) {tl : List Int} (h : tl.length = size) : tl ≠ [] := fun z => by
  have := W.s0
  rw [z] at h; simp at h; omega
theorem held_ok {S : Bxs} {b c : Nat} {w : Dt} {size : Nat} {ks hs rs : List Dt} {places more : Int} (B : Bag S b c) (W : Works w size ks hs rs) (p0 : 1 ≤ places) (p1 : places ≤ 10) (m0 : 0 ≤ more) (m1 : more ≤ 20) :
    (F__law_held_sender [.box b, w, .int places, .int more] S).Wp (fun d S' => (∃ pl as, Snd size hs.length d pl as) ∧ Bag S' b c ∧ Fr b S S') noX := by
  have ws1 := W.s1
  have ws0 := W.s0
  have whl := W.hl
  have qB := B.lt
  have hwe := W.eq
  subst hwe
  refine w_body ?_
  unfold B__law_held_sender
  simp only [startD, List.map_cons, List.map_nil, List.length_cons, List.length_nil, List.cons_append, List.nil_append, Nat.reduceAdd, Nat.reduceSub, List.replicate, List.replicate_succ, List.replicate_zero]
  and_intros
  refine (take_ok B (by omega) (by omega)).mono (fun d S1 ⟨k, ed, k0, k1, B1, F1⟩ => ?_) fun _ _ _ q => q
  subst ed
  and_intros
  refine (planted_ok B1 W (by decide) (by decide)).mono (fun d S2 ⟨tl, tc, cs, ed, tl1, tc1, cs1, tlb, tcb, csb, B2, F2⟩ => ?_) fun _ _ _ q => q
  subst ed
  have tne := W.ne tl1
  and_intros
  refine (nothing_ok W).mono (fun d S3 ⟨ed, e3⟩ => ?_) fun _ _ _ q => q
  subst ed
  subst e3
  and_intros
  refine ⟨Nat.le_of_ble_eq_true (by rfl), ?_⟩
  and_intros
  refine w_mulT0 (by omega) ?_
  and_intros
  refine ⟨Nat.le_of_ble_eq_true (by rfl), ?_⟩
  and_intros
  have F12 := F1.trans F2
  have qf := F12.len
  have mk0 : Mk tl tc (.tup [iv (List.replicate size 0), iv (List.replicate hs.length 0)]) := ⟨_, _, rfl, by rw [← tl1]; exact Le.zeros tlb, by rw [← tc1]; exact Le.zeros tcb⟩
  have em0 : (S3 ++ [MBox.lst [Dt.tup [iv (List.replicate size 0), iv (List.replicate hs.length 0)]]])[S3.length]? = some (.lst [Dt.tup [iv (List.replicate size 0), iv (List.replicate hs.length 0)]]) := get_last
  have B3 := B2.app (x := .lst [Dt.tup [iv (List.replicate size 0), iv (List.replicate hs.length 0)]])
  have F3 := F12.app (x := .lst [Dt.tup [iv (List.replicate size 0), iv (List.replicate hs.length 0)]])
  have hM0 : ∀ m ∈ [Dt.tup [iv (List.replicate size 0), iv (List.replicate hs.length 0)]], Mk tl tc m := fun m hm => by rw [List.mem_singleton.mp hm]; exact mk0
  have hl0 : [Dt.tup [iv (List.replicate size 0), iv (List.replicate hs.length 0)]].length = 1 := rfl
  generalize S3 ++ [MBox.lst [Dt.tup [iv (List.replicate size 0), iv (List.replicate hs.length 0)]]] = S4 at em0 B3 F3 ⊢
  generalize [Dt.tup [iv (List.replicate size 0), iv (List.replicate hs.length 0)]] = ms0 at em0 hM0 hl0
  generalize S3.length = m at em0 qf ⊢
  have hmb : m ≠ b := by omega
  have hmc : m ≠ c := by omega
  and_intros
  refine w_srcR2 ?_
  and_intros
  refine ⟨⟨by decide, by decide⟩, ⟨by omega, by omega⟩, ?_⟩
  refine w_loop (fun i σ S' => ∃ d7 ms, σ = [some (.box b), some (.tup [.tup ks, .tup hs, .tup rs]), some (.int places), some (.int more), some (.int (1 + k)), some (.tup [iv tl, iv tc, iv cs]), some (.box m), d7, none, none, none, none] ∧ S'[m]? = some (.lst ms) ∧ ms.length = 1 + i ∧ (∀ x ∈ ms, Mk tl tc x) ∧ Bag S' b c ∧ Fr b S S')
    (fun _ _ _ _ => trivial) (fun i x σ S5 hx ⟨d7, ms, e, em, hl, hM, B5, F5⟩ => ?_) (fun σ S5 ⟨d7, ms, e, em, hl, hM, B5, F5⟩ => ?_) ⟨_, ms0, rfl, em0, hl0, hM0, B3, F3⟩
  · subst e
    have hik : i < 20 := by
      have := (List.getElem?_eq_some_iff.mp hx).1
      rw [rgD_len] at this
      omega
    and_intros
    refine ⟨ty_list em, ?_⟩
    and_intros
    refine (part_ok B5 tlb (by decide) (by omega)).mono (fun d S6 ⟨l1, ed, ll1, lg1, B6, F6⟩ => ?_) fun _ _ _ q => q
    subst ed
    and_intros
    refine (part_ok B6 tcb (by decide) (by omega)).mono (fun d S7 ⟨l2, ed, ll2, lg2, B7, F7⟩ => ?_) fun _ _ _ q => q
    subst ed
    and_intros
    refine ⟨Nat.le_of_ble_eq_true (by rfl), ?_⟩
    and_intros
    have F67 := F6.trans F7
    refine w_append (lst_of (F67.at_ em hmb)) (Nat.lt_of_le_of_lt (show ms.length ≤ 40 by omega) (by decide)) ?_
    refine .inl ⟨rfl, _, ms ++ [Dt.tup [iv l1, iv l2]], rfl, List.getElem?_set_self (get_lt (F67.at_ em hmb)), by rw [List.length_append, hl]; simp; omega, fun x hx => ?_, B7.own hmb hmc, (F5.trans F67).own qf⟩
    rcases List.mem_append.mp hx with z | z
    · exact hM x z
    · rw [List.mem_singleton.mp z]; exact ⟨l1, l2, rfl, ⟨ll1, lg1⟩, ⟨ll2, lg2⟩⟩
  · subst e
    rw [rgD_len] at hl
    have hml : (ms.length : Int) = 1 + k := by omega
    refine c_nx ?_
    and_intros
    have q5 := F5.len
    refine (links_ok (B5.app (x := .lst [])) (by omega) (by omega) m0 m1).mono (fun d S6 ⟨r, ys, ed, hr, er, yl, ym, B6, F6⟩ => ?_) fun _ _ _ q => q
    subst ed
    have ea6 : S6[S5.length]? = some (.lst []) := F6.at_ get_last (by omega)
    have em6 : S6[m]? = some (.lst ms) := F6.at_ (get_pre (List.prefix_append _ _) em) hmb
    have F06 := (F5.app (x := .lst [])).trans F6
    have hr' : S5.length < r := by rw [List.length_append] at hr; simp at hr; omega
    have hma : m < S5.length := get_lt em
    generalize S5.length = a at ea6 hr' q5 hma ⊢
    refine ⟨ys, w_seqB er, ?_⟩
    refine w_loop (fun i σ S' => ∃ d9 d10 d11 as, σ = [some (.box b), some (.tup [.tup ks, .tup hs, .tup rs]), some (.int places), some (.int more), some (.int (1 + k)), some (.tup [iv tl, iv tc, iv cs]), some (.box m), d7, some (.box a), d9, d10, d11] ∧ S'[a]? = some (.lst as) ∧ as.length = i ∧ (∀ x ∈ as, ∃ s t lot crew, Arw (1 + k) size hs.length x s t lot crew) ∧ S'[m]? = some (.lst ms) ∧ S'[r]? = some (.lst ys) ∧ Bag S' b c ∧ Fr b S S')
      (fun i σ S' ⟨_, _, _, _, _, _, _, _, _, er, _⟩ => w_seqB er) (fun i x σ S7 hx ⟨d9, d10, d11, as, e, ea, hl, hA, em, er, B7, F7⟩ => ?_) (fun σ S7 ⟨d9, d10, d11, as, e, ea, hl, hA, em, er, B7, F7⟩ => ?_) ⟨_, _, _, [], rfl, ea6, rfl, (fun x hx => nomatch hx), em6, er, B6, F06⟩
    · subst e
      have hik : i < 40 := by
        have := (List.getElem?_eq_some_iff.mp hx).1
        exact Nat.lt_of_lt_of_le this yl
      obtain ⟨s, t, rfl, s0, s1, t0, t1⟩ := ym x (List.mem_of_getElem? hx)
      have hab : a ≠ b := by omega
      have hac : a ≠ c := by omega
      -- what follows: the arrow is put behind
      have fin : ∀ {S9 : Bxs} {d : Dt}, (∃ s t lot crew, Arw (1 + k) size hs.length d s t lot crew) → Bag S9 b c → Fr b S7 S9 → tyD "list" (.box a) S9 ∧
          (appendG (.box a) [d] S9).Wp (fun _ S2 => ∃ as', S2[a]? = some (.lst as') ∧ as'.length = i + 1 ∧ (∀ x ∈ as', ∃ s t lot crew, Arw (1 + k) size hs.length x s t lot crew) ∧ S2[m]? = some (.lst ms) ∧ S2[r]? = some (.lst ys) ∧ Bag S2 b c ∧ Fr b S S2) noX := by
        intro S9 d hd B9 F9
        have ea9 := F9.at_ ea hab
        refine ⟨ty_list ea9, ?_⟩
        refine w_append (lst_of ea9) (Nat.lt_of_le_of_lt (show as.length ≤ 40 by omega) (by decide)) ?_
        refine ⟨as ++ [d], List.getElem?_set_self (get_lt ea9), by rw [List.length_append, hl]; rfl, fun x hx => ?_, by rw [List.getElem?_set_ne (by omega)]; exact F9.at_ em hmb, by rw [List.getElem?_set_ne (by omega)]; exact F9.at_ er (by omega), B9.own hab hac, (F7.trans F9).own (by omega)⟩
        rcases List.mem_append.mp hx with z | z
        · exact hA x z
        · rw [List.mem_singleton.mp z]; exact hd
      and_intros
      refine (arrow_ok (pl := 1 + k) tlb tcb tne (by omega) (by omega) em hM hml s0 s1 t0 t1).mono (fun d S8 ⟨lot, crew, A, p8⟩ => ?_) fun _ _ _ q => q
      rw [tl1, tc1] at A
      have B8 := B7.pre p8
      have F8 : Fr b S7 S8 := Fr.pre p8
      and_intros
      refine ⟨fun hst => ?_, fun _ => ?_⟩
      · and_intros
        refine (take_ok B8 (by decide) (by decide)).mono (fun d' S9 ⟨u, ed, u0, u1, B9, F9⟩ => ?_) fun _ _ _ q => q
        subst ed
        and_intros
        refine ⟨fun _ => ?_, fun _ => ?_⟩
        · and_intros
          rw [A.eq]
          and_intros
          have ea : addG (.tup (Mn.cutD [Dt.int s, .int t, iv lot, iv crew] none (some 2))) (.tup (Mn.cutD [iv tl, iv tc, iv cs] none (some 2))) S9 = .ok (.tup [.int s, .int t, iv tl, iv tc]) S9 := by
            have e1 : Mn.cutD [Dt.int s, .int t, iv lot, iv crew] none (some 2) = [Dt.int s, .int t] := cut_to (i := 2)
            have e2 : Mn.cutD [iv tl, iv tc, iv cs] none (some 2) = [iv tl, iv tc] := cut_to (i := 2)
            rw [e1, e2]
            rfl
          refine .of ea ?_
          refine c_nx ?_
          and_intros
          obtain ⟨f1, f2⟩ := fin ⟨s, t, tl, tc, ⟨rfl, s0, s1, t0, t1, tl1, tc1, tlb.mono (by decide) (by decide), tcb.mono (by decide) (by decide)⟩⟩ B9 (F8.trans F9)
          refine ⟨f1, ?_⟩
          and_intros
          exact f2.mono (fun _ S2 ⟨as', h⟩ => .inl ⟨rfl, _, _, _, as', rfl, h⟩) fun _ _ _ q => q
        · and_intros
          obtain ⟨f1, f2⟩ := fin ⟨_, _, _, _, A⟩ B9 (F8.trans F9)
          refine ⟨f1, ?_⟩
          and_intros
          exact f2.mono (fun _ S2 ⟨as', h⟩ => .inl ⟨rfl, _, _, _, as', rfl, h⟩) fun _ _ _ q => q
      · refine ⟨(fun z => nomatch z), fun _ => ?_⟩
        and_intros
        obtain ⟨f1, f2⟩ := fin ⟨_, _, _, _, A⟩ B8 F8
        refine ⟨f1, ?_⟩
        and_intros
        exact f2.mono (fun _ S2 ⟨as', h⟩ => .inl ⟨rfl, _, _, _, as', rfl, h⟩) fun _ _ _ q => q
    · subst e
      refine c_nx ?_
      and_intros
      refine w_tupB (seq_lst ea) ?_
      and_intros
      refine ⟨Nat.le_of_ble_eq_true (by rfl), .inl ⟨_, rfl, ⟨1 + k, as, rfl, by omega, by omega, ?_, hA⟩, B7, F7⟩⟩
      have : ys.length ≤ 40 := yl
      show as.length ≤ 40
      rw [hl]; exact yl
end Lw
set_option Elab.async false
set_option linter.all false
set_option maxRecDepth 100000
set_option maxHeartbeats 4000000
namespace Mn
open PySem PySem.Spec PyProof.Rows L2
section
variable {S : Bxs} {E : Nat → List Dt → Bxs → Prop}
theorem w_addT {xs ys : List Dt} {P : Dt → Bxs → Prop} (c : xs.length + ys.length ≤ LIM) (h : P (.tup (xs ++ ys)) S) : (addG (.tup xs) (.tup ys) S).Wp P E := by
  show (if xs.length + ys.length ≤ LIM then Rs.ok (Dt.tup (xs ++ ys)) S else .no).Wp P E
  rw [if_pos c]; exact ⟨h⟩
theorem cut_from {ys : List Dt} {i : Nat} : Mn.cutD ys (some (i : Int)) none = ys.drop i := by
  unfold Mn.cutD
  rw [HT.sIx_none, HT.sIx_nat]
  by_cases h : i ≤ ys.length
  · rw [Nat.min_eq_left h]
    rw [List.take_of_length_le (by rw [List.length_drop]; exact Nat.le_refl _)]
  · rw [Nat.min_eq_right (by omega), List.drop_of_length_le (Nat.le_refl _), List.drop_of_length_le (by omega)]; simp
/-- t[:i] + (x,) + t[i + 1:] -/
theorem w_spl1 {xs : List Dt} {i : Int} {x : Dt} {P : Dt → Bxs → Prop} (h0 : 0 ≤ i) (hl : xs.length < LIM) (h : P (.tup (xs.take i.toNat ++ [x])) S) : (addG (.tup (Mn.cutD xs none (some i))) (.tup [x]) S).Wp P E := by
  obtain ⟨n, rfl⟩ : ∃ n : Nat, i = (n : Int) := ⟨i.toNat, by omega⟩
  rw [Int.toNat_natCast] at h
  have e1 : Mn.cutD xs none (some (n : Int)) = xs.take n := Lw.cut_to
  rw [e1]
  exact w_addT (by rw [List.length_take]; simp; omega) h
theorem w_spl2 {xs : List Dt} {i : Int} {x : Dt} {P : Dt → Bxs → Prop} (h0 : 0 ≤ i) (h1 : i < xs.length) (hl : xs.length < LIM) (h : P (.tup (xs.set i.toNat x)) S) : (addG (.tup (xs.take i.toNat ++ [x])) (.tup (Mn.cutD xs (some (i + 1)) none)) S).Wp P E := by
  obtain ⟨n, rfl⟩ : ∃ n : Nat, i = (n : Int) := ⟨i.toNat, by omega⟩
  rw [Int.toNat_natCast] at h ⊢
  have e2 : Mn.cutD xs (some ((n : Int) + 1)) none = xs.drop (n + 1) := cut_from (i := n + 1)
  rw [e2]
  refine w_addT (by rw [List.length_append, List.length_take, List.length_drop]; simp; omega) ?_
  have : xs.set n x = xs.take n ++ [x] ++ xs.drop (n + 1) := by
    rw [List.set_eq_take_append_cons_drop, if_pos (by omega)]
    simp
  rw [← this]; exact h
end
theorem sm_small {is : List Int} {n : Nat} (h : Mn.In 0 9 is) (hl : is.length ≤ 10) : Sm (n + 2) (iv is) 53 := Sm.ints (k := 2) (by decide) (by decide) (fun i hi => by have := h i hi; omega) 53 (by omega)
end Mn
namespace Lw
open PySem PySem.Spec PyProof.Rows L2 Mn
theorem sm_arw {pl : Int} {size hl : Nat} {d : Dt} {s t : Int} {lot crew : List Int} {n : Nat} (A : Arw pl size hl d s t lot crew) (p1 : pl ≤ 10) (h1 : size ≤ 10) (h2 : hl ≤ 10) : Sm (n + 3) d 230 := by
  have := A.s0
  have := A.s1
  have := A.t0
  have := A.t1
  have := A.ll
  have := A.cl
  rw [A.eq]
  exact Sm.t4 (w := 53) ((Sm.int 2 (by decide) (by decide) (by omega)).mono (by decide)) ((Sm.int 2 (by decide) (by decide) (by omega)).mono (by decide)) (sm_small A.lb (by omega)) (sm_small A.cb (by omega)) 230 (by decide)
theorem Snd.sm {size hl : Nat} {d : Dt} {pl : Int} {as : List Dt} (A : Snd size hl d pl as) (h1 : size ≤ 10) (h2 : hl ≤ 10) {n : Nat} : Sm (n + 5) d 20000 := by
  have := A.p0
  have := A.p1
  rw [A.eq]
  refine Sm.t2 (w := 9990) ((Sm.int 2 (by decide) (by decide) (by omega)).mono (by decide)) ?_ 20000 (by decide)
  exact Sm.tup (w := 230) (fun a ha => by obtain ⟨s, t, lot, crew, R⟩ := A.ar a ha; exact sm_arw R A.p1 h1 h2) 9990 (by have := A.al; omega)
/-- [one(bag, [..]) for x in xs], made a tuple -/
theorem any_ok {S : Bxs} {b c : Nat} {w : Dt} {size : Nat} {ks hs rs : List Dt} {places more : Int} (B : Bag S b c) (W : Works w size ks hs rs) (p0 : 1 ≤ places) (p1 : places ≤ 10) (m0 : 0 ≤ more) (m1 : more ≤ 20) :
    (F__law_any_sender [.box b, w, .int places, .int more] S).Wp (fun d S' => (∃ pl as, Snd size hs.length d pl as) ∧ Bag S' b c ∧ Fr b S S') noX := by
  have ws1 := W.s1
  have ws0 := W.s0
  have whl := W.hl
  have wkl := W.kl
  have qB := B.lt
  have hwe := W.eq
  subst hwe
  refine w_body ?_
  unfold B__law_any_sender
  simp only [startD, List.map_cons, List.map_nil, List.length_cons, List.length_nil, List.cons_append, List.nil_append, Nat.reduceAdd, Nat.reduceSub, List.replicate, List.replicate_succ, List.replicate_zero]
  and_intros
  refine (take_ok B (by omega) (by omega)).mono (fun d S1 ⟨k, ed, k0, k1, B1, F1⟩ => ?_) fun _ _ _ q => q
  subst ed
  and_intros
  have q1 := F1.len
  refine (links_ok (B1.app (x := .lst [])) (by omega) (by omega) m0 m1).mono (fun d S2 ⟨r, ys, ed, hr, er, yl, ym, B2, F2⟩ => ?_) fun _ _ _ q => q
  subst ed
  have F02 := (F1.app (x := .lst [])).trans F2
  have ea2 : S2[S1.length]? = some (.lst []) := F2.at_ get_last (by omega)
  have hr' : S1.length < r := by rw [List.length_append] at hr; simp at hr; omega
  generalize S1.length = a at ea2 hr' q1 ⊢
  have hab : a ≠ b := by omega
  have hac : a ≠ c := by omega
  and_intros
  refine w_lenB (seq_lst er) ?_
  and_intros
  refine w_lenB (seq_lst er) ?_
  and_intros
  refine w_lenB (seq_lst er) ?_
  and_intros
  refine (take_ok B2 (by omega) (by omega)).mono (fun d S3 ⟨u, ed, u0, u1, B3, F3⟩ => ?_) fun _ _ _ q => q
  subst ed
  have q3 := (F02.trans F3).len
  and_intros
  refine (one_ok (xs := [Dt.int ys.length, .int ys.length, .int u]) (B3.app) (seq_lst get_last) (by omega) (fun z => nomatch z) (by simp)).mono (fun d S4 ⟨hd, B4, F4⟩ => ?_) fun _ _ _ q => q
  have F24 := (F3.app (x := .lst [Dt.int ys.length, .int ys.length, .int u])).trans F4
  obtain ⟨v, rfl⟩ : ∃ v : Int, d = .int v := by
    simp at hd
    rcases hd with z | z <;> exact ⟨_, z⟩
  have er4 := F24.at_ er (by omega)
  have ea4 := F24.at_ ea2 hab
  have F04 := F02.trans F24
  and_intros
  refine w_slB (seq_lst er4) ?_
  have hcl := cutD_length ys none (some v)
  have hcm : ∀ y ∈ Mn.cutD ys none (some v), OP (1 + k) y := fun y hy => by
    unfold Mn.cutD at hy
    exact ym y (List.mem_of_mem_drop (List.mem_of_mem_take hy))
  generalize Mn.cutD ys none (some v) = zs at hcl hcm ⊢
  refine w_newL (Nat.le_trans hcl (Nat.le_trans yl (by decide))) ?_
  have ez : (S4 ++ [MBox.lst zs])[S4.length]? = some (.lst zs) := get_last
  have B5 := B4.app (x := .lst zs)
  have F05 := F04.app (x := .lst zs)
  have ea5 : (S4 ++ [MBox.lst zs])[a]? = some (.lst []) := get_pre (List.prefix_append _ _) ea4
  have qz : a < S4.length := get_lt ea4
  have q4 := F04.len
  generalize S4 ++ [MBox.lst zs] = S5 at ez B5 F05 ea5 ⊢
  generalize S4.length = z at ez qz q4 ⊢
  refine ⟨zs, w_seqB ez, ?_⟩
  refine w_loop (fun i σ S' => ∃ d7 d8 d9 d10 d11 as, σ = [some (.box b), some (.tup [.tup ks, .tup hs, .tup rs]), some (.int places), some (.int more), some (.int (1 + k)), some (.box a), some (.box r), d7, d8, d9, d10, d11] ∧ S'[a]? = some (.lst as) ∧ as.length = i ∧ (∀ x ∈ as, ∃ s t lot crew, Arw (1 + k) size hs.length x s t lot crew) ∧ S'[z]? = some (.lst zs) ∧ Bag S' b c ∧ Fr b S S')
    (fun i σ S' ⟨_, _, _, _, _, _, _, _, _, _, er, _⟩ => w_seqB er) (fun i x σ S6 hx ⟨d7, d8, d9, d10, d11, as, e, ea, hl, hA, ez, B6, F6⟩ => ?_) (fun σ S6 ⟨d7, d8, d9, d10, d11, as, e, ea, hl, hA, ez, B6, F6⟩ => ?_) ⟨_, _, _, _, _, [], rfl, ea5, rfl, (fun x hx => nomatch hx), ez, B5, F05⟩
  · subst e
    have hik : i < 40 := by
      have := (List.getElem?_eq_some_iff.mp hx).1
      exact Nat.lt_of_lt_of_le this (Nat.le_trans hcl yl)
    obtain ⟨s, t, rfl, s0, s1, t0, t1⟩ := hcm x (List.mem_of_getElem? hx)
    and_intros
    refine w_lcB (b := b) (c := c) ?_
    and_intros
    refine ⟨fun _ => true, fun (_ : Dt) d => ∃ i : Int, d = .int i ∧ (0 ≤ i ∧ i ≤ 9), Nat.lt_of_le_of_lt (show ks.length ≤ 10 by omega) (by decide), B6, fun _ _ => rfl, fun y S' hy B' F' => ?_, fun ds S7 he hn B7 F7 => ?_⟩
    · and_intros
      refine w_yes ⟨rfl, fun z => (nomatch z), fun _ => ?_⟩
      and_intros
      have := B'.lt
      refine (one_ok (xs := [Dt.int 0, .int 0, .int 1, .int 0, .int 2]) B'.app (seq_lst get_last) (by omega) (fun z => nomatch z) (by simp)).mono (fun d S8 ⟨hd, B8, F8⟩ => ?_) fun _ _ _ q => q
      refine ⟨?_, B8, ((Fr.refl b S').app).trans F8⟩
      simp at hd
      rcases hd with z | z | z | z <;> exact ⟨_, z, by omega, by omega⟩
    rw [filter_yes] at he
    obtain ⟨lot, rfl, ll, lb⟩ := Each.ints (fun _ _ h => h) he
    and_intros
    refine w_tupB (seq_lst hn) ?_
    and_intros
    have F67 := F7
    have ea7 := F7.at_ ea hab
    refine ⟨ty_list ea7, ?_⟩
    and_intros
    refine w_lcB (b := b) (c := c) ?_
    and_intros
    refine ⟨fun _ => true, fun (_ : Dt) d => ∃ i : Int, d = .int i ∧ (0 ≤ i ∧ i ≤ 9), Nat.lt_of_le_of_lt whl (by decide), B7, fun _ _ => rfl, fun y S' hy B' F' => ?_, fun ds S8 he hn B8 F8 => ?_⟩
    · and_intros
      refine w_yes ⟨rfl, fun z => (nomatch z), fun _ => ?_⟩
      and_intros
      have := B'.lt
      refine (one_ok (xs := [Dt.int 0, .int 1, .int 0, .int 2]) B'.app (seq_lst get_last) (by omega) (fun z => nomatch z) (by simp)).mono (fun d S9 ⟨hd, B9, F9⟩ => ?_) fun _ _ _ q => q
      refine ⟨?_, B9, ((Fr.refl b S').app).trans F9⟩
      simp at hd
      rcases hd with z | z | z | z <;> exact ⟨_, z, by omega, by omega⟩
    rw [filter_yes] at he
    obtain ⟨crew, rfl, cl, cb⟩ := Each.ints (fun _ _ h => h) he
    and_intros
    refine w_tupB (seq_lst hn) ?_
    and_intros
    refine ⟨Nat.le_of_ble_eq_true (by rfl), ?_⟩
    and_intros
    have F78 := F7.trans F8
    refine w_append (lst_of (F78.at_ ea hab)) (Nat.lt_of_le_of_lt (show as.length ≤ 40 by omega) (by decide)) ?_
    refine .inl ⟨rfl, _, _, _, _, _, as ++ [Dt.tup [.int s, .int t, iv lot, iv crew]], rfl, List.getElem?_set_self (get_lt (F78.at_ ea hab)), by rw [List.length_append, hl]; rfl, fun x hx => ?_, by rw [List.getElem?_set_ne (by omega)]; exact F78.at_ ez (by omega), B8.own hab hac, (F6.trans F78).own (by omega)⟩
    rcases List.mem_append.mp hx with z | z
    · exact hA x z
    · rw [List.mem_singleton.mp z]
      exact ⟨s, t, lot, crew, ⟨rfl, s0, s1, t0, t1, by rw [ll]; exact wkl, cl, lb, cb⟩⟩
  · subst e
    refine c_nx ?_
    and_intros
    refine w_tupB (seq_lst ea) ?_
    and_intros
    refine ⟨Nat.le_of_ble_eq_true (by rfl), .inl ⟨_, rfl, ⟨1 + k, as, rfl, by omega, by omega, ?_, hA⟩, B6, F6⟩⟩
    rw [hl]; exact Nat.le_trans hcl yl
theorem bent_ok {S : Bxs} {b c : Nat} {w d : Dt} {size hl : Nat} {pl : Int} {as : List Dt} (B : Bag S b c) (A : Snd size hl d pl as) (s0 : 1 ≤ size) (s1 : size ≤ 10) (h1 : hl ≤ 10) :
    (F__law_bent_sender [.box b, w, d] S).Wp (fun d S' => (∃ pl as, Snd size hl d pl as) ∧ Bag S' b c ∧ Fr b S S') noX := by
  have hwe := A.eq
  have ap0 := A.p0
  have ap1 := A.p1
  have aal := A.al
  subst hwe
  refine w_body ?_
  unfold B__law_bent_sender
  simp only [startD, List.map_cons, List.map_nil, List.length_cons, List.length_nil, List.cons_append, List.nil_append, Nat.reduceAdd, Nat.reduceSub, List.replicate, List.replicate_succ, List.replicate_zero]
  and_intros
  refine ⟨Nat.le_of_ble_eq_true (by rfl), ?_⟩
  refine w_neNilT (w := 230) (fun a ha => by obtain ⟨s, t, lot, crew, R⟩ := A.ar a ha; exact sm_arw R ap1 s1 h1) ?_
  refine ⟨_, rfl, fun he => ?_, fun he => ?_⟩
  · and_intros
    exact .inl ⟨_, rfl, ⟨pl, as, A⟩, B, Fr.refl _ _⟩
  · have asn : 0 < as.length := by
      cases as with
      | nil => cases he
      | cons a r => simp
    and_intros
    refine (take_ok B (by omega) (by omega)).mono (fun d S1 ⟨k, ed, k0, k1, B1, F1⟩ => ?_) fun _ _ _ q => q
    subst ed
    have hk : k.toNat < as.length := by omega
    obtain ⟨s, t, lot, crew, R⟩ := A.ar _ (List.getElem_mem hk)
    have hat : atI as k = some (.tup [.int s, .int t, iv lot, iv crew]) := at_int k0 (by rw [List.getElem?_eq_getElem hk, R.eq])
    have rll := R.ll
    have rcl := R.cl
    and_intros
    refine w_ixT hat ?_
    and_intros
    -- hands
    refine w_lcPA ?_
    and_intros
    rw [List.length_map]
    refine ⟨⟨by omega, by omega⟩, fun d => ∃ j : Int, d = .int j ∧ (0 ≤ j ∧ j < crew.length ∧ ∃ v, crew[j.toNat]? = some v ∧ 0 < v), by rw [rgD_len]; exact Nat.lt_of_le_of_lt (show (crew.length : Int).toNat ≤ 10 by omega) (by decide), fun _ _ => trivial, fun z S' hz hS' => ?_, fun ds S2 hl2 hall hn2 p2 => ?_⟩
    · obtain ⟨j, hj⟩ := List.mem_iff_getElem?.mp hz
      have hz2 := rgD_get hj
      subst hz2
      have hjl : j < crew.length := by
        have := (List.getElem?_eq_some_iff.mp hj).1
        rw [rgD_len] at this
        omega
      obtain ⟨v, hv⟩ := idx_get hjl
      and_intros
      rw [Int.zero_add]
      refine w_ixT (atI_int hv) ?_
      and_intros
      refine ⟨fun _ => List.prefix_refl _, fun hv0 => ?_⟩
      and_intros
      have hv0' : 0 < v := of_decide_eq_true hv0
      exact ⟨⟨_, rfl, by omega, by omega, v, by rw [Int.toNat_natCast]; exact hv, hv0'⟩, List.prefix_refl _⟩
    obtain ⟨hd, rfl, hhd⟩ := ints_of_all hall
    clear hall
    have smt : ∀ d ∈ hd.map Dt.int, Sm 59 d 30 := sm_ints fun i hi => by have := hhd i hi; omega
    have hdl : hd.length ≤ 10 := by
      have : (hd.map Dt.int).length ≤ (rgD 0 (crew.length : Int).toNat).length := hl2
      rw [List.length_map, rgD_len] at this
      omega
    have B2 := B1.pre p2
    have F2 := F1.trans (Fr.pre (b := b) p2)
    have q1 := F1.len
    have qB := B.lt
    generalize S1.length = h at hn2 q1 ⊢
    -- what follows: the sender put together
    have fin : ∀ {S3 : Bxs} {d8 d9 : Option Dt} {lot' crew' : List Int}, lot'.length = size → crew'.length = hl → Mn.In 0 9 lot' → Mn.In 0 9 crew' → Bag S3 b c → Fr b S S3 →
        (sRet (dTup (aCons (dBin ixG (dVar 2) (dC (.int 0))) (aCons (dBin addG (dBin addG (dSl (dBin ixG (dVar 2) (dC (.int 1))) (oNone) (oSome (dVar 3))) (dTup (aCons (dTup (aCons (dVar 4) (aCons (dVar 5) (aCons (dVar 6) (aCons (dVar 7) (aNil)))))) (aNil)))) (dSl (dBin ixG (dVar 2) (dC (.int 1))) (oSome (dBin addG (dVar 3) (dC (.int 1)))) (oNone))) (aNil))))
          [some (.box b), some w, some (.tup [.int pl, .tup as]), some (.int k), some (.int s), some (.int t), some (iv lot'), some (iv crew'), d8, d9] S3).Wp (fun r S1 => (∃ d, r.1 = .rt d ∧ (∃ pl as, Snd size hl d pl as) ∧ Bag S1 b c ∧ Fr b S S1)) noX := by
      intro S3 d8 d9 lot' crew' e1 e2 e3 e4 B3 F3
      and_intros
      refine ⟨Nat.le_of_ble_eq_true (by rfl), ?_⟩
      and_intros
      refine ⟨Nat.le_of_ble_eq_true (by rfl), ?_⟩
      refine w_spl1 k0 (Nat.lt_of_le_of_lt aal (by decide)) ?_
      and_intros
      refine w_spl2 k0 k1 (Nat.lt_of_le_of_lt aal (by decide)) ?_
      and_intros
      and_intros
      refine ⟨Nat.le_of_ble_eq_true (by rfl), ?_⟩
      refine ⟨_, rfl, ⟨pl, _, rfl, ap0, ap1, by rw [List.length_set]; exact aal, fun a ha => ?_⟩, B3, F3⟩
      rcases List.mem_or_eq_of_mem_set ha with z | z
      · exact A.ar a z
      · rw [z]; exact ⟨s, t, lot', crew', ⟨rfl, R.s0, R.s1, R.t0, R.t1, e1, e2, e3, e4⟩⟩
    have put : ∀ {S3 : Bxs} {d9 : Option Dt}, Bag S3 b c → Fr b S2 S3 →
        (sCons (sSet 9 (dCall F__law_take (aCons (dVar 0) (aCons (dCall lenG (aCons (dVar 6) (aNil))) (aNil))))) (sSet 6 (dBin addG (dBin addG (dSl (dVar 6) (oNone) (oSome (dVar 9))) (dTup (aCons (dCall minG (aCons (dC (.int 9)) (aCons (dBin addG (dBin ixG (dVar 6) (dVar 9)) (dC (.int 1))) (aNil)))) (aNil)))) (dSl (dVar 6) (oSome (dBin addG (dVar 9) (dC (.int 1)))) (oNone))))
          [some (.box b), some w, some (.tup [.int pl, .tup as]), some (.int k), some (.int s), some (.int t), some (iv lot), some (iv crew), some (.box h), d9] S3).Wp
          (fun r S4 => r.1 = .nx ∧ ∃ d9 lot', r.2 = [some (.box b), some w, some (.tup [.int pl, .tup as]), some (.int k), some (.int s), some (.int t), some (iv lot'), some (iv crew), some (.box h), d9] ∧ lot'.length = size ∧ Mn.In 0 9 lot' ∧ Bag S4 b c ∧ Fr b S2 S4) noX := by
      intro S3 d9 B3 F3
      and_intros
      rw [List.length_map]
      refine (take_ok B3 (by omega) (by omega)).mono (fun d S4 ⟨p, ed, pp0, pp1, B4, F4⟩ => ?_) fun _ _ _ q => q
      subst ed
      obtain ⟨v, hv⟩ := idx_get (is := lot) (j := p.toNat) (by omega)
      have vb := R.lb.get hv
      and_intros
      refine w_ixT (at_int pp0 (by rw [List.getElem?_map, hv]; rfl)) ?_
      and_intros
      have em : minG [.int 9, .int (v + 1)] S4 = .ok (.int (if v + 1 < 9 then v + 1 else 9)) S4 := rfl
      refine .of em ?_
      and_intros
      refine ⟨Nat.le_of_ble_eq_true (by rfl), ?_⟩
      refine w_spl1 pp0 (by rw [List.length_map]; exact Nat.lt_of_le_of_lt (show lot.length ≤ 10 by omega) (by decide)) ?_
      and_intros
      refine w_spl2 pp0 (by rw [List.length_map]; omega) (by rw [List.length_map]; exact Nat.lt_of_le_of_lt (show lot.length ≤ 10 by omega) (by decide)) ?_
      and_intros
      refine ⟨rfl, _, lot.set p.toNat (if v + 1 < 9 then v + 1 else 9), by rw [← List.map_set]; rfl, by rw [List.length_set]; exact rll, R.lb.set (by split <;> omega), B4, F3.trans F4⟩
    and_intros
    have p3 := List.prefix_append S2 [MBox.lst []]
    refine w_neNil (seq_lst (get_pre p3 hn2)) (seq_lst get_last) smt ?_
    refine ⟨_, rfl, fun hh => ?_, fun hh => ⟨(fun z => nomatch z), fun _ => ?_⟩⟩
    · cases hd with
      | nil => cases hh
      | cons h0 hr =>
        and_intros
        refine (take_ok (B2.pre p3) (by decide) (by decide)).mono (fun d S4 ⟨u, ed, u0, u1, B4, F4⟩ => ?_) fun _ _ _ q => q
        subst ed
        have F24 : Fr b S2 S4 := (Fr.pre p3).trans F4
        and_intros
        refine ⟨fun _ => ?_, fun _ => ?_⟩
        · and_intros
          refine (one_ok B4 (seq_lst (F24.at_ hn2 (by omega))) (by omega) (fun z => nomatch z) (by rw [List.length_map]; omega)).mono (fun d S5 ⟨hdm, B5, F5⟩ => ?_) fun _ _ _ q => q
          obtain ⟨p, hpm, rfl⟩ := List.mem_map.mp hdm
          obtain ⟨pp0, pp1, v, hv, v0⟩ := hhd p hpm
          have vb := R.cb.get hv
          and_intros
          refine w_ixT (at_int pp0 (by rw [List.getElem?_map, hv]; rfl)) ?_
          and_intros
          refine ⟨Nat.le_of_ble_eq_true (by rfl), ?_⟩
          refine w_spl1 pp0 (by rw [List.length_map]; exact Nat.lt_of_le_of_lt (show crew.length ≤ 10 by omega) (by decide)) ?_
          and_intros
          refine w_spl2 pp0 (by rw [List.length_map]; omega) (by rw [List.length_map]; exact Nat.lt_of_le_of_lt (show crew.length ≤ 10 by omega) (by decide)) ?_
          rw [← List.map_set]
          refine c_nx ?_
          exact (fin rll (by rw [List.length_set]; exact rcl) R.lb (R.cb.set (by omega)) B5 (F2.trans (F24.trans F5))).mono (fun _ _ q => .inl q) fun _ _ _ q => q
        · refine (put B4 F24).mono (fun r S5 ⟨e, d9, lot', e2, l1, l2, B5, F5⟩ => ?_) fun _ _ _ q => q
          obtain ⟨fl, σ5⟩ := r
          cases e
          cases e2
          refine c_nx ?_
          exact (fin l1 rcl l2 R.cb B5 (F2.trans F5)).mono (fun _ _ q => .inl q) fun _ _ _ q => q
    · refine (put (B2.pre p3) (Fr.pre p3)).mono (fun r S5 ⟨e, d9, lot', e2, l1, l2, B5, F5⟩ => ?_) fun _ _ _ q => q
      obtain ⟨fl, σ5⟩ := r
      cases e
      cases e2
      refine c_nx ?_
      exact (fin l1 rcl l2 R.cb B5 (F2.trans F5)).mono (fun _ _ q => .inl q) fun _ _ _ q => q
end Lw
set_option Elab.async false
set_option linter.all false
set_option maxRecDepth 100000
set_option maxHeartbeats 4000000
namespace Mn
open PySem PySem.Spec PyProof.Rows L2
section
variable {S : Bxs} {E : Nat → List Dt → Bxs → Prop}
theorem dk_of {n : Nat} {kvs : List (Key × Dt)} (e : S[n]? = some (.dk kvs)) : S.dk n = some kvs := by unfold Bxs.dk; rw [e]
theorem dkR_of {n : Nat} {kvs : List (Key × Dt)} (e : S[n]? = some (.dk kvs)) : S.dkR n = some kvs := by unfold Bxs.dkR; rw [e]
theorem dkR_ofr {n : Nat} {kvs : List (Key × Dt)} (e : S[n]? = some (.dkr kvs)) : S.dkR n = some kvs := by unfold Bxs.dkR; rw [e]
theorem w_inDk {neg : Bool} {n : Nat} {i : Int} {kvs : List (Key × Dt)} {P : Dt → Bxs → Prop} (e : S[n]? = some (.dk kvs)) (h : P (.bl (if neg then !(valD kvs (.inl i)).isSome else (valD kvs (.inl i)).isSome)) S) : (inG neg (.int i) (.box n) S).Wp P E := by
  have z : inG neg (.int i) (.box n) S = .ok (.bl (if neg then !(valD kvs (.inl i)).isSome else (valD kvs (.inl i)).isSome)) S := by
    show inG0 neg (.int i) (.box n) S = _
    unfold inG0
    rw [show dkO S (.box n) = some kvs from dkR_of e]
    rfl
  rw [z]; exact ⟨h⟩
theorem w_setDk {n : Nat} {i : Int} {kvs : List (Key × Dt)} {d : Dt} {P : Unit → Bxs → Prop} (e : S[n]? = some (.dk kvs)) (c : kvs.length < LIM) (h : P () (S.set n (.dk (putD kvs (.inl i) d)))) : (setG (.box n) (.int i) d S).Wp P E := by
  have z : setG (.box n) (.int i) d S = .ok () (S.set n (.dk (putD kvs (.inl i) d))) := by
    show setG0 (.box n) (.int i) d S = _
    unfold setG0
    rw [show dkW S (.box n) = some kvs from dk_of e]
    show (if kvs.length < LIM then Rs.ok () (S.set n (.dk (putD kvs (.inl i) d))) else .no) = _
    rw [if_pos c]
  rw [z]; exact ⟨h⟩
end
theorem putD_len (kvs : List (Key × Dt)) (k : Key) (d : Dt) : (putD kvs k d).length ≤ kvs.length + 1 := by
  unfold putD
  split
  · rw [List.length_map]; omega
  · rw [List.length_append]; simp
end Mn
namespace Lw
open PySem PySem.Spec PyProof.Rows L2 Mn
theorem sender_ok {S : Bxs} {b c : Nat} {w : Dt} {size : Nat} {ks hs rs : List Dt} {places more : Int} (B : Bag S b c) (W : Works w size ks hs rs) (p0 : 1 ≤ places) (p1 : places ≤ 10) (m0 : 0 ≤ more) (m1 : more ≤ 20) :
    (F__law_sender [.box b, w, .int places, .int more] S).Wp (fun d S' => (∃ pl as, Snd size hs.length d pl as) ∧ Bag S' b c ∧ Fr b S S') noX := by
  have whl := W.hl
  have ws1 := W.s1
  have ws0 := W.s0
  refine w_body ?_
  unfold B__law_sender
  simp only [startD, List.map_cons, List.map_nil, List.length_cons, List.length_nil, List.cons_append, List.nil_append, Nat.reduceAdd, Nat.reduceSub, List.replicate, List.replicate_succ, List.replicate_zero]
  and_intros
  refine (take_ok B (by decide) (by decide)).mono (fun d S1 ⟨k, ed, k0, k1, B1, F1⟩ => ?_) fun _ _ _ q => q
  subst ed
  and_intros
  refine ⟨fun _ => ?_, fun _ => ?_⟩
  · and_intros
    exact (any_ok B1 W p0 p1 m0 m1).mono (fun d S2 ⟨hd, B2, F2⟩ => ⟨(fun z => nomatch z), fun _ => .inl ⟨_, rfl, hd, B2, F1.trans F2⟩⟩) fun _ _ _ q => q
  · refine w_sNil (c_nx ?_)
    and_intros
    refine (held_ok B1 W p0 p1 m0 m1).mono (fun d S2 ⟨⟨pl, as, A⟩, B2, F2⟩ => ?_) fun _ _ _ q => q
    and_intros
    refine ⟨fun _ => ?_, fun _ => ?_⟩
    · and_intros
      exact (bent_ok B2 A ws0 (by omega) (by omega)).mono (fun d S3 ⟨hd, B3, F3⟩ => .inl ⟨_, rfl, hd, B3, F1.trans (F2.trans F3)⟩) fun _ _ _ q => q
    · and_intros
      exact .inl ⟨_, rfl, ⟨pl, as, A⟩, B2, F1.trans F2⟩
/-- where an arrow begins, ends -/
def arrS : Dt → Int
  | .tup [.int s, .int _, _, _] => s
  | _ => -1
def arrT : Dt → Int
  | .tup [.int _, .int t, _, _] => t
  | _ => -1
theorem Arw.src {pl : Int} {size hl : Nat} {d : Dt} {s t : Int} {lot crew : List Int} (A : Arw pl size hl d s t lot crew) : arrS d = s := by rw [A.eq]; rfl
theorem Arw.tgt {pl : Int} {size hl : Nat} {d : Dt} {s t : Int} {lot crew : List Int} (A : Arw pl size hl d s t lot crew) : arrT d = t := by rw [A.eq]; rfl
/-- the indexes lead on from p to q -/
def Goes (as : List Dt) : Int → List Int → Int → Prop
  | p, [], q => p = q
  | p, i :: r, q => ∃ a, 0 ≤ i ∧ as[i.toNat]? = some a ∧ arrS a = p ∧ Goes as (arrT a) r q
theorem Goes.snoc {as : List Dt} {q i : Int} {a : Dt} (h0 : 0 ≤ i) (ha : as[i.toNat]? = some a) (hs : arrS a = q) : ∀ {is : List Int} {p : Int}, Goes as p is q → Goes as p (is ++ [i]) (arrT a)
  | [], p, h => by
    have h : p = q := h
    exact ⟨a, h0, ha, by rw [h]; exact hs, rfl⟩
  | j :: r, p, ⟨b, b0, hb, hbs, h⟩ => ⟨b, b0, hb, hbs, Goes.snoc h0 ha hs h⟩
theorem Snd.at_ {size hl : Nat} {d : Dt} {pl : Int} {as : List Dt} (A : Snd size hl d pl as) {i : Int} (h0 : 0 ≤ i) (h1 : i < as.length) : ∃ a s t lot crew, as[i.toNat]? = some a ∧ atI as i = some a ∧ Arw pl size hl a s t lot crew := by
  have hi : i.toNat < as.length := by omega
  have e := List.getElem?_eq_getElem hi
  obtain ⟨s, t, lot, crew, R⟩ := A.ar _ (List.getElem_mem hi)
  exact ⟨_, s, t, lot, crew, e, at_int h0 e, R⟩
end Lw
set_option Elab.async false
set_option linter.all false
set_option maxRecDepth 100000
set_option maxHeartbeats 4000000
/-! Lo: forms: names, amounts, recipes, works. -/
namespace Mn
open PySem PySem.Spec PyProof.Rows L2
section
variable {α : Type} {σ : Sg} {S : Bxs} {E : Nat → List Dt → Bxs → Prop}
theorem w_orV {a b : FE} {P : Dt → Bxs → Prop} (h : (a σ S).Wp (fun d S1 => ∃ c, d = .bl c ∧ (c = true → P (.bl true) S1) ∧ (c = false → (b σ S1).Wp P E)) E) : (dOrV a b σ S).Wp P E := by
  refine w_bind (h.mono (fun d S1 ⟨c, e, q1, q2⟩ => ?_) fun _ _ _ q => q)
  subst e
  cases c with
  | true => exact ⟨q1 rfl⟩
  | false => exact q2 rfl
theorem w_srcEnumT {f : FA} {P : List (Dt × Dt) × (Bxs → Prop) → Bxs → Prop} (h : (f σ S).Wp (fun ds S1 => ∃ xs, ds = [.tup xs] ∧ P (placed xs, fun S' => seqOf S' (.tup xs) = some xs) S1) E) : (srcEnum f σ S).Wp P E := by
  refine w_bind (h.mono (fun ds S1 ⟨xs, e, q⟩ => ?_) fun _ _ _ q => q)
  subst e; exact ⟨q⟩
theorem w_tru {f : FE} {P : Bool → Bxs → Prop} (h : (f σ S).Wp (fun d S1 => ∃ b, truD S1 d = some b ∧ P b S1) E) : (dTru f σ S).Wp P E := by
  refine w_bind (h.mono (fun d S1 ⟨b, e, q⟩ => ?_) fun _ _ _ q => q)
  rw [e]; exact ⟨q⟩
end
end Mn
set_option Elab.async false
set_option linter.all false
set_option maxRecDepth 100000
set_option maxHeartbeats 4000000
/-! Lm: a world; sums and gains of arrows; likeness of small data. -/
namespace Lw
open PySem PySem.Spec PyProof.Rows L2 Mn
theorem world_ok {S : Bxs} {b c : Nat} {kinds recipes places : Int} (B : Bag S b c) (k0 : 0 < kinds) (k1 : kinds ≤ 5) (r0 : 0 ≤ recipes) (r1 : recipes ≤ 8) (p0 : 1 ≤ places) (p1 : places ≤ 10) :
    (F__law_world [.box b, .int kinds, .int recipes, .int places] S).Wp (fun d S' => (∃ w e size ks hs rs pl as, d = .tup [w, e] ∧ Works w size ks hs rs ∧ Snd size hs.length e pl as) ∧ Bag S' b c ∧ Fr b S S') noX := by
  refine w_body ?_
  unfold B__law_world
  simp only [startD, List.map_cons, List.map_nil, List.length_cons, List.length_nil, List.cons_append, List.nil_append, Nat.reduceAdd, Nat.reduceSub, List.replicate, List.replicate_succ, List.replicate_zero]
  and_intros
  refine (works_ok B k0 k1 (by decide) (by decide) r0 r1).mono (fun w S1 ⟨⟨size, ks, hs, rs, W⟩, B1, F1⟩ => ?_) fun _ _ _ q => q
  and_intros
  refine (sender_ok B1 W p0 p1 (by decide) (by decide)).mono (fun e S2 ⟨⟨pl, as, A⟩, B2, F2⟩ => ?_) fun _ _ _ q => q
  and_intros
  refine ⟨Nat.le_of_ble_eq_true (by rfl), ?_⟩
  exact .inl ⟨_, rfl, ⟨w, e, size, ks, hs, rs, pl, as, rfl, W, A⟩, B2, F1.trans F2⟩
def Ixs (n : Nat) (is : List Int) : Prop := ∀ i ∈ is, 0 ≤ i ∧ i < n
def lotA : Dt → List Int
  | .tup [_, _, .tup l, _] => intsD l
  | _ => []
def crewA : Dt → List Int
  | .tup [_, _, _, .tup l] => intsD l
  | _ => []
theorem Arw.lot {pl : Int} {size hl : Nat} {d : Dt} {s t : Int} {lot crew : List Int} (A : Arw pl size hl d s t lot crew) : lotA d = lot := by rw [A.eq]; exact intsD_map lot
theorem Arw.crew {pl : Int} {size hl : Nat} {d : Dt} {s t : Int} {lot crew : List Int} (A : Arw pl size hl d s t lot crew) : crewA d = crew := by rw [A.eq]; exact intsD_map crew
def nthA (as : List Dt) (i : Int) : Dt := (as[i.toNat]?).getD .non
theorem Snd.nth {size hl : Nat} {d : Dt} {pl : Int} {as : List Dt} (A : Snd size hl d pl as) {is : List Int} (hi : Ixs as.length is) {i : Int} (h : i ∈ is) : ∃ s t lot crew, as[i.toNat]? = some (nthA as i) ∧ atI as i = some (nthA as i) ∧ Arw pl size hl (nthA as i) s t lot crew := by
  have := hi i h
  obtain ⟨a, s, t, lot, crew, e1, e2, R⟩ := A.at_ this.1 this.2
  have e : nthA as i = a := by unfold nthA; rw [e1]; rfl
  rw [e]
  exact ⟨s, t, lot, crew, e1, e2, R⟩
theorem Ixs.take {n : Nat} {is : List Int} (h : Ixs n is) (k : Nat) : Ixs n (is.take k) := fun i hi => h i (List.mem_of_mem_take hi)
theorem int_at {is : List Int} {i : Nat} {x : Dt} (h : (is.map Dt.int)[i]? = some x) : ∃ j, x = .int j ∧ is[i]? = some j ∧ j ∈ is ∧ is.take (i + 1) = is.take i ++ [j] := by
  rw [List.getElem?_map] at h
  cases e : is[i]? with
  | none => rw [e] at h; cases h
  | some j =>
    rw [e] at h; cases h
    exact ⟨j, rfl, rfl, List.mem_of_getElem? e, by rw [List.take_add_one, e]; rfl⟩
/-- what arrows gain -/
def gnA (ps ws : List Int) (a : Dt) : Int := dotI ps (lotA a) - dotI ws (crewA a)
theorem alikeS_ok {S : Bxs} {d : Dt} {w : Nat} (h : Sm 60 d w) (hw : w ≤ 1000000) : (F__law_alike [d, d] S).Wp (fun r S' => r = .bl true ∧ S' = S) noX := by
  refine w_body ?_
  unfold B__law_alike
  simp only [startD, List.map_cons, List.map_nil, List.length_cons, List.length_nil, List.cons_append, List.nil_append, Nat.reduceAdd, Nat.reduceSub, List.replicate, List.replicate_succ, List.replicate_zero]
  and_intros
  refine w_eqSame h ?_
  refine ⟨true, rfl, fun _ => ?_, fun z => nomatch z⟩
  and_intros
  refine w_reprS h hw ?_
  and_intros
  refine w_reprS h hw ?_
  refine w_eqShD (neg := false) h ?_
  exact .inl ⟨_, rfl, rfl, rfl⟩
end Lw
set_option Elab.async false
set_option linter.all false
set_option maxRecDepth 100000
set_option maxHeartbeats 4000000
/-! Oa: rules: while, pop, sorted, dicts shown and made by a walk, or by truth. -/
namespace Mn
open PySem PySem.Spec PyProof.Rows L2
section
variable {α : Type} {σ : Sg} {S : Bxs} {E : Nat → List Dt → Bxs → Prop}
theorem wl_more {c : FB} {b : FS} : ∀ {n : Nat} {σ : Sg} {S : Bxs}, wlN c b n σ S ≠ .no → ∀ k, wlN c b (n + k) σ S = wlN c b n σ S
  | 0, _, _, h, _ => absurd rfl h
  | n + 1, σ, S, h, k => by
    have hk : n + 1 + k = (n + k) + 1 := by omega
    rw [hk]
    unfold wlN at h ⊢
    cases e : c σ S with
    | no => rfl
    | ex c ds s => rfl
    | ok v S1 =>
      rw [e] at h
      simp only [Rs.bind_ok] at h ⊢
      cases v with
      | false => rfl
      | true =>
        simp only [if_true] at h ⊢
        cases e2 : b σ S1 with
        | no => rfl
        | ex c ds s => rfl
        | ok r S2 =>
          rw [e2] at h
          simp only [Rs.bind_ok] at h ⊢
          obtain ⟨fl, σ2⟩ := r
          cases fl with
          | nx => exact wl_more h k
          | ct => exact wl_more h k
          | bk => rfl
          | rt d => rfl
theorem wp_ne {r : Rs α} {P : α → Bxs → Prop} (h : r.Wp P E) : r ≠ .no := fun z => by rw [z] at h; exact h.sat
theorem w_whileN {c : FB} {b : FS} {P : Fl × Sg → Bxs → Prop} (n : Nat) (h : (wlN c b n σ S).Wp P E) : (sWhile c b σ S).Wp P E := by
  have hex : ∃ n, wlN c b n σ S ≠ .no := ⟨n, wp_ne h⟩
  have e1 := wl_more hex.choose_spec n
  have e2 := wl_more (wp_ne h) hex.choose
  have : wlN c b hex.choose σ S = wlN c b n σ S := by rw [← e1, ← e2, Nat.add_comm]
  unfold sWhile
  rw [dif_pos hex, this]
  exact h
/-- while, by a statement with a measure -/
theorem w_while {c : FB} {b : FS} {P : Fl × Sg → Bxs → Prop} (I : Nat → Sg → Bxs → Prop)
    (step : ∀ m σ S, I m σ S → (c σ S).Wp (fun k S1 => (k = true → (b σ S1).Wp (fun r S2 => (r.1 = .nx ∧ ∃ m', m' < m ∧ I m' r.2 S2) ∨ (∃ d, r.1 = .rt d ∧ P (.rt d, r.2) S2)) E) ∧ (k = false → P (.nx, σ) S1)) E)
    (m : Nat) (h0 : I m σ S) : (sWhile c b σ S).Wp P E := by
  have go : ∀ (m : Nat) (σ : Sg) (S : Bxs), I m σ S → ∃ n, (wlN c b n σ S).Wp P E := by
    intro m
    induction m using Nat.strongRecOn with
    | _ m ih =>
      intro σ S hI
      have hs := step m σ S hI
      cases e : c σ S with
      | no => rw [e] at hs; exact hs.sat.elim
      | ex c' ds s => exact ⟨1, by unfold wlN; rw [e]; rw [e] at hs; exact ⟨hs.sat⟩⟩
      | ok k S1 =>
        rw [e] at hs
        have hs := hs.sat
        cases k with
        | false => exact ⟨1, by unfold wlN; rw [e]; exact ⟨hs.2 rfl⟩⟩
        | true =>
          have hb := hs.1 rfl
          cases e2 : b σ S1 with
          | no => rw [e2] at hb; exact hb.sat.elim
          | ex c' ds s => exact ⟨1, by unfold wlN; rw [e, Rs.bind_ok, if_pos rfl, e2]; rw [e2] at hb; exact ⟨hb.sat⟩⟩
          | ok r S2 =>
            rw [e2] at hb
            obtain ⟨fl, σ2⟩ := r
            rcases hb.sat with ⟨e3, m', hm, hI'⟩ | ⟨d, e3, q⟩
            · cases e3
              obtain ⟨n, hn⟩ := ih m' hm σ2 S2 hI'
              exact ⟨n + 1, by unfold wlN; rw [e, Rs.bind_ok, if_pos rfl, e2]; exact hn⟩
            · cases e3
              exact ⟨1, by unfold wlN; rw [e, Rs.bind_ok, if_pos rfl, e2]; exact ⟨q⟩⟩
  obtain ⟨n, hn⟩ := go m σ S h0
  exact w_whileN n hn
theorem w_meth0 {T : String} {g : GM0} {o : FE} {P : Dt → Bxs → Prop} (h : (o σ S).Wp (fun d S1 => tyD T d S1 ∧ (g d S1).Wp P E) E) : (dMeth0 T g o σ S).Wp P E :=
  w_bind (h.mono (fun d S1 q => by rw [if_pos q.1]; exact q.2) fun _ _ _ q => q)
theorem w_popB {n : Nat} {xs : List Dt} {x : Dt} {P : Dt → Bxs → Prop} (e : S[n]? = some (.lst (xs ++ [x]))) (h : P x (S.set n (.lst xs))) : (popG (.box n) S).Wp P E := by
  show (match S.lst n with
    | some xs => match xs.getLast? with
      | some x => Rs.ok x (S.set n (.lst xs.dropLast))
      | none => .no
    | none => .no).Wp P E
  rw [lst_of e]
  simp only [List.getLast?_concat, List.dropLast_concat]
  exact ⟨h⟩
/-! ### sorted -/
theorem srtOk_ints (is : List Int) : SrtOk (is.map PyData.int) := by
  refine ⟨PySem.W.AllAlike.of (enc := PyData.int) fun _ _ => by simp [PySem.W.alike], PySem.W.Sortable.others (enc := PyData.int) fun _ => ⟨(fun z => nomatch z), fun _ z => nomatch z⟩, fun p hp => ?_⟩
  obtain ⟨i, _, rfl⟩ := List.mem_map.mp hp
  simp [PyData.depth]
def isort (is : List Int) : List Int := is.mergeSort (fun i j => decide (i ≤ j))
theorem isort_perm (is : List Int) : (isort is).Perm is := List.mergeSort_perm _ _
theorem sortD_map {β : Type} (f : β → Dt) (g : β → PyData) (r : β → β → Bool) (hr : ∀ a b, PySem.W.dataLe false (fun x : PyData => x) (g a) (g b) = r a b) (l : List β) : sortD (l.map fun b => (f b, g b)) = (l.mergeSort r).map f := by
  unfold sortD
  have h2 : (l.map fun b => (f b, g b)).mergeSort (PySem.W.dataLe false (·.2)) = (l.mergeSort r).map fun b => (f b, g b) := by
    rw [← PySem.W.sort_maps (r := r) (s := PySem.W.dataLe false (fun x : Dt × PyData => x.2)) (fun b => (f b, g b)) (fun a _ b _ => (hr a b).symm)]
  rw [h2, List.map_map]
  rfl
theorem sortD_ints (is : List Int) : sortD (is.map fun i => (Dt.int i, PyData.int i)) = (isort is).map Dt.int := by
  refine sortD_map Dt.int PyData.int _ (fun a b => ?_) is
  dsimp only [PySem.W.dataLe, PySem.W.sortLe]
  have : PyProof.Rows.lexLt itemOrd (PySem.W.keyToks (.int b)) (PySem.W.keyToks (.int a)) = decide (b < a) := PySem.W.dataLt_int b a
  show (!PyProof.Rows.lexLt itemOrd (PySem.W.keyToks (.int b)) (PySem.W.keyToks (.int a))) = _
  rw [this]
  by_cases h : a ≤ b
  · rw [decide_eq_true h, decide_eq_false (by omega)]; rfl
  · rw [decide_eq_false h, decide_eq_true (by omega)]; rfl
theorem optAll_map {α β : Type} {f : α → Option β} {g : α → β} : ∀ {xs : List α}, (∀ x ∈ xs, f x = some (g x)) → optAll (xs.map f) = some (xs.map g)
  | [], _ => rfl
  | x :: xs, h => by
    rw [List.map_cons, h x List.mem_cons_self]
    unfold optAll
    rw [optAll_map fun y hy => h y (List.mem_cons_of_mem _ hy)]
    rfl
theorem sortedG_seq {n : Nat} {xs : List Dt} {ps : List PyData} (e : S.seq n = some xs) (e2 : optAll (xs.map (pdo S)) = some ps) (ok : SrtOk ps) : sortedG [.box n] S = newL (sortD (xs.zip ps)) S := by
  unfold sortedG
  simp only [e, e2]
  rw [if_pos ok]
theorem sortedG_dk {n : Nat} {kvs : List (Key × Dt)} (e : S.seq n = none) (e2 : S.dk n = some kvs) (ok : SrtOk (kvs.map fun kv => keyPd kv.1)) : sortedG [.box n] S = newL (sortD (kvs.map fun kv => (keyDt kv.1, keyPd kv.1))) S := by
  unfold sortedG
  simp only [e, e2]
  rw [if_pos ok]
theorem pdo_int (i : Int) : pdo S (.int i) = some (.int i) := rfl
theorem w_sortI {n : Nat} {is : List Int} {P : Dt → Bxs → Prop} (e : S.seq n = some (is.map Dt.int)) (hl : is.length ≤ LIM) (h : P (.box S.length) (S ++ [.lst ((isort is).map Dt.int)])) : (sortedG [.box n] S).Wp P E := by
  have e2 : optAll ((is.map Dt.int).map (pdo S)) = some (is.map PyData.int) := by
    rw [List.map_map]
    exact optAll_map fun i _ => pdo_int i
  rw [sortedG_seq e e2 (srtOk_ints is)]
  have ez : (is.map Dt.int).zip (is.map PyData.int) = is.map fun i => (Dt.int i, PyData.int i) := by rw [List.zip_map', ]
  rw [ez, sortD_ints]
  exact w_newL (by rw [List.length_map, (isort_perm is).length_eq]; exact hl) h
theorem w_sortDkI {n : Nat} {is : List Int} {kvs : List (Key × Dt)} {P : Dt → Bxs → Prop} (e : S[n]? = some (.dk kvs)) (hk : kvs.map (·.1) = is.map Sum.inl) (hl : is.length ≤ LIM) (h : P (.box S.length) (S ++ [.lst ((isort is).map Dt.int)])) : (sortedG [.box n] S).Wp P E := by
  have e1 : S.seq n = none := by unfold Bxs.seq; rw [e]
  have e2 : S.dk n = some kvs := by unfold Bxs.dk; rw [e]
  have e3 : (kvs.map fun kv => keyPd kv.1) = is.map PyData.int := by
    have := congrArg (List.map keyPd) hk
    rw [List.map_map, List.map_map] at this
    exact this
  have e4 : (kvs.map fun kv => (keyDt kv.1, keyPd kv.1)) = is.map fun i => (Dt.int i, PyData.int i) := by
    have := congrArg (List.map fun k => (keyDt k, keyPd k)) hk
    rw [List.map_map, List.map_map] at this
    exact this
  rw [sortedG_dk e1 e2 (by rw [e3]; exact srtOk_ints is), e4, sortD_ints]
  exact w_newL (by rw [List.length_map, (isort_perm is).length_eq]; exact hl) h
/-! tuples of ints -/
def tupPd (is : List Int) : PyData := .tuple (is.map PyData.int)
/-- the order of lists of ints -/
def lexLe (a b : List Int) : Bool := !PySem.W.dataLt (tupPd b) (tupPd a)
def tsort (ls : List (List Int)) : List (List Int) := ls.mergeSort lexLe
theorem tsort_perm (ls : List (List Int)) : (tsort ls).Perm ls := List.mergeSort_perm _ _
theorem pd_ints {n : Nat} (is : List Int) : optAll ((is.map Dt.int).map (pd S (n + 1))) = some (is.map PyData.int) := by
  rw [List.map_map]
  exact optAll_map fun i _ => rfl
theorem pdo_iv (is : List Int) : pdo S (iv is) = some (tupPd is) := by
  show pd S 60 (.tup (is.map Dt.int)) = _
  unfold pd
  rw [pd_ints]
  rfl
theorem depth_tup (is : List Int) : (tupPd is).depth ≤ 60 := by
  unfold tupPd
  rw [PyData.depth, PySem.W.depth_ints]
  omega
theorem w_sortT {n : Nat} {ls : List (List Int)} {P : Dt → Bxs → Prop} (e : S.seq n = some (ls.map iv)) (hne : ∀ l ∈ ls, l ≠ []) (hl : ls.length ≤ LIM) (h : P (.box S.length) (S ++ [.lst ((tsort ls).map iv)])) : (sortedG [.box n] S).Wp P E := by
  have e2 : optAll ((ls.map iv).map (pdo S)) = some (ls.map tupPd) := by
    rw [List.map_map]
    exact optAll_map fun i _ => pdo_iv i
  have ok : SrtOk (ls.map tupPd) := by
    refine ⟨PySem.W.AllAlike.of (enc := tupPd) fun a b => ?_, .inl fun d hd => ?_, fun p hp => ?_⟩
    · show PySem.W.alike (.tuple _) (.tuple _) = true
      rw [PySem.W.alike]
      exact PySem.W.alike_ints a b
    · obtain ⟨l, hl, rfl⟩ := List.mem_map.mp hd
      cases l with
      | nil => exact absurd rfl (hne _ hl)
      | cons i r => exact ⟨_, _, rfl⟩
    · obtain ⟨l, _, rfl⟩ := List.mem_map.mp hp
      exact depth_tup l
  rw [sortedG_seq e e2 ok]
  have ez : (ls.map iv).zip (ls.map tupPd) = ls.map fun i => (iv i, tupPd i) := by rw [List.zip_map']
  rw [ez, sortD_map iv tupPd lexLe (fun a b => rfl)]
  exact w_newL (by rw [List.length_map, List.length_mergeSort]; exact hl) h
/-! ### dicts -/
theorem w_disp1 {fk fv : FE} {P : Dt → Bxs → Prop} (h : (fk σ (S ++ [.dk []])).Wp (fun k S1 => (fv σ S1).Wp (fun v S2 => ∃ key, keyOf k = some key ∧ S2[S.length]? = some (.dk []) ∧ P (.box S.length) (S2.set S.length (.dk [(key, v)]))) E) E) : (dDisp [(fk, fv)] σ S).Wp P E := by
  refine w_bind ?_
  show (((fk σ (S ++ [.dk []])).bind fun k S1 => (fv σ S1).bind fun v S2 => (fPairs [] σ S2).bind fun ps S3 => .ok ((k, v) :: ps) S3)).Wp _ _
  refine w_bind (h.mono (fun k S1 h1 => w_bind (h1.mono (fun v S2 ⟨key, e1, e2, q⟩ => ?_) fun _ _ _ q => q)) fun _ _ _ q => q)
  refine ⟨?_⟩
  show (match keysD [(k, v)], S2.dk S.length with
    | some kvs, some [] => if kvs.length ≤ 15 then Rs.ok (Dt.box S.length) (S2.set S.length (.dk (mergeD [] kvs))) else .no
    | _, _ => .no).Wp P E
  have e3 : keysD [(k, v)] = some [(key, v)] := by unfold keysD; rw [e1]; rfl
  have e4 : S2.dk S.length = some [] := by unfold Bxs.dk; rw [e2]
  rw [e3, e4]
  exact ⟨q⟩
/-- a dict made by a walk: as w_lc -/
theorem w_dc {src : Src α} {g : α → Sg → Bxs → Rs Sg} {tt : FB} {tk te : FE} {vs : List Nat} {P : Dt → Bxs → Prop}
    (h : (src σ S).Wp (fun r S1 => ∃ I : Nat → List (Key × Dt) → Bxs → Prop, (∀ i acc S, I i acc S → r.2 S) ∧
      (∀ i x acc S, r.1[i]? = some x → S[S1.length]? = some (.dk acc) → I i acc S → (g x (wipeD σ vs) S).Wp (fun σ1 S2 => (tt σ1 S2).Wp (fun b S3 => (b = true → (tk σ1 S3).Wp (fun y S4 => (te σ1 S4).Wp (fun d S5 => ∃ k, keyOf y = some k ∧ S5[S1.length]? = some (.dk acc) ∧ acc.length < LIM ∧ I (i + 1) (putD acc k d) (S5.set S1.length (.dk (putD acc k d)))) noX) noX) ∧
        (b = false → S3[S1.length]? = some (.dk acc) ∧ I (i + 1) acc S3)) noX) noX) ∧
      I 0 [] (S1 ++ [.dk []]) ∧ ∀ acc S, S[S1.length]? = some (.dk acc) → I r.1.length acc S → P (.box S1.length) S) E) : (dDc src g tt tk te vs σ S).Wp P E := by
  refine w_bind (h.mono (fun r S1 h1 => ?_) fun _ _ _ q => q)
  obtain ⟨xs, st⟩ := r
  obtain ⟨I, hst, step, h0, fin⟩ := h1
  refine w_bind (quiet_of ?_)
  have go : ∀ (k : Nat) (ys : List α) (acc : List (Key × Dt)) (S : Bxs), k + ys.length = xs.length → ys = xs.drop k → S[S1.length]? = some (.dk acc) → I k acc S → (dcF st g tt tk te (wipeD σ vs) S1.length ys S).Wp (fun _ S2 => P (.box S1.length) S2) noX := by
    intro k ys
    induction ys generalizing k with
    | nil =>
      intro acc S hk he hn hI
      unfold dcF
      rw [if_pos (hst _ _ _ hI)]
      have : k = xs.length := by simpa using hk
      subst this
      exact ⟨fin _ _ hn hI⟩
    | cons y ys ih =>
      intro acc S hk he hn hI
      unfold dcF
      rw [if_pos (hst _ _ _ hI)]
      have hkl : k < xs.length := by rw [List.length_cons] at hk; omega
      have hd := List.drop_eq_getElem_cons hkl
      rw [← he] at hd
      injection hd with e1 e2
      have hx : xs[k]? = some y := by rw [List.getElem?_eq_getElem hkl, e1]
      refine w_bind ((step k y acc S hx hn hI).mono (fun σ1 S2 h1 => w_bind (h1.mono (fun b S3 h2 => w_cond (fun hb => w_bind ((h2.1 hb).mono (fun yk S4 h3 => w_bind (h3.mono (fun d S5 h4 => ?_) fun _ _ _ q => q)) fun _ _ _ q => q)) fun hb => ?_) fun _ _ _ q => q)) fun _ _ _ q => q)
      · obtain ⟨key, ek, hn4, hl, hI2⟩ := h4
        have ed : S5.dk S1.length = some acc := by unfold Bxs.dk; rw [hn4]
        rw [ek, ed]
        show (if acc.length < LIM then dcF st g tt tk te (wipeD σ vs) S1.length ys (S5.set S1.length (.dk (putD acc key d))) else .no).Wp _ _
        rw [if_pos hl]
        exact ih (k + 1) _ _ (by rw [List.length_cons] at hk; omega) e2 (List.getElem?_set_self (get_lt hn4)) hI2
      · obtain ⟨hn3, hI2⟩ := h2.2 hb
        exact ih (k + 1) acc S3 (by rw [List.length_cons] at hk; omega) e2 hn3 hI2
  exact (go 0 xs [] _ (by simp) rfl get_last h0).mono (fun _ _ q => ⟨q⟩) fun _ _ _ q => q
end
/-! ### two sorted lists of the same ints -/
theorem isort_sorted (is : List Int) : (isort is).Pairwise (· ≤ ·) := by
  have := List.pairwise_mergeSort (le := fun i j : Int => decide (i ≤ j)) (fun a b c h1 h2 => by simp at *; omega) (fun a b => by simp; omega) is
  exact this.imp fun h => of_decide_eq_true h
theorem sorted_ext : ∀ {xs ys : List Int}, xs.Pairwise (· ≤ ·) → ys.Pairwise (· ≤ ·) → xs.Perm ys → xs = ys
  | [], ys, _, _, p => p.nil_eq
  | x :: xs, [], _, _, p => p.eq_nil
  | x :: xs, y :: ys, h1, h2, p => by
    have hx := List.pairwise_cons.mp h1
    have hy := List.pairwise_cons.mp h2
    have m1 : x ∈ y :: ys := p.mem_iff.mp List.mem_cons_self
    have m2 : y ∈ x :: xs := p.mem_iff.mpr List.mem_cons_self
    have e : x = y := by
      have a : y ≤ x := by
        rcases List.mem_cons.mp m1 with z | z
        · omega
        · exact hy.1 x z
      have b : x ≤ y := by
        rcases List.mem_cons.mp m2 with z | z
        · omega
        · exact hx.1 y z
      omega
    subst e
    rw [sorted_ext hx.2 hy.2 (List.Perm.cons_inv p)]
theorem isort_ext {xs ys : List Int} (h1 : xs.Nodup) (h2 : ys.Nodup) (h : ∀ x, x ∈ xs ↔ x ∈ ys) : isort xs = isort ys :=
  sorted_ext (isort_sorted _) (isort_sorted _) ((isort_perm xs).trans (((List.perm_ext_iff_of_nodup h1 h2).mpr h).trans (isort_perm ys).symm))
end Mn
set_option Elab.async false
set_option linter.all false
set_option maxRecDepth 100000
set_option maxHeartbeats 4000000
/-! Ob: the places that runs come to, both ways. -/
namespace Mn
open PySem PySem.Spec PyProof.Rows L2
section
variable {S : Bxs} {E : Nat → List Dt → Bxs → Prop}
theorem any_int {is : List Int} {x : Int} : ((is.map Dt.int).any fun e => e.eqf (.int x)) = decide (x ∈ is) := by
  induction is with
  | nil => rfl
  | cons i is ih =>
    rw [List.map_cons, List.any_cons, ih]
    have : Dt.eqf (.int i) (.int x) = decide (i = x) := rfl
    rw [this]
    by_cases h : i = x
    · subst h; simp
    · have h' : ¬ x = i := fun z => h z.symm
      simp [h, h']
theorem all_int {is : List Int} : (is.map Dt.int).all Dt.flat = true := by
  rw [List.all_eq_true]
  intro d hd
  obtain ⟨i, _, rfl⟩ := List.mem_map.mp hd
  rfl
theorem w_inI {neg : Bool} {n : Nat} {x : Int} {is : List Int} {P : Dt → Bxs → Prop} (e : S.seq n = some (is.map Dt.int)) (h : P (.bl (if neg then !decide (x ∈ is) else decide (x ∈ is))) S) : (inG neg (.int x) (.box n) S).Wp P E := by
  have z : inG neg (.int x) (.box n) S = .ok (.bl (if neg then !decide (x ∈ is) else decide (x ∈ is))) S := by
    show inG0 neg (.int x) (.box n) S = _
    unfold inG0
    rw [show dkO S (.box n) = none from dk_seq e]
    show (if Dt.flat (.int x) = true then inF neg (.int x) (.box n) S else _) = _
    rw [if_pos (show Dt.flat (.int x) = true from rfl)]
    unfold inF
    rw [show seqOf S (.box n) = some (is.map Dt.int) from e]
    show (if Dt.flat (.int x) = true ∧ (is.map Dt.int).all Dt.flat = true then Rs.ok (Dt.bl (if neg then !((is.map Dt.int).any fun e => e.eqf (.int x)) else (is.map Dt.int).any fun e => e.eqf (.int x))) S else .no) = _
    rw [if_pos ⟨rfl, all_int⟩, any_int]
  rw [z]; exact ⟨h⟩
end
theorem nodup_le : ∀ (n : Nat) (l : List Int), l.Nodup → (∀ x ∈ l, 0 ≤ x ∧ x < n) → l.length ≤ n
  | 0, l, _, h => by
    cases l with
    | nil => exact Nat.le_refl _
    | cons x l => have := h x List.mem_cons_self; omega
  | n + 1, l, hn, h => by
    have h1 := nodup_le n (l.erase (n : Int)) (hn.erase _) fun x hx => by
      have hm := (List.Nodup.mem_erase_iff hn).mp hx
      have := h x hm.2
      have hne := hm.1
      omega
    by_cases hm : (n : Int) ∈ l
    · rw [List.length_erase_of_mem hm] at h1; omega
    · rw [List.erase_of_not_mem hm] at h1; omega
/-- the keys of a dict by ints -/
def KyI (kvs : List (Key × Dt)) (ks : List Int) : Prop := kvs.map (fun kv => kv.1) = ks.map (fun k => (Sum.inl k : Key))
theorem KyI.len {kvs : List (Key × Dt)} {ks : List Int} (h : KyI kvs ks) : kvs.length = ks.length := by
  have := congrArg List.length h
  rwa [List.length_map, List.length_map] at this
theorem KyI.val {kvs : List (Key × Dt)} {ks : List Int} (h : KyI kvs ks) (x : Int) : (valD kvs (.inl x)).isSome = decide (x ∈ ks) := by
  unfold KyI at h
  unfold valD
  rw [Option.isSome_map]
  induction kvs generalizing ks with
  | nil => cases ks <;> first | rfl | cases h
  | cons p kvs ih =>
    cases ks with
    | nil => cases h
    | cons k ks =>
      rw [List.map_cons, List.map_cons] at h
      injection h with h1 h2
      rw [List.find?_cons]
      by_cases e : k = x
      · subst e; simp [h1]
      · have e' : ¬ x = k := fun z => e z.symm
        have : decide (p.1 = Sum.inl x) = false := decide_eq_false (fun z => by rw [h1] at z; exact e (Sum.inl.inj z))
        rw [this]
        simp only [ih h2]
        simp [e']
theorem KyI.put {kvs : List (Key × Dt)} {ks : List Int} (h : KyI kvs ks) {x : Int} (hx : x ∉ ks) (d : Dt) : KyI (putD kvs (.inl x) d) (ks ++ [x]) := by
  unfold putD
  have hn : ¬ (kvs.any fun kv => decide (kv.1 = Sum.inl x)) = true := by
    intro z
    rw [List.any_eq_true] at z
    obtain ⟨p, hp, q⟩ := z
    have q : p.1 = Sum.inl x := of_decide_eq_true q
    have : p.1 ∈ kvs.map (·.1) := List.mem_map.mpr ⟨p, hp, rfl⟩
    rw [h, q] at this
    obtain ⟨y, hy, e⟩ := List.mem_map.mp this
    exact hx (by rw [← Sum.inl.inj e]; exact hy)
  rw [if_neg hn]
  show (kvs ++ [((Sum.inl x : Key), d)]).map (fun kv : Key × Dt => kv.1) = _
  rw [List.map_append, List.map_append, h]
  rfl
end Mn
namespace Lw
open PySem PySem.Spec PyProof.Rows L2 Mn
/-- a run ends there -/
inductive Rch (as : List Dt) : Int → Prop
  | zero : Rch as 0
  | step {a : Dt} : a ∈ as → Rch as (arrS a) → Rch as (arrT a)
/-- just the places that runs end at -/
def Cm (as : List Dt) (xs : List Int) : Prop := xs.Nodup ∧ ∀ x, x ∈ xs ↔ Rch as x
theorem Cm.same {as : List Dt} {xs ys : List Int} (h1 : Cm as xs) (h2 : Cm as ys) : isort xs = isort ys := by
  refine isort_ext h1.1 h2.1 ?_
  intro x
  exact (h1.2 x).trans (h2.2 x).symm
theorem Cm.sorted {as : List Dt} {xs : List Int} (h : Cm as xs) : Cm as (isort xs) :=
  ⟨(isort_perm xs).nodup_iff.mpr h.1, fun x => ((isort_perm xs).mem_iff).trans (h.2 x)⟩
open Classical in
/-- the places, ascending -/
noncomputable def comeL (as : List Dt) : List Int := if h : ∃ xs, Cm as xs then isort h.choose else []
theorem Cm.eq {as : List Dt} {xs : List Int} (h : Cm as xs) : isort xs = comeL as := by
  have hex : ∃ xs, Cm as xs := ⟨xs, h⟩
  unfold comeL
  rw [dif_pos hex]
  exact h.same hex.choose_spec
theorem Cm.closed {as : List Dt} {fs : List Int} (hn : fs.Nodup) (h0 : (0 : Int) ∈ fs) (hr : ∀ x ∈ fs, Rch as x) (hc : ∀ a ∈ as, arrS a ∈ fs → arrT a ∈ fs) : Cm as fs :=
  ⟨hn, fun x => ⟨hr x, fun h => by
    induction h with
    | zero => exact h0
    | step ha _ ih => exact hc _ ha ih⟩⟩
variable {S : Bxs} {d : Dt} {size hl : Nat} {pl : Int} {as : List Dt}
theorem Snd.rch (A : Snd size hl d pl as) {x : Int} (h : Rch as x) : 0 ≤ x ∧ x < pl := by
  have := A.p0
  cases h with
  | zero => omega
  | step ha _ =>
    obtain ⟨s, t, lot, crew, R⟩ := A.ar _ ha
    rw [R.tgt]
    exact ⟨R.t0, R.t1⟩
/-- the indexes of the arrows from p -/
def fromL (as : List Dt) (p : Int) : List Int := ((List.range as.length).map fun i : Nat => (i : Int)).filter fun i => decide (arrS (nthA as i) = p)
theorem fromL_mem {as : List Dt} {p i : Int} : i ∈ fromL as p ↔ 0 ≤ i ∧ i < as.length ∧ arrS (nthA as i) = p := by
  unfold fromL
  rw [List.mem_filter, List.mem_map]
  constructor
  · rintro ⟨⟨j, hj, rfl⟩, h⟩
    have := List.mem_range.mp hj
    exact ⟨by omega, by omega, of_decide_eq_true h⟩
  · rintro ⟨h0, h1, h2⟩
    exact ⟨⟨i.toNat, List.mem_range.mpr (by omega), by omega⟩, decide_eq_true h2⟩
theorem fromL_len {as : List Dt} {p : Int} : (fromL as p).length ≤ as.length := by
  unfold fromL
  exact Nat.le_trans (List.length_filter_le _ _) (by simp)
theorem Snd.arw (A : Snd size hl d pl as) {i : Int} (h0 : 0 ≤ i) (h1 : i < as.length) : ∃ s t lot crew, nthA as i ∈ as ∧ as[i.toNat]? = some (nthA as i) ∧ atI as i = some (nthA as i) ∧ Arw pl size hl (nthA as i) s t lot crew := by
  obtain ⟨s, t, lot, crew, e1, e2, R⟩ := A.nth (is := [i]) (fun j hj => by rw [List.mem_singleton.mp hj]; exact ⟨h0, h1⟩) List.mem_cons_self
  exact ⟨s, t, lot, crew, List.mem_of_getElem? e1, e1, e2, R⟩
theorem from_ex {p : Int} (A : Snd size hl d pl as) :
    (F__law_arrows_from [d, .int p] S).Wp (fun r S' => ∃ n, r = .box n ∧ S.length ≤ n ∧ IL S' n (fromL as p) ∧ S <+: S') noX := by
  have hwe := A.eq
  have aal := A.al
  subst hwe
  refine w_body ?_
  unfold B__law_arrows_from
  simp only [startD, List.map_cons, List.map_nil, List.length_cons, List.length_nil, List.cons_append, List.nil_append, Nat.reduceAdd, Nat.reduceSub, List.replicate, List.replicate_succ, List.replicate_zero]
  and_intros
  refine w_lcP ?_
  and_intros
  refine ⟨⟨by omega, by omega⟩, fun x => match x with | .int i => decide (arrS (nthA as i) = p) | _ => false, fun x d => d = x, by rw [rgD_len]; exact Nat.lt_of_le_of_lt (show (as.length : Int).toNat ≤ 40 by omega) (by decide), fun _ _ => trivial, fun z S' hz hS' => ?_, fun ds S2 he hn2 p2 => ?_⟩
  · obtain ⟨j, hj⟩ := List.mem_iff_getElem?.mp hz
    have hz2 := rgD_get hj
    subst hz2
    have hjl : j < as.length := by
      have := (List.getElem?_eq_some_iff.mp hj).1
      rw [rgD_len] at this
      omega
    obtain ⟨s, t, lot, crew, hm, ea, eat, R⟩ := A.arw (i := 0 + (j : Int)) (by omega) (by omega)
    have hs := R.src
    and_intros
    refine w_ixT eat ?_
    rw [R.eq]
    and_intros
    refine ⟨?_, fun _ => List.prefix_refl _, fun _ => ?_⟩
    · simp only [hs]
    and_intros
    exact ⟨rfl, List.prefix_refl _⟩
  · have e2 := Each.map (f := fun x => x) he
    rw [List.map_id'] at e2
    subst e2
    refine .inl ⟨_, rfl, _, rfl, Nat.le_refl _, ?_, p2⟩
    show S2[S.length]? = some (.lst ((fromL as p).map Dt.int))
    rw [hn2]
    congr 2
    unfold fromL rgD
    rw [List.filter_map, List.filter_map, List.map_map]
    have e0 : (as.length : Int).toNat = as.length := by omega
    simp only [e0]
    have e1 : ∀ l : List Nat, l.filter ((fun x => match x with | Dt.int i => decide (arrS (nthA as i) = p) | _ => false) ∘ fun i : Nat => Dt.int (0 + (i : Int))) = l.filter ((fun i => decide (arrS (nthA as i) = p)) ∘ fun i : Nat => (i : Int)) := fun l => by
      apply List.filter_congr
      intro x _
      simp
    rw [e1]
    apply List.map_congr_left
    intro x _
    simp
end Lw
set_option Elab.async false
set_option linter.all false
set_option maxRecDepth 100000
set_option maxHeartbeats 4000000
namespace Lw
open PySem PySem.Spec PyProof.Rows L2 Mn
variable {S : Bxs} {d : Dt} {size hl : Nat} {pl : Int} {as : List Dt}
/-- under way: what was found, what is left; all of p's arrows but the first k are still to be looked at -/
structure CW (as : List Dt) (pl : Int) (fs ts : List Int) (p : Option (Int × List Int)) : Prop where
  nd : fs.Nodup
  z : (0 : Int) ∈ fs
  r : ∀ x ∈ fs, Rch as x
  sub : ∀ x ∈ ts, x ∈ fs
  cl : ∀ a ∈ as, arrS a ∈ fs → arrT a ∈ fs ∨ arrS a ∈ ts ∨ ∃ q l, p = some (q, l) ∧ arrS a = q ∧ ∃ i ∈ l, nthA as i = a
theorem CW.len (A : Snd size hl d pl as) {fs ts : List Int} {p : Option (Int × List Int)} (h : CW as pl fs ts p) : fs.length ≤ 10 := by
  have p1 := A.p1
  have p0 := A.p0
  have := nodup_le pl.toNat fs h.nd fun x hx => by have := A.rch (h.r x hx); omega
  omega
theorem all_from {a : Dt} (h : a ∈ as) : ∃ i ∈ fromL as (arrS a), nthA as i = a := by
  obtain ⟨j, hj, e⟩ := List.mem_iff_getElem.mp h
  have e2 : nthA as (j : Int) = a := by
    unfold nthA
    rw [show ((j : Int)).toNat = j by omega, List.getElem?_eq_getElem hj, e]
    rfl
  exact ⟨(j : Int), fromL_mem.mpr ⟨by omega, by omega, by rw [e2]⟩, e2⟩
theorem law_come_ok (A : Snd size hl d pl as) :
    (F__law_come_to [d] S).Wp (fun r S' => ∃ n, r = .box n ∧ S.length ≤ n ∧ IL S' n (comeL as) ∧ Cm as (comeL as) ∧ S <+: S') noX := by
  have hwe := A.eq
  have aal := A.al
  subst hwe
  refine w_body ?_
  unfold B__law_come_to
  simp only [startD, List.map_cons, List.map_nil, List.length_cons, List.length_nil, List.cons_append, List.nil_append, Nat.reduceAdd, Nat.reduceSub, List.replicate, List.replicate_succ, List.replicate_zero]
  and_intros
  have ef : IL ((S ++ [MBox.lst [Dt.int 0]]) ++ [MBox.lst [Dt.int 0]]) S.length [0] := get_pre (List.prefix_append _ _) get_last
  have et : IL ((S ++ [MBox.lst [Dt.int 0]]) ++ [MBox.lst [Dt.int 0]]) (S ++ [MBox.lst [Dt.int 0]]).length [0] := get_last
  have p0 : S <+: ((S ++ [MBox.lst [Dt.int 0]]) ++ [MBox.lst [Dt.int 0]]) := (List.prefix_append _ _).trans (List.prefix_append _ _)
  have hft : S.length < (S ++ [MBox.lst [Dt.int 0]]).length := by simp
  generalize (S ++ [MBox.lst [Dt.int 0]]) ++ [MBox.lst [Dt.int 0]] = S0 at ef et p0 ⊢
  generalize (S ++ [MBox.lst [Dt.int 0]]).length = t at et hft ⊢
  generalize hf0 : S.length = f at ef hft ⊢
  refine w_while (fun m σ S' => ∃ d3 fs ts, σ = [some (.tup [.int pl, .tup as]), some (.box f), some (.box t), d3] ∧ IL S' f fs ∧ IL S' t ts ∧ CW as pl fs ts none ∧ S <+: S' ∧ 2 * (10 - fs.length) + ts.length ≤ m ∧ m ≤ 20)
    (fun m σ S1 ⟨d3, fs, ts, e, hfs, hts, C, p1, hm, hm20⟩ => ?_) (2 * 10) ⟨_, [0], [0], rfl, ef, et, ⟨by simp, by simp, fun x hx => by rw [List.mem_singleton.mp hx]; exact .zero, fun x hx => hx, fun a ha hs => .inr (.inl hs)⟩, p0, by simp, by simp⟩
  subst e
  have hbt : ∀ i ∈ ts, -(10 ^ 22) ≤ i ∧ i ≤ 10 ^ 22 := fun i hi => by have := A.rch (C.r i (C.sub i hi)); have := A.p1; omega
  and_intros
  have p2 := List.prefix_append S1 [MBox.lst []]
  refine w_neNil (seq_lst (get_pre p2 hts)) (seq_lst get_last) (sm_ints hbt) ?_
  refine ⟨_, rfl, fun hh => ?_, fun hh => ?_⟩
  · have tne : ts ≠ [] := fun z => by rw [z] at hh; cases hh
    have hts2 : IL (S1 ++ [MBox.lst []]) t ts := get_pre p2 hts
    have hfs2 : IL (S1 ++ [MBox.lst []]) f fs := get_pre p2 hfs
    have p12 := p1.trans p2
    generalize S1 ++ [MBox.lst []] = S2 at hts2 hfs2 p12 ⊢
    obtain ⟨us, u, rfl⟩ : ∃ us u, ts = us ++ [u] := ⟨_, _, (List.dropLast_concat_getLast tne).symm⟩
    and_intros
    refine w_meth0 ?_
    and_intros
    refine ⟨ty_list hts2, ?_⟩
    have hts3 : S2[t]? = some (.lst (us.map Dt.int ++ [.int u])) := by
      have := hts2
      unfold IL at this
      rw [List.map_append] at this
      exact this
    refine w_popB hts3 ?_
    have hts4 : IL (S2.set t (.lst (us.map Dt.int))) t us := List.getElem?_set_self (get_lt hts2)
    have hfs4 : IL (S2.set t (.lst (us.map Dt.int))) f fs := hfs2.skip (by omega)
    have p14 : S <+: S2.set t (.lst (us.map Dt.int)) := pre_set p12 (by omega)
    have hlt4 : t < (S2.set t (.lst (us.map Dt.int))).length := by rw [List.length_set]; exact get_lt hts2
    generalize S2.set t (.lst (us.map Dt.int)) = S4 at hts4 hfs4 p14 hlt4 ⊢
    and_intros
    refine (from_ex (p := u) A).mono (fun r S5 ⟨n, e5, hn, es, p5⟩ => ?_) fun _ _ _ q => q
    subst e5
    and_intros
    refine ⟨_, w_seqB es, ?_⟩
    have hu : u ∈ fs := C.sub u (by simp)
    have C0 : CW as pl fs us (some (u, fromL as u)) := ⟨C.nd, C.z, C.r, fun x hx => C.sub x (by simp [hx]), fun a ha hs => by
      rcases C.cl a ha hs with z | z | ⟨q, l, z, _⟩
      · exact .inl z
      · rcases List.mem_append.mp z with z | z
        · exact .inr (.inl z)
        · have eu := List.mem_singleton.mp z
          obtain ⟨i, hi, ei⟩ := all_from ha
          exact .inr (.inr ⟨u, _, rfl, eu, i, by rw [← eu]; exact hi, ei⟩)
      · cases z⟩
    refine w_loop (fun i σ S' => ∃ d3 fs ts, σ = [some (.tup [.int pl, .tup as]), some (.box f), some (.box t), d3] ∧ IL S' f fs ∧ IL S' t ts ∧ IL S' n (fromL as u) ∧ u ∈ fs ∧ CW as pl fs ts (some (u, (fromL as u).drop i)) ∧ S <+: S' ∧ 2 * (10 - fs.length) + ts.length < m)
      (fun i σ S' ⟨_, _, _, _, _, _, h, _⟩ => w_seqB h) (fun i x σ S6 hx ⟨d3, fs, ts, e, hfs, hts, hso, hu, C, p6, hm⟩ => ?_) (fun σ S6 ⟨d3, fs, ts, e, hfs, hts, hso, hu, C, p6, hm⟩ => ?_) ⟨d3, fs, us, rfl, hfs4.pre p5, hts4.pre p5, es, hu, C0, p14.trans p5, by rw [List.length_append] at hm; simp at hm; omega⟩
    · subst e
      obtain ⟨j, rfl, hj, hjm, _⟩ := int_at hx
      have hjf := fromL_mem.mp hjm
      obtain ⟨s, tt, lot, crew, hm0, ea, eat, R⟩ := A.arw hjf.1 hjf.2.1
      have hdrop : (fromL as u).drop i = j :: (fromL as u).drop (i + 1) := by
        have hi := (List.getElem?_eq_some_iff.mp hj)
        rw [List.drop_eq_getElem_cons hi.1, hi.2]
      have hrt : Rch as (arrT (nthA as j)) := .step hm0 (by rw [hjf.2.2]; exact C.r u hu)
      have ett := R.tgt
      have hnn : n ≠ f ∧ n ≠ t := ⟨by omega, by omega⟩
      and_intros
      refine w_ixT eat ?_
      rw [R.eq]
      and_intros
      refine w_inI hfs.seq ?_
      refine ⟨_, rfl, fun hin => ?_, fun hin => ?_⟩
      · have hin' : tt ∉ fs := fun z => by simp [z] at hin
        and_intros
        refine ⟨ty_list hfs, ?_⟩
        and_intros
        refine w_ixT eat ?_
        rw [R.eq]
        and_intros
        have l1 := CW.len A C
        refine w_append (lst_of hfs) (by rw [List.length_map]; exact Nat.lt_of_le_of_lt l1 (by decide)) ?_
        have hfs7 : IL (S6.set f (.lst (fs.map Dt.int ++ [Dt.int tt]))) f (fs ++ [tt]) := IL.set hfs (by simp)
        have hts7 : IL (S6.set f (.lst (fs.map Dt.int ++ [Dt.int tt]))) t ts := hts.skip (by omega)
        have hso7 : IL (S6.set f (.lst (fs.map Dt.int ++ [Dt.int tt]))) n (fromL as u) := hso.skip (by omega)
        have p7 : S <+: S6.set f (.lst (fs.map Dt.int ++ [Dt.int tt])) := pre_set p6 (by omega)
        generalize S6.set f (.lst (fs.map Dt.int ++ [Dt.int tt])) = S7 at hfs7 hts7 hso7 p7 ⊢
        and_intros
        refine ⟨ty_list hts7, ?_⟩
        and_intros
        refine w_ixT eat ?_
        rw [R.eq]
        and_intros
        have C1 : CW as pl (fs ++ [tt]) (ts ++ [tt]) (some (u, (fromL as u).drop (i + 1))) := by
          refine ⟨List.nodup_append.mpr ⟨C.nd, by simp, fun a ha b hb => ?_⟩, by simp [C.z], fun x hx => ?_, fun x hx => ?_, fun a ha hs => ?_⟩
          · rw [List.mem_singleton.mp hb]; exact fun z => hin' (z ▸ ha)
          · rcases List.mem_append.mp hx with z | z
            · exact C.r x z
            · rw [List.mem_singleton.mp z, ← ett]; exact hrt
          · rcases List.mem_append.mp hx with z | z
            · exact List.mem_append.mpr (.inl (C.sub x z))
            · exact List.mem_append.mpr (.inr z)
          · rcases List.mem_append.mp hs with z | z
            · rcases C.cl a ha z with y | y | ⟨q, l, y, y2, i', hi', y3⟩
              · exact .inl (List.mem_append.mpr (.inl y))
              · exact .inr (.inl (List.mem_append.mpr (.inl y)))
              · injection y with y
                injection y with yq yl
                subst yq; subst yl
                rw [hdrop] at hi'
                rcases List.mem_cons.mp hi' with rfl | hi'
                · rw [← y3, ett]; exact .inl (by simp)
                · exact .inr (.inr ⟨_, _, rfl, y2, i', hi', y3⟩)
            · exact .inr (.inl (List.mem_append.mpr (.inr z)))
        have l2 := CW.len A C1
        rw [List.length_append] at l2
        have hl2 : ts.length < LIM := Nat.lt_of_le_of_lt (show ts.length ≤ 20 by omega) (by decide)
        refine w_append (lst_of hts7) (by rw [List.length_map]; exact hl2) ?_
        exact .inl ⟨rfl, _, _, _, rfl, hfs7.skip (by omega), hts7.set (by simp), hso7.skip (by omega), by simp [hu], C1, pre_set p7 (by omega), by rw [List.length_append, List.length_append]; simp at l2 ⊢; omega⟩
      · have hin' : tt ∈ fs := by
          cases h : decide (tt ∈ fs) with
          | true => exact of_decide_eq_true h
          | false => rw [h] at hin; cases hin
        and_intros
        refine .inl ⟨rfl, _, _, _, rfl, hfs, hts, hso, hu, ⟨C.nd, C.z, C.r, C.sub, fun a ha hs => ?_⟩, p6, hm⟩
        rcases C.cl a ha hs with y | y | ⟨q, l, y, y2, i', hi', y3⟩
        · exact .inl y
        · exact .inr (.inl y)
        · injection y with y
          injection y with yq yl
          subst yq; subst yl
          rw [hdrop] at hi'
          rcases List.mem_cons.mp hi' with rfl | hi'
          · rw [← y3, ett]; exact .inl hin'
          · exact .inr (.inr ⟨_, _, rfl, y2, i', hi', y3⟩)
    · subst e
      refine .inl ⟨rfl, _, hm, _, _, _, rfl, hfs, hts, ⟨C.nd, C.z, C.r, C.sub, fun a ha hs => ?_⟩, p6, Nat.le_refl _, by omega⟩
      rcases C.cl a ha hs with y | y | ⟨q, l, y, y2, i', hi', y3⟩
      · exact .inl y
      · exact .inr (.inl y)
      · injection y with y
        injection y with yq yl
        subst yl
        rw [List.drop_of_length_le (by simp)] at hi'
        cases hi'
  · have tne : ts = [] := by
      cases ts with
      | nil => rfl
      | cons x l => cases hh
    subst tne
    have K : Cm as fs := Cm.closed C.nd C.z C.r fun a ha hs => by
      rcases C.cl a ha hs with y | y | ⟨q, l, y, _⟩
      · exact y
      · cases y
      · cases y
    refine c_nx ?_
    and_intros
    refine w_sortI (seq_lst (get_pre p2 hfs)) (Nat.le_trans (CW.len A C) (by decide)) ?_
    have e := K.eq
    rw [e]
    have hl := p1.length_le
    exact .inl ⟨_, rfl, _, rfl, by rw [List.length_append]; omega, get_last, by rw [← e]; exact K.sorted, (p1.trans p2).trans (List.prefix_append _ _)⟩
/-- one walk over all arrows: what was there, what is there now -/
structure GW (as : List Dt) (ks0 ks : List Int) (g : Bool) (i : Nat) : Prop where
  nd : ks.Nodup
  z : (0 : Int) ∈ ks
  r : ∀ x ∈ ks, Rch as x
  len : ks0.length ≤ ks.length
  up : g = true → ks0.length < ks.length
  no : g = false → ∀ a ∈ as.take i, arrS a ∈ ks → arrT a ∈ ks
theorem places_ok (A : Snd size hl d pl as) : (F_places_come_to [d] S).Wp (fun r S' => r = iv (comeL as) ∧ Cm as (comeL as) ∧ S <+: S') noX := by
  have hwe := A.eq
  have aal := A.al
  subst hwe
  refine w_body ?_
  unfold B_places_come_to
  simp only [startD, List.map_cons, List.map_nil, List.length_cons, List.length_nil, List.cons_append, List.nil_append, Nat.reduceAdd, Nat.reduceSub, List.replicate, List.replicate_succ, List.replicate_zero]
  and_intros
  refine w_disp1 ?_
  and_intros
  refine ⟨get_last, ?_⟩
  have ed : ((S ++ [MBox.dk []]).set S.length (.dk [(Sum.inl 0, .bl true)]))[S.length]? = some (.dk [(Sum.inl 0, .bl true)]) := List.getElem?_set_self (by simp)
  have p0 : S <+: (S ++ [MBox.dk []]).set S.length (.dk [(Sum.inl 0, .bl true)]) := pre_set (List.prefix_append _ _) (Nat.le_refl _)
  generalize (S ++ [MBox.dk []]).set S.length (.dk [(Sum.inl 0, .bl true)]) = S0 at ed p0 ⊢
  generalize hc0 : S.length = c at ed ⊢
  and_intros
  have lenK : ∀ {ks : List Int}, ks.Nodup → (∀ x ∈ ks, Rch as x) → ks.length ≤ 10 := fun {ks} h1 h2 => by
    have p1 := A.p1
    have p0 := A.p0
    have := nodup_le pl.toNat ks h1 fun x hx => by have := A.rch (h2 x hx); omega
    omega
  refine w_while (fun m σ S' => ∃ g d3 d4 d5 kvs ks, σ = [some (.tup [.int pl, .tup as]), some (.box c), some (.bl g), d3, d4, d5] ∧ S'[c]? = some (.dk kvs) ∧ KyI kvs ks ∧ GW as [] ks true as.length ∧ (g = false → ∀ a ∈ as, arrS a ∈ ks → arrT a ∈ ks) ∧ S <+: S' ∧ 2 * (10 - ks.length) + (if g = true then 1 else 0) ≤ m)
    (fun m σ S1 ⟨g, d3, d4, d5, kvs, ks, e, hk, hK, G, hcl, p1, hm⟩ => ?_) 19 ⟨true, none, none, none, _, [0], rfl, ed, rfl, ⟨by simp, by simp, fun x hx => by rw [List.mem_singleton.mp hx]; exact .zero, Nat.zero_le _, fun _ => by simp, (fun z => nomatch z)⟩, (fun z => nomatch z), p0, by simp⟩
  subst e
  and_intros
  refine ⟨fun hg => ?_, fun hg => ?_⟩
  · subst hg
    and_intros
    refine w_loop (fun i σ S' => ∃ g d3 d4 d5 kvs ks', σ = [some (.tup [.int pl, .tup as]), some (.box c), some (.bl g), d3, d4, d5] ∧ S'[c]? = some (.dk kvs) ∧ KyI kvs ks' ∧ GW as ks ks' g i ∧ S <+: S')
      (fun _ _ _ _ => rfl) (fun i x σ S2 hx ⟨g, d3, d4, d5, kvs, ks', e, hk, hK, G2, p2⟩ => ?_) (fun σ S2 ⟨g, d3, d4, d5, kvs, ks', e, hk, hK, G2, p2⟩ => ?_) ⟨false, d3, d4, d5, kvs, ks, rfl, hk, hK, ⟨G.nd, G.z, G.r, Nat.le_refl _, (fun z => nomatch z), fun _ a ha => nomatch ha⟩, p1⟩
    · subst e
      have hx : as[i]? = some x := hx
      obtain ⟨s, t, lot, crew, R⟩ := A.ar x (List.mem_of_getElem? hx)
      have hs := R.src
      have ht := R.tgt
      have hmx := List.mem_of_getElem? hx
      have htk : as.take (i + 1) = as.take i ++ [x] := by rw [List.take_add_one, hx]; rfl
      rw [R.eq]
      and_intros
      refine w_inDk hk ?_
      rw [hK.val]
      refine ⟨_, rfl, fun hin => ?_, fun hin => ?_⟩
      · have hin' : s ∈ ks' := of_decide_eq_true hin
        and_intros
        refine w_inDk hk ?_
        rw [hK.val]
        refine ⟨_, rfl, fun hn => ?_, fun hn => ?_⟩
        · have hn' : t ∉ ks' := fun z => by simp [z] at hn
          and_intros
          refine w_setDk hk (by rw [hK.len]; exact Nat.lt_of_le_of_lt (lenK G2.nd G2.r) (by decide)) ?_
          and_intros
          have hrt : Rch as t := by rw [← ht]; exact .step hmx (by rw [hs]; exact G2.r s hin')
          refine .inl ⟨rfl, _, _, _, _, _, ks' ++ [t], rfl, List.getElem?_set_self (get_lt hk), hK.put hn' _, ⟨List.nodup_append.mpr ⟨G2.nd, by simp, fun a ha b hb => ?_⟩, by simp [G2.z], fun y hy => ?_, ?_, fun _ => ?_, (fun z => nomatch z)⟩, pre_set p2 (by omega)⟩
          · rw [List.mem_singleton.mp hb]; exact fun z => hn' (z ▸ ha)
          · rcases List.mem_append.mp hy with z | z
            · exact G2.r y z
            · rw [List.mem_singleton.mp z]; exact hrt
          · have := G2.len; rw [List.length_append]; omega
          · have := G2.len; rw [List.length_append]; simp; omega
        · have hn' : t ∈ ks' := by
            cases h : decide (t ∈ ks') with
            | true => exact of_decide_eq_true h
            | false => rw [h] at hn; cases hn
          and_intros
          refine .inl ⟨rfl, _, _, _, _, _, ks', rfl, hk, hK, ⟨G2.nd, G2.z, G2.r, G2.len, G2.up, fun hg a ha has => ?_⟩, p2⟩
          rw [htk] at ha
          rcases List.mem_append.mp ha with z | z
          · exact G2.no hg a z has
          · rw [List.mem_singleton.mp z, ht]; exact hn'
      · have hin' : s ∉ ks' := of_decide_eq_false hin
        and_intros
        refine ⟨(fun z => nomatch z), fun _ => ?_⟩
        and_intros
        refine .inl ⟨rfl, _, _, _, _, _, ks', rfl, hk, hK, ⟨G2.nd, G2.z, G2.r, G2.len, G2.up, fun hg a ha has => ?_⟩, p2⟩
        rw [htk] at ha
        rcases List.mem_append.mp ha with z | z
        · exact G2.no hg a z has
        · rw [List.mem_singleton.mp z, hs] at has; exact absurd has hin'
    · subst e
      have hl := lenK G2.nd G2.r
      refine .inl ⟨rfl, 2 * (10 - ks'.length) + (if g = true then 1 else 0), ?_, _, _, _, _, _, ks', rfl, hk, hK, ⟨G2.nd, G2.z, G2.r, Nat.zero_le _, fun _ => ?_, (fun z => nomatch z)⟩, fun hg => ?_, p2, Nat.le_refl _⟩
      · have h1 := G2.len
        cases g with
        | true =>
          have := G2.up rfl
          simp at hm ⊢
          omega
        | false => simp at hm ⊢; omega
      · exact List.length_pos_of_mem G2.z
      · have := G2.no hg
        rwa [List.take_length] at this
  · subst hg
    have K : Cm as ks := Cm.closed G.nd G.z G.r (hcl rfl)
    refine c_nx ?_
    and_intros
    refine w_sortDkI hk hK (Nat.le_trans (lenK G.nd G.r) (by decide)) ?_
    have e := K.eq
    rw [e]
    and_intros
    refine w_tupB (seq_lst get_last) ?_
    exact .inl ⟨_, rfl, rfl, by rw [← e]; exact K.sorted, p1.trans (List.prefix_append _ _)⟩
theorem come_ok (A : Snd size hl d pl as) : (F_come_to [d] S).Wp (fun r S' => r = iv (comeL as) ∧ Cm as (comeL as) ∧ S <+: S') noX := by
  refine w_body ?_
  unfold B_come_to
  simp only [startD, List.map_cons, List.map_nil, List.length_cons, List.length_nil, List.cons_append, List.nil_append, Nat.reduceAdd, Nat.reduceSub, List.replicate, List.replicate_succ, List.replicate_zero]
  and_intros
  exact (places_ok A).mono (fun r S' h => .inl ⟨_, rfl, h⟩) fun _ _ _ q => q
end Lw
set_option Elab.async false
set_option linter.all false
set_option maxRecDepth 100000
set_option maxHeartbeats 4000000
/-! Od: gcd, fractions, best means, heights by the law's walk. -/
set_option Elab.async false
set_option linter.all false
set_option maxRecDepth 100000
set_option maxHeartbeats 4000000
/-! Oe: heights by the law's walk; the law's rings, as far as they are rows of arrows. -/
namespace Lw
open PySem PySem.Spec PyProof.Rows L2 Mn
section
variable {S : Bxs}
def oI : Option Int → Dt
  | none => .non
  | some i => .int i
/-- what an arrow's step is -/
def stpI (ps ws : List Int) (as : List Dt) (q : Int × Int) (i : Int) : Int := q.2 * gnA ps ws (nthA as i) - q.1
def hOne (st : Int) (s t : Nat) (f : List (Option Int)) : List (Option Int) := match f[s]? with
  | some (some v) => match f[t]? with
    | some (some w) => if v + st > w then f.set t (some (v + st)) else f
    | _ => f.set t (some (v + st))
  | _ => f
def hRow (ps ws : List Int) (as : List Dt) (q : Int × Int) (f : List (Option Int)) (is : List Int) : List (Option Int) := is.foldl (fun f i => hOne (stpI ps ws as q i) (arrS (nthA as i)).toNat (arrT (nthA as i)).toNat f) f
def idxL (n : Nat) : List Int := (List.range n).map fun i : Nat => (i : Int)
def hTurn (ps ws : List Int) (as : List Dt) (q : Int × Int) (f : List (Option Int)) : List (Option Int) := hRow ps ws as q f (idxL as.length)
def hAll (ps ws : List Int) (as : List Dt) (q : Int × Int) : Nat → List (Option Int) → List (Option Int)
  | 0, f => f
  | n + 1, f => hTurn ps ws as q (hAll ps ws as q n f)
theorem idxL_take {n i : Nat} (h : i < n) : (idxL n).take (i + 1) = (idxL n).take i ++ [(i : Int)] := by
  unfold idxL
  rw [← List.map_take, ← List.map_take, List.take_range, List.take_range, Nat.min_eq_left (by omega), Nat.min_eq_left (by omega), List.range_succ, List.map_append]
  rfl
theorem idxL_full (n : Nat) : (idxL n).take n = idxL n := List.take_of_length_le (by unfold idxL; rw [List.length_map, List.length_range]; exact Nat.le_refl _)
/-- entries within a bound -/
def HB (M : Int) (f : List (Option Int)) : Prop := ∀ v, some v ∈ f → -M ≤ v ∧ v ≤ M
theorem HB.set {M : Int} {f : List (Option Int)} (h : HB M f) {t : Nat} {v : Int} (hv : -M ≤ v ∧ v ≤ M) : HB M (f.set t (some v)) := fun w hw => by
  rcases List.mem_or_eq_of_mem_set hw with z | z
  · exact h w z
  · cases z; exact hv
theorem HB.mono {M N : Int} {f : List (Option Int)} (h : HB M f) (hm : M ≤ N) : HB N f := fun v hv => by have := h v hv; omega
variable {size hl : Nat} {d : Dt} {pl : Int} {as : List Dt} {ps ws : List Int}
theorem idxL_ixs (n : Nat) : Ixs n (idxL n) := fun i hi => by
  unfold idxL at hi
  obtain ⟨j, hj, rfl⟩ := List.mem_map.mp hi
  have := List.mem_range.mp hj
  omega
def h0L (pl : Int) : List (Option Int) := some 0 :: List.replicate (pl - 1).toNat none
end
end Lw
set_option Elab.async false
set_option linter.all false
set_option maxRecDepth 100000
set_option maxHeartbeats 4000000
/-! Of: rings: what they are; the law's search for them. -/
namespace Lw
open PySem PySem.Spec PyProof.Rows L2 Mn
section
variable {as : List Dt}
theorem nthA_of {i : Int} {a : Dt} (h : as[i.toNat]? = some a) : nthA as i = a := by unfold nthA; rw [h]; rfl
theorem goes_cons {p i q : Int} {r : List Int} : Goes as p (i :: r) q ↔ 0 ≤ i ∧ i < as.length ∧ arrS (nthA as i) = p ∧ Goes as (arrT (nthA as i)) r q := by
  constructor
  · rintro ⟨a, h0, ha, hs, h⟩
    have hl := (List.getElem?_eq_some_iff.mp ha).1
    rw [nthA_of ha]
    exact ⟨h0, by omega, hs, h⟩
  · rintro ⟨h0, h1, hs, h⟩
    have hl : i.toNat < as.length := by omega
    have e : as[i.toNat]? = some (nthA as i) := by
      rw [List.getElem?_eq_getElem hl]
      unfold nthA
      rw [List.getElem?_eq_getElem hl]; rfl
    exact ⟨_, h0, e, hs, h⟩
theorem goes_app : ∀ {a b : List Int} {p q : Int}, Goes as p (a ++ b) q ↔ ∃ m, Goes as p a m ∧ Goes as m b q
  | [], b, p, q => ⟨fun h => ⟨p, rfl, h⟩, fun ⟨m, e, h⟩ => by cases (show p = m from e); exact h⟩
  | i :: a, b, p, q => by
    rw [List.cons_append, goes_cons, goes_app]
    constructor
    · rintro ⟨h0, h1, h2, m, h3, h4⟩
      exact ⟨m, goes_cons.mpr ⟨h0, h1, h2, h3⟩, h4⟩
    · rintro ⟨m, h, h4⟩
      obtain ⟨h0, h1, h2, h3⟩ := goes_cons.mp h
      exact ⟨h0, h1, h2, m, h3, h4⟩
theorem goes_det : ∀ {a : List Int} {p q q' : Int}, Goes as p a q → Goes as p a q' → q = q'
  | [], p, q, q', h1, h2 => by
    have h1 : p = q := h1
    have h2 : p = q' := h2
    rw [← h1, h2]
  | i :: a, p, q, q', h1, h2 => goes_det (goes_cons.mp h1).2.2.2 (goes_cons.mp h2).2.2.2
theorem goes_ixs : ∀ {a : List Int} {p q : Int}, Goes as p a q → Ixs as.length a
  | [], _, _, _ => fun _ z => nomatch z
  | i :: a, p, q, h => fun j hj => by
    obtain ⟨h0, h1, _, h3⟩ := goes_cons.mp h
    rcases List.mem_cons.mp hj with rfl | hj
    · exact ⟨h0, h1⟩
    · exact goes_ixs h3 j hj
/-- the sources -/
def srcL (as : List Dt) (r : List Int) : List Int := r.map fun i => arrS (nthA as i)
/-- a way from p that comes to no place twice, and to none below p -/
structure Wy (as : List Dt) (p : Int) (w : List Int) (q : Int) : Prop where
  ne : w ≠ []
  go : Goes as p w q
  nd : (srcL as w).Nodup
  ge : ∀ s ∈ srcL as w, p ≤ s
def RingF (as : List Dt) (p : Int) (r : List Int) : Prop := Wy as p r p
def Ring (as : List Dt) (r : List Int) : Prop := ∃ p, Rch as p ∧ RingF as p r
theorem Wy.hd {p q : Int} {w : List Int} (h : Wy as p w q) : p ∈ srcL as w := by
  have g := h.go
  cases w with
  | nil => exact absurd rfl h.ne
  | cons i r => exact List.mem_cons.mpr (.inl (goes_cons.mp g).2.2.1.symm)
theorem Wy.len {p q : Int} {w : List Int} {pl : Int} {size hl : Nat} {d : Dt} (A : Snd size hl d pl as) (h : Wy as p w q) : w.length ≤ 10 := by
  have p0 := A.p0
  have p1 := A.p1
  have := nodup_le pl.toNat (srcL as w) h.nd fun x hx => by
    obtain ⟨i, hi, rfl⟩ := List.mem_map.mp hx
    have hii := goes_ixs h.go i hi
    obtain ⟨s, t, lot, crew, _, _, _, R⟩ := A.arw hii.1 hii.2
    have a1 := R.s0
    have a2 := R.s1
    rw [R.src]
    omega
  unfold srcL at this
  rw [List.length_map] at this
  omega
theorem Wy.one {p i : Int} (hi : i ∈ fromL as p) : Wy as p [i] (arrT (nthA as i)) := by
  obtain ⟨h0, h1, h2⟩ := fromL_mem.mp hi
  refine ⟨by simp, goes_cons.mpr ⟨h0, h1, h2, rfl⟩, by unfold srcL; simp, fun s hs => ?_⟩
  unfold srcL at hs
  simp at hs
  omega
theorem Wy.more {p q i : Int} {w : List Int} (h : Wy as p w q) (hq : p ≤ q) (hn : q ∉ srcL as w) (hi : i ∈ fromL as q) : Wy as p (w ++ [i]) (arrT (nthA as i)) := by
  obtain ⟨h0, h1, h2⟩ := fromL_mem.mp hi
  have es : srcL as (w ++ [i]) = srcL as w ++ [q] := by unfold srcL; rw [List.map_append, ← h2]; rfl
  refine ⟨by simp, goes_app.mpr ⟨q, h.go, goes_cons.mpr ⟨h0, h1, h2, rfl⟩⟩, ?_, fun s hs => ?_⟩
  · rw [es]
    refine List.nodup_append.mpr ⟨h.nd, by simp, fun a ha b hb => ?_⟩
    rw [List.mem_singleton.mp hb]
    exact fun z => hn (z ▸ ha)
  · rw [es] at hs
    rcases List.mem_append.mp hs with z | z
    · exact h.ge s z
    · rw [List.mem_singleton.mp z]; exact hq
def NP (a b : List Int) : Prop := ¬ a <+: b ∧ ¬ b <+: a
theorem NP.symm {a b : List Int} (h : NP a b) : NP b a := ⟨h.2, h.1⟩
theorem np_perm {xs ys : List (List Int)} (h : xs.Perm ys) (hx : xs.Pairwise NP) : ys.Pairwise NP := (h.pairwise_iff (fun {a b} => NP.symm)).mp hx
theorem np_more {w u : List Int} (h : NP w u) (i : Int) : NP (w ++ [i]) u := by
  refine ⟨fun z => h.1 ((List.prefix_append _ _).trans z), fun z => ?_⟩
  rcases List.prefix_concat_iff.mp z with z | z
  · exact h.1 (by rw [z]; exact List.prefix_append _ _)
  · exact h.2 z
theorem np_sib {w : List Int} {i j : Int} (h : i ≠ j) : NP (w ++ [i]) (w ++ [j]) := by
  constructor
  · intro z
    rw [List.prefix_append_right_inj] at z
    have := List.prefix_iff_eq_take.mp z
    simp at this
    exact h this
  · intro z
    rw [List.prefix_append_right_inj] at z
    have := List.prefix_iff_eq_take.mp z
    simp at this
    exact h this.symm
abbrev TW := List Int × Int
/-- the search, between two turns -/
structure DI (as : List Dt) (p : Int) (fnd : List (List Int)) (todo : List TW) : Prop where
  ok : ∀ x ∈ todo, Wy as p x.1 x.2
  snd : ∀ r ∈ fnd, RingF as p r
  cmp : ∀ r, RingF as p r → r ∈ fnd ∨ ∃ x ∈ todo, x.1 <+: r
  pw : (fnd ++ todo.map (·.1)).Pairwise NP
  srt : (todo.map (·.1.length)).Pairwise (· ≤ ·)
  cnt : ∀ k, (todo.map (·.1.length)).count k ≤ 40
def newT (as : List Dt) (w : List Int) (q : Int) : List TW := (fromL as q).map fun i => (w ++ [i], arrT (nthA as i))
theorem fromL_nodup {p : Int} : (fromL as p).Nodup := by
  unfold fromL
  refine List.Pairwise.sublist List.filter_sublist ?_
  exact List.pairwise_map.mpr (List.Pairwise.imp (fun {x y} h e => h (by have e : (x : Int) = y := e; omega)) List.nodup_range)
theorem newT_pw {w : List Int} {q : Int} : ((newT as w q).map (·.1)).Pairwise NP := by
  unfold newT
  rw [List.map_map, List.pairwise_map]
  exact (fromL_nodup (as := as) (p := q)).imp fun h => np_sib h
theorem newT_len {w : List Int} {q : Int} : (newT as w q).map (·.1.length) = List.replicate (fromL as q).length (w.length + 1) := by
  unfold newT
  rw [List.map_map]
  exact List.eq_replicate_iff.mpr ⟨by simp, fun x hx => by
    obtain ⟨i, _, rfl⟩ := List.mem_map.mp hx
    simp⟩
theorem DI.start (hl : as.length ≤ 40) (p : Int) : DI as p [] (newT as [] p) := by
  refine ⟨fun x hx => ?_, (fun _ z => nomatch z), fun r hr => ?_, newT_pw, ?_, fun k => ?_⟩
  · unfold newT at hx
    obtain ⟨i, hi, rfl⟩ := List.mem_map.mp hx
    exact Wy.one hi
  · cases r with
    | nil => exact absurd rfl hr.ne
    | cons i r =>
      obtain ⟨h0, h1, h2, _⟩ := goes_cons.mp hr.go
      exact .inr ⟨([i], arrT (nthA as i)), List.mem_map.mpr ⟨i, fromL_mem.mpr ⟨h0, h1, h2⟩, rfl⟩, ⟨r, rfl⟩⟩
  · rw [newT_len]
    exact List.pairwise_replicate.mpr (.inr (Nat.le_refl _))
  · rw [newT_len, List.count_replicate]
    have := fromL_len (as := as) (p := p)
    split <;> omega
theorem ring_ext {p q : Int} {w r : List Int} (hw : Wy as p w q) (hr : RingF as p r) (h : w <+: r) : (q = p ∧ r = w) ∨ (p ≤ q ∧ q ≠ p ∧ q ∉ srcL as w ∧ ∃ i ∈ fromL as q, w ++ [i] <+: r) := by
  obtain ⟨u, rfl⟩ := h
  obtain ⟨m, g1, g2⟩ := goes_app.mp hr.go
  have em := goes_det g1 hw.go
  subst em
  cases u with
  | nil =>
    have g2 : m = p := g2
    exact .inl ⟨g2, by simp⟩
  | cons i u =>
    obtain ⟨h0, h1, h2, _⟩ := goes_cons.mp g2
    have es : srcL as (w ++ i :: u) = srcL as w ++ m :: srcL as u := by unfold srcL; rw [List.map_append, List.map_cons, h2]
    have nd := hr.nd
    rw [es] at nd
    have hn : m ∉ srcL as w := fun z => (List.nodup_append.mp nd).2.2 m z m (by simp) rfl
    have hge := hr.ge m (by rw [es]; simp)
    refine .inr ⟨hge, fun z => hn (z ▸ hw.hd), hn, i, fromL_mem.mpr ⟨h0, h1, h2⟩, ⟨u, by simp⟩⟩
theorem DI.hit {p : Int} {fnd : List (List Int)} {todo : List TW} {w : List Int} {q : Int} (D : DI as p fnd (todo ++ [(w, q)])) (hq : q = p) : DI as p (fnd ++ [w]) todo := by
  have hw := D.ok (w, q) (by simp)
  subst hq
  refine ⟨fun x hx => D.ok x (by simp [hx]), fun r hr => ?_, fun r hr => ?_, ?_, ?_, fun k => ?_⟩
  · rcases List.mem_append.mp hr with z | z
    · exact D.snd r z
    · rw [List.mem_singleton.mp z]; exact hw
  · rcases D.cmp r hr with z | ⟨x, hx, z⟩
    · exact .inl (by simp [z])
    · rcases List.mem_append.mp hx with y | y
      · exact .inr ⟨x, y, z⟩
      · rw [List.mem_singleton.mp y] at z
        rcases ring_ext hw hr z with ⟨_, e⟩ | ⟨_, e, _⟩
        · exact .inl (by rw [e]; simp)
        · exact absurd rfl e
  · refine np_perm ?_ D.pw
    rw [List.map_append, List.append_assoc]
    exact List.Perm.append_left _ List.perm_append_comm
  · have := D.srt
    rw [List.map_append] at this
    exact (List.pairwise_append.mp this).1
  · have := D.cnt k
    rw [List.map_append, List.count_append] at this
    omega
theorem DI.drop {p : Int} {fnd : List (List Int)} {todo : List TW} {w : List Int} {q : Int} (D : DI as p fnd (todo ++ [(w, q)])) (hq : q ≠ p) (hd : ¬ (p < q ∧ q ∉ srcL as w)) : DI as p fnd todo := by
  have hw := D.ok (w, q) (by simp)
  refine ⟨fun x hx => D.ok x (by simp [hx]), D.snd, fun r hr => ?_, ?_, ?_, fun k => ?_⟩
  · rcases D.cmp r hr with z | ⟨x, hx, z⟩
    · exact .inl z
    · rcases List.mem_append.mp hx with y | y
      · exact .inr ⟨x, y, z⟩
      · rw [List.mem_singleton.mp y] at z
        rcases ring_ext hw hr z with ⟨e, _⟩ | ⟨e1, e2, e3, _⟩
        · exact absurd e hq
        · exact absurd ⟨by omega, e3⟩ hd
  · have := D.pw
    rw [List.map_append, ← List.append_assoc] at this
    exact (List.pairwise_append.mp this).1
  · have := D.srt
    rw [List.map_append] at this
    exact (List.pairwise_append.mp this).1
  · have := D.cnt k
    rw [List.map_append, List.count_append] at this
    omega
theorem DI.more (hl : as.length ≤ 40) {p : Int} {fnd : List (List Int)} {todo : List TW} {w : List Int} {q : Int} (D : DI as p fnd (todo ++ [(w, q)])) (h1 : p < q) (h2 : q ∉ srcL as w) : DI as p fnd (todo ++ newT as w q) := by
  have hw := D.ok (w, q) (by simp)
  have hs := D.srt
  rw [List.map_append, List.pairwise_append] at hs
  obtain ⟨s1, _, s2⟩ := hs
  have s2 : ∀ x ∈ todo.map (·.1.length), x ≤ w.length := fun x hx => s2 x hx w.length (by simp)
  refine ⟨fun x hx => ?_, D.snd, fun r hr => ?_, ?_, ?_, fun k => ?_⟩
  · rcases List.mem_append.mp hx with y | y
    · exact D.ok x (by simp [y])
    · unfold newT at y
      obtain ⟨i, hi, rfl⟩ := List.mem_map.mp y
      exact hw.more (by omega) h2 hi
  · rcases D.cmp r hr with z | ⟨x, hx, z⟩
    · exact .inl z
    · rcases List.mem_append.mp hx with y | y
      · exact .inr ⟨x, by simp [y], z⟩
      · rw [List.mem_singleton.mp y] at z
        rcases ring_ext hw hr z with ⟨e, _⟩ | ⟨_, _, _, i, hi, e⟩
        · omega
        · exact .inr ⟨(w ++ [i], arrT (nthA as i)), List.mem_append.mpr (.inr (List.mem_map.mpr ⟨i, hi, rfl⟩)), e⟩
  · have hp := D.pw
    rw [List.map_append, ← List.append_assoc] at hp
    obtain ⟨a1, _, a3⟩ := List.pairwise_append.mp hp
    rw [List.map_append, ← List.append_assoc]
    refine List.pairwise_append.mpr ⟨a1, newT_pw, fun u hu v hv => ?_⟩
    unfold newT at hv
    rw [List.map_map] at hv
    obtain ⟨i, _, rfl⟩ := List.mem_map.mp hv
    exact (np_more (a3 u hu w (by simp)).symm i).symm
  · rw [List.map_append, newT_len]
    refine List.pairwise_append.mpr ⟨s1, List.pairwise_replicate.mpr (.inr (Nat.le_refl _)), fun a ha b hb => ?_⟩
    rw [List.eq_of_mem_replicate hb]
    have := s2 a ha
    omega
  · rw [List.map_append, newT_len, List.count_append, List.count_replicate]
    have hc := D.cnt k
    rw [List.map_append, List.count_append] at hc
    have hf := fromL_len (as := as) (p := q)
    split
    · rename_i e
      have e : w.length + 1 = k := by simpa using e
      have : (todo.map (·.1.length)).count k = 0 := List.count_eq_zero.mpr fun z => by have := s2 k z; omega
      omega
    · omega
theorem len_split (p : Nat → Bool) : ∀ l : List Nat, l.length = (l.filter p).length + (l.filter fun x => !p x).length
  | [] => rfl
  | x :: l => by
    have := len_split p l
    rw [List.filter_cons, List.filter_cons, List.length_cons]
    cases p x <;> simp <;> omega
theorem cnt_len : ∀ (n : Nat) (l : List Nat), (∀ k, l.count k ≤ 40) → (∀ x ∈ l, x < n) → l.length ≤ 40 * n
  | 0, l, _, h => by
    cases l with
    | nil => simp
    | cons x l => exact absurd (h x (by simp)) (Nat.not_lt_zero _)
  | n + 1, l, hc, h => by
    have ih := cnt_len n (l.filter fun x => decide (x < n)) (fun k => Nat.le_trans (List.Sublist.count_le k List.filter_sublist) (hc k)) (fun x hx => by simpa using (List.mem_filter.mp hx).2)
    have e := len_split (fun x => decide (x < n)) l
    have : (l.filter fun x => !decide (x < n)).length ≤ 40 := by
      have h2 : (l.filter fun x => !decide (x < n)) = List.replicate (l.filter fun x => !decide (x < n)).length n := List.eq_replicate_iff.mpr ⟨rfl, fun x hx => by
        obtain ⟨h3, h4⟩ := List.mem_filter.mp hx
        have := h x h3
        simp at h4
        omega⟩
      have h5 : (l.filter fun x => !decide (x < n)).count n ≤ 40 := Nat.le_trans (List.Sublist.count_le n List.filter_sublist) (hc n)
      rw [h2, List.count_replicate_self] at h5
      exact h5
    omega
theorem DI.len {pl : Int} {size hl : Nat} {d : Dt} (A : Snd size hl d pl as) {p : Int} {fnd : List (List Int)} {todo : List TW} (D : DI as p fnd todo) : todo.length ≤ 440 := by
  have := cnt_len 11 (todo.map (·.1.length)) D.cnt fun x hx => by
    obtain ⟨y, hy, rfl⟩ := List.mem_map.mp hx
    have := (D.ok y hy).len A
    omega
  rw [List.length_map] at this
  omega
theorem DI.nodup {p : Int} {fnd : List (List Int)} {todo : List TW} (D : DI as p fnd todo) : fnd.Nodup := by
  refine ((List.pairwise_append.mp D.pw).1).imp fun h e => ?_
  subst e
  exact h.1 (List.prefix_refl _)
end
end Lw
set_option Elab.async false
set_option linter.all false
set_option maxRecDepth 100000
set_option maxHeartbeats 4000000
/-! Lp: recipes, names, works by form. -/
namespace Lw
open PySem PySem.Spec PyProof.Rows L2 Mn
theorem AllB.pos {is : List Int} (h : AllB is) : Pos is := fun i hi => (h i hi).1
/-! names -/
end Lw
set_option Elab.async false
set_option linter.all false
set_option maxRecDepth 100000
set_option maxHeartbeats 4000000
/-! Lq: works by form; recipes put in, taken out. -/
set_option Elab.async false
set_option linter.all false
set_option maxRecDepth 100000
set_option maxHeartbeats 4000000
/-! Lr: recipes put in, taken out. -/
set_option Elab.async false
set_option linter.all false
set_option maxRecDepth 100000
set_option maxHeartbeats 4000000
/-! Lt: depths of recipes: the program's. -/
namespace Lw
open PySem PySem.Spec PyProof.Rows L2 Mn
def tkD : Dt → List Int
  | .tup [.tup a, _, _] => intsD a
  | _ => []
def ptD : Dt → List Int
  | .tup [_, .tup b, _] => intsD b
  | _ => []
theorem Recipe.tk {size : Nat} {hs : List Dt} {d : Dt} {ts us : List Int} {h : Dt} (R : Recipe size hs d ts us h) : tkD d = ts := by rw [R.eq]; exact intsD_map ts
theorem Recipe.pt {size : Nat} {hs : List Dt} {d : Dt} {ts us : List Int} {h : Dt} (R : Recipe size hs d ts us h) : ptD d = us := by rw [R.eq]; exact intsD_map us
/-- the greatest, or 0 -/
def Sup (m : Int) (P : Int → Prop) : Prop := (m = 0 ∨ P m) ∧ 0 ≤ m ∧ ∀ x, P x → x ≤ m
/-- the greatest of the depths of what is taken -/
def DepOf (ts D : List Int) (m : Int) : Prop := (∃ (k : Nat) (t : Int), ts[k]? = some t ∧ 0 < t ∧ D[k]? = some m) ∧ ∀ (k : Nat) (t x : Int), ts[k]? = some t → 0 < t → D[k]? = some x → x ≤ m
theorem DepOf.set {ts D : List Int} {m v : Int} {k : Nat} (hk : ∀ (t : Int), ts[k]? = some t → ¬ 0 < t) : DepOf ts (D.set k v) m ↔ DepOf ts D m := by
  have e : ∀ (i : Nat) (t : Int), ts[i]? = some t → 0 < t → (D.set k v)[i]? = D[i]? := fun i t h1 h2 => by
    refine List.getElem?_set_ne fun z => ?_
    subst z
    exact hk t h1 h2
  constructor
  · rintro ⟨⟨i, t, h1, h2, h3⟩, h4⟩
    rw [e i t h1 h2] at h3
    exact ⟨⟨i, t, h1, h2, h3⟩, fun j u x k1 k2 k3 => h4 j u x k1 k2 (by rw [e j u k1 k2]; exact k3)⟩
  · rintro ⟨⟨i, t, h1, h2, h3⟩, h4⟩
    exact ⟨⟨i, t, h1, h2, by rw [e i t h1 h2]; exact h3⟩, fun j u x k1 k2 k3 => h4 j u x k1 k2 (by rw [← e j u k1 k2]; exact k3)⟩
/-- what makes a thing of the kind j deep -/
def Deep (rs : List Dt) (D : List Int) (j : Nat) (x : Int) : Prop := ∃ r ∈ rs, ∃ u e : Int, (ptD r)[j]? = some u ∧ 0 < u ∧ DepOf (tkD r) D e ∧ x = 1 + e
theorem Works.low {w : Dt} {size : Nat} {ks hs rs : List Dt} (W : Works w size ks hs rs) {r : Dt} (hr : r ∈ rs) {j k : Nat} {u t : Int} (h1 : (ptD r)[j]? = some u) (h2 : 0 < u) (h3 : (tkD r)[k]? = some t) (h4 : 0 < t) : k < j := by
  obtain ⟨ts, us, h, R⟩ := W.rr r hr
  obtain ⟨l, _, zt, zu⟩ := R.sb
  rw [R.pt] at h1
  rw [R.tk] at h3
  have a : k ≤ l := by
    by_cases q : k ≤ l
    · exact q
    · have := zt k t (by omega) h3; omega
  have b : l < j := by
    by_cases q : l < j
    · exact q
    · have := zu j u (by omega) h1; omega
  omega
theorem Deep.set {w : Dt} {size : Nat} {ks hs rs : List Dt} (W : Works w size ks hs rs) {qs : List Dt} (hq : ∀ r ∈ qs, r ∈ rs) {D : List Int} {j k : Nat} {v x : Int} (hjk : j ≤ k) : Deep qs (D.set k v) j x ↔ Deep qs D j x := by
  constructor
  · rintro ⟨r, hr, u, e, h1, h2, h3, h4⟩
    exact ⟨r, hr, u, e, h1, h2, (DepOf.set fun t ht h0 => by have := W.low (hq r hr) h1 h2 ht h0; omega).mp h3, h4⟩
  · rintro ⟨r, hr, u, e, h1, h2, h3, h4⟩
    exact ⟨r, hr, u, e, h1, h2, (DepOf.set fun t ht h0 => by have := W.low (hq r hr) h1 h2 ht h0; omega).mpr h3, h4⟩
end Lw
set_option Elab.async false
set_option linter.all false
set_option maxRecDepth 100000
set_option maxHeartbeats 4000000
/-! Na: levels: the program's are the law's. -/
namespace Lw
open PySem PySem.Spec PyProof.Rows L2 Mn
/-- recipe k puts something that recipe i takes -/
def Maker (rs : List Dt) (k i : Nat) : Prop := ∃ (a b : Dt) (j : Nat) (u t : Int), rs[k]? = some a ∧ rs[i]? = some b ∧ (ptD a)[j]? = some u ∧ 0 < u ∧ (tkD b)[j]? = some t ∧ 0 < t
def Above (rs : List Dt) (L : List Int) (i : Nat) (x : Int) : Prop := ∃ (k : Nat) (y : Int), L[k]? = some y ∧ Maker rs k i ∧ x = 1 + y
/-- the depths of the recipes -/
structure RightL (rs : List Dt) (L : List Int) : Prop where
  len : L.length = rs.length
  sup : ∀ (i : Nat) (m : Int), L[i]? = some m → Sup m (Above rs L i)
/-! the law's: found again and again -/
theorem RightL.nonneg {rs : List Dt} {L : List Int} (R : RightL rs L) {i : Nat} {m : Int} (h : L[i]? = some m) : 0 ≤ m := (R.sup i m h).2.1
theorem RightL.count {rs : List Dt} {L : List Int} (R : RightL rs L) : ∀ (v : Nat), (∃ (i : Nat) (m : Int), L[i]? = some m ∧ (v : Int) ≤ m) → v + 1 ≤ L.countP fun x => decide (x ≤ (v : Int))
  | 0, ⟨i, m, h, hv⟩ => by
    refine List.countP_pos_iff.mpr ?_
    have low : ∀ (n : Nat) (i : Nat) (m : Int), L[i]? = some m → m = (n : Int) → ∃ x ∈ L, decide (x ≤ ((0 : Nat) : Int)) = true := by
      intro n
      induction n with
      | zero => intro i m h e; exact ⟨m, List.mem_of_getElem? h, decide_eq_true (by omega)⟩
      | succ n ih =>
        intro i m h e
        rcases (R.sup i m h).1 with z | ⟨k, y, hy, _, ex⟩
        · omega
        · exact ih k y hy (by omega)
    exact low m.toNat i m h (by have := R.nonneg h; omega)
  | v + 1, ⟨i, m, h, hv⟩ => by
    have down : ∀ (n : Nat) (i : Nat) (m : Int), L[i]? = some m → m = ((v + 1 : Nat) : Int) + (n : Int) → ∃ i' : Nat, L[i']? = some ((v + 1 : Nat) : Int) := by
      intro n
      induction n with
      | zero => intro i m h e; exact ⟨i, by rw [h, e]; simp⟩
      | succ n ih =>
        intro i m h e
        rcases (R.sup i m h).1 with z | ⟨k, y, hy, _, ex⟩
        · omega
        · exact ih k y hy (by omega)
    obtain ⟨i', hi'⟩ := down (m - ((v + 1 : Nat) : Int)).toNat i m h (by omega)
    have ih := R.count v ⟨i', _, hi', by omega⟩
    have split : (L.countP fun x => decide (x ≤ ((v + 1 : Nat) : Int))) = (L.countP fun x => decide (x ≤ (v : Int))) + L.countP fun x => decide (x = ((v + 1 : Nat) : Int)) := by
      clear hi' ih down h hv R
      induction L with
      | nil => rfl
      | cons a L ih =>
        rw [List.countP_cons, List.countP_cons, List.countP_cons, ih]
        by_cases h1 : a ≤ (v : Int)
        · rw [if_pos (decide_eq_true (by omega)), if_pos (decide_eq_true h1), if_neg (by rw [decide_eq_false (by omega)]; decide)]; omega
        · by_cases h2 : a = ((v + 1 : Nat) : Int)
          · rw [if_pos (decide_eq_true (by omega)), if_neg (by rw [decide_eq_false h1]; decide), if_pos (decide_eq_true h2)]; omega
          · rw [if_neg (by rw [decide_eq_false (by omega)]; decide), if_neg (by rw [decide_eq_false h1]; decide), if_neg (by rw [decide_eq_false h2]; decide)]; omega
    have pos : 0 < L.countP fun x => decide (x = ((v + 1 : Nat) : Int)) := List.countP_pos_iff.mpr ⟨_, List.mem_of_getElem? hi', decide_eq_true rfl⟩
    rw [split]; omega
theorem RightL.lt {rs : List Dt} {L : List Int} (R : RightL rs L) {i : Nat} {m : Int} (h : L[i]? = some m) : m < rs.length := by
  have h3 := R.nonneg h
  have := R.count m.toNat ⟨i, m, h, by omega⟩
  have h2 := List.countP_le_length (p := fun x => decide (x ≤ (m.toNat : Int))) (l := L)
  rw [R.len] at h2
  omega
end Lw
set_option Elab.async false
set_option linter.all false
set_option maxRecDepth 100000
set_option maxHeartbeats 4000000
/-! Nb: the law's levels. -/
set_option Elab.async false
set_option linter.all false
set_option maxRecDepth 100000
set_option maxHeartbeats 4000000
/-! Nc: works as small texts; likeness of boxes; works with fewer, more recipes. -/
namespace Lw
open PySem PySem.Spec PyProof.Rows L2 Mn
theorem Works.sub {size : Nat} {w : Dt} {ks hs rs : List Dt} (W : Works w size ks hs rs) {qs : List Dt} (hq : ∀ r ∈ qs, r ∈ rs) (hl : qs.length ≤ 8) : Works (.tup [.tup ks, .tup hs, .tup qs]) size ks hs qs :=
  ⟨rfl, W.kl, W.s0, W.s1, W.hl, W.hn, W.km, W.hm, hl, fun r hr => W.rr r (hq r hr), W.kn, W.kh⟩
theorem Works.add {size : Nat} {w : Dt} {ks hs rs : List Dt} (W : Works w size ks hs rs) {d : Dt} (R : ∃ ts us h, Recipe size hs d ts us h) (hl : rs.length < 8) : Works (.tup [.tup ks, .tup hs, .tup (rs ++ [d])]) size ks hs (rs ++ [d]) :=
  ⟨rfl, W.kl, W.s0, W.s1, W.hl, W.hn, W.km, W.hm, by rw [List.length_append]; simp; omega, fun r hr => by
    rcases List.mem_append.mp hr with z | z
    · exact W.rr r z
    · rw [List.mem_singleton.mp z]; exact R, W.kn, W.kh⟩
theorem alikeP_ok {S : Bxs} {x y : Dt} {p : PyData} {w : Nat} (px : Pl S 60 x p w) (py : Pl S 60 y p w) (hw : w ≤ 1000000) : (F__law_alike [x, y] S).Wp (fun r S' => r = .bl true ∧ S' = S) noX := by
  refine w_body ?_
  unfold B__law_alike
  simp only [startD, List.map_cons, List.map_nil, List.length_cons, List.length_nil, List.cons_append, List.nil_append, Nat.reduceAdd, Nat.reduceSub, List.replicate, List.replicate_succ, List.replicate_zero]
  and_intros
  refine w_eq px py ?_
  rw [px.pf.eqv]
  refine ⟨true, rfl, fun _ => ?_, fun z => nomatch z⟩
  and_intros
  refine w_repr px hw ?_
  and_intros
  refine w_repr py hw ?_
  have e1 : pdo S (.str p.shown) = some (.str p.shown) := rfl
  have sh : SeqAt.shaped (.str p.shown) = true := by
    unfold SeqAt.shaped
    have := px.pf.ok
    simp [PyData.canLay0, PyData.depth, this]
  have x1 : eqG false (.str p.shown) (.str p.shown) S = .ok (.bl (if false then !PyData.eqv (.str p.shown) (.str p.shown) else PyData.eqv (.str p.shown) (.str p.shown))) S := by
    unfold eqG
    rw [e1]
    show (if SeqAt.shaped (.str p.shown) = true ∧ SeqAt.shaped (.str p.shown) = true then _ else _) = _
    rw [if_pos ⟨sh, sh⟩]
  have e2 : PyData.eqv (.str p.shown) (.str p.shown) = true := by simp [PyData.eqv]
  rw [e2] at x1
  rw [x1]
  exact ⟨.inl ⟨_, rfl, rfl, rfl⟩⟩
end Lw
set_option Elab.async false
set_option linter.all false
set_option maxRecDepth 100000
set_option maxHeartbeats 4000000
/-! Nd: deeds: what one does, by the law and by the package. -/
namespace Mn
open PySem PySem.Spec PyProof.Rows L2
section
variable {σ : Sg} {S : Bxs} {E : Nat → List Dt → Bxs → Prop}
theorem w_extend {n : Nat} {e : Dt} {xs ys : List Dt} {P : Dt → Bxs → Prop} (h1 : S.lst n = some xs) (h2 : seqOf S e = some ys) (c : xs.length + ys.length ≤ LIM) (h : P .non (S.set n (.lst (xs ++ ys)))) : (extendG (.box n) [e] S).Wp P E := by
  show (match S.lst n, seqOf S e with
    | some xs, some ys => if xs.length + ys.length ≤ LIM then Rs.ok Dt.non (S.set n (.lst (xs ++ ys))) else .no
    | _, _ => .no).Wp P E
  rw [h1, h2]
  show (if xs.length + ys.length ≤ LIM then Rs.ok Dt.non (S.set n (.lst (xs ++ ys))) else .no).Wp P E
  rw [if_pos c]; exact ⟨h⟩
end
end Mn
set_option Elab.async false
set_option linter.all false
set_option maxRecDepth 100000
set_option maxHeartbeats 4000000
/-! Og: the law's rings are all rings. -/
namespace Lw
open PySem PySem.Spec PyProof.Rows L2 Mn
section
variable {S : Bxs} {size hl : Nat} {d : Dt} {pl : Int} {as : List Dt}
def tD (x : TW) : Dt := .tup [iv x.1, .int x.2]
theorem goes_end : ∀ {w : List Int} {p q : Int}, Goes as p w q → w ≠ [] → ∃ i : Int, 0 ≤ i ∧ i < (as.length : Int) ∧ q = arrT (nthA as i)
  | [], _, _, _, h => absurd rfl h
  | [i], p, q, h, _ => by
    obtain ⟨h0, h1, _, h3⟩ := goes_cons.mp h
    exact ⟨i, h0, h1, (show arrT (nthA as i) = q from h3).symm⟩
  | i :: j :: r, p, q, h, _ => goes_end (goes_cons.mp h).2.2.2 (by simp)
theorem sm_tw {w : List Int} {q : Int} {n : Nat} (hn : as.length ≤ 40) (hi : Ixs as.length w) (hl : w.length ≤ 10) (hq : 0 ≤ q ∧ q < 10) : Sm (n + 3) (tD (w, q)) 200 := by
  refine Sm.t2 (n := n + 2) (w := 60) (Sm.ints (n := n) (k := 2) (by decide) (by decide) (fun i hh => by have := hi i hh; omega) 60 (by show w.length * (2 + 3) + 3 ≤ 60; omega)) ?_ 200 (by decide)
  exact (Sm.int (n := n + 1) 2 (by decide) (by decide) (by show q.natAbs < 100; omega)).mono (by decide)
theorem fromMap_ok (A : Snd size hl d pl as) {σ : Sg} {S : Bxs} {E : Nat → List Dt → Bxs → Prop} {P : Dt → Bxs → Prop} {te : FE} {v5 : Nat} {q : Int} {w : List Int} (h0 : σ[0]? = some (some d)) (h5 : σ[v5]? = some (some (.int q)))
    (hte : ∀ i S', i ∈ fromL as q → S <+: S' → (te ((wipeD σ [10]).set 10 (some (.int i))) S').Wp (fun r S4 => r = tD (w ++ [i], arrT (nthA as i)) ∧ S4 = S') noX)
    (h : ∀ n S', S.length ≤ n → S'[n]? = some (.lst ((newT as w q).map tD)) → S <+: S' → P (.box n) S') :
    (dLc (srcSeq (dCall F__law_arrows_from (aCons (dVar 0) (aCons (dVar v5) (aNil))))) (tName 10) (bYes) te [10] σ S).Wp P E := by
  refine w_lcP ?_
  refine w_srcSeq (w_call (w_consA (w_var h0 (w_consA (w_var h5 (w_nil ?_))))))
  refine Rs.Wp.mono (E := noX) ((from_ex (p := q) A).mono (fun r S1 ⟨n, e1, hn, es, p1⟩ => ?_) fun _ _ _ q => q) (fun _ _ q => q) fun _ _ _ z => z.elim
  subst e1
  refine ⟨_, w_seqB es, fun _ => true, fun x e => ∃ i, x = .int i ∧ e = tD (w ++ [i], arrT (nthA as i)), by
    rw [List.length_map]
    have := fromL_len (as := as) (p := q)
    have := A.al
    exact Nat.lt_of_le_of_lt (show (fromL as q).length ≤ 40 by omega) (by decide), fun S' hS' => w_seqB (get_pre hS' es), fun x S' hx hS' => ?_, fun ds S' he hn2 p2 => ?_⟩
  · obtain ⟨i, hi, rfl⟩ := List.mem_map.mp hx
    refine w_tName ?_
    refine w_yes ⟨rfl, (fun z => nomatch z), fun _ => ?_⟩
    refine (hte i S' hi (p1.trans hS')).mono (fun r S4 ⟨e4, e5⟩ => ?_) fun _ _ _ q => q
    subst e5
    exact ⟨⟨i, rfl, e4⟩, List.prefix_refl _⟩
  · rw [filter_yes] at he
    refine h _ _ p1.length_le ?_ (p1.trans p2)
    rw [hn2]
    congr 2
    have e3 : Each (fun x e => e = match x with | Dt.int i => tD (w ++ [i], arrT (nthA as i)) | _ => .non) ((fromL as q).map Dt.int) ds := he.mono fun x e ⟨i, e1, e2⟩ => by rw [e1, e2]
    rw [e3.map, List.map_map]
    unfold newT
    rw [List.map_map]
    rfl
theorem lrings_ok (A : Snd size hl d pl as) {most : Int} (m0 : 0 ≤ most) (m1 : most ≤ 20000) :
    (F__law_rings [d, .int most] S).Wp (fun r S' => (r = .non ∨ ∃ n ls, r = .box n ∧ S.length ≤ n ∧ S'[n]? = some (.lst ((tsort ls).map iv)) ∧ ls.Nodup ∧ (ls.length : Int) ≤ most ∧ ∀ r, r ∈ ls ↔ Ring as r) ∧ S <+: S') noX := by
  have hae := A.eq
  have aal := A.al
  have p0 := A.p0
  have p1 := A.p1
  subst hae
  refine w_body ?_
  unfold B__law_rings
  simp only [startD, List.map_cons, List.map_nil, List.length_cons, List.length_nil, List.cons_append, List.nil_append, Nat.reduceAdd, Nat.reduceSub, List.replicate, List.replicate_succ, List.replicate_zero]
  and_intros
  refine (law_come_ok A).mono (fun r S1 ⟨th, e1, hth, eth, C, pS1⟩ => ?_) fun _ _ _ q => q
  subst e1
  have ef : S1[S.length]? = some (.lst []) := get_pre pS1 get_last
  have p01 : S <+: S1 := (List.prefix_append _ _).trans pS1
  have hfth : S.length < th := by rw [List.length_append] at hth; exact hth
  have hS0 : S.length ≤ S.length := Nat.le_refl _
  generalize hf : S.length = f at ef hfth hS0
  have hfS : S.length ≤ f := by omega
  and_intros
  refine ⟨_, w_seqB eth, ?_⟩
  refine w_loop (fun i σ S' => ∃ d5 d6 d7 d8 d9 d10 st fnd, σ = [some (.tup [.int pl, .tup as]), some (.int most), some (.box f), some (.int st), some (.box th), d5, d6, d7, d8, d9, d10] ∧ S'[f]? = some (.lst (fnd.map iv)) ∧ IL S' th (comeL as) ∧ fnd.Nodup ∧ (∀ r, r ∈ fnd ↔ ∃ p ∈ (comeL as).take i, RingF as p r) ∧ (fnd.length : Int) ≤ st ∧ st ≤ most ∧ S <+: S')
    (fun i σ S' ⟨_, _, _, _, _, _, _, _, _, _, h, _⟩ => w_seqB h) (fun i x σ S2 hx ⟨d5, d6, d7, d8, d9, d10, st, fnd0, e, hf2, ht2, nd0, mem0, len0, st0, p2⟩ => ?_) (fun σ S2 ⟨d5, d6, d7, d8, d9, d10, st, fnd, e, hf2, ht2, nd0, mem0, len0, st0, p2⟩ => ?_) ⟨_, _, _, _, _, _, 0, [], rfl, ef, eth, List.nodup_nil, (fun r => ⟨(fun z => nomatch z), fun ⟨p, hp, _⟩ => nomatch hp⟩), by simp, m0, p01⟩
  · subst e
    obtain ⟨p, rfl, hp, hpm, hptk⟩ := int_at hx
    have hfresh : ∀ r ∈ fnd0, ¬ RingF as p r := fun r hr hrp => by
      obtain ⟨p', hp', hr'⟩ := (mem0 r).mp hr
      have e1 : p' = p := by
        have h1 := hr'.go
        have h2 := hrp.go
        cases r with
        | nil => exact absurd rfl hrp.ne
        | cons i r => rw [← (goes_cons.mp h1).2.2.1, ← (goes_cons.mp h2).2.2.1]
      subst e1
      have hnd := (C.1 : (comeL as).Nodup)
      have hi := (List.getElem?_eq_some_iff.mp hp)
      obtain ⟨k, hk, ek⟩ := List.mem_iff_getElem.mp hp'
      rw [List.length_take] at hk
      rw [List.getElem_take] at ek
      exact List.pairwise_iff_getElem.mp hnd k i (by omega) hi.1 (by omega) (ek.trans hi.2.symm)
    and_intros
    refine fromMap_ok A (q := p) (w := []) rfl rfl (fun i S' hi hS' => ?_) (fun t S3 htl et p3 => ?_)
    · obtain ⟨h0, h1, _⟩ := fromL_mem.mp hi
      obtain ⟨s, t, lot, crew, _, _, eat, R⟩ := A.arw h0 h1
      rw [R.tgt]
      rw [R.eq] at eat
      and_intros
      refine ⟨Nat.le_of_ble_eq_true (by rfl), ?_⟩
      and_intros
      refine w_ixT eat ?_
      and_intros
      exact ⟨Nat.le_of_ble_eq_true (by rfl), rfl, rfl⟩
    have hdi := DI.start (as := as) aal p
    have hf3 := get_pre p3 hf2
    have ht3 : IL S3 th (comeL as) := get_pre p3 ht2
    have p03 := p2.trans p3
    have q2 := p2.length_le
    have tf : t ≠ f := by have := get_lt hf2; omega
    have tth : t ≠ th := by have := get_lt ht2; omega
    have tS : S.length ≤ t := by omega
    clear p3
    refine c_nx ?_
    refine w_while (fun m σ S' => ∃ d7 d8 d9 d10 st fnd todo, σ = [some (.tup [.int pl, .tup as]), some (.int most), some (.box f), some (.int st), some (.box th), some (.int p), some (.box t), d7, d8, d9, d10] ∧ S'[f]? = some (.lst ((fnd0 ++ fnd).map iv)) ∧ S'[t]? = some (.lst (todo.map tD)) ∧ IL S' th (comeL as) ∧ DI as p fnd todo ∧ ((fnd0 ++ fnd).length : Int) ≤ st ∧ st ≤ most ∧ most - st ≤ (m : Int) ∧ S <+: S')
      (fun m σ S4 ⟨d7, d8, d9, d10, st, fnd, todo, e, hf4, ht4, hc4, D, len4, st4, hm4, p4⟩ => ?_) (most - st).toNat ⟨_, _, _, _, st, [], newT as [] p, rfl, by rw [List.append_nil]; exact hf3, et, ht3, hdi, by rw [List.append_nil]; exact len0, st0, by omega, p03⟩
    · subst e
      have tl := D.len A
      have sms : ∀ x ∈ todo.map tD, Sm 59 x 200 := fun x hx => by
        obtain ⟨⟨w, q⟩, hy, rfl⟩ := List.mem_map.mp hx
        have hw : Wy as p w q := D.ok _ hy
        have hq : 0 ≤ q ∧ q < pl := by
          obtain ⟨i, h0, h1, e⟩ := goes_end hw.go hw.ne
          obtain ⟨s, t, lot, crew, _, _, _, R⟩ := A.arw h0 h1
          have et : q = t := e.trans R.tgt
          rw [et]
          exact ⟨R.t0, R.t1⟩
        exact sm_tw aal (goes_ixs hw.go) (hw.len A) (by omega)
      and_intros
      have pp := List.prefix_append S4 [MBox.lst []]
      refine w_neNil (seq_lst (get_pre pp ht4)) (seq_lst get_last) sms ?_
      refine ⟨_, rfl, fun hh => ?_, fun hh => ?_⟩
      · have tne : todo ≠ [] := fun z => by rw [z] at hh; cases hh
        obtain ⟨tr, ⟨w, q⟩, rfl⟩ : ∃ us u, todo = us ++ [u] := ⟨_, _, (List.dropLast_concat_getLast tne).symm⟩
        have hw : Wy as p w q := D.ok (w, q) (by simp)
        have hwl := hw.len A
        have hwi := goes_ixs hw.go
        have hf5 := get_pre pp hf4
        have ht5 := get_pre pp ht4
        have hc5 : IL (S4 ++ [MBox.lst []]) th (comeL as) := get_pre pp hc4
        have p5 := p4.trans pp
        generalize S4 ++ [MBox.lst []] = S5 at hf5 ht5 hc5 p5 ⊢
        and_intros
        refine w_meth0 ?_
        and_intros
        refine ⟨ty_list ht5, ?_⟩
        rw [List.map_append] at ht5
        refine w_popB ht5 ?_
        have ht6 : (S5.set t (.lst (tr.map tD)))[t]? = some (.lst (tr.map tD)) := List.getElem?_set_self (get_lt ht5)
        have hf6 : (S5.set t (.lst (tr.map tD)))[f]? = some (.lst ((fnd0 ++ fnd).map iv)) := by rw [List.getElem?_set_ne tf]; exact hf5
        have hc6 : IL (S5.set t (.lst (tr.map tD))) th (comeL as) := hc5.skip tth
        have p6 : S <+: S5.set t (.lst (tr.map tD)) := pre_set p5 tS
        generalize S5.set t (.lst (tr.map tD)) = S6 at hf6 ht6 hc6 p6 ⊢
        show (tTupG 2 (tConsG (tName 7) (tConsG (tName 8) tNilG)) (.tup [iv w, .int q]) _ S6).Wp _ _
        and_intros
        refine w_aug rfl ?_
        and_intros
        refine ⟨fun hgt => ?_, fun hle => ?_⟩
        · and_intros
          exact .inr ⟨_, rfl, .inr ⟨_, rfl, (fun z => nomatch z), fun _ => .inl ⟨_, rfl, .inl rfl, p6⟩⟩⟩
        · have hle : ¬ st + 1 > most := of_decide_eq_false hle
          refine w_sNil (c_nx ?_)
          and_intros
          refine w_lcP ?_
          and_intros
          refine ⟨fun _ => true, fun x e => ∃ i, x = .int i ∧ e = .int (arrS (nthA as i)), by rw [List.length_map]; exact Nat.lt_of_le_of_lt hwl (by decide), fun _ _ => rfl, fun x S' hx hS' => ?_, fun ds S7 he hn7 p7 => ?_⟩
          · obtain ⟨i, hi, rfl⟩ := List.mem_map.mp hx
            obtain ⟨s, t, lot, crew, _, _, eat, R⟩ := A.arw (hwi i hi).1 (hwi i hi).2
            and_intros
            refine w_yes ⟨rfl, (fun z => nomatch z), fun _ => ?_⟩
            and_intros
            refine w_ixT eat ?_
            rw [R.eq]
            and_intros
            exact ⟨⟨i, rfl, by rw [R.src]⟩, List.prefix_refl _⟩
          rw [filter_yes] at he
          have e3 : Each (fun x e => e = match x with | Dt.int i => .int (arrS (nthA as i)) | _ => .non) (w.map Dt.int) ds := he.mono fun x e ⟨i, e1, e2⟩ => by rw [e1, e2]
          have eds : ds = (srcL as w).map Dt.int := by
            rw [e3.map, List.map_map]
            unfold srcL
            rw [List.map_map]
            rfl
          rw [eds] at hn7
          have hn7 : IL S7 S6.length (srcL as w) := hn7
          have hf7 := get_pre p7 hf6
          have ht7 := get_pre p7 ht6
          have hc7 : IL S7 th (comeL as) := hc6.pre p7
          have p07 := p6.trans p7
          generalize S6.length = g at hn7
          clear he e3 eds p7
          and_intros
          refine ⟨fun hq => ?_, fun hq => ?_⟩
          · have hq : q = p := of_decide_eq_true hq
            and_intros
            refine ⟨ty_list hf7, ?_⟩
            and_intros
            refine w_append (lst_of hf7) (by rw [List.length_map]; exact Nat.lt_of_le_of_lt (show (fnd0 ++ fnd).length ≤ 20000 by omega) (by decide)) ?_
            refine .inl ⟨rfl, (most - (st + 1)).toNat, by omega, _, _, _, _, st + 1, fnd ++ [w], tr, rfl, ?_, ?_, hc7.skip (by omega), D.hit hq, ?_, by omega, by omega, pre_set p07 (by omega)⟩
            · rw [show (fnd0 ++ (fnd ++ [w])).map iv = (fnd0 ++ fnd).map iv ++ [iv w] by simp]
              exact List.getElem?_set_self (get_lt hf7)
            · rw [List.getElem?_set_ne tf.symm]; exact ht7
            · rw [← List.append_assoc, List.length_append]; simp only [List.length_cons, List.length_nil]; omega
          · have hq : q ≠ p := of_decide_eq_false hq
            and_intros
            have other : (¬ (p < q ∧ q ∉ srcL as w)) → (sNil [some (.tup [.int pl, .tup as]), some (.int most), some (.box f), some (.int (st + 1)), some (.box th), some (.int p), some (.box t), some (iv w), some (.int q), some (.box g), d10] S7).Wp (fun r S8 => r.1 = .nx ∧ ∃ m', m' < m ∧ ∃ d7 d8 d9 d10 st fnd todo, r.2 = [some (.tup [.int pl, .tup as]), some (.int most), some (.box f), some (.int st), some (.box th), some (.int p), some (.box t), d7, d8, d9, d10] ∧ S8[f]? = some (.lst ((fnd0 ++ fnd).map iv)) ∧ S8[t]? = some (.lst (todo.map tD)) ∧ IL S8 th (comeL as) ∧ DI as p fnd todo ∧ ((fnd0 ++ fnd).length : Int) ≤ st ∧ st ≤ most ∧ most - st ≤ (m' : Int) ∧ S <+: S8) noX := fun hno => by
              exact w_sNil ⟨rfl, (most - (st + 1)).toNat, by omega, _, _, _, _, st + 1, fnd, tr, rfl, hf7, ht7, hc7, D.drop hq hno, by omega, by omega, by omega, p07⟩
            refine ⟨fun hgt => ?_, fun hgt => ?_⟩
            · have hgt : p < q := of_decide_eq_true hgt
              and_intros
              refine w_inI hn7.seq ?_
              refine ⟨_, rfl, fun hin => ?_, fun hin => ?_⟩
              · have hin : q ∉ srcL as w := fun z => by simp [z] at hin
                and_intros
                refine ⟨ty_list ht7, ?_⟩
                and_intros
                refine fromMap_ok A (q := q) (w := w) rfl rfl (fun i S' hi hS' => ?_) (fun u S8 hul eu p8 => ?_)
                · obtain ⟨h0, h1, _⟩ := fromL_mem.mp hi
                  obtain ⟨s, t, lot, crew, _, _, eat, R⟩ := A.arw h0 h1
                  rw [R.tgt]
                  rw [R.eq] at eat
                  and_intros
                  refine ⟨Nat.le_of_ble_eq_true (by rfl), ?_⟩
                  refine w_addT (by rw [List.length_map]; exact Nat.le_trans (m := 11) (show w.length + 1 ≤ 11 by omega) (by decide)) ?_
                  and_intros
                  refine w_ixT eat ?_
                  and_intros
                  refine ⟨Nat.le_of_ble_eq_true (by rfl), ?_, rfl⟩
                  show _ = Dt.tup [Dt.tup ((w ++ [i]).map Dt.int), Dt.int t]
                  rw [List.map_append]
                  rfl
                have hf8 := get_pre p8 hf7
                have ht8 := get_pre p8 ht7
                have nl : (newT as w q).length ≤ 40 := by
                  unfold newT
                  rw [List.length_map]
                  have := fromL_len (as := as) (p := q)
                  omega
                have D' := D.more aal hgt hin
                have tl2 := D'.len A
                refine w_nil (w_extend (lst_of ht8) (w_seqB eu) (by rw [← List.length_append, ← List.map_append, List.length_map]; exact Nat.le_trans tl2 (by decide)) ?_)
                refine .inl ⟨rfl, (most - (st + 1)).toNat, by omega, _, _, _, _, st + 1, fnd, tr ++ newT as w q, rfl, ?_, ?_, (hc7.pre p8).skip tth, D', by omega, by omega, by omega, pre_set (p07.trans p8) tS⟩
                · rw [List.getElem?_set_ne tf]; exact hf8
                · rw [List.map_append]
                  exact List.getElem?_set_self (get_lt ht8)
              · have hin : q ∈ srcL as w := by
                  cases h : decide (q ∈ srcL as w) with
                  | true => exact of_decide_eq_true h
                  | false => rw [h] at hin; cases hin
                exact (other fun z => z.2 hin).mono (fun r S8 h => .inl h) fun _ _ _ q => q
            · have hgt : ¬ p < q := of_decide_eq_false hgt
              refine ⟨(fun z => nomatch z), fun _ => ?_⟩
              exact (other fun z => hgt z.1).mono (fun r S8 h => .inl h) fun _ _ _ q => q
      · have tne : todo = [] := by
          cases todo with
          | nil => rfl
          | cons x l => cases hh
        subst tne
        refine .inl ⟨rfl, _, _, _, _, _, _, st, fnd0 ++ fnd, rfl, get_pre pp hf4, get_pre pp hc4, ?_, fun r => ?_, len4, st4, p4.trans pp⟩
        · refine List.nodup_append.mpr ⟨nd0, D.nodup, fun a ha b hb e => ?_⟩
          subst e
          exact hfresh a ha (D.snd a hb)
        · rw [hptk, List.mem_append, mem0]
          constructor
          · rintro (⟨p', h1, h2⟩ | h)
            · exact ⟨p', by simp [h1], h2⟩
            · exact ⟨p, by simp, D.snd r h⟩
          · rintro ⟨p', h1, h2⟩
            rcases List.mem_append.mp h1 with z | z
            · exact .inl ⟨p', z, h2⟩
            · rw [List.mem_singleton.mp z] at h2
              rcases D.cmp r h2 with y | ⟨x, hx, _⟩
              · exact .inr y
              · cases hx
  · subst e
    rw [List.length_map, List.take_length] at mem0
    and_intros
    refine w_sortT (seq_lst hf2) (fun l hl => ?_) (Nat.le_trans (show fnd.length ≤ 20000 by omega) (by decide)) ?_
    · obtain ⟨p, _, hr⟩ := (mem0 l).mp hl
      exact hr.ne
    · refine .inl ⟨_, rfl, .inr ⟨_, fnd, rfl, by have := p2.length_le; omega, get_last, nd0, by omega, fun r => ?_⟩, p2.trans (List.prefix_append _ _)⟩
      rw [mem0]
      exact ⟨fun ⟨p, hp, hr⟩ => ⟨p, (C.2 p).mp hp, hr⟩, fun ⟨p, hp, hr⟩ => ⟨p, (C.2 p).mpr hp, hr⟩⟩
end
end Lw
set_option Elab.async false
set_option linter.all false
set_option maxRecDepth 100000
set_option maxHeartbeats 4000000
/-! Ok: walks, rings, weights: what the greatest mean rests on. -/
set_option Elab.async false
set_option linter.all false
set_option maxRecDepth 100000
set_option maxHeartbeats 4000000
/-! Ol: heights stand still in the end; the greatest sums of walks of one length. -/
namespace Lw
open PySem PySem.Spec PyProof.Rows L2 Mn
section
variable {as : List Dt} {size hl : Nat} {d : Dt} {pl : Int}
abbrev OF := List (Option Int)
def At (f : OF) (q : Int) (v : Int) : Prop := f[q.toNat]? = some (some v)
def LeF (f g : OF) : Prop := ∀ q v, At f q v → ∃ v', At g q v' ∧ v ≤ v'
theorem LeF.trans {f g k : OF} (a : LeF f g) (b : LeF g k) : LeF f k := fun q v h => by
  obtain ⟨v1, h1, l1⟩ := a q v h
  obtain ⟨v2, h2, l2⟩ := b q v1 h1
  exact ⟨v2, h2, by omega⟩
theorem Snd.st (A : Snd size hl d pl as) {i : Int} (h0 : 0 ≤ i) (h1 : i < as.length) : 0 ≤ arrS (nthA as i) ∧ arrS (nthA as i) < pl ∧ 0 ≤ arrT (nthA as i) ∧ arrT (nthA as i) < pl := by
  obtain ⟨s, t, lot, crew, _, _, _, R⟩ := A.arw h0 h1
  rw [R.src, R.tgt]
  exact ⟨R.s0, R.s1, R.t0, R.t1⟩
variable {ps ws : List Int} {q : Int × Int}
theorem idxL_mem {n : Nat} {i : Int} (h0 : 0 ≤ i) (h1 : i < n) : i ∈ idxL n := by
  unfold idxL
  exact List.mem_map.mpr ⟨i.toNat, List.mem_range.mpr (by omega), by omega⟩
theorem h0L_len (p0 : 1 ≤ pl) : (h0L pl).length = pl.toNat := by unfold h0L; rw [List.length_cons, List.length_replicate]; omega
theorem h0L_at {p v : Int} (hp : 0 ≤ p) (h : At (h0L pl) p v) : p = 0 ∧ v = 0 := by
  unfold At h0L at h
  cases e : p.toNat with
  | zero => rw [e] at h; simp at h; exact ⟨by omega, h.symm⟩
  | succ n =>
    rw [e, List.getElem?_cons_succ, List.getElem?_replicate] at h
    split at h <;> simp at h
end
end Lw
set_option Elab.async false
set_option linter.all false
set_option maxRecDepth 100000
set_option maxHeartbeats 4000000
/-! Om: the greatest sums of walks of one length; the greatest mean. -/
namespace Lw
open PySem PySem.Spec PyProof.Rows L2 Mn
section
variable {as : List Dt} {size hl : Nat} {d : Dt} {pl : Int} {ps ws : List Int}
def lgOne (g : Int) (s t : Nat) (sums found : OF) : OF := match sums[s]? with
  | some (some v) => match found[t]? with
    | some (some x) => if x < v + g then found.set t (some (v + g)) else found
    | _ => found.set t (some (v + g))
  | _ => found
def lgFold (g : Int → Int) (as : List Dt) (sums found : OF) (is : List Int) : OF := is.foldl (fun f i => lgOne (g i) (arrS (nthA as i)).toNat (arrT (nthA as i)).toNat sums f) found
def noneL (n : Nat) : OF := List.replicate n none
def lgRow (g : Int → Int) (as : List Dt) (n : Nat) (sums : OF) : OF := lgFold g as sums (noneL n) (idxL as.length)
def dpR (g : Int → Int) (as : List Dt) (pl : Int) : Nat → OF
  | 0 => h0L pl
  | k + 1 => lgRow g as pl.toNat (dpR g as pl k)
theorem none_at {n : Nat} {p v : Int} (h : At (noneL n) p v) : False := by
  unfold At noneL at h
  rw [List.getElem?_replicate] at h
  split at h <;> simp at h
/-! ### fractions -/
/-! ### the best mean -/
/-! ### the greatest mean by sums of one length -/
end
end Lw
set_option Elab.async false
set_option linter.all false
set_option maxRecDepth 100000
set_option maxHeartbeats 4000000
/-! Oh: heights judged, by the law and by the program. -/
namespace Lw
open PySem PySem.Spec PyProof.Rows L2 Mn
section
variable {S : Bxs} {size hl : Nat} {d : Dt} {pl : Int} {as : List Dt} {ps ws : List Int}
def Itm (d : Dt) : Prop := d = .non ∨ (∃ i : Int, d = .int i ∧ -(10 ^ 40) ≤ i ∧ i ≤ 10 ^ 40) ∨ (∃ b, d = .bl b) ∨ d = .str "0" ∨ d = .tup [.int 0]
/-- a thing that may be heights, or none -/
def Thg (S : Bxs) (d : Dt) : Prop := (∃ xs, d = .tup xs ∧ xs.length ≤ 30 ∧ ∀ x ∈ xs, Itm x) ∨ ((∀ xs, d ≠ .tup xs) ∧ ∀ S', S <+: S' → isiD "tuple" S' d = some false)
end
end Lw
set_option Elab.async false
set_option linter.all false
set_option maxRecDepth 100000
set_option maxHeartbeats 4000000
/-! On: rules for dicts that are walked, dicts of sums. -/
namespace Lw
open PySem PySem.Spec PyProof.Rows L2 Mn
section
variable {σ : Sg} {S : Bxs} {E : Nat → List Dt → Bxs → Prop}
theorem w_srcEnumB {f : FA} {P : List (Dt × Dt) × (Bxs → Prop) → Bxs → Prop} (h : (f σ S).Wp (fun ds S1 => ∃ n xs, ds = [.box n] ∧ S1.seq n = some xs ∧ P (placed xs, fun S' => seqOf S' (.box n) = some xs) S1) E) : (srcEnum f σ S).Wp P E :=
  w_bind (h.mono (fun ds S1 ⟨n, xs, e, e2, q⟩ => by
    subst e
    show (match seqOf S1 (.box n) with
      | some xs => Rs.ok (placed xs, fun S' => seqOf S' (.box n) = some xs) S1
      | none => .no).Wp P E
    rw [show seqOf S1 (.box n) = some xs from e2]
    exact sat_mk q) fun _ _ _ q => q)
theorem ty_dict {n : Nat} {kvs : List (Key × Dt)} (e : S.dkR n = some kvs) : tyD "dict" (.box n) S := .inr ⟨rfl, .inl (by rw [e]; rfl)⟩
end
theorem valD_put {kvs : List (Key × Dt)} {k k' : Key} {d : Dt} : valD (putD kvs k d) k' = if k = k' then some d else valD kvs k' := by
  unfold putD valD
  split
  · rename_i h
    have hf : ∀ kv : Key × Dt, (if kv.1 = k then (kv.1, d) else kv).1 = kv.1 := fun kv => by split <;> rfl
    rw [List.find?_map]
    have hc : ((fun kv : Key × Dt => decide (kv.1 = k')) ∘ fun kv : Key × Dt => if kv.1 = k then (kv.1, d) else kv) = fun kv : Key × Dt => decide (kv.1 = k') := by
      funext kv
      simp only [Function.comp]
      rw [hf]
    rw [hc, Option.map_map]
    cases e : kvs.find? fun kv => decide (kv.1 = k') with
    | none =>
      by_cases ek : k = k'
      · subst ek
        obtain ⟨x, hx, hx2⟩ := List.any_eq_true.mp h
        have := List.find?_eq_none.mp e x hx
        exact absurd hx2 this
      · rw [if_neg ek]; rfl
    | some x =>
      have hx : x.1 = k' := by simpa using List.find?_some e
      simp only [Option.map_some, Function.comp]
      by_cases ek : k = k'
      · rw [if_pos ek, if_pos (hx.trans ek.symm)]
      · rw [if_neg ek, if_neg (fun z => ek (z.symm.trans hx))]
  · rename_i h
    have hn : kvs.find? (fun kv => decide (kv.1 = k)) = none := List.find?_eq_none.mpr fun x hx e => h (List.any_eq_true.mpr ⟨x, hx, e⟩)
    rw [List.find?_append]
    by_cases ek : k = k'
    · subst ek
      rw [hn, if_pos rfl]
      simp [List.find?_cons]
    · rw [if_neg ek]
      have : ([(k, d)] : List (Key × Dt)).find? (fun kv => decide (kv.1 = k')) = none := by simp [List.find?_cons, ek]
      rw [this, Option.or_none]
theorem putD_keys {kvs : List (Key × Dt)} {k : Key} {d : Dt} : ((putD kvs k d).map (·.1) = kvs.map (·.1) ∧ k ∈ kvs.map (·.1)) ∨ ((putD kvs k d).map (·.1) = kvs.map (·.1) ++ [k] ∧ k ∉ kvs.map (·.1)) := by
  unfold putD
  have hiff : (kvs.any fun kv => decide (kv.1 = k)) = true ↔ k ∈ kvs.map (·.1) := by
    rw [List.any_eq_true, List.mem_map]
    constructor
    · rintro ⟨x, hx, e⟩; exact ⟨x, hx, by simpa using e⟩
    · rintro ⟨x, hx, e⟩; exact ⟨x, hx, by simpa using e⟩
  split
  · rename_i h
    refine .inl ⟨?_, hiff.mp h⟩
    rw [List.map_map]
    refine List.map_congr_left fun kv _ => ?_
    simp only [Function.comp]
    split <;> rfl
  · rename_i h
    refine .inr ⟨?_, fun z => h (hiff.mpr z)⟩
    rw [List.map_append]
    rfl
/-- a dict of sums -/
structure DF (pl : Int) (kvs : List (Key × Dt)) (f : OF) : Prop where
  len : f.length = pl.toNat
  val : ∀ q, 0 ≤ q → valD kvs (.inl q) = match f[q.toNat]? with | some (some v) => some (.int v) | _ => none
  key : ∀ k ∈ kvs.map (·.1), ∃ q : Int, k = .inl q ∧ 0 ≤ q ∧ q < pl
  nd : (kvs.map (·.1)).Nodup
theorem DF.at_ {pl : Int} {kvs : List (Key × Dt)} {f : OF} (h : DF pl kvs f) {q v : Int} (hq : 0 ≤ q) (hv : At f q v) : valD kvs (.inl q) = some (.int v) := by
  rw [h.val q hq]
  unfold At at hv
  rw [hv]
theorem DF.no {pl : Int} {kvs : List (Key × Dt)} {f : OF} (h : DF pl kvs f) {q : Int} (hq : 0 ≤ q) (hv : ∀ v, ¬ At f q v) : valD kvs (.inl q) = none := by
  rw [h.val q hq]
  cases e : f[q.toNat]? with
  | none => rfl
  | some o =>
    cases o with
    | none => rfl
    | some v => exact absurd e (hv v)
theorem DF.small {pl : Int} {kvs : List (Key × Dt)} {f : OF} (h : DF pl kvs f) (hp : pl ≤ 10) : kvs.length ≤ 10 := by
  have hk : ∃ is : List Int, kvs.map (·.1) = is.map Sum.inl ∧ ∀ i ∈ is, 0 ≤ i ∧ i < pl := by
    have go : ∀ l : List Key, (∀ k ∈ l, ∃ q : Int, k = .inl q ∧ 0 ≤ q ∧ q < pl) → ∃ is : List Int, l = is.map Sum.inl ∧ ∀ i ∈ is, 0 ≤ i ∧ i < pl := by
      intro l
      induction l with
      | nil => intro _; exact ⟨[], rfl, fun _ z => nomatch z⟩
      | cons k l ih =>
        intro hl
        obtain ⟨q, rfl, hq⟩ := hl k List.mem_cons_self
        obtain ⟨is, rfl, hi⟩ := ih fun k hk => hl k (List.mem_cons_of_mem _ hk)
        refine ⟨q :: is, rfl, fun i hi2 => ?_⟩
        rcases List.mem_cons.mp hi2 with rfl | z
        · exact hq
        · exact hi i z
    exact go _ h.key
  obtain ⟨is, e, hb⟩ := hk
  have hn := h.nd
  rw [e] at hn
  have hn2 : is.Nodup := List.Pairwise.of_map (f := fun i : Int => (Sum.inl i : Key)) (fun _ _ hne e => hne (congrArg _ e)) hn
  have := nodup_le pl.toNat is hn2 fun x hx => by have := hb x hx; omega
  have e2 : kvs.length = is.length := by
    have := congrArg List.length e
    rwa [List.length_map, List.length_map] at this
  omega
theorem DF.put {pl : Int} {kvs : List (Key × Dt)} {f : OF} (h : DF pl kvs f) {q v : Int} (h0 : 0 ≤ q) (h1 : q < pl) : DF pl (putD kvs (.inl q) (.int v)) (f.set q.toNat (some v)) := by
  have hl := h.len
  refine ⟨by rw [List.length_set]; exact hl, fun p hp => ?_, fun k hk => ?_, ?_⟩
  · rw [valD_put]
    by_cases e : q = p
    · subst e
      rw [if_pos rfl, List.getElem?_set_self (by omega)]
    · have e2 : ¬ (Sum.inl q : Key) = .inl p := fun z => e (Sum.inl.inj z)
      rw [if_neg e2, List.getElem?_set_ne (by omega)]
      exact h.val p hp
  · rcases putD_keys (kvs := kvs) (k := (.inl q : Key)) (d := .int v) with ⟨e, _⟩ | ⟨e, _⟩
    · rw [e] at hk; exact h.key k hk
    · rw [e] at hk
      rcases List.mem_append.mp hk with z | z
      · exact h.key k z
      · rw [List.mem_singleton.mp z]; exact ⟨q, rfl, h0, h1⟩
  · rcases putD_keys (kvs := kvs) (k := (.inl q : Key)) (d := .int v) with ⟨e, _⟩ | ⟨e, hn⟩
    · rw [e]; exact h.nd
    · rw [e]
      refine List.nodup_append.mpr ⟨h.nd, by simp, fun a ha b hb e => ?_⟩
      rw [List.mem_singleton.mp hb] at e
      exact hn (e ▸ ha)
theorem DF.nil {pl : Int} : DF pl [] (noneL pl.toNat) := by
  refine ⟨by unfold noneL; rw [List.length_replicate], fun q hq => ?_, (fun _ z => nomatch z), List.nodup_nil⟩
  have : ∀ v, (noneL pl.toNat)[q.toNat]? ≠ some (some v) := fun v z => none_at (p := q) z
  split
  · rename_i v e; exact absurd e (this v)
  · rfl
theorem DF.zero {pl : Int} (p0 : 1 ≤ pl) : DF pl [(.inl 0, .int 0)] (h0L pl) := by
  refine ⟨h0L_len p0, fun q hq => ?_, fun k hk => ?_, by simp⟩
  · by_cases e : q = 0
    · subst e; rfl
    · have : ∀ v, (h0L pl)[q.toNat]? ≠ some (some v) := fun v z => e (h0L_at hq z).1
      have e2 : valD [((Sum.inl 0 : Key), Dt.int 0)] (.inl q) = none := by
        have : ¬ (Sum.inl 0 : Key) = .inl q := fun z => e (Sum.inl.inj z).symm
        simp [valD, List.find?_cons, this]
      rw [e2]
      split
      · rename_i v e3; exact absurd e3 (this v)
      · rfl
  · have : k = .inl 0 := by simpa using hk
    exact ⟨0, this, Int.le_refl _, by omega⟩
end Lw
set_option Elab.async false
set_option linter.all false
set_option maxRecDepth 100000
set_option maxHeartbeats 4000000
/-! Va: the sources into a place; what leads back. -/
namespace Mn
open PySem PySem.Spec PyProof.Rows L2
section
variable {σ : Sg} {S : Bxs} {E : Nat → List Dt → Bxs → Prop}
theorem w_setd {o f g : FE} {P : Dt → Bxs → Prop} (h : (o σ S).Wp (fun d S1 => ∃ n kv0, d = .box n ∧ S1[n]? = some (.dk kv0) ∧ (f σ S1).Wp (fun y S2 => (g σ S2).Wp (fun z S3 => ∃ kvs i, y = .int i ∧ S3[n]? = some (.dk kvs) ∧ kvs.length < LIM ∧ (∀ v, valD kvs (.inl i) = some v → P v S3) ∧ (valD kvs (.inl i) = none → P z (S3.set n (.dk (putD kvs (.inl i) z))))) E) E) E) : (dSetd o f g σ S).Wp P E := by
  unfold dSetd
  refine w_bind (h.mono (fun d S1 ⟨n, kv0, ed, e0, h1⟩ => ?_) fun _ _ _ q => q)
  subst ed
  dsimp only
  rw [show S1.dk n = some kv0 from dk_of e0]
  refine w_bind (h1.mono (fun y S2 h2 => w_bind (h2.mono (fun z S3 ⟨kvs, i, ey, e3, c, q1, q2⟩ => ?_) fun _ _ _ q => q)) fun _ _ _ q => q)
  subst ey
  rw [show S3.dk n = some kvs from dk_of e3]
  show (if kvs.length < LIM then (match valD kvs (.inl i) with
    | some v => Rs.ok v S3
    | none => .ok z (S3.set n (.dk (putD kvs (.inl i) z)))) else .no).Wp P E
  rw [if_pos c]
  cases e : valD kvs (.inl i) with
  | some v => exact sat_mk (q1 v e)
  | none => exact sat_mk (q2 e)
theorem w_dget2 {n : Nat} {i : Int} {z : Dt} {kvs : List (Key × Dt)} {P : Dt → Bxs → Prop} (e : S.dkR n = some kvs) (h : P ((valD kvs (.inl i)).getD z) S) : (dgetMG (.box n) [.int i, z] S).Wp P E := by
  have q : dgetMG (.box n) [.int i, z] S = .ok ((valD kvs (.inl i)).getD z) S := by
    show (match dkO S (.box n), keyOf (.int i) with
        | some kvs, some k => Rs.ok ((valD kvs k).getD z) S
        | _, _ => .no) = _
    rw [show dkO S (.box n) = some kvs from e]
    rfl
  rw [q]; exact sat_mk h
end
end Mn
namespace Lw
open PySem PySem.Spec PyProof.Rows L2 Mn
section
variable {S : Bxs} {size hl : Nat} {d : Dt} {pl : Int} {as : List Dt}
/-- the dict of sources: boxes of its own -/
structure SrcD (S : Bxs) (c : Nat) (bs : List Dt) (kvs : List (Key × Dt)) : Prop where
  at_ : S[c]? = some (.dk kvs)
  yes : ∀ p v, valD kvs (.inl p) = some v → ∃ n L, v = .box n ∧ c < n ∧ IL S n L ∧ L.length ≤ bs.length ∧ ∀ s, s ∈ L ↔ ∃ a ∈ bs, arrT a = p ∧ arrS a = s
  no : ∀ p, valD kvs (.inl p) = none → ∀ a ∈ bs, arrT a ≠ p
  inj : ∀ p q n, valD kvs (.inl p) = some (.box n) → valD kvs (.inl q) = some (.box n) → p = q
  len : kvs.length ≤ bs.length
theorem SrcD.pre {S S' : Bxs} {c : Nat} {bs : List Dt} {kvs : List (Key × Dt)} (h : SrcD S c bs kvs) (p : S <+: S') : SrcD S' c bs kvs :=
  ⟨get_pre p h.at_, fun q v hv => by obtain ⟨n, L, e, h1, h2, h3⟩ := h.yes q v hv; exact ⟨n, L, e, h1, h2.pre p, h3⟩, h.no, h.inj, h.len⟩
theorem SrcD.old {S : Bxs} {c n : Nat} {bs : List Dt} {kvs : List (Key × Dt)} {a : Dt} {L : List Int} (h : SrcD S c bs kvs) (hv : valD kvs (.inl (arrT a)) = some (.box n)) (hL : IL S n L) (hc : c < n) : SrcD (S.set n (.lst (L.map Dt.int ++ [.int (arrS a)]))) c (bs ++ [a]) kvs := by
  have hn := get_lt hL
  refine ⟨by rw [List.getElem?_set_ne (by omega)]; exact h.at_, fun p v hp => ?_, fun p hp x hx => ?_, h.inj, by have := h.len; rw [List.length_append]; omega⟩
  · obtain ⟨m, M, e, h1, h2, h3, h4⟩ := h.yes p v hp
    subst e
    by_cases em : m = n
    · subst em
      have ep := h.inj _ _ _ hp hv
      subst ep
      have : M = L := by
        have e1 := h2
        unfold IL at e1
        rw [show S[m]? = some (.lst (L.map Dt.int)) from hL] at e1
        have e1 := MBox.lst.inj (Option.some.inj e1)
        exact (List.map_inj_right (fun x y e => Dt.int.inj e)).mp e1.symm
      subst this
      refine ⟨m, M ++ [arrS a], rfl, h1, ?_, by rw [List.length_append, List.length_append]; simp; omega, fun s => ?_⟩
      · show (S.set m _)[m]? = _
        rw [List.getElem?_set_self hn, List.map_append]; rfl
      · rw [List.mem_append, h4]
        constructor
        · rintro (⟨x, hx, y⟩ | z)
          · exact ⟨x, by simp [hx], y⟩
          · exact ⟨a, by simp, rfl, (List.mem_singleton.mp z).symm⟩
        · rintro ⟨x, hx, y1, y2⟩
          rcases List.mem_append.mp hx with z | z
          · exact .inl ⟨x, z, y1, y2⟩
          · rw [List.mem_singleton.mp z] at y2; exact .inr (by simp [y2])
    · refine ⟨m, M, rfl, h1, h2.skip (fun z => em z.symm), by rw [List.length_append]; omega, fun s => ?_⟩
      rw [h4]
      constructor
      · rintro ⟨x, hx, y⟩
        exact ⟨x, by simp [hx], y⟩
      · rintro ⟨x, hx, y1, y2⟩
        rcases List.mem_append.mp hx with z | z
        · exact ⟨x, z, y1, y2⟩
        · rw [List.mem_singleton.mp z] at y1
          subst y1
          rw [hv] at hp
          cases hp
          exact absurd rfl em
  · rcases List.mem_append.mp hx with z | z
    · exact h.no p hp x z
    · rw [List.mem_singleton.mp z]
      intro e
      subst e
      rw [hv] at hp
      cases hp
theorem SrcD.new {S : Bxs} {c : Nat} {bs : List Dt} {kvs : List (Key × Dt)} {a : Dt} (h : SrcD S c bs kvs) (hv : valD kvs (.inl (arrT a)) = none) : SrcD ((S ++ [MBox.lst [.int (arrS a)]]).set c (.dk (putD kvs (.inl (arrT a)) (.box S.length)))) c (bs ++ [a]) (putD kvs (.inl (arrT a)) (.box S.length)) := by
  have hc := get_lt h.at_
  have ltb : ∀ p n, valD kvs (.inl p) = some (.box n) → n < S.length := fun p n hp => by
    obtain ⟨m, M, e, h1, h2, _⟩ := h.yes p _ hp
    cases e
    exact get_lt h2
  refine ⟨List.getElem?_set_self (by rw [List.length_append]; omega), fun p v hp => ?_, fun p hp x hx => ?_, fun p q n h1 h2 => ?_, by have := h.len; have := putD_len kvs (.inl (arrT a)) (.box S.length); rw [List.length_append]; simp; omega⟩
  · rw [valD_put] at hp
    split at hp
    · rename_i e
      have e := Sum.inl.inj e
      subst e
      cases hp
      refine ⟨S.length, [arrS a], rfl, hc, ?_, by rw [List.length_append]; simp, fun s => ?_⟩
      · show (List.set _ c _)[S.length]? = _
        rw [List.getElem?_set_ne (by omega)]; exact get_last
      · constructor
        · intro z
          exact ⟨a, by simp, rfl, (List.mem_singleton.mp z).symm⟩
        · rintro ⟨x, hx, y1, y2⟩
          rcases List.mem_append.mp hx with z | z
          · exact absurd y1 (h.no _ hv x z)
          · rw [List.mem_singleton.mp z] at y2; simp [y2]
    · rename_i e
      obtain ⟨m, M, em, h1, h2, h3, h4⟩ := h.yes p v hp
      subst em
      refine ⟨m, M, rfl, h1, ?_, by rw [List.length_append]; omega, fun s => ?_⟩
      · exact (IL.app h2).skip (by omega)
      · rw [h4]
        constructor
        · rintro ⟨x, hx, y⟩
          exact ⟨x, by simp [hx], y⟩
        · rintro ⟨x, hx, y1, y2⟩
          rcases List.mem_append.mp hx with z | z
          · exact ⟨x, z, y1, y2⟩
          · rw [List.mem_singleton.mp z] at y1
            exact absurd (by rw [y1]) e
  · rw [valD_put] at hp
    split at hp
    · cases hp
    · rename_i e
      rcases List.mem_append.mp hx with z | z
      · exact h.no p hp x z
      · rw [List.mem_singleton.mp z]
        exact fun y => e (by rw [y])
  · rw [valD_put] at h1 h2
    split at h1
    · rename_i e1
      have e1 := Sum.inl.inj e1
      cases h1
      split at h2
      · rename_i e2
        rw [← e1, ← Sum.inl.inj e2]
      · have := ltb _ _ h2; omega
    · split at h2
      · cases h2
        have := ltb _ _ h1; omega
      · exact h.inj p q n h1 h2
theorem sources_ok (A : Snd size hl d pl as) : (F__sources_into [d] S).Wp (fun r S' => ∃ c kvs, r = .box c ∧ S.length ≤ c ∧ SrcD S' c as kvs ∧ S <+: S') noX := by
  have hwe := A.eq
  have aal := A.al
  subst hwe
  refine w_body ?_
  unfold B__sources_into
  simp only [startD, List.map_cons, List.map_nil, List.length_cons, List.length_nil, List.cons_append, List.nil_append, Nat.reduceAdd, Nat.reduceSub, List.replicate, List.replicate_succ, List.replicate_zero]
  and_intros
  refine w_newD ?_
  and_intros
  have h0 : SrcD (S ++ [MBox.dk []]) S.length [] [] := ⟨get_last, (fun _ _ z => nomatch z), (fun _ _ _ z => nomatch z), (fun _ _ _ z => nomatch z), Nat.le_refl _⟩
  refine w_loop (fun i σ S' => ∃ d2 d3 d4 kvs, σ = [some (.tup [.int pl, .tup as]), some (.box S.length), d2, d3, d4] ∧ SrcD S' S.length (as.take i) kvs ∧ S <+: S') (fun _ _ _ _ => rfl) (fun i x σ S1 hx ⟨d2, d3, d4, kvs, e, D, p1⟩ => ?_) (fun σ S1 ⟨d2, d3, d4, kvs, e, D, p1⟩ => ?_) ⟨_, _, _, _, rfl, h0, List.prefix_append _ _⟩
  · subst e
    have hx : as[i]? = some x := hx
    obtain ⟨s, t, lot, crew, R⟩ := A.ar x (List.mem_of_getElem? hx)
    have hs := R.src
    have ht := R.tgt
    have htk : as.take (i + 1) = as.take i ++ [x] := by rw [List.take_add_one, hx]; rfl
    have hkl := D.len
    rw [List.length_take] at hkl
    have p2 : S1 <+: S1 ++ [MBox.lst []] := List.prefix_append _ _
    rw [R.eq]
    and_intros
    refine w_setd (w_var rfl ⟨_, _, rfl, D.at_, w_var rfl ?_⟩)
    and_intros
    refine ⟨kvs, t, rfl, get_pre p2 D.at_, Nat.lt_of_le_of_lt (show kvs.length ≤ 40 by omega) (by decide), fun v hv => ?_, fun hv => ?_⟩
    · obtain ⟨n, L, e, h1, h2, h3, _⟩ := D.yes t v hv
      subst e
      have h2' := h2.pre p2
      rw [List.length_take] at h3
      refine ⟨ty_list h2', ?_⟩
      and_intros
      refine w_append (lst_of h2') (by rw [List.length_map]; exact Nat.lt_of_le_of_lt (show L.length ≤ 40 by omega) (by decide)) ?_
      refine .inl ⟨rfl, _, _, _, kvs, rfl, ?_, pre_set (p1.trans p2) (by omega)⟩
      rw [← hs, htk]
      exact (D.pre p2).old (by rw [ht]; exact hv) h2' h1
    · have hc := get_lt D.at_
      have e2 : ((S1 ++ [MBox.lst []]).set S.length (.dk (putD kvs (.inl t) (.box S1.length))))[S1.length]? = some (.lst []) := by rw [List.getElem?_set_ne (by omega)]; exact get_last
      refine ⟨ty_list e2, ?_⟩
      and_intros
      refine w_append (lst_of e2) (by decide) ?_
      refine .inl ⟨rfl, _, _, _, putD kvs (.inl t) (.box S1.length), rfl, ?_, pre_set (pre_set (p1.trans p2) (Nat.le_refl _)) (by omega)⟩
      have e3 : ((S1 ++ [MBox.lst []]).set S.length (.dk (putD kvs (.inl t) (.box S1.length)))).set S1.length (.lst ([] ++ [.int s])) = (S1 ++ [MBox.lst [.int (arrS x)]]).set S.length (.dk (putD kvs (.inl (arrT x)) (.box S1.length))) := by
        rw [List.set_comm _ _ (by omega), hs, ht]
        congr 1
        simp
      rw [e3, htk, ← ht]
      exact D.new (by rw [ht]; exact hv)
  · subst e
    rw [List.take_length] at D
    refine c_nx ?_
    and_intros
    exact .inl ⟨_, rfl, _, kvs, rfl, Nat.le_refl _, D, p1⟩
end
end Lw
set_option Elab.async false
set_option linter.all false
set_option maxRecDepth 100000
set_option maxHeartbeats 4000000
/-! Vb: what leads back to a place. -/
namespace Lw
open PySem PySem.Spec PyProof.Rows L2 Mn
section
variable {S : Bxs} {size hl : Nat} {d : Dt} {pl : Int} {as : List Dt}
/-- what leads back to p, without the places gone -/
structure Back (as : List Dt) (p : Int) (gone bs : List Int) : Prop where
  st : p ∈ bs
  ok : ∀ x ∈ bs, x = p ∨ (p < x ∧ x ∉ gone)
  cl : ∀ a ∈ as, arrT a ∈ bs → p < arrS a → arrS a ∉ gone → arrS a ∈ bs
/-- under way: what is left to be looked at, of one place all sources but the first -/
structure BW (as : List Dt) (pl p : Int) (gone bs ls : List Int) (u : Option (Int × List Int)) : Prop where
  nd : bs.Nodup
  st : p ∈ bs
  bd : ∀ x ∈ bs, 0 ≤ x ∧ x < pl
  ok : ∀ x ∈ bs, x = p ∨ (p < x ∧ x ∉ gone)
  sub : ∀ x ∈ ls, x ∈ bs
  cl : ∀ a ∈ as, arrT a ∈ bs → p < arrS a → arrS a ∉ gone → arrS a ∈ bs ∨ arrT a ∈ ls ∨ ∃ q l, u = some (q, l) ∧ arrT a = q ∧ arrS a ∈ l
theorem BW.len (A : Snd size hl d pl as) {p : Int} {gone bs ls : List Int} {u : Option (Int × List Int)} (h : BW as pl p gone bs ls u) : bs.length ≤ 10 := by
  have p1 := A.p1
  have p0 := A.p0
  have := nodup_le pl.toNat bs h.nd fun x hx => by have := h.bd x hx; omega
  omega
theorem back_ok (A : Snd size hl d pl as) {c g : Nat} {kvs kvg : List (Key × Dt)} {p : Int} {gone : List Int} (D : SrcD S c as kvs) (hg : S[g]? = some (.dk kvg)) (hG : ∀ x, (valD kvg (.inl x)).isSome = decide (x ∈ gone)) (p0 : 0 ≤ p ∧ p < pl) :
    (F__leading_back [.box c, .int p, .box g] S).Wp (fun r S' => ∃ n kvb bs, r = .box n ∧ S.length ≤ n ∧ S'[n]? = some (.dk kvb) ∧ KyI kvb bs ∧ Back as p gone bs ∧ S <+: S') noX := by
  have aal := A.al
  refine w_body ?_
  unfold B__leading_back
  simp only [startD, List.map_cons, List.map_nil, List.length_cons, List.length_nil, List.cons_append, List.nil_append, Nat.reduceAdd, Nat.reduceSub, List.replicate, List.replicate_succ, List.replicate_zero]
  and_intros
  refine w_disp1 ?_
  and_intros
  refine ⟨get_last, ?_⟩
  have eb : ((S ++ [MBox.dk []]).set S.length (.dk [(Sum.inl p, .bl true)]))[S.length]? = some (.dk [(Sum.inl p, .bl true)]) := List.getElem?_set_self (by simp)
  have pb : S <+: (S ++ [MBox.dk []]).set S.length (.dk [(Sum.inl p, .bl true)]) := pre_set (List.prefix_append _ _) (Nat.le_refl _)
  have lS : ((S ++ [MBox.dk []]).set S.length (.dk [(Sum.inl p, .bl true)])).length = S.length + 1 := by simp
  generalize (S ++ [MBox.dk []]).set S.length (.dk [(Sum.inl p, .bl true)]) = S0 at eb pb lS ⊢
  generalize hf : S.length = f at eb lS
  and_intros
  have el : IL (S0 ++ [MBox.lst [Dt.int p]]) S0.length [p] := get_last
  have pl1 := List.prefix_append S0 [MBox.lst [Dt.int p]]
  have eb1 := get_pre pl1 eb
  have pb1 := pb.trans pl1
  generalize S0 ++ [MBox.lst [Dt.int p]] = S1 at el eb1 pb1 ⊢
  rw [lS] at el ⊢
  clear eb pb pl1
  generalize hl1 : f + 1 = l at el
  have fl : f ≠ l := by omega
  have lS2 : S.length ≤ l := by omega
  have fS2 : S.length ≤ f := by omega
  refine w_while (fun m σ S' => ∃ d5 d6 kvb bs ls, σ = [some (.box c), some (.int p), some (.box g), some (.box f), some (.box l), d5, d6] ∧ S'[f]? = some (.dk kvb) ∧ KyI kvb bs ∧ IL S' l ls ∧ BW as pl p gone bs ls none ∧ S <+: S' ∧ 2 * (10 - bs.length) + ls.length ≤ m ∧ m ≤ 20)
    (fun m σ S2 ⟨d5, d6, kvb, bs, ls, e, ef, hK, hL, C, p2, hm, hm20⟩ => ?_) 19 ⟨_, _, _, [p], [p], rfl, eb1, rfl, el, ⟨by simp, by simp, fun x hx => by rw [List.mem_singleton.mp hx]; exact p0, fun x hx => .inl (List.mem_singleton.mp hx), fun x hx => hx, fun a ha h1 _ _ => .inr (.inl h1)⟩, pb1, by simp, by decide⟩
  subst e
  refine w_tru ?_
  and_intros
  refine ⟨!(ls.map Dt.int).isEmpty, by show (seqOf S2 (.box l)).map _ = _; rw [w_seqB hL]; rfl, fun hh => ?_, fun hh => ?_⟩
  · have tne : ls ≠ [] := fun z => by rw [z] at hh; cases hh
    obtain ⟨tr, q, rfl⟩ : ∃ us u, ls = us ++ [u] := ⟨_, _, (List.dropLast_concat_getLast tne).symm⟩
    have hL' : S2[l]? = some (.lst (tr.map Dt.int ++ [.int q])) := by rw [show S2[l]? = _ from hL, List.map_append]; rfl
    and_intros
    refine w_meth0 ?_
    and_intros
    refine ⟨ty_list hL', ?_⟩
    refine w_popB hL' ?_
    have hL6 : IL (S2.set l (.lst (tr.map Dt.int))) l tr := List.getElem?_set_self (get_lt hL')
    have ef6 : (S2.set l (.lst (tr.map Dt.int)))[f]? = some (.dk kvb) := by rw [List.getElem?_set_ne fl.symm]; exact ef
    have p6 : S <+: S2.set l (.lst (tr.map Dt.int)) := pre_set p2 lS2
    generalize S2.set l (.lst (tr.map Dt.int)) = S6 at hL6 ef6 p6 ⊢
    have hc6 := (D.pre p6).at_
    have q6 := p6.length_le
    and_intros
    refine ⟨ty_dict (dkR_of hc6), ?_⟩
    and_intros
    have p67 : S6 <+: S6 ++ [MBox.lst []] := List.prefix_append _ _
    refine w_dget2 (dkR_of (get_pre p67 hc6)) ?_
    obtain ⟨n, L, en, hn, nf, nl, hLL, Lm⟩ : ∃ n L, (valD kvs (.inl q)).getD (.box S6.length) = .box n ∧ IL (S6 ++ [MBox.lst []]) n L ∧ n ≠ f ∧ n ≠ l ∧ L.length ≤ 40 ∧ ∀ s, s ∈ L ↔ ∃ a ∈ as, arrT a = q ∧ arrS a = s := by
      cases hv : valD kvs (.inl q) with
      | none =>
        have := get_lt ef6
        have := get_lt hL6
        exact ⟨S6.length, [], rfl, get_last, by omega, by omega, Nat.zero_le _, fun s => ⟨(fun z => nomatch z), fun ⟨a, ha, h1, _⟩ => absurd h1 (D.no q hv a ha)⟩⟩
      | some v =>
        obtain ⟨n, L, e, h1, h2, h3, h4⟩ := D.yes q v hv
        subst e
        have := get_lt h2
        exact ⟨n, L, rfl, (h2.pre p6).pre p67, by omega, by omega, by omega, h4⟩
    rw [en]
    have hL7 := hL6.pre p67
    have ef7 := get_pre p67 ef6
    have p7 := p6.trans p67
    generalize S6 ++ [MBox.lst []] = S7 at hn hL7 ef7 p7 ⊢
    have bq : q ∈ bs := C.sub q (by simp)
    have C7 : BW as pl p gone bs tr (some (q, L)) := ⟨C.nd, C.st, C.bd, C.ok, fun x hx => C.sub x (by simp [hx]), fun a ha h1 h2 h3 => by
      rcases C.cl a ha h1 h2 h3 with y | y | ⟨_, _, y, _⟩
      · exact .inl y
      · rcases List.mem_append.mp y with z | z
        · exact .inr (.inl z)
        · exact .inr (.inr ⟨q, L, rfl, List.mem_singleton.mp z, (Lm _).mpr ⟨a, ha, List.mem_singleton.mp z, rfl⟩⟩)
      · cases y⟩
    refine ⟨_, w_seqB hn, ?_⟩
    have hm' : 2 * (10 - bs.length) + tr.length + 1 ≤ m := by rw [List.length_append] at hm; simp at hm; omega
    clear hL6 ef6 p6 hc6 p67 hL hL' ef C p2 hm
    refine w_loop (fun i σ S' => ∃ d6 kvb bs ls, σ = [some (.box c), some (.int p), some (.box g), some (.box f), some (.box l), some (.int q), d6] ∧ S'[f]? = some (.dk kvb) ∧ KyI kvb bs ∧ IL S' l ls ∧ IL S' n L ∧ BW as pl p gone bs ls (some (q, L.drop i)) ∧ S <+: S' ∧ 2 * (10 - bs.length) + ls.length + 1 ≤ m)
      (fun i σ S' ⟨_, _, _, _, _, _, _, _, h, _⟩ => w_seqB h) (fun i x σ S8 hx ⟨d6, kvb, bs, ls, e, ef, hK, hL, hn, C, p8, hm⟩ => ?_) (fun σ S8 ⟨d6, kvb, bs, ls, e, ef, hK, hL, hn, C, p8, hm⟩ => ?_) ⟨_, _, bs, tr, rfl, ef7, hK, hL7, hn, by rw [List.drop_zero]; exact C7, p7, hm'⟩
    · subst e
      have hx : (L.map Dt.int)[i]? = some x := hx
      rw [List.getElem?_map] at hx
      obtain ⟨s, hs, rfl⟩ := Option.map_eq_some_iff.mp hx
      have hdrop : L.drop i = s :: L.drop (i + 1) := by
        have h := List.getElem?_eq_some_iff.mp hs
        rw [← h.2]
        exact List.drop_eq_getElem_cons h.1
      obtain ⟨a0, ha0, ht0, hs0⟩ := (Lm s).mp (List.mem_of_getElem? hs)
      have sb : 0 ≤ s ∧ s < pl := by
        obtain ⟨s', t', lot, crew, R⟩ := A.ar a0 ha0
        have := R.src
        have h1 := R.s0
        have h2 := R.s1
        omega
      have no : (p < s → s ∉ bs → s ∉ gone → False) → (sNil [some (.box c), some (.int p), some (.box g), some (.box f), some (.box l), some (.int q), some (.int s)] S8).Wp (fun r S' => r.1 = .nx ∧ ∃ d6 kvb bs ls, r.2 = [some (.box c), some (.int p), some (.box g), some (.box f), some (.box l), some (.int q), d6] ∧ S'[f]? = some (.dk kvb) ∧ KyI kvb bs ∧ IL S' l ls ∧ IL S' n L ∧ BW as pl p gone bs ls (some (q, L.drop (i + 1))) ∧ S <+: S' ∧ 2 * (10 - bs.length) + ls.length + 1 ≤ m) noX := fun hno => by
        refine w_sNil ⟨rfl, _, kvb, bs, ls, rfl, ef, hK, hL, hn, ⟨C.nd, C.st, C.bd, C.ok, C.sub, fun a ha h1 h2 h3 => ?_⟩, p8, hm⟩
        rcases C.cl a ha h1 h2 h3 with y | y | ⟨q', l', y, y1, y2⟩
        · exact .inl y
        · exact .inr (.inl y)
        · cases y
          rw [hdrop] at y2
          rcases List.mem_cons.mp y2 with z | z
          · rw [z] at h2 h3 ⊢
            by_cases hb : s ∈ bs
            · exact .inl hb
            · exact (hno h2 hb h3).elim
          · exact .inr (.inr ⟨_, _, rfl, y1, z⟩)
      and_intros
      refine ⟨fun h1 => ?_, fun h1 => ?_⟩
      · have h1 : p < s := by have := of_decide_eq_true h1; omega
        and_intros
        refine w_inDk ef ?_
        rw [hK.val]
        refine ⟨_, rfl, fun h2 => ?_, fun h2 => ?_⟩
        · have h2 : s ∉ bs := fun z => by simp [z] at h2
          and_intros
          refine w_inDk (get_pre p8 hg) ?_
          rw [hG]
          refine ⟨_, rfl, fun h3 => ?_, fun h3 => ?_⟩
          · have h3 : s ∉ gone := fun z => by simp [z] at h3
            and_intros
            refine w_setDk ef (by rw [hK.len]; exact Nat.lt_of_le_of_lt (C.len A) (by decide)) ?_
            and_intros
            have hL9 : IL (S8.set f (.dk (putD kvb (.inl s) (.bl true)))) l ls := hL.skip fl
            refine ⟨ty_list hL9, ?_⟩
            and_intros
            have C' : BW as pl p gone (bs ++ [s]) (ls ++ [s]) (some (q, L.drop (i + 1))) := ⟨List.nodup_append.mpr ⟨C.nd, by simp, fun a ha b hb => by rw [List.mem_singleton.mp hb]; exact fun z => h2 (z ▸ ha)⟩, by simp [C.st], fun x hx => by
                rcases List.mem_append.mp hx with z | z
                · exact C.bd x z
                · rw [List.mem_singleton.mp z]; exact sb, fun x hx => by
                rcases List.mem_append.mp hx with z | z
                · exact C.ok x z
                · rw [List.mem_singleton.mp z]; exact .inr ⟨h1, h3⟩, fun x hx => by
                rcases List.mem_append.mp hx with z | z
                · simp [C.sub x z]
                · simp [z], fun a ha k1 k2 k3 => by
                rcases List.mem_append.mp k1 with z | z
                · rcases C.cl a ha z k2 k3 with y | y | ⟨q', l', y, y1, y2⟩
                  · exact .inl (by simp [y])
                  · exact .inr (.inl (by simp [y]))
                  · cases y
                    rw [hdrop] at y2
                    rcases List.mem_cons.mp y2 with w | w
                    · exact .inl (by simp [w])
                    · exact .inr (.inr ⟨_, _, rfl, y1, w⟩)
                · exact .inr (.inl (by simp [List.mem_singleton.mp z]))⟩
            have l2 := C'.len A
            refine w_append (lst_of hL9) (by rw [List.length_map]; exact Nat.lt_of_le_of_lt (show ls.length ≤ 20 by omega) (by decide)) ?_
            · refine .inl ⟨rfl, _, putD kvb (.inl s) (.bl true), bs ++ [s], ls ++ [s], rfl, ?_, hK.put h2 (.bl true), ?_, ?_, C', pre_set (pre_set p8 fS2) lS2, ?_⟩
              · rw [List.getElem?_set_ne fl.symm]
                exact List.getElem?_set_self (get_lt ef)
              · show (List.set _ l _)[l]? = _
                rw [List.getElem?_set_self (get_lt hL9), List.map_append]; rfl
              · exact (hn.skip nf.symm).skip nl.symm
              · rw [List.length_append, List.length_append]
                rw [List.length_append] at l2
                simp at l2 ⊢
                omega
          · have h3 : s ∈ gone := by
              cases h : decide (s ∈ gone) with
              | true => exact of_decide_eq_true h
              | false => rw [h] at h3; cases h3
            exact (no fun _ _ z => z h3).mono (fun r S h => .inl h) fun _ _ _ q => q
        · have h2 : s ∈ bs := by
            cases h : decide (s ∈ bs) with
            | true => exact of_decide_eq_true h
            | false => rw [h] at h2; cases h2
          refine ⟨(fun z => nomatch z), fun _ => ?_⟩
          exact (no fun _ z _ => z h2).mono (fun r S h => .inl h) fun _ _ _ q => q
      · have h1 : ¬ p < s := by have := of_decide_eq_false h1; omega
        refine ⟨(fun z => nomatch z), fun _ => ?_⟩
        exact (no fun z _ _ => h1 z).mono (fun r S h => .inl h) fun _ _ _ q => q
    · subst e
      refine .inl ⟨rfl, 2 * (10 - bs.length) + ls.length, by omega, _, _, kvb, bs, ls, rfl, ef, hK, hL, ⟨C.nd, C.st, C.bd, C.ok, C.sub, fun a ha h1 h2 h3 => ?_⟩, p8, Nat.le_refl _, by omega⟩
      rcases C.cl a ha h1 h2 h3 with y | y | ⟨q', l', y, y1, y2⟩
      · exact .inl y
      · exact .inr (.inl y)
      · cases y
        rw [List.drop_of_length_le (by simp)] at y2
        cases y2
  · have tne : ls = [] := by
      cases ls with
      | nil => rfl
      | cons x l => cases hh
    subst tne
    refine c_nx ?_
    and_intros
    refine .inl ⟨_, rfl, f, kvb, bs, rfl, by omega, ef, hK, ⟨C.st, C.ok, fun a ha h1 h2 h3 => ?_⟩, p2⟩
    rcases C.cl a ha h1 h2 h3 with y | y | ⟨q', l', y, _⟩
    · exact y
    · cases y
    · cases y
end
end Lw
set_option Elab.async false
set_option linter.all false
set_option maxRecDepth 100000
set_option maxHeartbeats 4000000
/-! Vc: the package's search for rings. -/
namespace Lw
open PySem PySem.Spec PyProof.Rows L2 Mn
section
variable {S : Bxs} {size hl : Nat} {d : Dt} {pl : Int} {as : List Dt}
/-- the targets -/
def tgtL (as : List Dt) (r : List Int) : List Int := r.map fun i => arrT (nthA as i)
theorem goes_st : ∀ {w : List Int} {p q : Int}, Goes as p w q → srcL as w ++ [q] = p :: tgtL as w
  | [], p, q, h => by rw [show p = q from h]; rfl
  | i :: r, p, q, h => by
    obtain ⟨_, _, h2, h3⟩ := goes_cons.mp h
    show arrS (nthA as i) :: (srcL as r ++ [q]) = p :: arrT (nthA as i) :: tgtL as r
    rw [goes_st h3, h2]
/-- a way that the package still goes on with -/
structure Wz (as : List Dt) (p : Int) (w : List Int) (q : Int) : Prop where
  go : Goes as p w q
  nd : (srcL as w).Nodup
  nq : q ∉ srcL as w
  ge : ∀ s ∈ srcL as w, p ≤ s
  en : p ≤ q
theorem Wz.nil {p : Int} : Wz as p [] p := ⟨rfl, List.nodup_nil, (fun z => nomatch z), (fun _ z => nomatch z), Int.le_refl _⟩
theorem srcL_snoc {w : List Int} {i : Int} : srcL as (w ++ [i]) = srcL as w ++ [arrS (nthA as i)] := by unfold srcL; rw [List.map_append]; rfl
theorem Wz.more {p q i : Int} {w : List Int} (h : Wz as p w q) (hi : i ∈ fromL as q) : Wy as p (w ++ [i]) (arrT (nthA as i)) := by
  obtain ⟨h0, h1, h2⟩ := fromL_mem.mp hi
  refine ⟨by simp, goes_app.mpr ⟨q, h.go, goes_cons.mpr ⟨h0, h1, h2, rfl⟩⟩, ?_, fun s hs => ?_⟩
  · rw [srcL_snoc, h2]
    exact List.nodup_append.mpr ⟨h.nd, by simp, fun a ha b hb => by rw [List.mem_singleton.mp hb]; exact fun z => h.nq (z ▸ ha)⟩
  · rw [srcL_snoc, h2] at hs
    rcases List.mem_append.mp hs with z | z
    · exact h.ge s z
    · rw [List.mem_singleton.mp z]; exact h.en
theorem Wz.next {p q i : Int} {w : List Int} (h : Wz as p w q) (hi : i ∈ fromL as q) (h1 : p < arrT (nthA as i)) (h2 : arrT (nthA as i) ∉ tgtL as w) : Wz as p (w ++ [i]) (arrT (nthA as i)) := by
  have hw := h.more hi
  refine ⟨hw.go, hw.nd, fun z => ?_, hw.ge, by omega⟩
  rw [srcL_snoc, (fromL_mem.mp hi).2.2, goes_st h.go] at z
  rcases List.mem_cons.mp z with y | y
  · omega
  · exact h2 y
theorem Wz.len {p q : Int} {w : List Int} (A : Snd size hl d pl as) (h : Wz as p w q) : w.length ≤ 10 := by
  cases w with
  | nil => exact Nat.zero_le _
  | cons i r => exact Wy.len A (p := p) (q := q) ⟨by simp, h.go, h.nd, h.ge⟩
/-- what is met on the way back is in what leads back -/
theorem back_lead {p : Int} {gone bs : List Int} (B : Back as p gone bs) : ∀ {u : List Int} {t : Int}, Goes as t u p → (∀ s ∈ srcL as u, p < s ∧ s ∉ gone) → t ∈ bs
  | [], t, h, _ => by rw [show t = p from h]; exact B.st
  | j :: u, t, h, hs => by
    obtain ⟨h0, h1, h2, h3⟩ := goes_cons.mp h
    have ih := back_lead B h3 fun s z => hs s (List.mem_cons_of_mem _ z)
    have hj := hs (arrS (nthA as j)) List.mem_cons_self
    rw [← h2]
    have hm : nthA as j ∈ as := by
      have hl : j.toNat < as.length := by omega
      unfold nthA
      rw [List.getElem?_eq_getElem hl]
      exact List.getElem_mem hl
    exact B.cl _ hm ih hj.1 hj.2
def hitB (as : List Dt) (p q i : Int) : Bool := decide (arrS (nthA as i) = q) && decide (arrT (nthA as i) = p)
def onB (as : List Dt) (p q : Int) (bs : List Int) (i : Int) : Bool := !hitB as p q i && (decide (arrS (nthA as i) = q) && decide (arrT (nthA as i) ∈ bs))
/-- the search, between two turns -/
structure PI (as : List Dt) (p : Int) (fnd todo : List (List Int)) : Prop where
  ok : ∀ w ∈ todo, ∃ q, Wz as p w q
  snd : ∀ r ∈ fnd, RingF as p r
  cmp : ∀ r, RingF as p r → r ∈ fnd ∨ ∃ x ∈ todo, x <+: r
  pw : (fnd ++ todo).Pairwise NP
  srt : (todo.map List.length).Pairwise (· ≤ ·)
  cnt : ∀ k, (todo.map List.length).count k ≤ 40
theorem PI.start (p : Int) : PI as p [] [[]] :=
  ⟨fun w hw => by rw [List.mem_singleton.mp hw]; exact ⟨p, Wz.nil⟩, (fun _ z => nomatch z), fun r _ => .inr ⟨[], by simp, List.nil_prefix⟩, by simp, by simp, fun k => Nat.le_trans List.count_le_length (by simp)⟩
theorem PI.nodup {p : Int} {fnd todo : List (List Int)} (D : PI as p fnd todo) : fnd.Nodup := by
  refine ((List.pairwise_append.mp D.pw).1).imp fun h e => ?_
  subst e
  exact h.1 (List.prefix_refl _)
theorem PI.len (A : Snd size hl d pl as) {p : Int} {fnd todo : List (List Int)} (D : PI as p fnd todo) : todo.length ≤ 440 := by
  have := cnt_len 11 (todo.map List.length) D.cnt fun x hx => by
    obtain ⟨y, hy, rfl⟩ := List.mem_map.mp hx
    obtain ⟨q, h⟩ := D.ok y hy
    have := h.len A
    omega
  rw [List.length_map] at this
  omega
theorem idxL_len (n : Nat) : (idxL n).length = n := by unfold idxL; rw [List.length_map, List.length_range]
theorem idxL_nodup (n : Nat) : (idxL n).Nodup := List.pairwise_map.mpr (List.Pairwise.imp (fun {x y} h e => h (by have e : (x : Int) = y := e; omega)) List.nodup_range)
theorem idxL_iff {n : Nat} {i : Int} : i ∈ idxL n ↔ 0 ≤ i ∧ i < n := by
  constructor
  · exact fun h => idxL_ixs n i h
  · rintro ⟨h0, h1⟩
    unfold idxL
    exact List.mem_map.mpr ⟨i.toNat, List.mem_range.mpr (by omega), by omega⟩
theorem PI.step (hn : as.length ≤ 40) {p q : Int} {fnd tr : List (List Int)} {w : List Int} {bs : List Int} (D : PI as p fnd (tr ++ [w])) (hw : Wz as p w q) (B : Back as p (tgtL as w) bs) :
    PI as p (fnd ++ ((idxL as.length).filter (hitB as p q)).map (fun i => w ++ [i])) (tr ++ ((idxL as.length).filter (onB as p q bs)).map (fun i => w ++ [i])) := by
  have hitm : ∀ i, i ∈ (idxL as.length).filter (hitB as p q) ↔ i ∈ fromL as q ∧ arrT (nthA as i) = p := fun i => by
    rw [List.mem_filter, idxL_iff, fromL_mem]
    unfold hitB
    simp
    constructor
    · rintro ⟨⟨h0, h1⟩, h2, h3⟩; exact ⟨⟨h0, h1, h2⟩, h3⟩
    · rintro ⟨⟨h0, h1, h2⟩, h3⟩; exact ⟨⟨h0, h1⟩, h2, h3⟩
  have onm : ∀ i, i ∈ (idxL as.length).filter (onB as p q bs) ↔ i ∈ fromL as q ∧ arrT (nthA as i) ≠ p ∧ arrT (nthA as i) ∈ bs := fun i => by
    rw [List.mem_filter, idxL_iff, fromL_mem]
    unfold onB hitB
    simp
    constructor
    · rintro ⟨⟨h0, h1⟩, h2, h3, h4⟩; exact ⟨⟨h0, h1, h3⟩, h2.resolve_left (fun z => z h3), h4⟩
    · rintro ⟨⟨h0, h1, h2⟩, h3, h4⟩; exact ⟨⟨h0, h1⟩, .inr h3, h2, h4⟩
  have srt0 := D.srt
  rw [List.map_append, List.pairwise_append] at srt0
  obtain ⟨s1, _, s2⟩ := srt0
  have s2 : ∀ x ∈ tr.map List.length, x ≤ w.length := fun x hx => s2 x hx w.length (by simp)
  have lens : (((idxL as.length).filter (onB as p q bs)).map (fun i => w ++ [i])).map List.length = List.replicate ((idxL as.length).filter (onB as p q bs)).length (w.length + 1) :=
    List.eq_replicate_iff.mpr ⟨by simp, fun x hx => by
      rw [List.map_map] at hx
      obtain ⟨i, _, rfl⟩ := List.mem_map.mp hx
      simp⟩
  refine ⟨fun x hx => ?_, fun r hr => ?_, fun r hr => ?_, ?_, ?_, fun k => ?_⟩
  · rcases List.mem_append.mp hx with y | y
    · exact D.ok x (by simp [y])
    · obtain ⟨i, hi, rfl⟩ := List.mem_map.mp y
      obtain ⟨h1, h2, h3⟩ := (onm i).mp hi
      rcases B.ok _ h3 with z | ⟨z1, z2⟩
      · exact absurd z h2
      · exact ⟨_, hw.next h1 z1 z2⟩
  · rcases List.mem_append.mp hr with y | y
    · exact D.snd r y
    · obtain ⟨i, hi, rfl⟩ := List.mem_map.mp y
      obtain ⟨h1, h2⟩ := (hitm i).mp hi
      have := hw.more h1
      rw [h2] at this
      exact this
  · rcases D.cmp r hr with z | ⟨x, hx, z⟩
    · exact .inl (by simp [z])
    · rcases List.mem_append.mp hx with y | y
      · exact .inr ⟨x, by simp [y], z⟩
      · rw [List.mem_singleton.mp y] at z
        obtain ⟨u, rfl⟩ := z
        obtain ⟨m, g1, g2⟩ := goes_app.mp hr.go
        have em := goes_det g1 hw.go
        subst em
        cases u with
        | nil =>
          have e : m = p := g2
          subst e
          have := hr.hd
          rw [List.append_nil] at this
          exact absurd this hw.nq
        | cons i u =>
          obtain ⟨h0, h1, h2, h3⟩ := goes_cons.mp g2
          have hi : i ∈ fromL as m := fromL_mem.mpr ⟨h0, h1, h2⟩
          have es : srcL as (w ++ i :: u) = srcL as w ++ m :: srcL as u := by unfold srcL; rw [List.map_append, List.map_cons, h2]
          have nd := hr.nd
          rw [es] at nd
          have nd2 : ((srcL as w ++ [m]) ++ srcL as u).Nodup := by rw [List.append_assoc]; exact nd
          rw [goes_st hw.go] at nd2
          obtain ⟨_, ndu, dis⟩ := List.nodup_append.mp nd2
          have gu : ∀ s ∈ srcL as u, p < s ∧ s ∉ tgtL as w := fun s hs => by
            have h4 := hr.ge s (by rw [es]; simp [hs])
            have h5 : s ≠ p := fun z => dis p List.mem_cons_self s hs z.symm
            exact ⟨by omega, fun z => dis s (List.mem_cons_of_mem _ z) s hs rfl⟩
          have tb := back_lead B h3 gu
          by_cases ht : arrT (nthA as i) = p
          · refine .inl ?_
            have : u = [] := by
              cases u with
              | nil => rfl
              | cons j u' =>
                have := (gu (arrS (nthA as j)) List.mem_cons_self).1
                have h5 := (goes_cons.mp h3).2.2.1
                omega
            subst this
            exact List.mem_append.mpr (.inr (List.mem_map.mpr ⟨i, (hitm i).mpr ⟨hi, ht⟩, rfl⟩))
          · exact .inr ⟨w ++ [i], List.mem_append.mpr (.inr (List.mem_map.mpr ⟨i, (onm i).mpr ⟨hi, ht, tb⟩, rfl⟩)), ⟨u, by simp⟩⟩
  · have hp := D.pw
    rw [← List.append_assoc] at hp
    obtain ⟨a1, _, a3⟩ := List.pairwise_append.mp hp
    have key : ((fnd ++ tr) ++ (((idxL as.length).filter (hitB as p q) ++ (idxL as.length).filter (onB as p q bs)).map fun i => w ++ [i])).Pairwise NP := by
      refine List.pairwise_append.mpr ⟨a1, ?_, fun u hu v hv => ?_⟩
      · rw [List.pairwise_map]
        have : ((idxL as.length).filter (hitB as p q) ++ (idxL as.length).filter (onB as p q bs)).Nodup := by
          refine List.nodup_append.mpr ⟨(idxL_nodup _).sublist List.filter_sublist, (idxL_nodup _).sublist List.filter_sublist, fun a ha b hb e => ?_⟩
          subst e
          exact ((onm a).mp hb).2.1 ((hitm a).mp ha).2
        exact this.imp fun h => np_sib h
      · obtain ⟨i, hi, rfl⟩ := List.mem_map.mp hv
        exact (np_more (a3 u hu w (by simp)).symm i).symm
    refine np_perm ?_ key
    rw [List.map_append, List.append_assoc, List.append_assoc]
    refine List.Perm.append_left _ ?_
    rw [← List.append_assoc, ← List.append_assoc]
    exact List.Perm.append_right _ List.perm_append_comm
  · rw [List.map_append, lens]
    refine List.pairwise_append.mpr ⟨s1, List.pairwise_replicate.mpr (.inr (Nat.le_refl _)), fun a ha b hb => ?_⟩
    rw [List.eq_of_mem_replicate hb]
    have := s2 a ha
    omega
  · rw [List.map_append, lens, List.count_append, List.count_replicate]
    have hc := D.cnt k
    rw [List.map_append, List.count_append] at hc
    have hf : ((idxL as.length).filter (onB as p q bs)).length ≤ 40 := Nat.le_trans (List.length_filter_le _ _) (by rw [idxL_len]; exact hn)
    split
    · rename_i e
      have e : w.length + 1 = k := by simpa using e
      have : (tr.map List.length).count k = 0 := List.count_eq_zero.mpr fun z => by have := s2 k z; omega
      omega
    · omega
/-- how much may be left to do -/
def wtW (w : List Int) : Nat := 41 ^ (11 - w.length)
def wtA (todo : List (List Int)) : Nat := (todo.map wtW).sum
theorem wtA_app (a b : List (List Int)) : wtA (a ++ b) = wtA a + wtA b := by unfold wtA; rw [List.map_append, List.sum_append]
theorem wtA_more {w : List Int} (h : w.length ≤ 10) : ∀ (l : List Int), wtA (l.map fun i => w ++ [i]) = l.length * 41 ^ (10 - w.length)
  | [] => by simp [wtA]
  | i :: l => by
    have ih := wtA_more h l
    rw [List.map_cons, List.length_cons]
    show wtW (w ++ [i]) + wtA (l.map fun i => w ++ [i]) = _
    rw [ih]
    unfold wtW
    rw [List.length_append, Nat.succ_mul, show 11 - (w.length + [i].length) = 10 - w.length by simp]
    omega
theorem wtA_lt {tr : List (List Int)} {w l : List Int} (h : w.length ≤ 10) (hl : l.length ≤ 40) : wtA (tr ++ l.map fun i => w ++ [i]) < wtA (tr ++ [w]) := by
  rw [wtA_app, wtA_app, wtA_more h]
  have e : wtA [w] = 41 ^ (10 - w.length) * 41 := by
    unfold wtA wtW
    rw [List.map_cons, List.map_nil, List.sum_cons, List.sum_nil, Nat.add_zero, ← Nat.pow_succ]
    congr 1
    omega
  rw [e]
  have hp : 0 < 41 ^ (10 - w.length) := Nat.pow_pos (by decide)
  generalize 41 ^ (10 - w.length) = z at hp ⊢
  have := Nat.mul_le_mul_right z hl
  omega
end
end Lw
set_option Elab.async false
set_option linter.all false
set_option maxRecDepth 100000
set_option maxHeartbeats 4000000
/-! Op: the program's greatest mean. -/
set_option Elab.async false
set_option linter.all false
set_option maxRecDepth 100000
set_option maxHeartbeats 4000000
/-! Oq: least means of a place, the greatest of all. -/
namespace Lw
open PySem PySem.Spec PyProof.Rows L2 Mn
section
variable {S : Bxs} {size hl : Nat} {d : Dt} {pl : Int} {as : List Dt} {ps ws : List Int}
def Rows (S : Bxs) (rb : Nat) (bs : List Nat) (g : Int → Int) (as : List Dt) (pl : Int) : Prop := S[rb]? = some (.lst (bs.map Dt.box)) ∧ ∀ (k b : Nat), bs[k]? = some b → ∃ kvs, S.dkR b = some kvs ∧ DF pl kvs (dpR g as pl k)
theorem dkR_pre {S S' : Bxs} {n : Nat} {kvs : List (Key × Dt)} (h : S.dkR n = some kvs) (p : S <+: S') : S'.dkR n = some kvs := by
  rcases dkR_get h with z | z
  · exact dkR_of (get_pre p z)
  · exact dkR_ofr (get_pre p z)
theorem Rows.pre {S S' : Bxs} {rb : Nat} {bs : List Nat} {g : Int → Int} (h : Rows S rb bs g as pl) (p : S <+: S') : Rows S' rb bs g as pl := ⟨get_pre p h.1, fun k b e => let ⟨kvs, h1, h2⟩ := h.2 k b e; ⟨kvs, dkR_pre h1 p, h2⟩⟩
theorem at_m1 {xs : List Dt} {x : Dt} : atI (xs ++ [x]) (-1) = some x := by
  unfold atI
  have : ixN (xs ++ [x]).length (-1) = some xs.length := by
    unfold ixN
    rw [if_neg (by decide), if_pos (by rw [List.length_append]; simp only [List.length_cons, List.length_nil]; omega), List.length_append]
    simp only [List.length_cons, List.length_nil]
    congr 1
    omega
  rw [this]
  simp
end
end Lw
set_option Elab.async false
set_option linter.all false
set_option maxRecDepth 100000
set_option maxHeartbeats 4000000
/-! Vd: the rings from a place. -/
namespace Lw
open PySem PySem.Spec PyProof.Rows L2 Mn
section
variable {S : Bxs} {size hl : Nat} {d : Dt} {pl : Int} {as : List Dt}
theorem filt_take {n i : Nat} (f : Int → Bool) (h : i < n) : ((idxL n).take (i + 1)).filter f = if f (i : Int) then ((idxL n).take i).filter f ++ [(i : Int)] else ((idxL n).take i).filter f := by
  rw [idxL_take h, List.filter_append]
  by_cases e : f (i : Int) = true
  · rw [if_pos e]; simp [e]
  · rw [if_neg e]; simp [e]
/-- a dict of the places come to on a way -/
theorem gone_ok (A : Snd size hl d pl as) {S : Bxs} {E : Nat → List Dt → Bxs → Prop} {P : Dt → Bxs → Prop} {w : List Int} {x1 x2 x3 x4 x5 x7 x8 x9 x10 x11 x12 : Option Dt} (hw : Ixs as.length w) (hl10 : w.length ≤ 10)
    (h : ∀ n kvg S', S.length ≤ n → S'[n]? = some (.dk kvg) → (∀ x, (valD kvg (.inl x)).isSome = decide (x ∈ tgtL as w)) → S <+: S' → P (.box n) S') :
    (dDc (srcSeq (dVar 6)) (tName 9) (bYes) (dBin ixG (dBin ixG (dBin ixG (dVar 0) (dC (.int 1))) (dVar 9)) (dC (.int 1))) (dC (.bl true)) [9] [some d, x1, x2, x3, x4, x5, some (iv w), x7, x8, x9, x10, x11, x12] S).Wp P E := by
  have hae := A.eq
  subst hae
  refine w_dc ?_
  refine w_srcSeq (w_var rfl ?_)
  refine ⟨w.map Dt.int, rfl, fun i acc S' => (∀ x, (valD acc (.inl x)).isSome = decide (x ∈ tgtL as (w.take i))) ∧ acc.length ≤ i ∧ S <+: S' ∧ S.length < S'.length, fun _ _ _ _ => rfl, fun i x acc S1 hx hn ⟨hk, al, p1, q1⟩ => ?_, ⟨fun x => rfl, Nat.le_refl _, List.prefix_append _ _, by simp⟩, fun acc S2 hn ⟨hk, al, p2, q2⟩ => ?_⟩
  · rw [List.getElem?_map] at hx
    obtain ⟨j, hj, rfl⟩ := Option.map_eq_some_iff.mp hx
    have hi := (List.getElem?_eq_some_iff.mp hj).1
    have hjj := hw j (List.mem_of_getElem? hj)
    obtain ⟨s, t, lot, crew, _, _, eat, R⟩ := A.arw hjj.1 hjj.2
    and_intros
    refine w_yes ⟨fun _ => ?_, fun z => nomatch z⟩
    and_intros
    refine w_ixT eat ?_
    have ht := R.tgt
    rw [R.eq]
    and_intros
    have htk : w.take (i + 1) = w.take i ++ [j] := by rw [List.take_add_one, hj]; rfl
    refine ⟨hn, Nat.lt_of_le_of_lt (show acc.length ≤ 10 by omega) (by decide), fun x => ?_, by have := putD_len acc (.inl t) (.bl true); omega, pre_set p1 (Nat.le_refl _), by rw [List.length_set]; exact q1⟩
    rw [valD_put, htk]
    unfold tgtL at hk ⊢
    rw [List.map_append]
    split
    · rename_i e
      have e := Sum.inl.inj e
      rw [show (Option.some (Dt.bl true)).isSome = true from rfl]
      symm
      rw [decide_eq_true_eq]
      simp [ht, e]
    · rename_i e
      rw [hk]
      refine decide_eq_decide.mpr ?_
      rw [List.mem_append]
      constructor
      · exact .inl
      · rintro (z | z)
        · exact z
        · exfalso
          simp [ht] at z
          exact e (by rw [z])
  · rw [List.length_map, List.take_length] at hk
    exact h _ _ _ (Nat.le_refl _) hn hk p2
theorem lastP_ok (A : Snd size hl d pl as) {S : Bxs} {E : Nat → List Dt → Bxs → Prop} {p q : Int} {w : List Int} {x2 x3 x4 x5 x7 x8 x9 x10 x11 x12 : Option Dt} (hw : Goes as p w q) {P : Dt → Bxs → Prop} (h : P (.int q) S) :
    (dTru (dVar 6) [some d, some (.int p), x2, x3, x4, x5, some (iv w), x7, x8, x9, x10, x11, x12] S).Wp (fun k S1 => (k = true → (dBin ixG (dBin ixG (dBin ixG (dVar 0) (dC (.int 1))) (dBin ixG (dVar 6) (dNeg (dC (.int 1))))) (dC (.int 1)) [some d, some (.int p), x2, x3, x4, x5, some (iv w), x7, x8, x9, x10, x11, x12] S1).Wp P E) ∧ (k = false → (dVar 1 [some d, some (.int p), x2, x3, x4, x5, some (iv w), x7, x8, x9, x10, x11, x12] S1).Wp P E)) E := by
  have hae := A.eq
  subst hae
  and_intros
  refine ⟨fun hh => ?_, fun hh => ?_⟩
  · have tne : w ≠ [] := fun z => by rw [z] at hh; cases hh
    obtain ⟨tr, u, rfl⟩ : ∃ us u, w = us ++ [u] := ⟨_, _, (List.dropLast_concat_getLast tne).symm⟩
    obtain ⟨m, _, g2⟩ := goes_app.mp hw
    obtain ⟨h0, h1, _, h3⟩ := goes_cons.mp g2
    obtain ⟨s, t, lot, crew, _, _, eat, R⟩ := A.arw h0 h1
    and_intros
    refine w_ixT (d := .int u) (by rw [List.map_append]; exact at_m1) ?_
    refine w_ixT eat ?_
    have ht := R.tgt
    rw [R.eq]
    and_intros
    have e : q = t := by rw [← ht]; exact (show arrT (nthA as u) = q from h3).symm
    rw [← e]
    exact h
  · have e : w = [] := by
      cases w with
      | nil => rfl
      | cons x l => cases hh
    subst e
    and_intros
    have e : p = q := hw
    rw [e]
    exact h
theorem from_rings_ok (A : Snd size hl d pl as) {p most : Int} (p0 : 0 ≤ p ∧ p < pl) (m0 : 0 ≤ most) (m1 : most ≤ 2000) :
    (F__rings_from [d, .int p, .int most] S).Wp (fun r S' => ∃ (n : Nat) (fnd : List (List Int)), r = .box n ∧ S.length ≤ n ∧ S'[n]? = some (.lst (fnd.map iv)) ∧ fnd.Nodup ∧ (∀ r ∈ fnd, RingF as p r) ∧ (most < fnd.length ∨ ∀ r, RingF as p r → r ∈ fnd) ∧ (fnd.length : Int) ≤ most + 40 ∧ S <+: S') noX := by
  have hae := A.eq
  have aal := A.al
  have pl1 := A.p1
  subst hae
  refine w_body ?_
  unfold B__rings_from
  simp only [startD, List.map_cons, List.map_nil, List.length_cons, List.length_nil, List.cons_append, List.nil_append, Nat.reduceAdd, Nat.reduceSub, List.replicate, List.replicate_succ, List.replicate_zero]
  and_intros
  refine (sources_ok A).mono (fun r S1 ⟨c, kvs, e1, hc, D, p1⟩ => ?_) fun _ _ _ q => q
  subst e1
  and_intros
  refine ⟨Nat.zero_le _, ?_⟩
  and_intros
  have q1 := p1.length_le
  have ef : (S1 ++ [MBox.lst []] ++ [MBox.lst [Dt.tup []]])[S1.length]? = some (.lst (([] : List (List Int)).map iv)) := get_pre (List.prefix_append _ _) get_last
  have et : (S1 ++ [MBox.lst []] ++ [MBox.lst [Dt.tup []]])[(S1 ++ [MBox.lst []]).length]? = some (.lst ([([] : List Int)].map iv)) := get_last
  have p2 : S1 <+: S1 ++ [MBox.lst []] ++ [MBox.lst [Dt.tup []]] := by rw [List.append_assoc]; exact List.prefix_append _ _
  have hft : S1.length ≠ (S1 ++ [MBox.lst []]).length := by rw [List.length_append]; simp
  have ht0 : S1.length ≤ (S1 ++ [MBox.lst []]).length := by rw [List.length_append]; simp
  generalize S1 ++ [MBox.lst []] ++ [MBox.lst [Dt.tup []]] = S2 at ef et p2 ⊢
  generalize (S1 ++ [MBox.lst []]).length = t at et hft ht0 ⊢
  have hS1 : S1.length ≤ S1.length := Nat.le_refl _
  generalize hf : S1.length = f at ef hft ht0 hS1
  refine w_while (fun m σ S' => ∃ d6 d7 d8 d9 d10 d11 d12 fnd todo, σ = [some (.tup [.int pl, .tup as]), some (.int p), some (.int most), some (.box c), some (.box f), some (.box t), d6, d7, d8, d9, d10, d11, d12] ∧ S'[f]? = some (.lst (fnd.map iv)) ∧ S'[t]? = some (.lst (todo.map iv)) ∧ PI as p fnd todo ∧ (fnd.length : Int) ≤ most + 40 ∧ S1 <+: S' ∧ wtA todo ≤ m)
    (fun m σ S3 ⟨d6, d7, d8, d9, d10, d11, d12, fnd, todo, e, ef, et, I, fl, p3, hm⟩ => ?_) (wtA [[]]) ⟨_, _, _, _, _, _, _, [], [[]], rfl, ef, et, PI.start p, by simp; omega, p2, Nat.le_refl _⟩
  subst e
  have fin : (todo = [] ∨ most < fnd.length) → ∃ n fnd', Dt.box f = .box n ∧ S.length ≤ n ∧ S3[n]? = some (.lst (List.map iv fnd')) ∧ fnd'.Nodup ∧ (∀ r ∈ fnd', RingF as p r) ∧ (most < fnd'.length ∨ ∀ r, RingF as p r → r ∈ fnd') ∧ (fnd'.length : Int) ≤ most + 40 ∧ S <+: S3 := fun hh => by
    refine ⟨f, fnd, rfl, by omega, ef, I.nodup, I.snd, ?_, fl, p1.trans p3⟩
    rcases hh with z | z
    · subst z
      refine .inr fun r hr => ?_
      rcases I.cmp r hr with y | ⟨x, hx, _⟩
      · exact y
      · cases hx
    · exact .inl z
  refine w_and (w_tru ?_)
  and_intros
  refine ⟨!(todo.map iv).isEmpty, by show (seqOf S3 (.box t)).map _ = _; rw [w_seqB et]; rfl, fun hh => ?_, fun hh => ?_⟩
  · have tne : todo ≠ [] := fun z => by rw [z] at hh; cases hh
    and_intros
    refine w_lenB (seq_lst ef) ?_
    and_intros
    refine ⟨fun hle => ?_, fun hle => ?_⟩
    · have hle : (fnd.length : Int) ≤ most := by have := of_decide_eq_true hle; rw [List.length_map] at this; exact this
      obtain ⟨tr, w, rfl⟩ : ∃ us u, todo = us ++ [u] := ⟨_, _, (List.dropLast_concat_getLast tne).symm⟩
      obtain ⟨q, hw⟩ := I.ok w (by simp)
      have wl := hw.len A
      have et' : S3[t]? = some (.lst (tr.map iv ++ [iv w])) := by rw [et, List.map_append]; rfl
      and_intros
      refine w_meth0 ?_
      and_intros
      refine ⟨ty_list et', ?_⟩
      refine w_popB et' ?_
      have et4 : (S3.set t (.lst (tr.map iv)))[t]? = some (.lst (tr.map iv)) := List.getElem?_set_self (get_lt et')
      have ef4 : (S3.set t (.lst (tr.map iv)))[f]? = some (.lst (fnd.map iv)) := by rw [List.getElem?_set_ne hft.symm]; exact ef
      have p4 : S1 <+: S3.set t (.lst (tr.map iv)) := pre_set p3 (by omega)
      generalize S3.set t (.lst (tr.map iv)) = S4 at et4 ef4 p4 ⊢
      and_intros
      refine lastP_ok A hw.go ?_
      refine c_nx ?_
      and_intros
      refine gone_ok A (goes_ixs hw.go) wl fun g kvg S5 hg eg hG p5 => ?_
      and_intros
      refine (back_ok A ((D.pre p4).pre p5) eg hG p0).mono (fun r S6 ⟨n, kvb, bs, er, hn, ebk, hK, B, p6⟩ => ?_) fun _ _ _ q => q
      subst er
      have p46 := p5.trans p6
      have ef6 := get_pre p46 ef4
      have et6 := get_pre p46 et4
      have p16 := p4.trans p46
      have hnf : n ≠ f := by have := get_lt ef4; have := p5.length_le; omega
      have hnt : n ≠ t := by have := get_lt et4; have := p5.length_le; omega
      have J := I.step aal hw B
      have jl := J.len A
      have hl1 : ((idxL as.length).filter (hitB as p q)).length ≤ 40 := Nat.le_trans (List.length_filter_le _ _) (by rw [idxL_len]; exact aal)
      have hl2 : ((idxL as.length).filter (onB as p q bs)).length ≤ 40 := Nat.le_trans (List.length_filter_le _ _) (by rw [idxL_len]; exact aal)
      have hlt := wtA_lt (tr := tr) wl hl2
      and_intros
      refine w_srcEnumT ?_
      and_intros
      have trl : tr.length ≤ 440 := by have := I.len A; rw [List.length_append] at this; omega
      have tk : ∀ (fb : Int → Bool) (i : Nat), i ≤ as.length → (((idxL as.length).take i).filter fb).length ≤ 40 := fun fb i hi => Nat.le_trans (List.length_filter_le _ _) (by rw [List.length_take]; omega)
      refine w_loop (fun i σ S' => ∃ d9 d10 d11 d12, σ = [some (.tup [.int pl, .tup as]), some (.int p), some (.int most), some (.box c), some (.box f), some (.box t), some (iv w), some (.int q), some (.box n), d9, d10, d11, d12] ∧ S'[f]? = some (.lst ((fnd ++ (((idxL as.length).take i).filter (hitB as p q)).map (fun i => w ++ [i])).map iv)) ∧ S'[t]? = some (.lst ((tr ++ (((idxL as.length).take i).filter (onB as p q bs)).map (fun i => w ++ [i])).map iv)) ∧ S'[n]? = some (.dk kvb) ∧ S1 <+: S')
        (fun _ _ _ _ => rfl) (fun i x σ S7 hx ⟨d9, d10, d11, d12, e, ef, et, ebk, p7⟩ => ?_) (fun σ S7 ⟨d9, d10, d11, d12, e, ef, et, ebk, p7⟩ => ?_) ⟨_, _, _, _, rfl, by rw [List.take_zero]; simpa using ef6, by rw [List.take_zero]; simpa using et6, ebk, p16⟩
      · subst e
        obtain ⟨y, hy, rfl⟩ := placed_get hx
        have hil := (List.getElem?_eq_some_iff.mp hy).1
        have en : nthA as (i : Int) = y := nthA_of (by rw [Int.toNat_natCast]; exact hy)
        obtain ⟨s, t', lot, crew, R⟩ := A.ar y (List.mem_of_getElem? hy)
        have hs := R.src
        have ht := R.tgt
        have f1 := filt_take (hitB as p q) hil
        have f2 := filt_take (onB as p q bs) hil
        have h41 := tk (hitB as p q) i (by omega)
        have h42 := tk (onB as p q bs) i (by omega)
        have eh : hitB as p q (i : Int) = (decide (s = q) && decide (t' = p)) := by unfold hitB; rw [en, hs, ht]
        have eo : onB as p q bs (i : Int) = (!(decide (s = q) && decide (t' = p)) && (decide (s = q) && decide (t' ∈ bs))) := by unfold onB; rw [eh, en, hs, ht]
        rw [eh] at f1
        rw [eo] at f2
        have no : (decide (s = q) && decide (t' = p)) = false → (decide (s = q) && decide (t' ∈ bs)) = false → (sNil [some (.tup [.int pl, .tup as]), some (.int p), some (.int most), some (.box c), some (.box f), some (.box t), some (iv w), some (.int q), some (.box n), some (.int (i : Int)), some (.int s), some (.int t'), some (iv crew)] S7).Wp (fun r S' => r.1 = .nx ∧ ∃ d9 d10 d11 d12, r.2 = [some (.tup [.int pl, .tup as]), some (.int p), some (.int most), some (.box c), some (.box f), some (.box t), some (iv w), some (.int q), some (.box n), d9, d10, d11, d12] ∧ S'[f]? = some (.lst ((fnd ++ (((idxL as.length).take (i + 1)).filter (hitB as p q)).map (fun i => w ++ [i])).map iv)) ∧ S'[t]? = some (.lst ((tr ++ (((idxL as.length).take (i + 1)).filter (onB as p q bs)).map (fun i => w ++ [i])).map iv)) ∧ S'[n]? = some (.dk kvb) ∧ S1 <+: S') noX := fun z1 z2 => by
          rw [z1, if_neg (by decide)] at f1
          rw [z1, z2, if_neg (by decide)] at f2
          exact w_sNil ⟨rfl, _, _, _, _, rfl, by rw [f1]; exact ef, by rw [f2]; exact et, ebk, p7⟩
        rw [R.eq]
        and_intros
        refine ⟨fun h1 => ?_, fun h1 => ?_⟩
        · and_intros
          refine ⟨fun h2 => ?_, fun h2 => ?_⟩
          · and_intros
            refine ⟨ty_list ef, ?_⟩
            and_intros
            refine ⟨Nat.le_of_ble_eq_true (by rfl), ?_⟩
            refine w_addT (by rw [List.length_map]; exact Nat.le_trans (m := 11) (show w.length + 1 ≤ 11 by omega) (by decide)) ?_
            and_intros
            refine w_append (lst_of ef) (by rw [List.length_map, List.length_append, List.length_map]; exact Nat.lt_of_le_of_lt (show _ ≤ 2080 by omega) (by decide)) ?_
            rw [h1, h2, if_pos (by decide)] at f1
            rw [h1, h2, show (!(true && true) && (true && decide (t' ∈ bs))) = false from rfl, if_neg (by decide)] at f2
            refine .inl ⟨rfl, _, _, _, _, rfl, ?_, by rw [List.getElem?_set_ne hft, f2]; exact et, by rw [List.getElem?_set_ne (Ne.symm hnf)]; exact ebk, pre_set p7 (by omega)⟩
            rw [List.getElem?_set_self (get_lt ef), f1]
            congr 2
            rw [List.map_append, List.map_append, List.map_append, List.map_append, List.append_assoc]
            congr 2
            show [Dt.tup _] = [iv _]
            unfold iv
            rw [List.map_append]
            rfl
          · and_intros
            refine ⟨fun _ => ?_, fun z => absurd (h1.symm.trans z) (by decide)⟩
            and_intros
            refine w_inDk ebk ?_
            rw [hK.val]
            refine ⟨_, rfl, fun h3 => ?_, fun h3 => ?_⟩
            · and_intros
              refine ⟨ty_list et, ?_⟩
              and_intros
              refine ⟨Nat.le_of_ble_eq_true (by rfl), ?_⟩
              refine w_addT (by rw [List.length_map]; exact Nat.le_trans (m := 11) (show w.length + 1 ≤ 11 by omega) (by decide)) ?_
              and_intros
              refine w_append (lst_of et) (by rw [List.length_map, List.length_append, List.length_map]; exact Nat.lt_of_le_of_lt (show _ ≤ 2080 by omega) (by decide)) ?_
              have h3 : decide (t' ∈ bs) = true := h3
              rw [h1, h2, if_neg (by decide)] at f1
              rw [h1, h2, h3, if_pos (by decide)] at f2
              refine .inl ⟨rfl, _, _, _, _, rfl, by rw [List.getElem?_set_ne hft.symm, f1]; exact ef, ?_, by rw [List.getElem?_set_ne (Ne.symm hnt)]; exact ebk, pre_set p7 (by omega)⟩
              rw [List.getElem?_set_self (get_lt et), f2]
              congr 2
              rw [List.map_append, List.map_append, List.map_append, List.map_append, List.append_assoc]
              congr 2
              show [Dt.tup _] = [iv _]
              unfold iv
              rw [List.map_append]
              rfl
            · exact (no (by rw [h1, h2]; rfl) (by rw [h1, show decide (t' ∈ bs) = false from h3]; rfl)).mono (fun r S h => .inl h) fun _ _ _ q => q
        · refine ⟨(fun z => nomatch z), fun _ => ?_⟩
          and_intros
          refine ⟨fun z => absurd (h1.symm.trans z) (by decide), fun _ => ?_⟩
          refine ⟨(fun z => nomatch z), fun _ => ?_⟩
          exact (no (by rw [h1]; rfl) (by rw [h1]; rfl)).mono (fun r S h => .inl h) fun _ _ _ q => q
      · subst e
        have hfl : (placed as).length = as.length := placed_length as
        have ef : S7[f]? = some (.lst ((fnd ++ (((idxL as.length).take (placed as).length).filter (hitB as p q)).map (fun i => w ++ [i])).map iv)) := ef
        have et : S7[t]? = some (.lst ((tr ++ (((idxL as.length).take (placed as).length).filter (onB as p q bs)).map (fun i => w ++ [i])).map iv)) := et
        rw [hfl, idxL_full] at ef et
        refine .inl ⟨rfl, _, Nat.lt_of_lt_of_le hlt hm, _, _, _, _, _, _, _, _, _, rfl, ef, et, J, ?_, p7, Nat.le_refl _⟩
        rw [List.length_append, List.length_map]
        omega
    · have hle : most < (fnd.length : Int) := by have := of_decide_eq_false hle; rw [List.length_map] at this; omega
      refine c_nx ?_
      and_intros
      exact .inl ⟨_, rfl, fin (.inr hle)⟩
  · have tne : todo = [] := by
      cases todo with
      | nil => rfl
      | cons x l => cases hh
    refine ⟨(fun z => nomatch z), fun _ => ?_⟩
    refine c_nx ?_
    and_intros
    exact .inl ⟨_, rfl, fin (.inl tne)⟩
end
end Lw
set_option Elab.async false
set_option linter.all false
set_option maxRecDepth 100000
set_option maxHeartbeats 4000000
/-! Ve: all rings, or too many. -/
namespace Lw
open PySem PySem.Spec PyProof.Rows L2 Mn
section
variable {S : Bxs} {size hl : Nat} {d : Dt} {pl : Int} {as : List Dt}
/-- nodup rings of these first places -/
structure RF (as : List Dt) (ps : List Int) (fnd : List (List Int)) : Prop where
  nd : fnd.Nodup
  mem : ∀ r, r ∈ fnd ↔ ∃ p ∈ ps, RingF as p r
theorem ringF_one {p p' : Int} {r : List Int} (h1 : RingF as p r) (h2 : RingF as p' r) : p = p' := by
  have g1 := h1.go
  have g2 := h2.go
  cases r with
  | nil => exact absurd rfl h1.ne
  | cons i r => rw [← (goes_cons.mp g1).2.2.1, ← (goes_cons.mp g2).2.2.1]
theorem rings_of_ok (A : Snd size hl d pl as) : (F_rings_of [d] S).Wp
    (fun r S' => ∃ (n : Nat) (ls : List (List Int)), r = .box n ∧ S.length ≤ n ∧ S'[n]? = some (.lst ((tsort ls).map iv)) ∧ ls.Nodup ∧ ls.length ≤ 2000 ∧ (∀ r, r ∈ ls ↔ Ring as r) ∧ S <+: S')
    (fun c es S' => c = 15 ∧ es = [.int 2000] ∧ S <+: S' ∧ ∃ ls : List (List Int), ls.Nodup ∧ (∀ r ∈ ls, Ring as r) ∧ 2000 < ls.length) := by
  have p0 := A.p0
  have p1 := A.p1
  refine w_body ?_
  unfold B_rings_of
  simp only [startD, List.map_cons, List.map_nil, List.length_cons, List.length_nil, List.cons_append, List.nil_append, Nat.reduceAdd, Nat.reduceSub, List.replicate, List.replicate_succ, List.replicate_zero]
  and_intros
  refine w_quiet ((come_ok A).mono (fun r S1 ⟨e1, C, pS1⟩ => ?_) fun _ _ _ q => q)
  subst e1
  have ef : S1[S.length]? = some (.lst (([] : List (List Int)).map iv)) := get_pre pS1 get_last
  have p01 : S <+: S1 := (List.prefix_append _ _).trans pS1
  have hS0 : S.length ≤ S.length := Nat.le_refl _
  generalize hf : S.length = f at ef hS0
  have hfS : S.length ≤ f := by omega
  refine ⟨_, rfl, ?_⟩
  refine w_loop (fun i σ S' => ∃ d2 fnd, σ = [some d, some (.box f), d2] ∧ S'[f]? = some (.lst (fnd.map iv)) ∧ RF as ((comeL as).take i) fnd ∧ fnd.length ≤ 2000 ∧ S <+: S')
    (fun i σ S' h => rfl) (fun i x σ S2 hx ⟨d2, fnd, e, ef, R, hl2, p2⟩ => ?_) (fun σ S2 ⟨d2, fnd, e, ef, R, hl2, p2⟩ => ?_) ⟨_, [], rfl, ef, ⟨List.nodup_nil, fun r => ⟨(fun z => nomatch z), fun ⟨p, hp, _⟩ => by cases hp⟩⟩, Nat.zero_le _, p01⟩
  · subst e
    obtain ⟨p, rfl, hp, hpm, hptk⟩ := int_at hx
    have hr := (C.2 p).mp hpm
    have pb := A.rch hr
    and_intros
    refine w_aug rfl ?_
    and_intros
    refine w_lenB (seq_lst ef) ?_
    and_intros
    rw [List.length_map]
    refine w_quiet ((from_rings_ok A (S := S2) pb (most := 2000 - (fnd.length : Int)) (by omega) (by omega)).mono (fun r S3 ⟨n, g, er, hn, eg, nd, snd, cmp, gl, p3⟩ => ?_) fun _ _ _ q => q)
    subst er
    have ef3 := get_pre p3 ef
    refine w_addIL (lst_of ef3) (lst_of eg) (by rw [List.length_map, List.length_map]; exact Nat.le_trans (m := 2040) (by omega) (by decide)) ?_
    rw [← List.map_append]
    have ef4 : (S3.set f (.lst ((fnd ++ g).map iv)))[f]? = some (.lst ((fnd ++ g).map iv)) := List.getElem?_set_self (get_lt ef3)
    have p4 : S <+: S3.set f (.lst ((fnd ++ g).map iv)) := pre_set (p2.trans p3) hfS
    generalize S3.set f (.lst ((fnd ++ g).map iv)) = S4 at ef4 p4 ⊢
    have hnp : p ∉ (comeL as).take i := fun z => by
      obtain ⟨k, hk, ek⟩ := List.mem_iff_getElem.mp z
      rw [List.length_take] at hk
      rw [List.getElem_take] at ek
      have hj2 := List.getElem?_eq_some_iff.mp hp
      exact List.pairwise_iff_getElem.mp C.1 k i (by omega) hj2.1 (by omega) (ek.trans hj2.2.symm)
    have nd4 : (fnd ++ g).Nodup := List.nodup_append.mpr ⟨R.nd, nd, fun a ha b hb e => by
      subst e
      obtain ⟨p', hp', hr'⟩ := (R.mem a).mp ha
      have := ringF_one hr' (snd a hb)
      subst this
      exact hnp hp'⟩
    and_intros
    refine w_lenB (seq_lst ef4) ?_
    and_intros
    rw [List.length_map]
    refine ⟨fun hgt => ?_, fun hgt => ?_⟩
    · have hgt : (2000 : Int) < (fnd ++ g).length := by have := of_decide_eq_true hgt; omega
      refine w_raise ?_
      and_intros
      refine ⟨rfl, rfl, p4, fnd ++ g, nd4, fun r hr' => ?_, by omega⟩
      rcases List.mem_append.mp hr' with z | z
      · obtain ⟨p', hp', h⟩ := (R.mem r).mp z
        exact ⟨p', (C.2 p').mp (List.mem_of_mem_take hp'), h⟩
      · exact ⟨p, hr, snd r z⟩
    · have hle : ¬ (2000 : Int) < (fnd ++ g).length := by have := of_decide_eq_false hgt; omega
      have hcmp : ∀ r, RingF as p r → r ∈ g := cmp.resolve_left fun z => hle (by rw [List.length_append]; omega)
      refine w_sNil (.inl ⟨rfl, _, fnd ++ g, rfl, ef4, ⟨nd4, fun r => ?_⟩, by omega, p4⟩)
      rw [hptk, List.mem_append, R.mem]
      constructor
      · rintro (⟨p', h1, h2⟩ | h)
        · exact ⟨p', by simp [h1], h2⟩
        · exact ⟨p, by simp, snd r h⟩
      · rintro ⟨p', h1, h2⟩
        rcases List.mem_append.mp h1 with z | z
        · exact .inl ⟨p', z, h2⟩
        · rw [List.mem_singleton.mp z] at h2
          exact .inr (hcmp r h2)
  · subst e
    rw [List.length_map, List.take_length] at R
    refine c_nx ?_
    and_intros
    refine w_sortT (seq_lst ef) (fun l hl => ?_) (Nat.le_trans hl2 (by decide)) ?_
    · obtain ⟨p, _, hr⟩ := (R.mem l).mp hl
      exact hr.ne
    · refine .inl ⟨_, rfl, _, fnd, rfl, by have := p2.length_le; omega, get_last, R.nd, hl2, fun r => ?_, p2.trans (List.prefix_append _ _)⟩
      rw [R.mem]
      exact ⟨fun ⟨p, hp, hr⟩ => ⟨p, (C.2 p).mp hp, hr⟩, fun ⟨p, hp, hr⟩ => ⟨p, (C.2 p).mpr hp, hr⟩⟩
end
end Lw
set_option Elab.async false
set_option linter.all false
set_option maxRecDepth 100000
set_option maxHeartbeats 4000000
/-! Ra: names and works of the later laws (k82). -/
set_option Elab.async false
set_option linter.all false
set_option maxRecDepth 100000
set_option maxHeartbeats 4000000
/-! Sa: rows of choices, mixed radix. -/
namespace Mn
open PySem PySem.Spec PyProof.Rows L2
theorem snocInd {α : Type} {P : List α → Prop} (h0 : P []) (hs : ∀ l x, P l → P (l ++ [x])) (l : List α) : P l := by
  have key : ∀ r : List α, P r.reverse := by
    intro r
    induction r with
    | nil => exact h0
    | cons x r ih => rw [List.reverse_cons]; exact hs _ _ ih
  have := key l.reverse
  rwa [List.reverse_reverse] at this
/-! rows: one of each -/
def prodL {α : Type} (xss : List (List α)) : List (List α) := xss.foldl (fun found xs => found.flatMap fun r => xs.map fun x => r ++ [x]) [[]]
theorem prodL_snoc {α : Type} (xss : List (List α)) (xs : List α) : prodL (xss ++ [xs]) = (prodL xss).flatMap fun r => xs.map fun x => r ++ [x] := by
  unfold prodL; rw [List.foldl_append]; rfl
def prodN (ns : List Nat) : Nat := ns.foldl (· * ·) 1
theorem prodN_snoc (ns : List Nat) (n : Nat) : prodN (ns ++ [n]) = prodN ns * n := by unfold prodN; rw [List.foldl_append]; rfl
theorem flatMap_len {α β : Type} (xs : List α) (f : α → List β) (n : Nat) (h : ∀ x ∈ xs, (f x).length = n) : (xs.flatMap f).length = xs.length * n := by
  induction xs with
  | nil => simp
  | cons x xs ih =>
    rw [List.flatMap_cons, List.length_append, h x List.mem_cons_self, ih fun y hy => h y (List.mem_cons_of_mem _ hy), List.length_cons, Nat.succ_mul, Nat.add_comm]
theorem prodL_len {α : Type} (xss : List (List α)) : (prodL xss).length = prodN (xss.map (·.length)) := by
  refine snocInd (P := fun xss => (prodL xss).length = prodN (xss.map (·.length))) rfl (fun l x ih => ?_) xss
  rw [prodL_snoc, List.map_append, flatMap_len _ _ x.length (fun r _ => List.length_map ..), ih]
  show _ = prodN (_ ++ [x.length])
  rw [prodN_snoc]
theorem prodN_pos {ss : List Nat} (n : Nat) : n < prodN ss → ∀ s ∈ ss, 0 < s := by
  refine snocInd (P := fun ss => ∀ n, n < prodN ss → ∀ s ∈ ss, 0 < s) (fun _ _ _ h => nomatch h) (fun l x ih n hn s hs => ?_) ss n
  rw [prodN_snoc] at hn
  have h1 : 0 < prodN l * x := by omega
  rcases List.mem_append.mp hs with h | h
  · exact ih 0 (Nat.pos_of_mul_pos_right h1) s h
  · rw [List.mem_singleton.mp h]; exact Nat.pos_of_mul_pos_left h1
/-- choices that are there -/
def Fit : List Nat → List Nat → Prop
  | [], [] => True
  | p :: ps, s :: ss => p < s ∧ Fit ps ss
  | _, _ => False
theorem Fit.len : ∀ {ps ss : List Nat}, Fit ps ss → ps.length = ss.length
  | [], [], _ => rfl
  | p :: ps, s :: ss, h => congrArg (· + 1) (Fit.len h.2)
  | [], _ :: _, h => h.elim
  | _ :: _, [], h => h.elim
end Mn
set_option Elab.async false
set_option linter.all false
set_option maxRecDepth 100000
set_option maxHeartbeats 4000000
/-! Sb: numbers and parts of places beside one another. -/
namespace Lw
open PySem PySem.Spec PyProof.Rows L2 Mn
abbrev Side := Nat × List Dt
def sndD (q : Side) : Dt := .tup [.int q.1, .tup q.2]
def asN (ss : List Side) : List Nat := ss.map (·.2.length)
structure Sides (size hl : Nat) (ss : List Side) : Prop where
  ne : ss ≠ []
  len : ss.length ≤ 4
  sz : size ≤ 10
  hz : hl ≤ 10
  snd : ∀ q ∈ ss, Snd size hl (sndD q) (q.1 : Int) q.2
theorem Sides.al {size hl : Nat} {ss : List Side} (A : Sides size hl ss) : ∀ n ∈ asN ss, n ≤ 40 := fun n hn => by
  obtain ⟨q, hq, rfl⟩ := List.mem_map.mp hn
  exact (A.snd q hq).al
end Lw
set_option Elab.async false
set_option linter.all false
set_option maxRecDepth 100000
set_option maxHeartbeats 4000000
/-! Sc: couples, rows of arrows, the sender of senders side by side. -/
namespace Mn
open PySem PySem.Spec PyProof.Rows L2
theorem Each.get {α β : Type} {Q : α → β → Prop} : ∀ {xs : List α} {ds : List β}, Each Q xs ds → ∀ {i : Nat} {x : α}, xs[i]? = some x → ∃ d, ds[i]? = some d ∧ Q x d
  | _, _, .nil, i, x, h => by cases h
  | _, _, .cons a t, 0, x, h => by cases h; exact ⟨_, rfl, a⟩
  | _, _, .cons a t, i + 1, x, h => Each.get t h
theorem Each.imp {α β : Type} {Q Q' : α → β → Prop} {xs : List α} {ds : List β} (h : Each Q xs ds) (hh : ∀ x d, Q x d → Q' x d) : Each Q' xs ds := Each.mono hh h
end Mn
set_option Elab.async false
set_option linter.all false
set_option maxRecDepth 100000
set_option maxHeartbeats 4000000
/-! Sd: the sender of senders side by side. -/
namespace Lw
open PySem PySem.Spec PyProof.Rows L2 Mn
/-- an arrow of each -/
structure Row (size hl : Nat) (ss : List Side) (row : List Dt) : Prop where
  len : row.length = ss.length
  at_ : ∀ {i : Nat} {a : Dt} {q : Side}, row[i]? = some a → ss[i]? = some q → ∃ s t lot crew, Arw (q.1 : Int) size hl a s t lot crew
section
variable {S : Bxs} {size hl : Nat} {ss : List Side} {row : List Dt}
theorem Row.all (R : Row size hl ss row) : ∀ a ∈ row, ∃ pl s t lot crew, Arw pl size hl a s t lot crew := fun a ha => by
  obtain ⟨i, hi⟩ := List.mem_iff_getElem?.mp ha
  have hl := (List.getElem?_eq_some_iff.mp hi).1
  have hq : ss[i]? = some (ss[i]'(by rw [← R.len]; exact hl)) := List.getElem?_eq_getElem _
  obtain ⟨s, t, lot, crew, h⟩ := R.at_ hi hq
  exact ⟨_, s, t, lot, crew, h⟩
end
end Lw
set_option Elab.async false
set_option linter.all false
set_option maxRecDepth 100000
set_option maxHeartbeats 4000000
/-! Se: places and arrows by their numbers; the law's own senders side by side. -/
set_option Elab.async false
set_option linter.all false
set_option maxRecDepth 100000
set_option maxHeartbeats 4000000
/-! Sf: runs of a wide sender. -/
namespace Lw
open PySem PySem.Spec PyProof.Rows L2 Mn
structure ArX (a : Dt) (s t : Int) (x y : Dt) : Prop where
  eq : a = .tup [.int s, .int t, x, y]
theorem ArX.src {a x y : Dt} {s t : Int} (h : ArX a s t x y) : arrS a = s := by rw [h.eq]; rfl
theorem ArX.tgt {a x y : Dt} {s t : Int} (h : ArX a s t x y) : arrT a = t := by rw [h.eq]; rfl
structure SndX (d : Dt) (pl : Int) (as : List Dt) : Prop where
  eq : d = .tup [.int pl, .tup as]
  al : as.length ≤ 2000
  ar : ∀ a ∈ as, ∃ s t x y, ArX a s t x y
theorem SndX.at_ {d : Dt} {pl : Int} {as : List Dt} (A : SndX d pl as) {i : Int} (h0 : 0 ≤ i) (h1 : i < as.length) : ∃ a s t lot crew, as[i.toNat]? = some a ∧ atI as i = some a ∧ ArX a s t lot crew := by
  have hi : i.toNat < as.length := by omega
  have e := List.getElem?_eq_getElem hi
  obtain ⟨s, t, lot, crew, R⟩ := A.ar _ (List.getElem_mem hi)
  exact ⟨_, s, t, lot, crew, e, at_int h0 e, R⟩
end Lw
set_option Elab.async false
set_option linter.all false
set_option maxRecDepth 100000
set_option maxHeartbeats 4000000
/-! Sg: k78's sides right. -/
set_option Elab.async false
set_option linter.all false
set_option maxRecDepth 100000
set_option maxHeartbeats 4000000
/-! Sh: k78's law. -/
namespace Mn
open PySem PySem.Spec PyProof.Rows L2
theorem w_heard {σ : Sg} {S : Bxs} {E : Nat → List Dt → Bxs → Prop} {D z : Str} {n : Nat} {pl : Hds} {th : FE} {P : Dt → Bxs → Prop} (ht : MBox.tab D ∈ S)
    (h : (th σ S).Wp (fun d S1 => P (.tup [.str z, d]) S1) (fun c es S1 => ∃ d σ' S2, pickH pl c es (List.replicate n none) S1 = .ok (.rt d, σ') S2 ∧ P d S2)) : (dHeard D n z pl th σ S).Wp P E := by
  unfold dHeard
  rw [if_pos ht]
  cases e : th σ S with
  | ok d S1 =>
    rw [e] at h
    exact ⟨h.sat⟩
  | ex c es S1 =>
    rw [e] at h
    obtain ⟨d, σ', S2, hp, q⟩ := h.sat
    show (match pickH pl c es (List.replicate n none) S1 with
      | .ok (.rt d, _) S2 => Rs.ok d S2
      | _ => .no).Wp P E
    rw [hp]
    exact ⟨q⟩
  | no => rw [e] at h; exact h.sat.elim
end Mn
namespace Lw
open PySem PySem.Spec PyProof.Rows L2 Mn
theorem bag_okL {x : Str} {ns : List Int} (hl : ns.length ≤ 63) : (F__law_bag [.box 0] (scriptL [x] ns)).Wp (fun d S' => ∃ b c, d = .box b ∧ 2 ≤ b ∧ Bag S' b c ∧ S'[1]? = some (.tab x)) noX := by
  refine w_body ?_
  unfold B__law_bag
  simp only [startD, List.map_cons, List.map_nil, List.length_cons, List.length_nil, List.cons_append, List.nil_append, Nat.reduceAdd, Nat.reduceSub, List.replicate, List.replicate_succ, List.replicate_zero]
  and_intros
  refine w_lcMap ?_
  and_intros
  have h63 : Mn.cutD (ns.map Dt.int) none (some 63) = ns.map Dt.int := by
    refine cutD_whole ?_
    rw [List.length_map]
    unfold wholeCut
    simp [HT.sIx, Nat.min_eq_right hl]
  refine w_slB (xs := ns.map Dt.int) rfl ?_
  rw [h63]
  have hz : (ns.map Dt.int).length ≤ 63 := by rw [List.length_map]; exact hl
  refine w_newL (Nat.le_trans hz (by decide)) ?_
  refine ⟨_, w_seqB get_last, fun d => match d with | .int i => .int (if i < 0 then -i else i) | d => d, Nat.lt_of_le_of_lt hz (by decide), fun acc => ?_, fun x acc hx => ?_, ?_⟩
  · show seqOf _ (.box _) = some _
    exact w_seqB (get_pre (List.prefix_append _ _) get_last)
  · obtain ⟨i, hi, rfl⟩ := List.mem_map.mp hx
    and_intros
    refine ⟨rfl, ?_⟩
    and_intros
    exact ⟨rfl, rfl⟩
  · and_intros
    refine .inl ⟨_, rfl, _, 3, rfl, by simp [scriptL], ?_, by simp [scriptL]⟩
    refine ⟨0, 1234567891, 0, ns.map fun i => if i < 0 then -i else i, ?_⟩
    refine ⟨get_last, ?_, by simp [scriptL], by decide, by decide, by decide, by decide, fun n hn => ?_, by rw [List.length_map]; exact hl⟩
    · show some (MBox.lst _) = _
      rw [List.map_map, List.map_map]
      rfl
    · obtain ⟨i, _, rfl⟩ := List.mem_map.mp hn
      split <;> omega
theorem many_sm {n : Nat} {m : Int} (h : 0 ≤ m ∧ m ≤ 9999) : Sm (n + 2) (.tup [.str "many", .int m]) 100 := by
  obtain ⟨p, hp⟩ := Sm.int (n := n) (i := m) 4 (by decide) (by decide) (by omega)
  exact ⟨.tuple [.str "many", p], fun S => .tup (.cons (.str (w := 10) (by decide +kernel) (by decide +kernel) (by decide +kernel)) (.cons (hp S) .nil)) (by decide)⟩
end Lw
set_option Elab.async false
set_option linter.all false
set_option maxRecDepth 100000
set_option maxHeartbeats 4000000
/-! Vt: lists of int tuples, sorted: one order of a set. -/
namespace Mn
open PySem PySem.Spec PyProof.Rows L2
theorem lexLe_eq (a b : List Int) : lexLe a b = decide (a ≤ b) := by
  have e : PySem.W.dataLt (tupPd b) (tupPd a) = decide (b < a) := by
    unfold tupPd
    rw [PySem.W.dataLt_tuple]
    exact PySem.W.dataLt_ints b a
  unfold lexLe
  rw [e]
  by_cases h : b < a
  · have h2 : ¬ a ≤ b := fun z => z h
    simp [h, h2]
  · have h2 : a ≤ b := h
    simp [h, h2]
theorem tsort_sorted (ls : List (List Int)) : (tsort ls).Pairwise (· ≤ ·) := by
  have := List.pairwise_mergeSort (le := lexLe) (fun a b c h1 h2 => by
    rw [lexLe_eq, decide_eq_true_eq] at *
    exact List.le_trans h1 h2) (fun a b => by
    rw [lexLe_eq, lexLe_eq, Bool.or_eq_true, decide_eq_true_eq, decide_eq_true_eq]
    exact List.le_total a b) ls
  exact this.imp fun h => by rw [lexLe_eq, decide_eq_true_eq] at h; exact h
theorem lsorted_ext : ∀ {xs ys : List (List Int)}, xs.Pairwise (· ≤ ·) → ys.Pairwise (· ≤ ·) → xs.Perm ys → xs = ys
  | [], ys, _, _, p => p.nil_eq
  | x :: xs, [], _, _, p => p.eq_nil
  | x :: xs, y :: ys, h1, h2, p => by
    have hx := List.pairwise_cons.mp h1
    have hy := List.pairwise_cons.mp h2
    have m1 : x ∈ y :: ys := p.mem_iff.mp List.mem_cons_self
    have m2 : y ∈ x :: xs := p.mem_iff.mpr List.mem_cons_self
    have e : x = y := by
      rcases List.mem_cons.mp m1 with z | z
      · exact z
      · rcases List.mem_cons.mp m2 with z2 | z2
        · exact z2.symm
        · exact List.le_antisymm (hx.1 y z2) (hy.1 x z)
    subst e
    rw [lsorted_ext hx.2 hy.2 (List.Perm.cons_inv p)]
theorem tsort_ext {xs ys : List (List Int)} (h1 : xs.Nodup) (h2 : ys.Nodup) (h : ∀ x, x ∈ xs ↔ x ∈ ys) : tsort xs = tsort ys :=
  lsorted_ext (tsort_sorted _) (tsort_sorted _) ((tsort_perm xs).trans (((List.perm_ext_iff_of_nodup h1 h2).mpr h).trans (tsort_perm ys).symm))
end Mn
set_option Elab.async false
set_option linter.all false
set_option maxRecDepth 100000
set_option maxHeartbeats 4000000
/-! Vf: the rings, told alike. -/
namespace Lw
open PySem PySem.Spec PyProof.Rows L2 Mn
section
variable {S : Bxs} {size hl : Nat} {d : Dt} {pl : Int} {as : List Dt}
theorem nodup_subL : ∀ {a b : List (List Int)}, a.Nodup → (∀ x ∈ a, x ∈ b) → a.length ≤ b.length
  | [], b, _, _ => Nat.zero_le _
  | x :: a, b, hn, hs => by
    have hx := hs x List.mem_cons_self
    have h2 := List.nodup_cons.mp hn
    have ih := nodup_subL (a := a) (b := b.erase x) h2.2 fun y hy => (List.mem_erase_of_ne (fun (e : y = x) => h2.1 (e ▸ hy))).mpr (hs y (List.mem_cons_of_mem _ hy))
    rw [List.length_erase_of_mem hx] at ih
    have := List.length_pos_of_mem hx
    rw [List.length_cons]
    omega
theorem rings_pl {L : List (List Int)} (h : ∀ r ∈ L, r.length ≤ 10 ∧ ∀ i ∈ r, 0 ≤ i ∧ i < 100) (hl : L.length ≤ 3000) : ∃ ps, ∀ S n, S[n]? = some (MBox.lst (L.map iv)) → Pl S 59 (.box n) (.list ps) 165003 := by
  obtain ⟨ps, hps⟩ := Sm.all (n := 58) (w := 53) (ds := L.map iv) fun d hd => by
    obtain ⟨r, hr, rfl⟩ := List.mem_map.mp hd
    obtain ⟨h1, h2⟩ := h r hr
    exact Sm.ints (n := 56) (k := 2) (by decide) (by decide) (fun i hi => by have := h2 i hi; omega) 53 (by omega)
  refine ⟨ps, fun S n e => .box (seq_lst e) (hps S) ?_⟩
  rw [List.length_map]
  omega
theorem ring_ixs (A : Snd size hl d pl as) {r : List Int} (h : Ring as r) : r.length ≤ 10 ∧ ∀ i ∈ r, 0 ≤ i ∧ i < 100 := by
  obtain ⟨p, _, hr⟩ := h
  have aal := A.al
  exact ⟨hr.len A, fun i hi => by have := goes_ixs hr.go i hi; omega⟩
theorem alikeR_ok {S : Bxs} {x y n1 n2 : Nat} {c : Dt} {L : List (List Int)} (hx : S[x]? = some (.lst [c, .box n1])) (hy : S[y]? = some (.lst [c, .box n2])) (h1 : S[n1]? = some (.lst (L.map iv))) (h2 : S[n2]? = some (.lst (L.map iv))) (hc : Sm 59 c 1000) (h : ∀ r ∈ L, r.length ≤ 10 ∧ ∀ i ∈ r, 0 ≤ i ∧ i < 100) (hl : L.length ≤ 3000) :
    (F__law_alike [.box x, .box y] S).Wp (fun r S' => r = .bl true ∧ S' = S) noX := by
  obtain ⟨ps, hp⟩ := rings_pl h hl
  obtain ⟨q, hq⟩ := hc
  exact alikeP_ok (w := 200000) (.box (seq_lst hx) (.cons (hq S) (.cons (hp S n1 h1) .nil)) (by decide)) (.box (seq_lst hy) (.cons (hq S) (.cons (hp S n2 h2) .nil)) (by decide)) (by decide)
theorem alikeT_ok {S : Bxs} {n1 n2 : Nat} {c : Dt} {L : List (List Int)} (h1 : S[n1]? = some (.lst (L.map iv))) (h2 : S[n2]? = some (.lst (L.map iv))) (hc : Sm 59 c 1000) (h : ∀ r ∈ L, r.length ≤ 10 ∧ ∀ i ∈ r, 0 ≤ i ∧ i < 100) (hl : L.length ≤ 3000) :
    (F__law_alike [.tup [c, .box n1], .tup [c, .box n2]] S).Wp (fun r S' => r = .bl true ∧ S' = S) noX := by
  obtain ⟨ps, hp⟩ := rings_pl h hl
  obtain ⟨q, hq⟩ := hc
  exact alikeP_ok (w := 200000) (.tup (.cons (hq S) (.cons (hp S n1 h1) .nil)) (by decide)) (.tup (.cons (hq S) (.cons (hp S n2 h2) .nil)) (by decide)) (by decide)
theorem come_sm (A : Snd size hl d pl as) (C : Cm as (comeL as)) {n : Nat} : Sm (n + 2) (iv (comeL as)) 100 := by
  have p0 := A.p0
  have p1 := A.p1
  have := nodup_le pl.toNat (comeL as) C.1 fun x hx => by have := A.rch ((C.2 x).mp hx); omega
  exact Sm.ints (n := n) (k := 2) (by decide) (by decide) (fun i hi => by have := A.rch ((C.2 i).mp hi); omega) 100 (by omega)
end
end Lw
set_option Elab.async false
set_option linter.all false
set_option maxRecDepth 100000
set_option maxHeartbeats 4000000
/-! Or: the program's greatest mean is the greatest mean. -/
set_option Elab.async false
set_option linter.all false
set_option maxRecDepth 100000
set_option maxHeartbeats 4000000
/-! Os: the program's heights above a mean. -/
namespace Lw
open PySem PySem.Spec PyProof.Rows L2 Mn
section
variable {S : Bxs} {size hl : Nat} {d : Dt} {pl : Int} {as : List Dt} {ps ws : List Int} {q : Int × Int}
/-- somewhere higher -/
def Grew (f g : OF) : Prop := ∃ p v, At g p v ∧ ∀ u, At f p u → u < v
theorem Grew.le {f g k : OF} (h : Grew f g) (l : LeF g k) : Grew f k := by
  obtain ⟨p, v, a, b⟩ := h
  obtain ⟨v', a', c⟩ := l p v a
  exact ⟨p, v', a', fun u hu => by have := b u hu; omega⟩
theorem Grew.ne {f : OF} (h : Grew f f) : False := by
  obtain ⟨p, v, a, b⟩ := h
  have := b v a
  omega
theorem DF.get {kvs : List (Key × Dt)} {f : OF} (h : DF pl kvs f) {i : Nat} (hi : i < f.length) : ∃ o, f[i]? = some o ∧ (valD kvs (.inl (i : Int))).getD .non = oI o := by
  refine ⟨f[i], List.getElem?_eq_getElem hi, ?_⟩
  rw [h.val i (by omega)]
  have : ((i : Int)).toNat = i := by omega
  rw [this, List.getElem?_eq_getElem hi]
  cases f[i] <;> rfl
end
end Lw
set_option Elab.async false
set_option linter.all false
set_option maxRecDepth 100000
set_option maxHeartbeats 4000000
/-! Ot: the law's thick senders. -/
namespace Lw
open PySem PySem.Spec PyProof.Rows L2 Mn
def unI : Dt → Int
  | .int i => i
  | _ => 0
theorem perm_ints {ys : List Dt} {is : List Int} (h : ys.Perm (is.map Dt.int)) : ∃ js : List Int, ys = js.map Dt.int ∧ js.Perm is := by
  obtain ⟨js, rfl, _⟩ := ints_of_all (P := fun _ => True) (ds := ys) fun d hd => by
    obtain ⟨i, _, e⟩ := List.mem_map.mp (h.mem_iff.mp hd)
    exact ⟨i, e.symm, trivial⟩
  refine ⟨js, rfl, ?_⟩
  have h2 := h.map unI
  rw [List.map_map, List.map_map] at h2
  have e : (unI ∘ Dt.int) = id := rfl
  rw [e, List.map_id, List.map_id] at h2
  exact h2
/-- an arrow at the k-th turn of the way o -/
def Lnk (o : List Int) (k : Nat) (a : Dt) : Prop := o[k]? = some (arrS a) ∧ (o.drop 1 ++ [0])[k]? = some (arrT a)
structure Thk (o : List Int) (as : List Dt) : Prop where
  len : o.length = 5
  hd : o[0]? = some 0
  nd : o.Nodup
  mem : ∀ a ∈ as, ∃ k, k < 5 ∧ Lnk o k a
  all : ∀ k, k < 5 → ∃ a ∈ as, Lnk o k a
end Lw
set_option Elab.async false
set_option linter.all false
set_option maxRecDepth 100000
set_option maxHeartbeats 4000000
/-! Ou: the greatest mean of a thick sender. -/
namespace Lw
open PySem PySem.Spec PyProof.Rows L2 Mn
section
variable {size hl : Nat} {d : Dt} {pl : Int} {as : List Dt} {ps ws : List Int}
/-- an arrow leads to the next place -/
theorem Thk.next {o : List Int} (T : Thk o as) {k : Nat} {p t i : Int} (hk : k < 5) (hp : o[k]? = some p) (ht : (o.drop 1 ++ [0])[k]? = some t) (hm : nthA as i ∈ as) (hs : arrS (nthA as i) = p) : arrT (nthA as i) = t := by
  obtain ⟨k', hk', h1, h2⟩ := T.mem _ hm
  have e : k' = k := by
    have hl := T.len
    rw [hs] at h1
    by_cases hne : k' = k
    · exact hne
    · refine absurd ?_ hne
      have hp' := (List.getElem?_eq_some_iff.mp hp).2
      have h1' := (List.getElem?_eq_some_iff.mp h1).2
      have pw := List.pairwise_iff_getElem.mp T.nd
      rcases Nat.lt_or_gt_of_ne hne with z | z
      · exact absurd (h1'.trans hp'.symm) (pw k' k (by omega) (by omega) z)
      · exact absurd (hp'.trans h1'.symm) (pw k k' (by omega) (by omega) z)
  subst e
  rw [ht] at h2
  exact (Option.some.inj h2).symm
end
end Lw
set_option Elab.async false
set_option linter.all false
set_option maxRecDepth 100000
set_option maxHeartbeats 4000000
/-! Oi: both judge alike. -/
set_option Elab.async false
set_option linter.all false
set_option maxRecDepth 100000
set_option maxHeartbeats 4000000
/-! Oj: things near heights. -/
namespace Lw
open PySem PySem.Spec PyProof.Rows L2 Mn
section
variable {S : Bxs}
theorem sm_itm {d : Dt} {n : Nat} (h : Itm d) : Sm (n + 2) d 45 := by
  rcases h with rfl | ⟨i, rfl, h1, h2⟩ | ⟨b, rfl⟩ | rfl | rfl
  · exact Sm.non.mono (by decide)
  · exact (Sm.int (n := n + 1) 41 (by decide) (by decide) (by omega)).mono (by decide)
  · exact (Sm.bl b).mono (by decide)
  · exact ⟨_, fun S => .str (by decide +kernel) (by decide +kernel) (by decide +kernel)⟩
  · exact Sm.ints (is := [0]) (k := 1) (n := n) (by decide) (by decide) (fun i hi => by rw [List.mem_singleton.mp hi]; decide) 45 (by decide)
def TupT (x : Dt) : Prop := ∃ xs, x = .tup xs ∧ xs.length ≤ 30 ∧ ∀ y ∈ xs, Itm y
theorem TupT.sm {x : Dt} {n : Nat} (h : TupT x) : Sm (n + 3) x 1500 := by
  obtain ⟨xs, rfl, h1, h2⟩ := h
  refine Sm.tup (w := 45) (fun y hy => sm_itm (h2 y hy)) 1500 ?_
  have : xs.length * (45 + 2) ≤ 30 * 47 := Nat.mul_le_mul_right 47 h1
  omega
structure TG (b : Nat) (S : Bxs) (d : Dt) : Prop where
  th : ∀ S', Fr b S S' → Thg S' d
  rp : ∃ z, PyData.strOk z = true ∧ ∀ S', Fr b S S' → ∀ {E : Nat → List Dt → Bxs → Prop} {P : Dt → Bxs → Prop}, P (.str z) S' → (reprE [d] S').Wp P E
theorem TG.fr {b : Nat} {S S' : Bxs} {d : Dt} (h : TG b S d) (F : Fr b S S') : TG b S' d := by
  refine ⟨fun S2 F2 => h.th S2 (F.trans F2), ?_⟩
  obtain ⟨z, h1, h2⟩ := h.rp
  exact ⟨z, h1, fun S2 F2 {E P} q => h2 S2 (F.trans F2) q⟩
theorem rp_sm {b : Nat} {S : Bxs} {d : Dt} {w : Nat} (h : Sm 60 d w) (hw : w ≤ 1000000) (hn : ∀ n, d ≠ .box n) : ∃ z, PyData.strOk z = true ∧ ∀ S', Fr b S S' → ∀ {E : Nat → List Dt → Bxs → Prop} {P : Dt → Bxs → Prop}, P (.str z) S' → (reprE [d] S').Wp P E := by
  obtain ⟨p, hp⟩ := h
  refine ⟨p.shown, (hp []).pf.ok, fun S' _ {E P} q => ?_⟩
  have e : reprE [d] S' = reprG [d] S' := by
    unfold reprE
    cases d <;> first | rfl | exact absurd rfl (hn _)
  rw [e]
  exact w_repr (hp S') hw q
theorem TG.tup {b : Nat} {x : Dt} (h : TupT x) : TG b S x := by
  refine ⟨fun S' _ => ?_, rp_sm h.sm (by decide) fun n z => by obtain ⟨xs, e, _⟩ := h; rw [e] at z; cases z⟩
  obtain ⟨xs, rfl, h1, h2⟩ := h
  exact .inl ⟨xs, rfl, h1, h2⟩
theorem TG.lst {b m : Nat} {xs : List Dt} (e : S[m]? = some (.lst xs)) (hm : m ≠ b) (hx : ∀ y ∈ xs, Sm 59 y 2000) (hl : xs.length ≤ 30) : TG b S (.box m) := by
  refine ⟨fun S' F => .inr ⟨(fun xs z => nomatch z), fun S2 p => ?_⟩, ?_⟩
  · have e2 := get_pre p (F.at_ e hm)
    have h3 : tyN S2 (.box m) = some "list" := by
      show (if (Bxs.seq S2 m).isSome = true then some "list" else _) = _
      rw [seq_lst e2]; rfl
    unfold isiD
    rw [h3]
    show kitB "list" "tuple" = _
    decide +kernel
  · obtain ⟨ps, hps⟩ := Sm.all hx
    refine ⟨(PyData.list ps).shown, (Pl.box (S := S) (n := 59) (seq_lst e) (hps S) (Nat.le_refl _)).pf.ok, fun S' F {E P} q => ?_⟩
    have e2 := F.at_ e hm
    have e3 : reprE [.box m] S' = reprG [.box m] S' := by
      unfold reprE
      have : S'.dk m = none := by unfold Bxs.dk; rw [e2]
      dsimp only
      rw [this]
    rw [e3]
    refine w_repr (.box (seq_lst e2) (hps S') (Nat.le_refl _)) ?_ q
    have : xs.length * (2000 + 2) ≤ 30 * 2002 := Nat.mul_le_mul_right 2002 hl
    omega
theorem TG.dk {b m : Nat} (e : S[m]? = some (.dk [])) (hm : m ≠ b) : TG b S (.box m) := by
  refine ⟨fun S' F => .inr ⟨(fun xs z => nomatch z), fun S2 p => ?_⟩, (PyData.dict []).shown, by decide +kernel, fun S' F {E P} q => ?_⟩
  · have e2 := get_pre p (F.at_ e hm)
    have h1 : Bxs.seq S2 m = none := by unfold Bxs.seq; rw [e2]
    have h2 : Bxs.dk S2 m = some [] := by unfold Bxs.dk; rw [e2]
    have h3 : tyN S2 (.box m) = some "dict" := by
      show (if (Bxs.seq S2 m).isSome = true then some "list" else if (Bxs.dk S2 m).isSome = true then some "dict" else _) = _
      rw [h1, h2]; rfl
    unfold isiD
    rw [h3]
    show kitB "dict" "tuple" = _
    decide +kernel
  · have e2 := F.at_ e hm
    have h2 : S'.dk m = some [] := by unfold Bxs.dk; rw [e2]
    unfold reprE
    dsimp only
    rw [h2]
    exact sat_mk q
theorem TG.flat {b : Nat} {d : Dt} {t : String} (ht : ∀ S, tyN S d = some t) (hk : kitB t "tuple" = some false) (hs : Sm 60 d 100) (hn : ∀ n, d ≠ .box n) (hn2 : ∀ n, d ≠ .tup n) : TG b S d := by
  refine ⟨fun S' F => .inr ⟨hn2, fun S2 p => ?_⟩, rp_sm hs (by decide) hn⟩
  unfold isiD
  rw [ht]
  exact hk
def NH (S1 : Bxs) (f m : Nat) (S' : Bxs) : Prop := ∃ L, S'[f]? = some (.lst L) ∧ L.length ≤ m ∧ (∀ x ∈ L, TupT x) ∧ S1 <+: S'
theorem NH.mono {S1 S2 : Bxs} {f m : Nat} (h : NH S1 f m S) (p : S <+: S2) : NH S1 f m S2 := by
  obtain ⟨L, e, h1, h2, h3⟩ := h
  exact ⟨L, get_pre p e, h1, h2, h3.trans p⟩
end
end Lw
set_option Elab.async false
set_option linter.all false
set_option maxRecDepth 100000
set_option maxHeartbeats 4000000
/-! Ov: thick senders' heights; what mean heights are held against. -/
namespace Lw
open PySem PySem.Spec PyProof.Rows L2 Mn
section
variable {S : Bxs} {size hl : Nat} {d : Dt} {pl : Int} {as : List Dt} {ps ws : List Int} {q : Int × Int}
theorem cm_ex (A : Snd size hl d pl as) : ∃ C, Cm as C := by
  classical
  refine ⟨(idxL pl.toNat).filter fun x => decide (Rch as x), ?_, fun x => ?_⟩
  · refine List.Nodup.sublist List.filter_sublist ?_
    unfold idxL
    refine List.Pairwise.map _ (fun a b h => ?_) (List.nodup_range (n := pl.toNat))
    intro e
    exact h (by omega)
  · rw [List.mem_filter]
    constructor
    · rintro ⟨_, h⟩; exact of_decide_eq_true h
    · intro h
      have := A.rch h
      exact ⟨idxL_mem this.1 (by omega), decide_eq_true h⟩
end
end Lw
set_option Elab.async false
set_option linter.all false
set_option maxRecDepth 100000
set_option maxHeartbeats 4000000
/-! Ow: arrows that lead on. -/
namespace Lw
open PySem PySem.Spec PyProof.Rows L2 Mn
section
variable {S : Bxs} {size hl : Nat} {d : Dt} {pl : Int} {as : List Dt} {ps ws : List Int} {q : Int × Int}
def srcI (as : List Dt) (i : Int) : Int := arrS (nthA as i)
def tgtI (as : List Dt) (i : Int) : Int := arrT (nthA as i)
/-- the last one from p -/
def lastI (as : List Dt) (l : List Int) (p : Int) : Option Int := (l.filter fun i => decide (srcI as i = p)).getLast?
theorem lastI_snoc {l : List Int} {i p : Int} : lastI as (l ++ [i]) p = if srcI as i = p then some i else lastI as l p := by
  unfold lastI
  rw [List.filter_append]
  by_cases h : srcI as i = p
  · rw [if_pos h, List.filter_cons_of_pos (by simpa using h)]
    simp
  · rw [if_neg h, List.filter_cons_of_neg (by simpa using h)]
    simp
theorem lastI_mem {l : List Int} {i p : Int} (h : lastI as l p = some i) : i ∈ l ∧ srcI as i = p := by
  have := List.mem_of_getLast? h
  have := List.mem_filter.mp this
  exact ⟨this.1, of_decide_eq_true this.2⟩
theorem lastI_some {l : List Int} {p : Int} (h : p ∈ l.map (srcI as)) : ∃ i, lastI as l p = some i := by
  obtain ⟨i, hi, e⟩ := List.mem_map.mp h
  have : (l.filter fun i => decide (srcI as i = p)) ≠ [] := List.ne_nil_of_mem (List.mem_filter.mpr ⟨hi, decide_eq_true e⟩)
  exact ⟨_, List.getLast?_eq_some_getLast this⟩
/-- a dict from sources -/
structure DL (as : List Dt) (f : Int → Dt) (kvs : List (Key × Dt)) (l : List Int) : Prop where
  val : ∀ p, valD kvs (.inl p) = (lastI as l p).map f
  key : ∃ ns : List Int, kvs.map (·.1) = ns.map Sum.inl ∧ ∀ p, p ∈ ns ↔ p ∈ l.map (srcI as)
  len : kvs.length ≤ l.length
theorem DL.nil {f : Int → Dt} : DL as f [] [] := ⟨fun p => rfl, ⟨[], rfl, fun p => Iff.rfl⟩, Nat.le_refl _⟩
theorem DL.put {f : Int → Dt} {kvs : List (Key × Dt)} {l : List Int} (h : DL as f kvs l) (i : Int) : DL as f (putD kvs (.inl (srcI as i)) (f i)) (l ++ [i]) := by
  obtain ⟨ns, hk, hm⟩ := h.key
  refine ⟨fun p => ?_, ?_, ?_⟩
  · rw [valD_put, lastI_snoc]
    by_cases e : srcI as i = p
    · rw [if_pos e, if_pos (by rw [e])]; rfl
    · rw [if_neg e, if_neg (fun z => e (Sum.inl.inj z))]; exact h.val p
  · rcases putD_keys (kvs := kvs) (k := (.inl (srcI as i) : Key)) (d := f i) with ⟨e, hin⟩ | ⟨e, hin⟩
    · refine ⟨ns, e.trans hk, fun p => ?_⟩
      rw [hk] at hin
      obtain ⟨y, hy, e3⟩ := List.mem_map.mp hin
      cases e3
      rw [List.map_append, List.mem_append, ← hm]
      constructor
      · exact .inl
      · rintro (z | z)
        · exact z
        · have : p = srcI as i := by simpa using z
          rw [this]; exact hy
    · refine ⟨ns ++ [srcI as i], by rw [e, hk, List.map_append]; rfl, fun p => ?_⟩
      rw [List.map_append, List.mem_append, List.mem_append, hm]
      rfl
  · rw [List.length_append]
    have := h.len
    have e : (putD kvs (.inl (srcI as i)) (f i)).length = ((putD kvs (.inl (srcI as i)) (f i)).map (·.1)).length := by rw [List.length_map]
    rw [e]
    rcases putD_keys (kvs := kvs) (k := (.inl (srcI as i) : Key)) (d := f i) with ⟨e, _⟩ | ⟨e, _⟩
    · rw [e, List.length_map]; simp; omega
    · rw [e, List.length_append, List.length_map]; simp; omega
theorem DL.has {f : Int → Dt} {kvs : List (Key × Dt)} {l : List Int} (h : DL as f kvs l) (p : Int) : (valD kvs (.inl p)).isSome = decide (p ∈ l.map (srcI as)) := by
  rw [h.val, Option.isSome_map]
  by_cases e : p ∈ l.map (srcI as)
  · obtain ⟨i, hi⟩ := lastI_some e
    rw [hi, decide_eq_true e]; rfl
  · rw [decide_eq_false e]
    cases e2 : lastI as l p with
    | none => rfl
    | some i =>
      obtain ⟨h1, h2⟩ := lastI_mem e2
      exact absurd (List.mem_map.mpr ⟨i, h1, h2⟩) e
end
end Lw
set_option Elab.async false
set_option linter.all false
set_option maxRecDepth 100000
set_option maxHeartbeats 4000000
/-! Ox: the program's ring of the greatest mean. -/
namespace Lw
open PySem PySem.Spec PyProof.Rows L2 Mn
section
variable {S : Bxs} {size hl : Nat} {d : Dt} {pl : Int} {as : List Dt} {ps ws : List Int} {q : Int × Int} {E : Nat → List Dt → Bxs → Prop}
theorem minI_le {is : List Int} {i : Int} (h : i ∈ is) : minI is ≤ i := by
  unfold minI
  have := maxI_ge (is := is.map fun i => -i) (i := -i) (List.mem_map.mpr ⟨i, h, rfl⟩)
  omega
abbrev hts (ps ws : List Int) (as : List Dt) (q : Int × Int) (pl : Int) : OF := hAll ps ws as q pl.toNat (h0L pl)
def nxt (as : List Dt) (l : List Int) (p : Int) : Int := match lastI as l p with
  | some i => tgtI as i
  | none => p
end
end Lw
set_option Elab.async false
set_option linter.all false
set_option maxRecDepth 100000
set_option maxHeartbeats 4000000
/-! Oy: the ring told is a ring of the greatest mean. -/
set_option Elab.async false
set_option linter.all false
set_option maxRecDepth 100000
set_option maxHeartbeats 4000000
/-! Oz: the law's look at a ring. -/
set_option Elab.async false
set_option linter.all false
set_option maxRecDepth 100000
set_option maxHeartbeats 4000000
/-! Oza: rows in lists of rows; thick senders' rings. -/
set_option Elab.async false
set_option linter.all false
set_option maxRecDepth 100000
set_option maxHeartbeats 4000000
/-! Vg: a thick ring of five places: its rings are the rows of choices. -/
namespace Lw
open PySem PySem.Spec PyProof.Rows L2 Mn
section
variable {as : List Dt} {a b c e : Int}
/-- the way 0, a, b, c, e -/
structure T5 (as : List Dt) (a b c e : Int) : Prop where
  ne : a ≠ 0 ∧ b ≠ 0 ∧ c ≠ 0 ∧ e ≠ 0 ∧ a ≠ b ∧ a ≠ c ∧ a ≠ e ∧ b ≠ c ∧ b ≠ e ∧ c ≠ e
  bd : (0 ≤ a ∧ a < 5) ∧ (0 ≤ b ∧ b < 5) ∧ (0 ≤ c ∧ c < 5) ∧ (0 ≤ e ∧ e < 5)
  lk : ∀ x ∈ as, (arrS x = 0 ∧ arrT x = a) ∨ (arrS x = a ∧ arrT x = b) ∨ (arrS x = b ∧ arrT x = c) ∨ (arrS x = c ∧ arrT x = e) ∨ (arrS x = e ∧ arrT x = 0)
theorem nthA_mem {i : Int} (h0 : 0 ≤ i) (h1 : i < as.length) : nthA as i ∈ as := by
  have hl : i.toNat < as.length := by omega
  unfold nthA
  rw [List.getElem?_eq_getElem hl]
  exact List.getElem_mem hl
theorem T5.at_ (T : T5 as a b c e) {i : Int} (h0 : 0 ≤ i) (h1 : i < as.length) : (arrS (nthA as i) = 0 ∧ arrT (nthA as i) = a) ∨ (arrS (nthA as i) = a ∧ arrT (nthA as i) = b) ∨ (arrS (nthA as i) = b ∧ arrT (nthA as i) = c) ∨ (arrS (nthA as i) = c ∧ arrT (nthA as i) = e) ∨ (arrS (nthA as i) = e ∧ arrT (nthA as i) = 0) := T.lk _ (nthA_mem h0 h1)
theorem T5.nx (T : T5 as a b c e) {i : Int} (h0 : 0 ≤ i) (h1 : i < as.length) : (arrS (nthA as i) = 0 → arrT (nthA as i) = a) ∧ (arrS (nthA as i) = a → arrT (nthA as i) = b) ∧ (arrS (nthA as i) = b → arrT (nthA as i) = c) ∧ (arrS (nthA as i) = c → arrT (nthA as i) = e) ∧ (arrS (nthA as i) = e → arrT (nthA as i) = 0) := by
  obtain ⟨n1, n2, n3, n4, n5, n6, n7, n8, n9, n10⟩ := T.ne
  generalize hs : arrS (nthA as i) = s
  generalize ht : arrT (nthA as i) = t
  have k := T.at_ h0 h1
  rw [hs, ht] at k
  clear hs ht
  refine ⟨fun z => ?_, fun z => ?_, fun z => ?_, fun z => ?_, fun z => ?_⟩ <;> subst z <;> rcases k with ⟨q, r⟩ | ⟨q, r⟩ | ⟨q, r⟩ | ⟨q, r⟩ | ⟨q, r⟩ <;> first | exact r | exact absurd q (by assumption) | exact absurd q.symm (by assumption)
theorem prodL_nodup {α : Type} (xss : List (List α)) : (∀ xs ∈ xss, xs.Nodup) → (prodL xss).Nodup := by
  refine Mn.snocInd (P := fun xss => (∀ xs ∈ xss, xs.Nodup) → (prodL xss).Nodup) (fun _ => by simp [prodL]) (fun l x ih h => ?_) xss
  have ih := ih fun xs hx => h xs (by simp [hx])
  have hx := h x (by simp)
  rw [prodL_snoc]
  unfold List.Nodup
  rw [List.pairwise_flatMap]
  refine ⟨fun r _ => ?_, ih.imp fun {r s} hne y hy z hz e => ?_⟩
  · rw [List.pairwise_map]
    exact hx.imp fun {u v} hne e => hne (by simpa using e)
  · obtain ⟨u, _, rfl⟩ := List.mem_map.mp hy
    obtain ⟨v, _, rfl⟩ := List.mem_map.mp hz
    exact hne (List.append_inj_left' e rfl)
/-- the rows of choices -/
def R5 (as : List Dt) (a b c e : Int) : List (List Int) := prodL [fromL as 0, fromL as a, fromL as b, fromL as c, fromL as e]
def P5 (as : List Dt) (a b c e : Int) : Nat := prodN [(fromL as 0).length, (fromL as a).length, (fromL as b).length, (fromL as c).length, (fromL as e).length]
theorem R5_len : (R5 as a b c e).length = P5 as a b c e := prodL_len _
theorem R5_nodup : (R5 as a b c e).Nodup := prodL_nodup _ fun xs hx => by
  simp only [List.mem_cons, List.not_mem_nil, or_false] at hx
  rcases hx with rfl | rfl | rfl | rfl | rfl <;> exact fromL_nodup
theorem R5_mem {r : List Int} : r ∈ R5 as a b c e ↔ ∃ i0 i1 i2 i3 i4, r = [i0, i1, i2, i3, i4] ∧ i0 ∈ fromL as 0 ∧ i1 ∈ fromL as a ∧ i2 ∈ fromL as b ∧ i3 ∈ fromL as c ∧ i4 ∈ fromL as e := by
  unfold R5 prodL
  simp only [List.foldl_cons, List.foldl_nil, List.mem_flatMap, List.mem_map, List.mem_singleton]
  constructor
  · rintro ⟨r4, ⟨r3, ⟨r2, ⟨r1, ⟨r0, rfl, i0, h0, rfl⟩, i1, h1, rfl⟩, i2, h2, rfl⟩, i3, h3, rfl⟩, i4, h4, rfl⟩
    exact ⟨i0, i1, i2, i3, i4, rfl, h0, h1, h2, h3, h4⟩
  · rintro ⟨i0, i1, i2, i3, i4, rfl, h0, h1, h2, h3, h4⟩
    exact ⟨_, ⟨_, ⟨_, ⟨_, ⟨_, rfl, i0, h0, rfl⟩, i1, h1, rfl⟩, i2, h2, rfl⟩, i3, h3, rfl⟩, i4, h4, rfl⟩
theorem T5.ring (T : T5 as a b c e) {r : List Int} (h : r ∈ R5 as a b c e) : Ring as r := by
  obtain ⟨i0, i1, i2, i3, i4, rfl, h0, h1, h2, h3, h4⟩ := R5_mem.mp h
  obtain ⟨n1, n2, n3, n4, n5, n6, n7, n8, n9, n10⟩ := T.ne
  obtain ⟨⟨b1, b2⟩, ⟨b3, b4⟩, ⟨b5, b6⟩, b7, b8⟩ := T.bd
  obtain ⟨x0, y0, z0⟩ := fromL_mem.mp h0
  obtain ⟨x1, y1, z1⟩ := fromL_mem.mp h1
  obtain ⟨x2, y2, z2⟩ := fromL_mem.mp h2
  obtain ⟨x3, y3, z3⟩ := fromL_mem.mp h3
  obtain ⟨x4, y4, z4⟩ := fromL_mem.mp h4
  have t0 : arrT (nthA as i0) = a := (T.nx x0 y0).1 z0
  have t1 : arrT (nthA as i1) = b := (T.nx x1 y1).2.1 z1
  have t2 : arrT (nthA as i2) = c := (T.nx x2 y2).2.2.1 z2
  have t3 : arrT (nthA as i3) = e := (T.nx x3 y3).2.2.2.1 z3
  have t4 : arrT (nthA as i4) = 0 := (T.nx x4 y4).2.2.2.2 z4
  have es : srcL as [i0, i1, i2, i3, i4] = [0, a, b, c, e] := by
    show [arrS (nthA as i0), arrS (nthA as i1), arrS (nthA as i2), arrS (nthA as i3), arrS (nthA as i4)] = _
    rw [z0, z1, z2, z3, z4]
  refine ⟨0, .zero, by simp, ?_, ?_, ?_⟩
  · refine goes_cons.mpr ⟨x0, y0, z0, goes_cons.mpr ⟨x1, y1, by omega, goes_cons.mpr ⟨x2, y2, by omega, goes_cons.mpr ⟨x3, y3, by omega, goes_cons.mpr ⟨x4, y4, by omega, ?_⟩⟩⟩⟩⟩
    exact t4
  · rw [es]
    simp
    omega
  · rw [es]
    intro s hs
    simp at hs
    omega
theorem T5.of_ring (T : T5 as a b c e) {r : List Int} (h : Ring as r) : r ∈ R5 as a b c e := by
  obtain ⟨n1, n2, n3, n4, n5, n6, n7, n8, n9, n10⟩ := T.ne
  obtain ⟨⟨b1, b2⟩, ⟨b3, b4⟩, ⟨b5, b6⟩, b7, b8⟩ := T.bd
  obtain ⟨p, _, R⟩ := h
  have step : ∀ {s : Int} {l : List Int}, Goes as s l p → l = [] ∧ s = p ∨ ∃ i u, l = i :: u ∧ 0 ≤ i ∧ i < as.length ∧ arrS (nthA as i) = s ∧ Goes as (arrT (nthA as i)) u p := fun {s l} g => by
    cases l with
    | nil => exact .inl ⟨rfl, g⟩
    | cons i u => obtain ⟨h0, h1, h2, h3⟩ := goes_cons.mp g; exact .inr ⟨i, u, rfl, h0, h1, h2, h3⟩
  have hge := R.ge
  have hnd := R.nd
  have g0 := R.go
  have hne := R.ne
  have tl : ∀ {i : Int} {u : List Int}, (∀ x ∈ srcL as (i :: u), p ≤ x) → ∀ x ∈ srcL as u, p ≤ x := fun h x hx => h x (List.mem_cons_of_mem _ hx)
  have z0 : ∀ {l : List Int}, Goes as 0 l p → p ≠ 0 → 0 ≤ p → (∀ x ∈ srcL as l, p ≤ x) → False := fun {l} g h1 h2 h3 => by
    rcases step g with ⟨_, z⟩ | ⟨i, u, rfl, _, _, hs, _⟩
    · exact h1 z.symm
    · have := h3 (arrS (nthA as i)) List.mem_cons_self
      omega
  have ze : ∀ {l : List Int}, Goes as e l p → p ≠ 0 → p ≠ e → 0 ≤ p → (∀ x ∈ srcL as l, p ≤ x) → False := fun {l} g h1 k1 h2 h3 => by
    rcases step g with ⟨_, z⟩ | ⟨i, u, rfl, h4, h5, hs, g'⟩
    · exact k1 z.symm
    · rw [(T.nx h4 h5).2.2.2.2 hs] at g'
      exact z0 g' h1 h2 (tl h3)
  have zc : ∀ {l : List Int}, Goes as c l p → p ≠ 0 → p ≠ e → p ≠ c → 0 ≤ p → (∀ x ∈ srcL as l, p ≤ x) → False := fun {l} g h1 k1 k2 h2 h3 => by
    rcases step g with ⟨_, z⟩ | ⟨i, u, rfl, h4, h5, hs, g'⟩
    · exact k2 z.symm
    · rw [(T.nx h4 h5).2.2.2.1 hs] at g'
      exact ze g' h1 k1 h2 (tl h3)
  have zb : ∀ {l : List Int}, Goes as b l p → p ≠ 0 → p ≠ e → p ≠ c → p ≠ b → 0 ≤ p → (∀ x ∈ srcL as l, p ≤ x) → False := fun {l} g h1 k1 k2 k3 h2 h3 => by
    rcases step g with ⟨_, z⟩ | ⟨i, u, rfl, h4, h5, hs, g'⟩
    · exact k3 z.symm
    · rw [(T.nx h4 h5).2.2.1 hs] at g'
      exact zc g' h1 k1 k2 h2 (tl h3)
  rcases step g0 with ⟨z, _⟩ | ⟨i0, u0, rfl, x0, y0, s0, g1⟩
  · exact absurd z hne
  have t0 := T.at_ x0 y0
  by_cases hp : p = 0
  · subst hp
    rw [(T.nx x0 y0).1 s0] at g1
    rcases step g1 with ⟨_, z⟩ | ⟨i1, u1, rfl, x1, y1, s1, g2⟩
    · exact absurd z n1
    rw [(T.nx x1 y1).2.1 s1] at g2
    rcases step g2 with ⟨_, z⟩ | ⟨i2, u2, rfl, x2, y2, s2, g3⟩
    · exact absurd z n2
    rw [(T.nx x2 y2).2.2.1 s2] at g3
    rcases step g3 with ⟨_, z⟩ | ⟨i3, u3, rfl, x3, y3, s3, g4⟩
    · exact absurd z n3
    rw [(T.nx x3 y3).2.2.2.1 s3] at g4
    rcases step g4 with ⟨_, z⟩ | ⟨i4, u4, rfl, x4, y4, s4, g5⟩
    · exact absurd z n4
    rw [(T.nx x4 y4).2.2.2.2 s4] at g5
    rcases step g5 with ⟨z, _⟩ | ⟨i5, u5, rfl, x5, y5, s5, g6⟩
    · subst z
      exact R5_mem.mpr ⟨i0, i1, i2, i3, i4, rfl, fromL_mem.mpr ⟨x0, y0, s0⟩, fromL_mem.mpr ⟨x1, y1, s1⟩, fromL_mem.mpr ⟨x2, y2, s2⟩, fromL_mem.mpr ⟨x3, y3, s3⟩, fromL_mem.mpr ⟨x4, y4, s4⟩⟩
    · exfalso
      have : arrS (nthA as i0) ∉ srcL as (i1 :: i2 :: i3 :: i4 :: i5 :: u5) := (List.nodup_cons.mp hnd).1
      exact this (by rw [s0, ← s5]; simp [srcL])
  · exfalso
    have hge' := tl hge
    rcases t0 with ⟨q1, q2⟩ | ⟨q1, q2⟩ | ⟨q1, q2⟩ | ⟨q1, q2⟩ | ⟨q1, q2⟩
    · omega
    · rw [q2] at g1
      exact zb g1 hp (by omega) (by omega) (by omega) (by omega) hge'
    · rw [q2] at g1
      exact zc g1 hp (by omega) (by omega) (by omega) hge'
    · rw [q2] at g1
      exact ze g1 hp (by omega) (by omega) hge'
    · rw [q2] at g1
      exact z0 g1 hp (by omega) hge'
theorem fromL_count (as : List Dt) (p : Int) : (fromL as p).length = as.countP fun x => decide (arrS x = p) := by
  have e : as = (idxL as.length).map (nthA as) := by
    refine List.ext_getElem (by rw [List.length_map, idxL_len]) fun i h1 h2 => ?_
    rw [List.getElem_map]
    unfold idxL
    rw [List.getElem_map, List.getElem_range]
    unfold nthA
    rw [Int.toNat_natCast, List.getElem?_eq_getElem h1]
    rfl
  conv => rhs; rw [e]
  rw [List.countP_map, List.countP_eq_length_filter]
  rfl
end
end Lw
set_option Elab.async false
set_option linter.all false
set_option maxRecDepth 100000
set_option maxHeartbeats 4000000
/-! Vh: the law's thick ring. -/
namespace Lw
open PySem PySem.Spec PyProof.Rows L2 Mn
section
variable {S : Bxs}
theorem thick5_ok {b c t0 : Nat} {w : Dt} {size : Nat} {ks hs rs : List Dt} {nm : List Int} (B : Bag S b c) (W : Works w size ks hs rs) (ht : S[t0]? = some (.lst (nm.map Dt.int))) (ht0 : t0 ≠ b) (hn5 : nm.length = 5) (hnp : ∀ x ∈ nm, 1 ≤ x ∧ x ≤ 5) :
    (F__law_thick_ring [.box b, w, .box t0] S).Wp (fun d S' => ∃ as p1 p2 p3 p4, d = .tup [.int 5, .tup as] ∧ Snd size hs.length d 5 as ∧ T5 as p1 p2 p3 p4 ∧ (∀ p, (fromL as p).length ≤ 5) ∧ P5 as p1 p2 p3 p4 = prodN (nm.map Int.toNat) ∧ as.length ≤ 25 ∧ as ≠ [] ∧ Bag S' b c ∧ Fr b S S') noX := by
  have ws1 := W.s1
  have ws0 := W.s0
  have whl := W.hl
  have wkl := W.kl
  have qB := B.lt
  have hwe := W.eq
  subst hwe
  refine w_body ?_
  unfold B__law_thick_ring
  simp only [startD, List.map_cons, List.map_nil, List.length_cons, List.length_nil, List.cons_append, List.nil_append, Nat.reduceAdd, Nat.reduceSub, List.replicate, List.replicate_succ, List.replicate_zero]
  and_intros
  refine (mixed_ok (xs := [1, 2, 3, 4].map Dt.int) ((B.app (x := .lst [Dt.int 0])).app (x := .lst ([1, 2, 3, 4].map Dt.int))) (seq_lst get_last) (by rw [List.length_append]; omega) (by decide)).mono (fun d S1 ⟨r, ys, ed, hr, er, pm, B1, F1⟩ => ?_) fun _ _ _ q => q
  subst ed
  obtain ⟨ts, rfl, tp⟩ := perm_ints pm
  have e0 : S1[S.length]? = some (.lst [Dt.int 0]) := F1.at_ (get_pre (List.prefix_append _ _) get_last) (by omega)
  have F01 : Fr b S S1 := (((Fr.refl b S).app (x := .lst [Dt.int 0])).app (x := .lst ([1, 2, 3, 4].map Dt.int))).trans F1
  refine w_addL (xs := [Dt.int 0]) (ys := ts.map Dt.int) (lst_of e0) (lst_of er) ?_
  have tl : ts.length = 4 := tp.length_eq
  refine w_newL (by rw [List.length_append, List.length_map, tl]; exact Nat.le_trans (m := 5) (Nat.le_refl _) (by decide)) ?_
  have eo : (S1 ++ [MBox.lst ([Dt.int 0] ++ ts.map Dt.int)])[S1.length]? = some (.lst ((0 :: ts).map Dt.int)) := get_last
  have B2 := B1.app (x := .lst ([Dt.int 0] ++ ts.map Dt.int))
  have F2 := F01.app (x := .lst ([Dt.int 0] ++ ts.map Dt.int))
  have q1 := F01.len
  generalize S1 ++ [MBox.lst ([Dt.int 0] ++ ts.map Dt.int)] = S2 at eo B2 F2 ⊢
  generalize S1.length = ob at eo q1 ⊢
  have olen : (0 :: ts).length = 5 := by rw [List.length_cons, tl]
  have ond : (0 :: ts).Nodup := (List.Perm.cons 0 tp).nodup_iff.mpr (by decide)
  have obd : ∀ x ∈ (0 :: ts), (0 : Int) ≤ x ∧ x < 5 := fun x hx => by
    have := (List.Perm.cons 0 tp).mem_iff.mp hx
    simp at this
    omega
  have ohd : (0 :: ts)[0]? = some (0 : Int) := rfl
  generalize 0 :: ts = o at eo olen ond obd ohd
  clear pm tp tl er e0 F01 F1 hr B1
  have hob : ob ≠ b := by omega
  and_intros
  refine w_srcEnumB ?_
  and_intros
  have p23 := List.prefix_append S2 [MBox.lst []]
  have ht2 : S2[t0]? = some (.lst (nm.map Dt.int)) := F2.at_ ht ht0
  have hta := get_lt ht2
  have hoa := get_lt eo
  refine ⟨_, _, rfl, seq_lst (get_pre p23 ht2), ?_⟩
  have ea0 : (S2 ++ [MBox.lst []])[S2.length]? = some (.lst []) := get_last
  have eo3 := get_pre p23 eo
  have ht3 := get_pre p23 ht2
  have B3 := B2.app (x := .lst [])
  have F3 := F2.app (x := .lst [])
  have q2 := F2.len
  generalize S2 ++ [MBox.lst []] = S3 at ea0 eo3 ht3 B3 F3 ⊢
  generalize S2.length = a at ea0 hta hoa q2 ⊢
  have hab : a ≠ b := by omega
  have qc := B2.lt
  have hac : a ≠ c := by omega
  refine w_loop (fun i σ S' => ∃ d5 d6 as, σ = [some (.box b), some (.tup [.tup ks, .tup hs, .tup rs]), some (.box t0), some (.box ob), some (.box a), d5, d6] ∧ S'[a]? = some (.lst as) ∧ as.length ≤ 5 * i ∧ (∀ x ∈ as, (∃ s t lot crew, Arw 5 size hs.length x s t lot crew) ∧ ∃ k, k < 5 ∧ Lnk o k x) ∧ (∀ (j : Nat) (p : Int), o[j]? = some p → as.countP (fun x => decide (arrS x = p)) = if j < i then ((nm[j]?).getD 0).toNat else 0) ∧ (∀ p, as.countP (fun x => decide (arrS x = p)) ≤ 5) ∧ S'[ob]? = some (.lst (o.map Dt.int)) ∧ S'[t0]? = some (.lst (nm.map Dt.int)) ∧ Bag S' b c ∧ Fr b S S')
    (fun i σ S' ⟨_, _, _, _, _, _, _, _, _, _, et, _⟩ => w_seqB et) (fun i x σ S8 hx ⟨d5, d6, as, e, ea, hl, hA, hK, hM, eo, et, B8, F8⟩ => ?_) (fun σ S8 ⟨d5, d6, as, e, ea, hl, hA, hK, hM, eo, et, B8, F8⟩ => ?_) ⟨_, _, [], rfl, ea0, Nat.zero_le _, (fun _ z => nomatch z), (fun j p _ => by simp), (fun _ => by simp), eo3, ht3, B3, F3⟩
  · subst e
    obtain ⟨y, hy, rfl⟩ := placed_get hx
    rw [List.getElem?_map] at hy
    obtain ⟨v, hv, rfl⟩ := Option.map_eq_some_iff.mp hy
    have hi5 : i < 5 := by have := (List.getElem?_eq_some_iff.mp hv).1; omega
    have hvb := hnp v (List.mem_of_getElem? hv)
    obtain ⟨s, hos⟩ : ∃ s, o[i]? = some s := ⟨_, List.getElem?_eq_getElem (by omega)⟩
    obtain ⟨t, htt⟩ : ∃ t, (o.drop 1 ++ [0])[i]? = some t := ⟨_, List.getElem?_eq_getElem (by rw [List.length_append, List.length_drop]; simp; omega)⟩
    have sb := obd s (List.mem_of_getElem? hos)
    have tb : 0 ≤ t ∧ t < 5 := by
      rcases List.mem_append.mp (List.mem_of_getElem? htt) with z | z
      · exact obd t (List.mem_of_mem_drop z)
      · have : t = 0 := by simpa using z
        omega
    have eO : atI ((o.map Dt.int).drop 1 ++ [Dt.int 0]) (i : Int) = some (.int t) := at_int (by omega) (by rw [Int.toNat_natCast, show (o.map Dt.int).drop 1 ++ [Dt.int 0] = (o.drop 1 ++ [0]).map Dt.int by rw [List.map_append, List.map_drop]; rfl, List.getElem?_map, htt]; rfl)
    and_intros
    refine ⟨ty_list ea, ?_⟩
    and_intros
    refine w_ixB (seq_lst eo) (at_int (i := (i : Int)) (by omega) (d := .int s) (by rw [Int.toNat_natCast, List.getElem?_map, hos]; rfl)) ?_
    and_intros
    refine w_slB (seq_lst eo) ?_
    rw [show Mn.cutD (o.map Dt.int) (some 1) none = (o.map Dt.int).drop 1 from cut_from (i := 1)]
    refine w_newL (by rw [List.length_drop, List.length_map, olen]; exact Nat.le_trans (m := 4) (Nat.le_refl _) (by decide)) ?_
    and_intros
    refine w_addL (xs := (o.map Dt.int).drop 1) (ys := [Dt.int 0]) (lst_of (get_pre (List.prefix_append _ _) get_last)) (lst_of get_last) ?_
    refine w_newL (by rw [List.length_append, List.length_drop, List.length_map, olen]; exact Nat.le_trans (m := 5) (Nat.le_refl _) (by decide)) ?_
    and_intros
    refine w_ixB (seq_lst get_last) eO ?_
    have p8 : S8 <+: S8 ++ [MBox.lst ((o.map Dt.int).drop 1)] ++ [MBox.lst [Dt.int 0]] ++ [MBox.lst ((o.map Dt.int).drop 1 ++ [Dt.int 0])] := by rw [List.append_assoc, List.append_assoc]; exact List.prefix_append _ _
    generalize S8 ++ [MBox.lst ((o.map Dt.int).drop 1)] ++ [MBox.lst [Dt.int 0]] ++ [MBox.lst ((o.map Dt.int).drop 1 ++ [Dt.int 0])] = S9 at p8 ⊢
    and_intros
    refine (nothing_ok W).mono (fun d S4 ⟨ed, e4⟩ => ?_) fun _ _ _ q => q
    subst ed
    subst e4
    and_intros
    refine ⟨Nat.le_of_ble_eq_true (by rfl), ?_⟩
    and_intros
    refine w_mulT0 (by omega) ?_
    and_intros
    refine ⟨Nat.le_of_ble_eq_true (by rfl), ?_⟩
    and_intros
    refine w_mulL (k := v) (lst_of get_last) ⟨by omega, by omega, Nat.le_of_ble_eq_true rfl⟩ ?_
    rw [List.flatten_replicate_singleton]
    refine w_newL (by rw [List.length_replicate]; exact Nat.le_trans (m := 5) (by omega) (by decide)) ?_
    and_intros
    have pA : S4 <+: S4 ++ [MBox.lst [Dt.tup [Dt.int s, Dt.int t, iv (List.replicate size 0), iv (List.replicate hs.length 0)]]] ++ [MBox.lst (List.replicate v.toNat (Dt.tup [Dt.int s, Dt.int t, iv (List.replicate size 0), iv (List.replicate hs.length 0)]))] := by rw [List.append_assoc]; exact List.prefix_append _ _
    have eN : (S4 ++ [MBox.lst [Dt.tup [Dt.int s, Dt.int t, iv (List.replicate size 0), iv (List.replicate hs.length 0)]]] ++ [MBox.lst (List.replicate v.toNat (Dt.tup [Dt.int s, Dt.int t, iv (List.replicate size 0), iv (List.replicate hs.length 0)]))])[(S4 ++ [MBox.lst [Dt.tup [Dt.int s, Dt.int t, iv (List.replicate size 0), iv (List.replicate hs.length 0)]]]).length]? = some (.lst (List.replicate v.toNat (Dt.tup [Dt.int s, Dt.int t, iv (List.replicate size 0), iv (List.replicate hs.length 0)]))) := get_last
    generalize S4 ++ [MBox.lst [Dt.tup [Dt.int s, Dt.int t, iv (List.replicate size 0), iv (List.replicate hs.length 0)]]] ++ [MBox.lst (List.replicate v.toNat (Dt.tup [Dt.int s, Dt.int t, iv (List.replicate size 0), iv (List.replicate hs.length 0)]))] = SA at pA eN ⊢
    have p8A := p8.trans pA
    have eaA := get_pre p8A ea
    refine w_extend (lst_of eaA) (w_seqB eN) (by rw [List.length_replicate]; exact Nat.le_trans (m := 30) (by omega) (by decide)) ?_
    have zin : ∀ n, Mn.In 0 9 (List.replicate n 0) := fun n i hi => by rw [List.eq_of_mem_replicate hi]; decide
    have R : Arw 5 size hs.length (Dt.tup [.int s, .int t, iv (List.replicate size 0), iv (List.replicate hs.length 0)]) s t (List.replicate size 0) (List.replicate hs.length 0) := ⟨rfl, sb.1, sb.2, tb.1, tb.2, List.length_replicate, List.length_replicate, zin _, zin _⟩
    have hL : Lnk o i (Dt.tup [.int s, .int t, iv (List.replicate size 0), iv (List.replicate hs.length 0)]) := ⟨by rw [R.src]; exact hos, by rw [R.tgt]; exact htt⟩
    have hsx := R.src
    generalize Dt.tup [.int s, .int t, iv (List.replicate size 0), iv (List.replicate hs.length 0)] = X at R hL hsx
    have cX : ∀ p, (List.replicate v.toNat X).countP (fun x => decide (arrS x = p)) = if s = p then v.toNat else 0 := fun p => by
      rw [List.countP_replicate, hsx]
      simp
    have oj : ∀ {j p}, o[j]? = some p → s = p → j = i := fun {j p} hj e => by
      subst e
      have h1 := List.getElem?_eq_some_iff.mp hj
      have h2 := List.getElem?_eq_some_iff.mp hos
      rcases Nat.lt_trichotomy j i with z | z | z
      · exact absurd (h1.2.trans h2.2.symm) (List.pairwise_iff_getElem.mp ond j i h1.1 h2.1 z)
      · exact z
      · exact absurd (h2.2.trans h1.2.symm) (List.pairwise_iff_getElem.mp ond i j h2.1 h1.1 z)
    refine .inl ⟨rfl, _, _, as ++ List.replicate v.toNat X, rfl, List.getElem?_set_self (get_lt eaA), by rw [List.length_append, List.length_replicate]; omega, fun x hx => ?_, fun j p hj => ?_, fun p => ?_, by rw [List.getElem?_set_ne (by omega)]; exact get_pre p8A eo, by rw [List.getElem?_set_ne (by omega)]; exact get_pre p8A et, (B8.pre p8A).own hab hac, (F8.trans (Fr.pre p8A)).own (by omega)⟩
    · rcases List.mem_append.mp hx with z | z
      · exact hA x z
      · rw [List.eq_of_mem_replicate z]
        exact ⟨⟨_, _, _, _, R⟩, i, hi5, hL⟩
    · rw [List.countP_append, cX, hK j p hj]
      by_cases hsp : s = p
      · have ej := oj hj hsp
        subst ej
        rw [if_neg (Nat.lt_irrefl _), if_pos hsp, if_pos (Nat.lt_succ_self _), hv]
        simp
      · have hne : j ≠ i := fun z => by
          subst z
          rw [hos] at hj
          exact hsp (Option.some.inj hj)
        rw [if_neg hsp, Nat.add_zero]
        by_cases hji : j < i
        · rw [if_pos hji, if_pos (by omega)]
        · rw [if_neg hji, if_neg (by omega)]
    · rw [List.countP_append, cX]
      by_cases hsp : s = p
      · subst hsp
        rw [hK i s hos, if_neg (Nat.lt_irrefl _), if_pos rfl]
        omega
      · rw [if_neg hsp]; exact hM p
  · subst e
    have hl : as.length ≤ 5 * (placed (nm.map Dt.int)).length := hl
    have hK : ∀ (j : Nat) (p : Int), o[j]? = some p → as.countP (fun x => decide (arrS x = p)) = if j < (placed (nm.map Dt.int)).length then ((nm[j]?).getD 0).toNat else 0 := hK
    rw [placed_length, List.length_map, hn5] at hl hK
    refine c_nx ?_
    and_intros
    refine (mixed_ok B8 (seq_lst ea) hab (by omega)).mono (fun d S9 ⟨u, us, ed, hu, eu, pm, B9, F9⟩ => ?_) fun _ _ _ q => q
    subst ed
    have ul : us.length ≤ 25 := by rw [pm.length_eq]; exact hl
    have uA : ∀ x ∈ us, (∃ s t lot crew, Arw 5 size hs.length x s t lot crew) ∧ ∃ k, k < 5 ∧ Lnk o k x := fun x hx => hA x (pm.mem_iff.mp hx)
    have uK : ∀ (j : Nat) (p : Int), j < 5 → o[j]? = some p → (fromL us p).length = ((nm[j]?).getD 0).toNat := fun j p hj h => by
      rw [fromL_count, pm.countP_eq, hK j p h, if_pos hj]
    have uM : ∀ p, (fromL us p).length ≤ 5 := fun p => by
      rw [fromL_count, pm.countP_eq]; exact hM p
    and_intros
    refine w_tupB (seq_lst eu) ?_
    and_intros
    refine ⟨Nat.le_of_ble_eq_true (by rfl), ?_⟩
    have A : Snd size hs.length (.tup [.int 5, .tup us]) 5 us := ⟨rfl, by decide, by decide, by omega, fun x hx => (uA x hx).1⟩
    obtain ⟨p1, p2, p3, p4, rfl⟩ : ∃ p1 p2 p3 p4, o = [0, p1, p2, p3, p4] := by
      match o, olen, ohd with
      | [x, y, z, u, v], _, h =>
        cases h
        exact ⟨y, z, u, v, rfl⟩
    obtain ⟨m0, m1, m2, m3, m4, rfl⟩ : ∃ m0 m1 m2 m3 m4, nm = [m0, m1, m2, m3, m4] := by
      match nm, hn5 with
      | [x, y, z, u, v], _ => exact ⟨x, y, z, u, v, rfl⟩
    refine .inl ⟨_, rfl, us, p1, p2, p3, p4, rfl, A, ⟨?_, ?_, fun x hx => ?_⟩, uM, ?_, ul, fun z => ?_, B9, F8.trans F9⟩
    · simp at ond
      omega
    · exact ⟨obd p1 (by simp), obd p2 (by simp), obd p3 (by simp), obd p4 (by simp)⟩
    · obtain ⟨_, k, hk, h1, h2⟩ := uA x hx
      have : k = 0 ∨ k = 1 ∨ k = 2 ∨ k = 3 ∨ k = 4 := by omega
      rcases this with rfl | rfl | rfl | rfl | rfl
      · exact .inl ⟨(Option.some.inj h1).symm, (Option.some.inj h2).symm⟩
      · exact .inr (.inl ⟨(Option.some.inj h1).symm, (Option.some.inj h2).symm⟩)
      · exact .inr (.inr (.inl ⟨(Option.some.inj h1).symm, (Option.some.inj h2).symm⟩))
      · exact .inr (.inr (.inr (.inl ⟨(Option.some.inj h1).symm, (Option.some.inj h2).symm⟩)))
      · exact .inr (.inr (.inr (.inr ⟨(Option.some.inj h1).symm, (Option.some.inj h2).symm⟩)))
    · unfold P5
      rw [uK 0 0 (by decide) rfl, uK 1 p1 (by decide) rfl, uK 2 p2 (by decide) rfl, uK 3 p3 (by decide) rfl, uK 4 p4 (by decide) rfl]
      rfl
    · have h0 := uK 0 0 (by decide) rfl
      rw [z] at h0
      have := hnp m0 (by simp)
      have h1 : (0 : Nat) = m0.toNat := h0
      omega
end
end Lw
set_option Elab.async false
set_option linter.all false
set_option maxRecDepth 100000
set_option maxHeartbeats 4000000
/-! Vi: the law's rings, within a bound of steps. -/
namespace Lw
open PySem PySem.Spec PyProof.Rows L2 Mn
section
variable {S : Bxs} {size hl : Nat} {d : Dt} {pl : Int} {as : List Dt}
/-- what the arrows from p weigh -/
def VW (W : Int → Nat) (as : List Dt) (p : Int) : Nat := ((fromL as p).map fun i => W (arrT (nthA as i))).sum
def wS (W : Int → Nat) (todo : List TW) : Nat := (todo.map fun x => W x.2).sum
theorem wS_app {W : Int → Nat} {a b : List TW} : wS W (a ++ b) = wS W a + wS W b := by unfold wS; rw [List.map_append, List.sum_append]
theorem wS_snoc {W : Int → Nat} {a : List TW} {x : TW} : wS W (a ++ [x]) = wS W a + W x.2 := by rw [wS_app]; simp [wS]
theorem wS_new {W : Int → Nat} {w : List Int} {q : Int} : wS W (newT as w q) = VW W as q := by
  unfold wS newT VW
  rw [List.map_map]
  rfl
theorem lrings_full (A : Snd size hl d pl as) {most : Int} (m1 : most ≤ 20000) (W : Int → Nat) (w1 : ∀ q, 1 ≤ W q) (hW : ∀ q, 0 < q → VW W as q + 1 ≤ W q) (hT : ((((comeL as).map (VW W as)).sum : Nat) : Int) ≤ most) :
    (F__law_rings [d, .int most] S).Wp (fun r S' => (∃ n ls, r = .box n ∧ S.length ≤ n ∧ S'[n]? = some (.lst ((tsort ls).map iv)) ∧ ls.Nodup ∧ (ls.length : Int) ≤ most ∧ ∀ r, r ∈ ls ↔ Ring as r) ∧ S <+: S') noX := by
  have m0 : 0 ≤ most := by omega
  have hae := A.eq
  have aal := A.al
  have p0 := A.p0
  have p1 := A.p1
  subst hae
  refine w_body ?_
  unfold B__law_rings
  simp only [startD, List.map_cons, List.map_nil, List.length_cons, List.length_nil, List.cons_append, List.nil_append, Nat.reduceAdd, Nat.reduceSub, List.replicate, List.replicate_succ, List.replicate_zero]
  and_intros
  refine (law_come_ok A).mono (fun r S1 ⟨th, e1, hth, eth, C, pS1⟩ => ?_) fun _ _ _ q => q
  subst e1
  have ef : S1[S.length]? = some (.lst []) := get_pre pS1 get_last
  have p01 : S <+: S1 := (List.prefix_append _ _).trans pS1
  have hfth : S.length < th := by rw [List.length_append] at hth; exact hth
  have hS0 : S.length ≤ S.length := Nat.le_refl _
  generalize hf : S.length = f at ef hfth hS0
  have hfS : S.length ≤ f := by omega
  and_intros
  refine ⟨_, w_seqB eth, ?_⟩
  refine w_loop (fun i σ S' => ∃ d5 d6 d7 d8 d9 d10 st fnd, σ = [some (.tup [.int pl, .tup as]), some (.int most), some (.box f), some (.int st), some (.box th), d5, d6, d7, d8, d9, d10] ∧ S'[f]? = some (.lst (fnd.map iv)) ∧ IL S' th (comeL as) ∧ fnd.Nodup ∧ (∀ r, r ∈ fnd ↔ ∃ p ∈ (comeL as).take i, RingF as p r) ∧ (fnd.length : Int) ≤ st ∧ st ≤ most ∧ S <+: S' ∧ st + (((((comeL as).drop i).map (VW W as)).sum : Nat) : Int) ≤ most)
    (fun i σ S' ⟨_, _, _, _, _, _, _, _, _, _, h, _⟩ => w_seqB h) (fun i x σ S2 hx ⟨d5, d6, d7, d8, d9, d10, st, fnd0, e, hf2, ht2, nd0, mem0, len0, st0, p2, hv⟩ => ?_) (fun σ S2 ⟨d5, d6, d7, d8, d9, d10, st, fnd, e, hf2, ht2, nd0, mem0, len0, st0, p2, hv⟩ => ?_) ⟨_, _, _, _, _, _, 0, [], rfl, ef, eth, List.nodup_nil, (fun r => ⟨(fun z => nomatch z), fun ⟨p, hp, _⟩ => nomatch hp⟩), by simp, m0, p01, by rw [List.drop_zero]; omega⟩
  · subst e
    obtain ⟨p, rfl, hp, hpm, hptk⟩ := int_at hx
    have p0z : 0 ≤ p := by have := A.rch ((C.2 p).mp hpm); omega
    have hdr : (comeL as).drop i = p :: (comeL as).drop (i + 1) := by
      have h := List.getElem?_eq_some_iff.mp hp
      rw [← h.2]
      exact List.drop_eq_getElem_cons h.1
    rw [hdr, List.map_cons, List.sum_cons] at hv
    have hfresh : ∀ r ∈ fnd0, ¬ RingF as p r := fun r hr hrp => by
      obtain ⟨p', hp', hr'⟩ := (mem0 r).mp hr
      have e1 : p' = p := by
        have h1 := hr'.go
        have h2 := hrp.go
        cases r with
        | nil => exact absurd rfl hrp.ne
        | cons i r => rw [← (goes_cons.mp h1).2.2.1, ← (goes_cons.mp h2).2.2.1]
      subst e1
      have hnd := (C.1 : (comeL as).Nodup)
      have hi := (List.getElem?_eq_some_iff.mp hp)
      obtain ⟨k, hk, ek⟩ := List.mem_iff_getElem.mp hp'
      rw [List.length_take] at hk
      rw [List.getElem_take] at ek
      exact List.pairwise_iff_getElem.mp hnd k i (by omega) hi.1 (by omega) (ek.trans hi.2.symm)
    and_intros
    refine fromMap_ok A (q := p) (w := []) rfl rfl (fun i S' hi hS' => ?_) (fun t S3 htl et p3 => ?_)
    · obtain ⟨h0, h1, _⟩ := fromL_mem.mp hi
      obtain ⟨s, t, lot, crew, _, _, eat, R⟩ := A.arw h0 h1
      rw [R.tgt]
      rw [R.eq] at eat
      and_intros
      refine ⟨Nat.le_of_ble_eq_true (by rfl), ?_⟩
      and_intros
      refine w_ixT eat ?_
      and_intros
      exact ⟨Nat.le_of_ble_eq_true (by rfl), rfl, rfl⟩
    have hdi := DI.start (as := as) aal p
    have hf3 := get_pre p3 hf2
    have ht3 : IL S3 th (comeL as) := get_pre p3 ht2
    have p03 := p2.trans p3
    have q2 := p2.length_le
    have tf : t ≠ f := by have := get_lt hf2; omega
    have tth : t ≠ th := by have := get_lt ht2; omega
    have tS : S.length ≤ t := by omega
    clear p3
    refine c_nx ?_
    refine w_while (fun m σ S' => ∃ d7 d8 d9 d10 st fnd todo, σ = [some (.tup [.int pl, .tup as]), some (.int most), some (.box f), some (.int st), some (.box th), some (.int p), some (.box t), d7, d8, d9, d10] ∧ S'[f]? = some (.lst ((fnd0 ++ fnd).map iv)) ∧ S'[t]? = some (.lst (todo.map tD)) ∧ IL S' th (comeL as) ∧ DI as p fnd todo ∧ ((fnd0 ++ fnd).length : Int) ≤ st ∧ st ≤ most ∧ most - st ≤ (m : Int) ∧ S <+: S' ∧ st + (wS W todo : Int) + (((((comeL as).drop (i + 1)).map (VW W as)).sum : Nat) : Int) ≤ most)
      (fun m σ S4 ⟨d7, d8, d9, d10, st, fnd, todo, e, hf4, ht4, hc4, D, len4, st4, hm4, p4, hv4⟩ => ?_) (most - st).toNat ⟨_, _, _, _, st, [], newT as [] p, rfl, by rw [List.append_nil]; exact hf3, et, ht3, hdi, by rw [List.append_nil]; exact len0, st0, by omega, p03, by rw [wS_new]; omega⟩
    · subst e
      have tl := D.len A
      have sms : ∀ x ∈ todo.map tD, Sm 59 x 200 := fun x hx => by
        obtain ⟨⟨w, q⟩, hy, rfl⟩ := List.mem_map.mp hx
        have hw : Wy as p w q := D.ok _ hy
        have hq : 0 ≤ q ∧ q < pl := by
          obtain ⟨i, h0, h1, e⟩ := goes_end hw.go hw.ne
          obtain ⟨s, t, lot, crew, _, _, _, R⟩ := A.arw h0 h1
          have et : q = t := e.trans R.tgt
          rw [et]
          exact ⟨R.t0, R.t1⟩
        exact sm_tw aal (goes_ixs hw.go) (hw.len A) (by omega)
      and_intros
      have pp := List.prefix_append S4 [MBox.lst []]
      refine w_neNil (seq_lst (get_pre pp ht4)) (seq_lst get_last) sms ?_
      refine ⟨_, rfl, fun hh => ?_, fun hh => ?_⟩
      · have tne : todo ≠ [] := fun z => by rw [z] at hh; cases hh
        obtain ⟨tr, ⟨w, q⟩, rfl⟩ : ∃ us u, todo = us ++ [u] := ⟨_, _, (List.dropLast_concat_getLast tne).symm⟩
        have hw : Wy as p w q := D.ok (w, q) (by simp)
        have hwl := hw.len A
        have hwi := goes_ixs hw.go
        have hf5 := get_pre pp hf4
        have ht5 := get_pre pp ht4
        have hc5 : IL (S4 ++ [MBox.lst []]) th (comeL as) := get_pre pp hc4
        have p5 := p4.trans pp
        generalize S4 ++ [MBox.lst []] = S5 at hf5 ht5 hc5 p5 ⊢
        and_intros
        refine w_meth0 ?_
        and_intros
        refine ⟨ty_list ht5, ?_⟩
        rw [List.map_append] at ht5
        refine w_popB ht5 ?_
        have ht6 : (S5.set t (.lst (tr.map tD)))[t]? = some (.lst (tr.map tD)) := List.getElem?_set_self (get_lt ht5)
        have hf6 : (S5.set t (.lst (tr.map tD)))[f]? = some (.lst ((fnd0 ++ fnd).map iv)) := by rw [List.getElem?_set_ne tf]; exact hf5
        have hc6 : IL (S5.set t (.lst (tr.map tD))) th (comeL as) := hc5.skip tth
        have p6 : S <+: S5.set t (.lst (tr.map tD)) := pre_set p5 tS
        generalize S5.set t (.lst (tr.map tD)) = S6 at hf6 ht6 hc6 p6 ⊢
        show (tTupG 2 (tConsG (tName 7) (tConsG (tName 8) tNilG)) (.tup [iv w, .int q]) _ S6).Wp _ _
        and_intros
        refine w_aug rfl ?_
        and_intros
        refine ⟨fun hgt => ?_, fun hle => ?_⟩
        · have hgt : st + 1 > most := of_decide_eq_true hgt
          rw [show wS W (tr ++ [(w, q)]) = wS W tr + W q from wS_snoc] at hv4
          have := w1 q
          omega
        · have hle : ¬ st + 1 > most := of_decide_eq_false hle
          rw [show wS W (tr ++ [(w, q)]) = wS W tr + W q from wS_snoc] at hv4
          have hw1 := w1 q
          refine w_sNil (c_nx ?_)
          and_intros
          refine w_lcP ?_
          and_intros
          refine ⟨fun _ => true, fun x e => ∃ i, x = .int i ∧ e = .int (arrS (nthA as i)), by rw [List.length_map]; exact Nat.lt_of_le_of_lt hwl (by decide), fun _ _ => rfl, fun x S' hx hS' => ?_, fun ds S7 he hn7 p7 => ?_⟩
          · obtain ⟨i, hi, rfl⟩ := List.mem_map.mp hx
            obtain ⟨s, t, lot, crew, _, _, eat, R⟩ := A.arw (hwi i hi).1 (hwi i hi).2
            and_intros
            refine w_yes ⟨rfl, (fun z => nomatch z), fun _ => ?_⟩
            and_intros
            refine w_ixT eat ?_
            rw [R.eq]
            and_intros
            exact ⟨⟨i, rfl, by rw [R.src]⟩, List.prefix_refl _⟩
          rw [filter_yes] at he
          have e3 : Each (fun x e => e = match x with | Dt.int i => .int (arrS (nthA as i)) | _ => .non) (w.map Dt.int) ds := he.mono fun x e ⟨i, e1, e2⟩ => by rw [e1, e2]
          have eds : ds = (srcL as w).map Dt.int := by
            rw [e3.map, List.map_map]
            unfold srcL
            rw [List.map_map]
            rfl
          rw [eds] at hn7
          have hn7 : IL S7 S6.length (srcL as w) := hn7
          have hf7 := get_pre p7 hf6
          have ht7 := get_pre p7 ht6
          have hc7 : IL S7 th (comeL as) := hc6.pre p7
          have p07 := p6.trans p7
          generalize S6.length = g at hn7
          clear he e3 eds p7
          and_intros
          refine ⟨fun hq => ?_, fun hq => ?_⟩
          · have hq : q = p := of_decide_eq_true hq
            and_intros
            refine ⟨ty_list hf7, ?_⟩
            and_intros
            refine w_append (lst_of hf7) (by rw [List.length_map]; exact Nat.lt_of_le_of_lt (show (fnd0 ++ fnd).length ≤ 20000 by omega) (by decide)) ?_
            refine .inl ⟨rfl, (most - (st + 1)).toNat, by omega, _, _, _, _, st + 1, fnd ++ [w], tr, rfl, ?_, ?_, hc7.skip (by omega), D.hit hq, ?_, by omega, by omega, pre_set p07 (by omega), by omega⟩
            · rw [show (fnd0 ++ (fnd ++ [w])).map iv = (fnd0 ++ fnd).map iv ++ [iv w] by simp]
              exact List.getElem?_set_self (get_lt hf7)
            · rw [List.getElem?_set_ne tf.symm]; exact ht7
            · rw [← List.append_assoc, List.length_append]; simp only [List.length_cons, List.length_nil]; omega
          · have hq : q ≠ p := of_decide_eq_false hq
            and_intros
            have other : (¬ (p < q ∧ q ∉ srcL as w)) → (sNil [some (.tup [.int pl, .tup as]), some (.int most), some (.box f), some (.int (st + 1)), some (.box th), some (.int p), some (.box t), some (iv w), some (.int q), some (.box g), d10] S7).Wp (fun r S8 => r.1 = .nx ∧ ∃ m', m' < m ∧ ∃ d7 d8 d9 d10 st fnd todo, r.2 = [some (.tup [.int pl, .tup as]), some (.int most), some (.box f), some (.int st), some (.box th), some (.int p), some (.box t), d7, d8, d9, d10] ∧ S8[f]? = some (.lst ((fnd0 ++ fnd).map iv)) ∧ S8[t]? = some (.lst (todo.map tD)) ∧ IL S8 th (comeL as) ∧ DI as p fnd todo ∧ ((fnd0 ++ fnd).length : Int) ≤ st ∧ st ≤ most ∧ most - st ≤ (m' : Int) ∧ S <+: S8 ∧ st + (wS W todo : Int) + (((((comeL as).drop (i + 1)).map (VW W as)).sum : Nat) : Int) ≤ most) noX := fun hno => by
              exact w_sNil ⟨rfl, (most - (st + 1)).toNat, by omega, _, _, _, _, st + 1, fnd, tr, rfl, hf7, ht7, hc7, D.drop hq hno, by omega, by omega, by omega, p07, by omega⟩
            refine ⟨fun hgt => ?_, fun hgt => ?_⟩
            · have hgt : p < q := of_decide_eq_true hgt
              and_intros
              refine w_inI hn7.seq ?_
              refine ⟨_, rfl, fun hin => ?_, fun hin => ?_⟩
              · have hin : q ∉ srcL as w := fun z => by simp [z] at hin
                and_intros
                refine ⟨ty_list ht7, ?_⟩
                and_intros
                refine fromMap_ok A (q := q) (w := w) rfl rfl (fun i S' hi hS' => ?_) (fun u S8 hul eu p8 => ?_)
                · obtain ⟨h0, h1, _⟩ := fromL_mem.mp hi
                  obtain ⟨s, t, lot, crew, _, _, eat, R⟩ := A.arw h0 h1
                  rw [R.tgt]
                  rw [R.eq] at eat
                  and_intros
                  refine ⟨Nat.le_of_ble_eq_true (by rfl), ?_⟩
                  refine w_addT (by rw [List.length_map]; exact Nat.le_trans (m := 11) (show w.length + 1 ≤ 11 by omega) (by decide)) ?_
                  and_intros
                  refine w_ixT eat ?_
                  and_intros
                  refine ⟨Nat.le_of_ble_eq_true (by rfl), ?_, rfl⟩
                  show _ = Dt.tup [Dt.tup ((w ++ [i]).map Dt.int), Dt.int t]
                  rw [List.map_append]
                  rfl
                have hf8 := get_pre p8 hf7
                have ht8 := get_pre p8 ht7
                have nl : (newT as w q).length ≤ 40 := by
                  unfold newT
                  rw [List.length_map]
                  have := fromL_len (as := as) (p := q)
                  omega
                have D' := D.more aal hgt hin
                have tl2 := D'.len A
                refine w_nil (w_extend (lst_of ht8) (w_seqB eu) (by rw [← List.length_append, ← List.map_append, List.length_map]; exact Nat.le_trans tl2 (by decide)) ?_)
                refine .inl ⟨rfl, (most - (st + 1)).toNat, by omega, _, _, _, _, st + 1, fnd, tr ++ newT as w q, rfl, ?_, ?_, (hc7.pre p8).skip tth, D', by omega, by omega, by omega, pre_set (p07.trans p8) tS, by have := hW q (by omega); rw [wS_app, wS_new]; omega⟩
                · rw [List.getElem?_set_ne tf]; exact hf8
                · rw [List.map_append]
                  exact List.getElem?_set_self (get_lt ht8)
              · have hin : q ∈ srcL as w := by
                  cases h : decide (q ∈ srcL as w) with
                  | true => exact of_decide_eq_true h
                  | false => rw [h] at hin; cases hin
                exact (other fun z => z.2 hin).mono (fun r S8 h => .inl h) fun _ _ _ q => q
            · have hgt : ¬ p < q := of_decide_eq_false hgt
              refine ⟨(fun z => nomatch z), fun _ => ?_⟩
              exact (other fun z => hgt z.1).mono (fun r S8 h => .inl h) fun _ _ _ q => q
      · have tne : todo = [] := by
          cases todo with
          | nil => rfl
          | cons x l => cases hh
        subst tne
        refine .inl ⟨rfl, _, _, _, _, _, _, st, fnd0 ++ fnd, rfl, get_pre pp hf4, get_pre pp hc4, ?_, fun r => ?_, len4, st4, p4.trans pp, by have e0 : wS W [] = 0 := rfl; rw [e0] at hv4; omega⟩
        · refine List.nodup_append.mpr ⟨nd0, D.nodup, fun a ha b hb e => ?_⟩
          subst e
          exact hfresh a ha (D.snd a hb)
        · rw [hptk, List.mem_append, mem0]
          constructor
          · rintro (⟨p', h1, h2⟩ | h)
            · exact ⟨p', by simp [h1], h2⟩
            · exact ⟨p, by simp, D.snd r h⟩
          · rintro ⟨p', h1, h2⟩
            rcases List.mem_append.mp h1 with z | z
            · exact .inl ⟨p', z, h2⟩
            · rw [List.mem_singleton.mp z] at h2
              rcases D.cmp r h2 with y | ⟨x, hx, _⟩
              · exact .inr y
              · cases hx
  · subst e
    rw [List.length_map, List.take_length] at mem0
    and_intros
    refine w_sortT (seq_lst hf2) (fun l hl => ?_) (Nat.le_trans (show fnd.length ≤ 20000 by omega) (by decide)) ?_
    · obtain ⟨p, _, hr⟩ := (mem0 l).mp hl
      exact hr.ne
    · refine .inl ⟨_, rfl, ⟨_, fnd, rfl, by have := p2.length_le; omega, get_last, nd0, by omega, fun r => ?_⟩, p2.trans (List.prefix_append _ _)⟩
      rw [mem0]
      exact ⟨fun ⟨p, hp, hr⟩ => ⟨p, (C.2 p).mp hp, hr⟩, fun ⟨p, hp, hr⟩ => ⟨p, (C.2 p).mpr hp, hr⟩⟩
end
end Lw
set_option Elab.async false
set_option linter.all false
set_option maxRecDepth 100000
set_option maxHeartbeats 4000000
/-! Vj: counts and weights of a thick ring. -/
namespace Lw
open PySem PySem.Spec PyProof.Rows L2 Mn
section
variable {S : Bxs} {size hl : Nat} {d : Dt} {pl : Int} {as : List Dt} {a b c e : Int}
theorem sum_sub {f : Int → Nat} : ∀ {xs ys : List Int}, xs.Nodup → (∀ x ∈ xs, x ∈ ys) → (xs.map f).sum ≤ (ys.map f).sum
  | [], ys, _, _ => Nat.zero_le _
  | x :: xs, ys, hn, hs => by
    have hx := hs x List.mem_cons_self
    have h2 := List.nodup_cons.mp hn
    have ih := sum_sub (f := f) (xs := xs) (ys := ys.erase x) h2.2 fun y hy => (List.mem_erase_of_ne (fun (e : y = x) => h2.1 (e ▸ hy))).mpr (hs y (List.mem_cons_of_mem _ hy))
    have p := ((List.perm_cons_erase hx).map f).sum_nat
    rw [List.map_cons, List.sum_cons] at p ⊢
    omega
theorem sum_le_all {f : Int → Nat} {k : Nat} : ∀ {xs : List Int}, (∀ x ∈ xs, f x ≤ k) → (xs.map f).sum ≤ xs.length * k
  | [], _ => by simp
  | x :: xs, h => by
    have ih := sum_le_all (f := f) (xs := xs) fun y hy => h y (List.mem_cons_of_mem _ hy)
    have := h x List.mem_cons_self
    rw [List.map_cons, List.sum_cons, List.length_cons, Nat.succ_mul]
    omega
def W5 (a b c e p : Int) : Nat := if p = a then 781 else if p = b then 156 else if p = c then 31 else if p = e then 6 else 1
theorem W5_pos (p : Int) : 1 ≤ W5 a b c e p := by
  unfold W5
  repeat' split
  all_goals decide
theorem T5.vw (T : T5 as a b c e) (h5 : ∀ p, (fromL as p).length ≤ 5) {q : Int} {k : Nat} (h : ∀ i ∈ fromL as q, W5 a b c e (arrT (nthA as i)) ≤ k) : VW (W5 a b c e) as q ≤ 5 * k :=
  Nat.le_trans (sum_le_all h) (Nat.mul_le_mul_right k (h5 q))
theorem T5.w (T : T5 as a b c e) : W5 a b c e 0 = 1 ∧ W5 a b c e a = 781 ∧ W5 a b c e b = 156 ∧ W5 a b c e c = 31 ∧ W5 a b c e e = 6 := by
  obtain ⟨n1, n2, n3, n4, n5, n6, n7, n8, n9, n10⟩ := T.ne
  unfold W5
  refine ⟨?_, ?_, ?_, ?_, ?_⟩
  · rw [if_neg (fun z => n1 z.symm), if_neg (fun z => n2 z.symm), if_neg (fun z => n3 z.symm), if_neg (fun z => n4 z.symm)]
  · rw [if_pos rfl]
  · rw [if_neg (fun z => n5 z.symm), if_pos rfl]
  · rw [if_neg (fun z => n6 z.symm), if_neg (fun z => n8 z.symm), if_pos rfl]
  · rw [if_neg (fun z => n7 z.symm), if_neg (fun z => n9 z.symm), if_neg (fun z => n10 z.symm), if_pos rfl]
theorem T5.hW (T : T5 as a b c e) (h5 : ∀ p, (fromL as p).length ≤ 5) : ∀ q, 0 < q → VW (W5 a b c e) as q + 1 ≤ W5 a b c e q := fun q hq => by
  obtain ⟨w0, wa, wb, wc, we⟩ := T.w
  by_cases ha : q = a
  · subst ha
    have := T.vw h5 (q := q) (k := 156) fun i hi => by
      obtain ⟨x, y, z⟩ := fromL_mem.mp hi
      rw [(T.nx x y).2.1 z, wb]
      exact Nat.le_refl _
    omega
  by_cases hb : q = b
  · subst hb
    have := T.vw h5 (q := q) (k := 31) fun i hi => by
      obtain ⟨x, y, z⟩ := fromL_mem.mp hi
      rw [(T.nx x y).2.2.1 z, wc]
      exact Nat.le_refl _
    omega
  by_cases hc : q = c
  · subst hc
    have := T.vw h5 (q := q) (k := 6) fun i hi => by
      obtain ⟨x, y, z⟩ := fromL_mem.mp hi
      rw [(T.nx x y).2.2.2.1 z, we]
      exact Nat.le_refl _
    omega
  by_cases he : q = e
  · subst he
    have := T.vw h5 (q := q) (k := 1) fun i hi => by
      obtain ⟨x, y, z⟩ := fromL_mem.mp hi
      rw [(T.nx x y).2.2.2.2 z, w0]
      exact Nat.le_refl _
    omega
  have := T.vw h5 (q := q) (k := 0) fun i hi => by
    obtain ⟨x, y, z⟩ := fromL_mem.mp hi
    have := T.at_ x y
    omega
  have := W5_pos (a := a) (b := b) (c := c) (e := e) q
  omega
theorem W5_le (p : Int) : W5 a b c e p ≤ 781 := by
  unfold W5
  repeat' split
  all_goals decide
theorem cm_come (A : Snd size hl d pl as) : Cm as (comeL as) := by
  obtain ⟨C, hC⟩ := cm_ex A
  rw [← hC.eq]
  exact hC.sorted
theorem T5.hT (A : Snd size hl d 5 as) (T : T5 as a b c e) (h5 : ∀ p, (fromL as p).length ≤ 5) : ((comeL as).map (VW (W5 a b c e) as)).sum ≤ 10000 := by
  have C := cm_come A
  have h1 : ∀ p ∈ comeL as, VW (W5 a b c e) as p ≤ if p = 0 then 3905 else 781 := fun p hp => by
    have hb := A.rch ((C.2 p).mp hp)
    split
    · exact T.vw h5 fun i _ => W5_le _
    · have := T.hW h5 p (by omega)
      have := W5_le (a := a) (b := b) (c := c) (e := e) p
      omega
  have h2 : ∀ {xs : List Int}, (∀ p ∈ xs, VW (W5 a b c e) as p ≤ if p = 0 then 3905 else 781) → (xs.map (VW (W5 a b c e) as)).sum ≤ (xs.map fun p => if p = 0 then 3905 else 781).sum := fun {xs} => by
    induction xs with
    | nil => intro _; exact Nat.le_refl _
    | cons x xs ih =>
      intro h
      have := ih fun y hy => h y (List.mem_cons_of_mem _ hy)
      have := h x List.mem_cons_self
      rw [List.map_cons, List.map_cons, List.sum_cons, List.sum_cons]
      omega
  refine Nat.le_trans (h2 h1) (Nat.le_trans (sum_sub (ys := [0, 1, 2, 3, 4]) C.1 fun p hp => ?_) (by decide))
  have hb := A.rch ((C.2 p).mp hp)
  simp
  omega
theorem prodN_perm {xs ys : List Nat} (h : xs.Perm ys) : prodN xs = prodN ys := by
  unfold prodN
  exact h.foldl_eq' (fun x _ y _ z => by rw [Nat.mul_assoc, Nat.mul_comm x y, ← Nat.mul_assoc]) 1
/-- all places of a thick ring are come to -/
theorem T5.rch (T : T5 as a b c e) (hP : 0 < P5 as a b c e) {as' : List Dt} (hs : ∀ x ∈ as, x ∈ as') : Rch as' a ∧ Rch as' b ∧ Rch as' c ∧ Rch as' e := by
  have pos := prodN_pos 0 hP
  have nxt : ∀ {p t : Int}, Rch as' p → 0 < (fromL as p).length → (∀ i, i ∈ fromL as p → arrT (nthA as i) = t) → Rch as' t := fun {p t} h h1 h2 => by
    obtain ⟨i, hi⟩ := List.exists_mem_of_length_pos h1
    obtain ⟨x, y, z⟩ := fromL_mem.mp hi
    rw [← h2 i hi]
    exact .step (hs _ (nthA_mem x y)) (by rw [z]; exact h)
  have ra : Rch as' a := nxt .zero (pos _ (by simp)) fun i hi => (T.nx (fromL_mem.mp hi).1 (fromL_mem.mp hi).2.1).1 (fromL_mem.mp hi).2.2
  have rb : Rch as' b := nxt ra (pos _ (by simp)) fun i hi => (T.nx (fromL_mem.mp hi).1 (fromL_mem.mp hi).2.1).2.1 (fromL_mem.mp hi).2.2
  have rc : Rch as' c := nxt rb (pos _ (by simp)) fun i hi => (T.nx (fromL_mem.mp hi).1 (fromL_mem.mp hi).2.1).2.2.1 (fromL_mem.mp hi).2.2
  have re : Rch as' e := nxt rc (pos _ (by simp)) fun i hi => (T.nx (fromL_mem.mp hi).1 (fromL_mem.mp hi).2.1).2.2.2.1 (fromL_mem.mp hi).2.2
  exact ⟨ra, rb, rc, re⟩
theorem T5.place (T : T5 as a b c e) {x : Int} (h0 : 0 ≤ x) (h1 : x < 5) : x = 0 ∨ x = a ∨ x = b ∨ x = c ∨ x = e := by
  obtain ⟨n1, n2, n3, n4, n5, n6, n7, n8, n9, n10⟩ := T.ne
  obtain ⟨⟨b1, b2⟩, ⟨b3, b4⟩, ⟨b5, b6⟩, b7, b8⟩ := T.bd
  refine Classical.byContradiction fun h => ?_
  have k1 : x ≠ 0 := fun z => h (.inl z)
  have k2 : x ≠ a := fun z => h (.inr (.inl z))
  have k3 : x ≠ b := fun z => h (.inr (.inr (.inl z)))
  have k4 : x ≠ c := fun z => h (.inr (.inr (.inr (.inl z))))
  have k5 : x ≠ e := fun z => h (.inr (.inr (.inr (.inr z))))
  have hn : [x, 0, a, b, c, e].Nodup := by
    simp only [List.nodup_cons, List.mem_cons, List.not_mem_nil, or_false, not_or, not_false_eq_true, List.nodup_nil, and_true]
    exact ⟨⟨k1, k2, k3, k4, k5⟩, ⟨n1.symm, n2.symm, n3.symm, n4.symm⟩, ⟨n5, n6, n7⟩, ⟨n8, n9⟩, n10⟩
  have h2 := nodup_le 5 _ hn fun y hy => by
    simp only [List.mem_cons, List.not_mem_nil, or_false] at hy
    rcases hy with rfl | rfl | rfl | rfl | rfl | rfl <;> omega
  exact absurd h2 (by simp)
/-- rings of a thick ring with one loop more -/
theorem goes_more {x : Dt} : ∀ {r : List Int} {p q : Int}, Goes as p r q → Goes (as ++ [x]) p r q
  | [], _, _, h => h
  | i :: r, p, q, ⟨y, h0, h1, h2, h3⟩ => ⟨y, h0, by
    have := (List.getElem?_eq_some_iff.mp h1).1
    rw [List.getElem?_append_left this]; exact h1, h2, goes_more h3⟩
theorem nthA_more {x : Dt} {i : Int} (h1 : i.toNat < as.length) : nthA (as ++ [x]) i = nthA as i := by
  unfold nthA
  rw [List.getElem?_append_left h1]
theorem rch_more {x : Dt} {p : Int} (h : Rch as p) : Rch (as ++ [x]) p := by
  induction h with
  | zero => exact .zero
  | step h1 _ ih => exact .step (List.mem_append_left _ h1) ih
theorem ring_more {x : Dt} {r : List Int} (h : Ring as r) : Ring (as ++ [x]) r := by
  obtain ⟨p, hr, R⟩ := h
  have es : srcL (as ++ [x]) r = srcL as r := List.map_congr_left fun i hi => by
    have := goes_ixs R.go i hi
    rw [nthA_more (by omega)]
  exact ⟨p, rch_more hr, R.ne, goes_more R.go, by rw [es]; exact R.nd, by rw [es]; exact R.ge⟩
theorem ring_loop {x : Dt} (h : arrS x = arrT x) (hr : Rch as (arrS x)) : Ring (as ++ [x]) [(as.length : Int)] := by
  have e : nthA (as ++ [x]) (as.length : Int) = x := nthA_of (by rw [Int.toNat_natCast]; simp)
  refine ⟨arrS x, rch_more hr, by simp, goes_cons.mpr ⟨by omega, by rw [List.length_append]; simp; omega, by rw [e], ?_⟩, by simp [srcL], fun s hs => ?_⟩
  · rw [e]
    exact h.symm
  · simp [srcL, e] at hs
    omega
/-- too many rings -/
theorem T5.many (T : T5 as a b c e) {ls : List (List Int)} (hP : 2000 < P5 as a b c e) (nd : ls.Nodup) (h : ∀ r, r ∈ ls ↔ Ring as r) : 2000 < ls.length := by
  have := nodup_subL (R5_nodup (as := as) (a := a) (b := b) (c := c) (e := e)) (b := ls) fun r hr => (h r).mpr (T.ring hr)
  rw [R5_len] at this
  omega
theorem T5.many1 (T : T5 as a b c e) {x : Dt} {ls : List (List Int)} (hP : P5 as a b c e = 2000) (hx : arrS x = arrT x) (h0 : 0 ≤ arrS x) (h1 : arrS x < 5) (h : ∀ r, r ∈ ls ↔ Ring (as ++ [x]) r) : 2000 < ls.length := by
  have hr : Rch as (arrS x) := by
    obtain ⟨ra, rb, rc, re⟩ := T.rch (by omega) (as' := as) fun _ h => h
    rcases T.place h0 h1 with z | z | z | z | z <;> rw [z]
    · exact .zero
    · exact ra
    · exact rb
    · exact rc
    · exact re
  have nd : (R5 as a b c e ++ [[(as.length : Int)]]).Nodup := List.nodup_append.mpr ⟨R5_nodup, by simp, fun u hu v hv => by
    rw [List.mem_singleton.mp hv]
    rintro rfl
    obtain ⟨i0, i1, i2, i3, i4, e, _⟩ := R5_mem.mp hu
    cases e⟩
  have := nodup_subL nd (b := ls) fun r hr' => by
    rcases List.mem_append.mp hr' with z | z
    · exact (h r).mpr (ring_more (T.ring z))
    · rw [List.mem_singleton.mp z]
      exact (h _).mpr (ring_loop hx hr)
  rw [List.length_append, R5_len, hP] at this
  simp at this
  omega
theorem T5.few (T : T5 as a b c e) {ls : List (List Int)} (hP : P5 as a b c e = 2000) (nd : ls.Nodup) (h : ∀ r ∈ ls, Ring as r) : ls.length ≤ 2000 := by
  have := nodup_subL nd (b := R5 as a b c e) fun r hr => T.of_ring (h r hr)
  rw [R5_len, hP] at this
  exact this
end
end Lw
set_option Elab.async false
set_option linter.all false
set_option maxRecDepth 100000
set_option maxHeartbeats 4000000
/-! Vk: the bound of 2000 rings. -/
namespace Lw
open PySem PySem.Spec PyProof.Rows L2 Mn
section
variable {S : Bxs} {size hl : Nat} {d : Dt} {pl : Int} {as : List Dt}
/-- rings_of, heard -/
theorem heardR28 {σ : Sg} {E : Nat → List Dt → Bxs → Prop} {P : Dt → Bxs → Prop} {v : Nat} (A : Snd size hl d pl as) (ht : S[1]? = some (.tab "_law_bound_right")) (ev : σ[v]? = some (some d))
    (h1 : ∀ (n : Nat) (ls : List (List Int)) S', S.length ≤ n → S'[n]? = some (.lst ((tsort ls).map iv)) → ls.Nodup → ls.length ≤ 2000 → (∀ r, r ∈ ls ↔ Ring as r) → S <+: S' → P (.tup [.str "told", .box n]) S')
    (h2 : ∀ (ls : List (List Int)) S', S <+: S' → ls.Nodup → (∀ r ∈ ls, Ring as r) → 2000 < ls.length → P (.tup [.str "many", .int 2000]) S') :
    (dHeard "_law_bound_right" 2 "told" [(15, hRet 1 "many" 0), (18, fun _ => sRet (dTup (aCons (dC (.str "other")) (aCons (dC .non) (aNil)))))] (dCall F_rings_of (aCons (dVar v) (aNil))) σ S).Wp P E := by
  refine w_heard (List.mem_of_getElem? ht) (w_call (w_consA (w_var ev (w_nil ((rings_of_ok A).mono (fun r S1 ⟨n, ls, er, hn, e1, nd, ln, mem, p⟩ => ?_) fun c es S1 ⟨ec, ee, p, ls, nd, mem, ln⟩ => ?_)))))
  · subst er
    exact h1 n ls S1 hn e1 nd ln mem p
  · subst ec; subst ee
    exact ⟨_, _, _, rfl, h2 ls S1 p nd mem ln⟩
theorem told_sm28 {n : Nat} : Sm (n + 1) (.str "told") 1000 := ⟨.str "told", fun S => .str (by decide +kernel) (by decide +kernel) (Nat.le_trans (by decide +kernel : (PyData.shown (.str "told")).length ≤ 10) (by decide))⟩
/-- every place one further -/
def shA : Dt → Dt
  | .tup (.int s :: .int t :: r) => .tup (.int (s + 1) :: .int (t + 1) :: r)
  | x => x
theorem Arw.sh {x : Dt} {s t : Int} {lot crew : List Int} (R : Arw pl size hl x s t lot crew) : Arw (pl + 1) size hl (shA x) (s + 1) (t + 1) lot crew := by
  have h0 := R.s0
  have h1 := R.s1
  have h2 := R.t0
  have h3 := R.t1
  exact ⟨by rw [R.eq]; rfl, by omega, by omega, by omega, by omega, R.ll, R.cl, R.lb, R.cb⟩
theorem Snd.away (A : Snd size hl d pl as) (h : pl ≤ 9) : Snd size hl (.tup [.int (pl + 1), .tup (as.map shA)]) (pl + 1) (as.map shA) := by
  have p0 := A.p0
  refine ⟨rfl, by omega, by omega, by rw [List.length_map]; exact A.al, fun x hx => ?_⟩
  obtain ⟨y, hy, rfl⟩ := List.mem_map.mp hx
  obtain ⟨s, t, lot, crew, R⟩ := A.ar y hy
  exact ⟨_, _, _, _, R.sh⟩
theorem away_no (A : Snd size hl d pl as) {p : Int} (h : Rch (as.map shA) p) : p = 0 := by
  induction h with
  | zero => rfl
  | step h1 _ ih =>
    obtain ⟨y, hy, rfl⟩ := List.mem_map.mp h1
    obtain ⟨s, t, lot, crew, R⟩ := A.ar y hy
    have := R.sh.src
    have := R.s0
    omega
theorem away_ring (A : Snd size hl d pl as) {r : List Int} (h : Ring (as.map shA) r) : False := by
  obtain ⟨p, hr, R⟩ := h
  have := away_no A hr
  subst this
  have g := R.go
  have ne := R.ne
  cases r with
  | nil => exact ne rfl
  | cons i u =>
    obtain ⟨h0, h1, h2, _⟩ := goes_cons.mp g
    obtain ⟨y, hy, e⟩ := List.mem_map.mp (nthA_mem h0 h1)
    obtain ⟨s, t, lot, crew, R⟩ := A.ar y hy
    have h3 := R.sh.src
    rw [e] at h3
    have := R.s0
    omega
theorem away_come (A : Snd size hl d pl as) {cs : List Int} (C : Cm (as.map shA) cs) : cs = [0] := by
  have h0 : (0 : Int) ∈ cs := (C.2 0).mpr .zero
  have h1 : ∀ x ∈ cs, x = 0 := fun x hx => away_no A ((C.2 x).mp hx)
  have nd := C.1
  cases cs with
  | nil => cases h0
  | cons x l =>
    have := h1 x List.mem_cons_self
    subst this
    cases l with
    | nil => rfl
    | cons y l =>
      have := h1 y (by simp)
      subst this
      exact absurd List.mem_cons_self (List.nodup_cons.mp nd).1
theorem pl_away {S : Bxs} {x n : Nat} (hx : S[x]? = some (.lst [.tup [.str "told", .box n], .tup [.int 0]])) (hn : S[n]? = some (.lst [])) : Pl S 60 (.box x) (.list [.tuple [.str "told", .list []], .tuple [.int 0]]) 1000000 := by
  have h0 : Pl S 58 (.int 0) (.int 0) 2 := Pl.mkInt 1 (by decide) (by decide) (by decide)
  have h1 : Pl S 58 (.str "told") (.str "told") 10 := .str (by decide +kernel) (by decide +kernel) (by decide +kernel)
  have h2 : Pl S 58 (.box n) (.list []) 10 := .box (seq_lst hn) .nil (by decide)
  have h3 : Pl S 59 (.tup [.str "told", .box n]) (.tuple [.str "told", .list []]) 100 := .tup (.cons h1 (.cons h2 .nil)) (by decide)
  have h4 : Pl S 59 (.tup [.int 0]) (.tuple [.int 0]) 100 := .tup (.cons h0 .nil) (by decide)
  exact .box (seq_lst hx) (.cons h3 (.cons h4 .nil)) (by decide)
theorem bound_right_ok {b c size : Nat} {w : Dt} {ks hs rs : List Dt} {S : Bxs} (B : Bag S b c) (W : Works w size ks hs rs) (b2 : 2 ≤ b) (t1 : S[1]? = some (.tab "_law_bound_right")) :
    (F__law_bound_right [.box b, w] S).Wp (fun r S' => r = .bl true) noX := by
  have qB := B.lt
  refine w_body ?_
  unfold B__law_bound_right
  simp only [startD, List.map_cons, List.map_nil, List.length_cons, List.length_nil, List.cons_append, List.nil_append, Nat.reduceAdd, Nat.reduceSub, List.replicate, List.replicate_succ, List.replicate_zero]
  and_intros
  refine (mixed_ok (xs := [5, 5, 5, 4, 4].map Dt.int) (B.app (x := .lst ([5, 5, 5, 4, 4].map Dt.int))) (seq_lst get_last) (by omega) (by decide)).mono (fun d S1 ⟨m, ys, ed, hm, em, pm, B1, F1⟩ => ?_) fun _ _ _ q => q
  subst ed
  obtain ⟨ns, rfl, np⟩ := perm_ints pm
  have F01 := ((Fr.refl b S).app (x := .lst ([5, 5, 5, 4, 4].map Dt.int))).trans F1
  have t2 := F01.at_ t1 (by omega)
  have hnp : ∀ x ∈ ns, 1 ≤ x ∧ x ≤ 5 := fun x hx => by
    have := np.mem_iff.mp hx
    simp at this
    omega
  have hmb : m ≠ b := by rw [List.length_append] at hm; omega
  have eP : prodN (ns.map Int.toNat) = 2000 := by rw [prodN_perm (np.map Int.toNat)]; decide
  and_intros
  refine (thick5_ok B1 W em hmb np.length_eq hnp).mono (fun d S2 ⟨as, p1, p2, p3, p4, ed, A, T, h5, hP, al, ane, B2, F2⟩ => ?_) fun _ _ _ q => q
  rw [eP] at hP
  have t3 := F2.at_ t2 (by omega)
  clear t1 t2 em hm hmb pm
  and_intros
  refine heardR28 A t3 rfl (fun n ls S3 hn e3 nd ln mem p23 => ?_) fun ls S3 p23 nd mem ln => absurd (T.few hP nd mem) (by omega)
  have B3 := B2.pre p23
  have t4 := get_pre p23 t3
  and_intros
  refine (lrings_full A (most := 10000) (by decide) (W5 p1 p2 p3 p4) W5_pos (T.hW h5) (by have := T.hT A h5; omega)).mono (fun r S4 ⟨⟨n2, ls2, er, hn2, e2, nd2, ln2, mem2⟩, p34⟩ => ?_) fun _ _ _ q => q
  subst er
  have eL : tsort ls2 = tsort ls := tsort_ext nd2 nd fun r => (mem2 r).trans (mem r).symm
  rw [eL] at e2
  have hL : ∀ r ∈ tsort ls, r.length ≤ 10 ∧ ∀ i ∈ r, 0 ≤ i ∧ i < 100 := fun r hr => ring_ixs A ((mem r).mp ((tsort_perm ls).mem_iff.mp hr))
  have hLl : (tsort ls).length ≤ 3000 := by rw [(tsort_perm ls).length_eq]; omega
  and_intros
  refine ⟨Nat.le_of_ble_eq_true rfl, ?_⟩
  and_intros
  refine (alikeT_ok (get_pre p34 e3) e2 told_sm28 hL hLl).mono (fun r S5 ⟨e5, eS⟩ => ?_) fun _ _ _ q => q
  subst e5; subst eS
  refine ⟨true, rfl, (fun z => nomatch z), fun _ => ?_⟩
  refine w_sNil ?_
  refine c_nx ?_
  have B5 := B3.pre p34
  have t5 := get_pre p34 t4
  clear e2 e3 eL hL hLl hn hn2 nd nd2 mem mem2 ln ln2
  and_intros
  refine w_lcP ?_
  and_intros
  refine (thick5_ok (B5.app (x := .lst ([5, 5, 5, 5, 4].map Dt.int))) W get_last (by have := B5.lt; omega) rfl (by decide)).mono (fun d2 S6 ⟨as2, q1, q2, q3, q4, ed2, A2, T2, h52, hP2, al2, ane2, B6, F6⟩ => ?_) fun _ _ _ q => q
  have F56 := ((Fr.refl b S5).app (x := .lst ([5, 5, 5, 5, 4].map Dt.int))).trans F6
  have t6 := F56.at_ t5 (by omega)
  subst ed2
  and_intros
  refine ⟨fun _ => true, fun x e => e = shA x, Nat.lt_of_le_of_lt al2 (by decide), fun _ _ => rfl, fun x S' hx hS' => ?_, fun ds S7 he hn7 p7 => ?_⟩
  · obtain ⟨s, u, lot, crew, R⟩ := A2.ar x hx
    have s0 := R.s0
    have s1 := R.s1
    have u0 := R.t0
    have u1 := R.t1
    rw [R.eq]
    and_intros
    refine w_yes ⟨rfl, (fun z => nomatch z), fun _ => ?_⟩
    and_intros
    refine ⟨Nat.le_of_ble_eq_true rfl, ?_⟩
    and_intros
    refine w_addT (xs := [Dt.int (s + 1), Dt.int (u + 1)]) (ys := [iv lot, iv crew]) (Nat.le_of_ble_eq_true rfl) ?_
    exact ⟨rfl, List.prefix_refl _⟩
  rw [filter_yes] at he
  have eds : ds = as2.map shA := (he.mono (Q' := fun x e => e = shA x) fun _ _ h => h).map
  rw [eds] at hn7
  have B7 := B6.pre p7
  have t7 := get_pre p7 t6
  and_intros
  refine w_tupB (seq_lst hn7) ?_
  and_intros
  refine ⟨Nat.le_of_ble_eq_true rfl, ?_⟩
  have A' : Snd size hs.length (.tup [.int 6, .tup (as2.map shA)]) 6 (as2.map shA) := A2.away (by decide)
  and_intros
  refine heardR28 A' t7 rfl (fun n6 ls6 S8 hn6 e8 nd6 ln6 mem6 p78 => ?_) fun ls6 S8 p78 nd6 mem6 ln6 => ?_
  rotate_left
  · exfalso
    cases ls6 with
    | nil => exact absurd ln6 (by decide)
    | cons r l => exact away_ring A2 (mem6 r List.mem_cons_self)
  have el6 : ls6 = [] := by
    cases ls6 with
    | nil => rfl
    | cons r l => exact (away_ring A2 ((mem6 r).mp List.mem_cons_self)).elim
  subst el6
  and_intros
  refine (come_ok A').mono (fun r S9 ⟨e9, C9, p89⟩ => ?_) fun _ _ _ q => q
  rw [away_come A2 C9] at e9
  subst e9
  and_intros
  refine ⟨Nat.le_of_ble_eq_true rfl, ?_⟩
  and_intros
  refine ⟨Nat.le_of_ble_eq_true rfl, ?_⟩
  and_intros
  have e8 : S8[n6]? = some (.lst []) := by rw [e8]; simp [tsort]
  have e9 : S9[n6]? = some (.lst []) := get_pre p89 e8
  have x1 : (S9 ++ [MBox.lst [Dt.tup [.str "told", .box n6], iv [0]]])[S9.length]? = some (.lst [Dt.tup [.str "told", .box n6], iv [0]]) := get_last
  have pA : S9 <+: S9 ++ [MBox.lst [Dt.tup [.str "told", .box n6], iv [0]]] := List.prefix_append _ _
  have pz : S7 <+: S9 ++ [MBox.lst [Dt.tup [.str "told", .box n6], iv [0]]] := p78.trans (p89.trans pA)
  have e10 := get_pre pA e9
  show (F__law_alike _ (S9 ++ [MBox.lst [Dt.tup [.str "told", .box n6], iv [0]]] ++ [MBox.lst []] ++ [MBox.lst [Dt.tup [.str "told", .box (S9 ++ [MBox.lst [Dt.tup [.str "told", .box n6], iv [0]]]).length], .tup [.int 0]]])).Wp _ _
  generalize S9 ++ [MBox.lst [Dt.tup [.str "told", .box n6], iv [0]]] = SA at x1 pz e10 ⊢
  have y1 : (SA ++ [MBox.lst []] ++ [MBox.lst [Dt.tup [.str "told", .box SA.length], .tup [.int 0]]])[SA.length]? = some (.lst []) := get_pre (List.prefix_append _ _) get_last
  have y2 : (SA ++ [MBox.lst []] ++ [MBox.lst [Dt.tup [.str "told", .box SA.length], .tup [.int 0]]])[(SA ++ [MBox.lst []]).length]? = some (.lst [Dt.tup [.str "told", .box SA.length], .tup [.int 0]]) := get_last
  have pB : SA <+: SA ++ [MBox.lst []] ++ [MBox.lst [Dt.tup [.str "told", .box SA.length], .tup [.int 0]]] := by rw [List.append_assoc]; exact List.prefix_append _ _
  have pz2 := pz.trans pB
  refine (alikeP_ok (w := 1000000) (pl_away (get_pre pB x1) (get_pre pB e10)) (pl_away y2 y1) (Nat.le_refl _)).mono (fun r SB ⟨e5, eS⟩ => ?_) fun _ _ _ q => q
  subst e5; subst eS
  have BB := B7.pre pz2
  have tB := get_pre pz2 t7
  refine ⟨true, rfl, (fun z => nomatch z), fun _ => ?_⟩
  refine w_sNil ?_
  refine c_nx ?_
  clear e8 e9 x1 pA pz e10 y1 y2 pB pz2
  generalize SA ++ [MBox.lst []] ++ [MBox.lst [Dt.tup [.str "told", .box SA.length], .tup [.int 0]]] = SB at BB tB ⊢
  and_intros
  refine (take_ok BB (by decide) (by decide)).mono (fun r SC ⟨k, ek, k0, k1, BC, FC⟩ => ?_) fun _ _ _ q => q
  subst ek
  have tC := FC.at_ tB (by omega)
  obtain ⟨x0, ar, ea⟩ : ∃ x0 ar, as = x0 :: ar := by
    cases as with
    | nil => exact absurd rfl ane
    | cons x l => exact ⟨x, l, rfl⟩
  obtain ⟨s, u, lot, crew, R0⟩ := A.ar x0 (by rw [ea]; exact List.mem_cons_self)
  have at0 : atI as 0 = some (.tup [.int s, .int u, iv lot, iv crew]) := by rw [← R0.eq]; exact at_int (by decide) (by rw [ea]; rfl)
  and_intros
  refine ⟨Nat.le_of_ble_eq_true rfl, ?_⟩
  and_intros
  refine w_mulT (xs := [Dt.int k]) (k := 2) ⟨(fun z => nomatch z), by decide, by decide, Nat.le_of_ble_eq_true rfl⟩ ?_
  subst ed
  and_intros
  refine w_ixT at0 ?_
  and_intros
  refine w_addT (xs := [Dt.int k, Dt.int k]) (ys := [iv lot, iv crew]) (Nat.le_of_ble_eq_true rfl) ?_
  and_intros
  refine ⟨Nat.le_of_ble_eq_true rfl, ?_⟩
  and_intros
  refine w_addT (xs := as) (ys := [Dt.tup [Dt.int k, Dt.int k, iv lot, iv crew]]) (Nat.le_trans (show as.length + 1 ≤ 26 by omega) (by decide)) ?_
  and_intros
  refine ⟨Nat.le_of_ble_eq_true rfl, ?_⟩
  and_intros
  have RL : Arw 5 size hs.length (Dt.tup [Dt.int k, Dt.int k, iv lot, iv crew]) k k lot crew := ⟨rfl, k0, k1, k0, k1, R0.ll, R0.cl, R0.lb, R0.cb⟩
  have AL : Snd size hs.length (.tup [.int 5, .tup (as ++ [Dt.tup [Dt.int k, Dt.int k, iv lot, iv crew]])]) 5 (as ++ [Dt.tup [Dt.int k, Dt.int k, iv lot, iv crew]]) := ⟨rfl, by decide, by decide, by rw [List.length_append]; simp; omega, fun x hx => by
    rcases List.mem_append.mp hx with z | z
    · exact A.ar x z
    · rw [List.mem_singleton.mp z]; exact ⟨_, _, _, _, RL⟩⟩
  have mL : ∀ ls : List (List Int), ls.Nodup → (∀ r, r ∈ ls ↔ Ring (as ++ [Dt.tup [Dt.int k, Dt.int k, iv lot, iv crew]]) r) → 2000 < ls.length := fun ls _ h => T.many1 hP (by rw [RL.src, RL.tgt]) (by rw [RL.src]; exact k0) (by rw [RL.src]; exact k1) h
  generalize as ++ [Dt.tup [Dt.int k, Dt.int k, iv lot, iv crew]] = aL at AL mL ⊢
  refine (mixed_ok (xs := [5, 5, 5, 5, 4].map Dt.int) (BC.app (x := .lst ([5, 5, 5, 5, 4].map Dt.int))) (seq_lst get_last) (by have := BC.lt; omega) (by decide)).mono (fun dd SD ⟨m3, ys3, ed3, hm3, em3, pm3, BD, FD⟩ => ?_) fun _ _ _ q => q
  subst ed3
  obtain ⟨ns3, rfl, np3⟩ := perm_ints pm3
  have FCD := ((Fr.refl b SC).app (x := .lst ([5, 5, 5, 5, 4].map Dt.int))).trans FD
  have tD := FCD.at_ tC (by omega)
  have hnp3 : ∀ x ∈ ns3, 1 ≤ x ∧ x ≤ 5 := fun x hx => by
    have := np3.mem_iff.mp hx
    simp at this
    omega
  have hmb3 : m3 ≠ b := by have := BC.lt; rw [List.length_append] at hm3; omega
  have eP3 : prodN (ns3.map Int.toNat) = 2500 := by rw [prodN_perm (np3.map Int.toNat)]; decide
  and_intros
  refine (thick5_ok BD W em3 hmb3 np3.length_eq hnp3).mono (fun d3 SE ⟨as3, r1, r2, r3, r4, ed3, A3, T3, h53, hP3, al3, ane3, BE, FE⟩ => ?_) fun _ _ _ q => q
  rw [eP3] at hP3
  have tE := FE.at_ tD (by omega)
  have hall : ∀ dd ∈ [Dt.tup [.int 5, .tup aL], d3], ∃ as', Snd size hs.length dd 5 as' ∧ ∀ ls : List (List Int), ls.Nodup → (∀ r, r ∈ ls ↔ Ring as' r) → 2000 < ls.length := fun dd hd => by
    simp only [List.mem_cons, List.not_mem_nil, or_false] at hd
    rcases hd with rfl | rfl
    · exact ⟨aL, AL, mL⟩
    · exact ⟨as3, A3, fun ls nd h => T3.many (by omega) nd h⟩
  and_intros
  refine ⟨Nat.le_of_ble_eq_true rfl, ?_⟩
  and_intros
  refine w_loop (fun _ σ S' => ∃ d7, σ = [some (.box b), some w, some (.box m), some (.tup [.int 5, .tup as]), some (.tup [.str "told", .box n]), some (.tup [.int 6, .tup (as2.map shA)]), some (.tup [.int k, .int k, iv lot, iv crew]), d7, none] ∧ S'[1]? = some (.tab "_law_bound_right")) (fun _ _ _ _ => rfl) (fun i x σ SF hx ⟨d7, eσ, tF⟩ => ?_) (fun σ SF ⟨d7, eσ, tF⟩ => ?_) ⟨_, rfl, tE⟩
  · subst eσ
    obtain ⟨as', A', hm⟩ := hall x (List.mem_of_getElem? hx)
    and_intros
    refine heardR28 A' tF rfl (fun n7 l7 SG hn7 e7 nd7 ln7 mem7 p7 => absurd (hm l7 nd7 mem7) (by omega)) fun l7 SG p7 nd7 mem7 ln7 => ?_
    and_intros
    refine ⟨Nat.le_of_ble_eq_true rfl, ?_⟩
    and_intros
    refine (alikeS_ok (many_sm (n := 58) (by decide)) (by decide)).mono (fun d S5 ⟨ed, eS⟩ => ?_) fun _ _ _ q => q
    subst ed; subst eS
    refine ⟨true, rfl, (fun z => nomatch z), fun _ => ?_⟩
    exact w_sNil (.inl ⟨rfl, _, rfl, get_pre p7 tF⟩)
  · subst eσ
    refine c_nx ?_
    and_intros
    exact .inl ⟨_, rfl, rfl⟩
end
end Lw
set_option Elab.async false
set_option linter.all false
set_option maxRecDepth 100000
set_option maxHeartbeats 4000000
/-! Vl: k28's law. -/
namespace Lw
open PySem PySem.Spec PyProof.Rows L2 Mn
section
variable {S : Bxs} {size hl : Nat} {d : Dt} {pl : Int} {as : List Dt}
theorem law28_ok {ns : List Int} (hl : ns.length ≤ 63) : (F_law_v13 [.box 0] (scriptL ["_law_bound_right"] ns)).Wp (fun d S' => d = .bl true) noX := by
  refine w_body ?_
  unfold B_law_v13
  simp only [startD, List.map_cons, List.map_nil, List.length_cons, List.length_nil, List.cons_append, List.nil_append, Nat.reduceAdd, Nat.reduceSub, List.replicate, List.replicate_succ, List.replicate_zero]
  and_intros
  refine (bag_okL hl).mono (fun d S0 ⟨b, c, ed, b2, B0, t0⟩ => ?_) fun _ _ _ q => q
  subst ed
  and_intros
  refine ⟨⟨by decide, by decide⟩, ?_⟩
  refine w_loop (fun i σ S' => ∃ d2 d3 d4 d5 d6 d7 d8, σ = [some (.box 0), some (.box b), d2, d3, d4, d5, d6, d7, d8] ∧ (0 < i → ∃ w size ks hs rs, d3 = some w ∧ Works w size ks hs rs) ∧ Bag S' b c ∧ S'[1]? = some (.tab "_law_bound_right")) (fun _ _ _ _ => trivial) (fun i x σ S1 hx ⟨d2, d3, d4, d5, d6, d7, d8, eσ, _, B1, t1⟩ => ?_) (fun σ S1 ⟨d2, d3, d4, d5, d6, d7, d8, eσ, hw, B1, t1⟩ => ?_) ⟨_, _, _, _, _, _, _, rfl, (fun z => absurd z (Nat.lt_irrefl _)), B0, t0⟩
  · subst eσ
    and_intros
    refine (world_ok B1 (by decide) (by decide) (by decide) (by decide) (by decide) (by decide)).mono (fun r S3 ⟨⟨w, d, size, ks, hs, rs, pl, as, er, W, A⟩, B3, F3⟩ => ?_) fun _ _ _ q => q
    subst er
    have t3 := F3.at_ t1 (by omega)
    have s1 := W.s1
    have whl := W.hl
    and_intros
    refine (lrings_ok A (by decide) (by decide)).mono (fun r S4 ⟨hr, p4⟩ => ?_) fun _ _ _ q => q
    have B4 := B3.pre p4
    have t4 := get_pre p4 t3
    and_intros
    refine w_reprS (A.sm (by omega) (by omega)) (by decide) ?_
    and_intros
    have done : ∀ {S5 : Bxs} {e4 e5 e6 e7 e8 : Option Dt}, Bag S5 b c → S5[1]? = some (.tab "_law_bound_right") → ((Fl.nx, [some (.box 0), some (.box b), some x, some w, e4, e5, e6, e7, e8]).1 = .nx ∧ ∃ d2 d3 d4 d5 d6 d7 d8, (Fl.nx, [some (.box 0), some (.box b), some x, some w, e4, e5, e6, e7, e8]).2 = [some (.box 0), some (.box b), d2, d3, d4, d5, d6, d7, d8] ∧ (0 < i + 1 → ∃ w size ks hs rs, d3 = some w ∧ Works w size ks hs rs) ∧ Bag S5 b c ∧ S5[1]? = some (.tab "_law_bound_right")) := fun B t => ⟨rfl, _, _, _, _, _, _, _, rfl, fun _ => ⟨w, size, ks, hs, rs, rfl, W⟩, B, t⟩
    rcases hr with er | ⟨n0, ls, er, hn, el, lnd, lln, lmem⟩
    · subst er
      refine ⟨(fun z => nomatch z), fun _ => ?_⟩
      refine ⟨(fun z => nomatch z), fun _ => ?_⟩
      exact w_sNil (.inl (done B4 t4))
    · subst er
      refine ⟨fun _ => ?_, fun z => nomatch z⟩
      and_intros
      refine w_lenB (seq_lst el) ?_
      and_intros
      rw [List.length_map, (tsort_perm ls).length_eq]
      refine ⟨fun h2 => ?_, fun h2 => ?_⟩
      · have h2 : ls.length ≤ 2000 := by have := of_decide_eq_true h2; omega
        and_intros
        refine ⟨⟨by decide, by decide⟩, ?_⟩
        refine w_loop (fun _ σ S' => ∃ d7 d8, σ = [some (.box 0), some (.box b), some x, some w, some d, some (.box n0), some (.str (shD d)), d7, d8] ∧ S4 <+: S') (fun _ _ _ _ => trivial) (fun j y σ S5 _ ⟨d7, d8, eσ, p5⟩ => ?_) (fun σ S5 ⟨d7, d8, eσ, p5⟩ => ?_) ⟨_, _, rfl, List.prefix_refl _⟩
        · subst eσ
          and_intros
          refine w_quiet ((rings_of_ok A).mono (fun r S6 ⟨n, l2, er, hn2, e2, nd2, len2, mem2, p6⟩ => ?_) fun ce es S6 ⟨_, _, _, l2, nd2, mem2, len2⟩ => ?_)
          · subst er
            have eL : tsort l2 = tsort ls := tsort_ext nd2 lnd fun r => (mem2 r).trans (lmem r).symm
            rw [eL] at e2
            and_intros
            refine (come_ok A).mono (fun r S7 ⟨e7, C, p7⟩ => ?_) fun _ _ _ q => q
            subst e7
            and_intros
            refine (law_come_ok A).mono (fun r S8 ⟨th, e8, hth, eth, _, p8⟩ => ?_) fun _ _ _ q => q
            subst e8
            and_intros
            refine w_tupB eth.seq ?_
            and_intros
            have x1 : (S7 ++ [MBox.lst [iv (comeL as), .box n]])[S7.length]? = some (.lst [iv (comeL as), .box n]) := get_last
            have x2 := get_pre p8 x1
            have p48 : S4 <+: S8 := p5.trans (p6.trans (p7.trans ((List.prefix_append _ _).trans p8)))
            have e28 := get_pre ((p7.trans (List.prefix_append _ _)).trans p8) e2
            have hn4 : S4.length ≤ n := Nat.le_trans p5.length_le hn2
            have hL : ∀ r ∈ tsort ls, r.length ≤ 10 ∧ ∀ i ∈ r, 0 ≤ i ∧ i < 100 := fun r hr => ring_ixs A ((lmem r).mp ((tsort_perm ls).mem_iff.mp hr))
            have hLl : (tsort ls).length ≤ 3000 := by rw [(tsort_perm ls).length_eq]; omega
            refine (alikeR_ok (get_pre (List.prefix_append _ _) x2) get_last (get_pre (List.prefix_append _ _) e28) (get_pre (p48.trans (List.prefix_append _ _)) el) ((come_sm A C (n := 57)).mono (by decide)) hL hLl).mono (fun r S9 ⟨e9, eS⟩ => ?_) fun _ _ _ q => q
            subst e9; subst eS
            refine ⟨true, rfl, (fun z => nomatch z), fun _ => ?_⟩
            and_intros
            refine w_reprS (A.sm (by omega) (by omega)) (by decide) ?_
            and_intros
            refine w_eqShD (neg := true) (A.sm (n := 55) (by omega) (by omega)) ?_
            refine ⟨false, rfl, (fun z => nomatch z), fun _ => ?_⟩
            refine w_sNil ?_
            refine c_nx ?_
            and_intros
            have e29 := get_pre (List.prefix_append S8 [MBox.lst [iv (comeL as), .box n0]]) e28
            have p49 := p48.trans (List.prefix_append S8 [MBox.lst [iv (comeL as), .box n0]])
            generalize S8 ++ [MBox.lst [iv (comeL as), .box n0]] = S9 at e29 p49 ⊢
            refine ⟨ty_list e29, ?_⟩
            and_intros
            refine w_append (lst_of e29) (by rw [List.length_map]; exact Nat.lt_of_le_of_lt hLl (by decide)) ?_
            have eA : (S9.set n (.lst ((tsort ls).map iv ++ [.non])))[n]? = some (.lst ((tsort ls).map iv ++ [.non])) := List.getElem?_set_self (get_lt e29)
            have pA : S4 <+: S9.set n (.lst ((tsort ls).map iv ++ [.non])) := pre_set p49 hn4
            and_intros
            refine w_meth0 ?_
            and_intros
            refine ⟨ty_list eA, ?_⟩
            refine w_reverse (lst_of eA) ?_
            exact .inl ⟨rfl, _, _, rfl, pre_set pA hn4⟩
          · have := nodup_subL nd2 (b := ls) fun r hr => (lmem r).mpr (mem2 r hr)
            omega
        · subst eσ
          exact .inl (done (B4.pre p5) (get_pre p5 t4))
      · exact w_sNil (.inl (done B4 t4))
  · subst eσ
    obtain ⟨w, size, ks, hs, rs, rfl, W⟩ := hw (by decide)
    refine c_nx ?_
    and_intros
    refine w_orV ?_
    and_intros
    refine (take_ok B1 (by decide) (by decide)).mono (fun d S2 ⟨k, ek, k0, k1, B2, F2⟩ => ?_) fun _ _ _ q => q
    subst ek
    have t2 := F2.at_ t1 (by omega)
    and_intros
    refine ⟨fun _ => .inl ⟨_, rfl, rfl⟩, fun _ => ?_⟩
    and_intros
    exact (bound_right_ok B2 W b2 t2).mono (fun d S3 ed => .inl ⟨_, rfl, ed⟩) fun _ _ _ q => q
end
end Lw
set_option Elab.async false
set_option linter.all false
set_option maxRecDepth 100000
set_option maxHeartbeats 4000000
namespace K28
open PySem PySem.Spec PyProof.Rows L2 Mn
def topS (i : Nat) : Stmt := PySem.Challenge.pw_neverheaps_k28_rings_told.main.body.getD i (.Pass ⟨0, 0, 0, 0⟩)
abbrev s__law_bag : Stmt := topS 13
theorem sc__law_bag : FnScope ["script", "cell"] ["script"] (defScope s__law_bag) := ⟨rfl, rfl, rfl, by decide +kernel, rfl, by decide +kernel, by decide +kernel⟩
noncomputable abbrev F__law_bag : FN := Lw.F__law_bag
abbrev s__law_take : Stmt := topS 14
theorem sc__law_take : FnScope ["bag", "many", "cell", "stirred", "value", "begin", "second"] ["bag", "many"] (defScope s__law_take) := ⟨rfl, rfl, rfl, by decide +kernel, rfl, by decide +kernel, by decide +kernel⟩
noncomputable abbrev F__law_take : FN := Lw.F__law_take
abbrev s__law_one : Stmt := topS 15
theorem sc__law_one : FnScope ["bag", "things"] ["bag", "things"] (defScope s__law_one) := ⟨rfl, rfl, rfl, by decide +kernel, rfl, by decide +kernel, by decide +kernel⟩
noncomputable abbrev F__law_one : FN := Lw.F__law_one
abbrev s__law_mixed : Stmt := topS 16
theorem sc__law_mixed : FnScope ["bag", "things", "found", "thing"] ["bag", "things"] (defScope s__law_mixed) := ⟨rfl, rfl, rfl, by decide +kernel, rfl, by decide +kernel, by decide +kernel⟩
noncomputable abbrev F__law_mixed : FN := Lw.F__law_mixed
abbrev s__law_names : Stmt := topS 20
theorem sc__law_names : FnScope ["bag", "many", "menu"] ["bag", "many"] (defScope s__law_names) := ⟨rfl, rfl, rfl, by decide +kernel, rfl, by decide +kernel, by decide +kernel⟩
noncomputable abbrev F__law_names : FN := Lw.F__law_names
abbrev s__law_recipe : Stmt := topS 21
theorem sc__law_recipe : FnScope ["bag", "size", "hands", "most", "last", "menu", "takes", "puts", "place"] ["bag", "size", "hands", "most"] (defScope s__law_recipe) := ⟨rfl, rfl, rfl, by decide +kernel, rfl, by decide +kernel, by decide +kernel⟩
noncomputable abbrev F__law_recipe : FN := Lw.F__law_recipe
abbrev s__law_out : Stmt := topS 22
theorem sc__law_out : FnScope ["bag", "size", "place", "hands", "takes"] ["bag", "size", "place", "hands"] (defScope s__law_out) := ⟨rfl, rfl, rfl, by decide +kernel, rfl, by decide +kernel, by decide +kernel⟩
noncomputable abbrev F__law_out : FN := Lw.F__law_out
abbrev s__law_works : Stmt := topS 23
theorem sc__law_works : FnScope ["bag", "kinds", "hands", "recipes", "names", "size", "many", "crew", "found", "most", "turn", "place"] ["bag", "kinds", "hands", "recipes"] (defScope s__law_works) := ⟨rfl, rfl, rfl, by decide +kernel, rfl, by decide +kernel, by decide +kernel⟩
noncomputable abbrev F__law_works : FN := Lw.F__law_works
abbrev s__law_links : Stmt := topS 29
theorem sc__law_links : FnScope ["bag", "places", "more", "order", "found", "turn"] ["bag", "places", "more"] (defScope s__law_links) := ⟨rfl, rfl, rfl, by decide +kernel, rfl, by decide +kernel, by decide +kernel⟩
noncomputable abbrev F__law_links : FN := Lw.F__law_links
abbrev s__law_wants : Stmt := topS 25
theorem sc__law_wants : FnScope ["works", "counts", "lot", "crew", "many", "takes", "puts", "hand", "place"] ["works", "counts"] (defScope s__law_wants) := ⟨rfl, rfl, rfl, by decide +kernel, rfl, by decide +kernel, by decide +kernel⟩
noncomputable abbrev F__law_wants : FN := Lw.F__law_wants
abbrev s__law_nothing : Stmt := topS 24
theorem sc__law_nothing : FnScope ["works"] ["works"] (defScope s__law_nothing) := ⟨rfl, rfl, rfl, by decide +kernel, rfl, by decide +kernel, by decide +kernel⟩
noncomputable abbrev F__law_nothing : FN := Lw.F__law_nothing
abbrev s__law_planted : Stmt := topS 26
theorem sc__law_planted : FnScope ["bag", "works", "most", "turn", "counts", "again", "lot", "crew", "bad", "takers", "recipe", "place", "k"] ["bag", "works", "most"] (defScope s__law_planted) := ⟨rfl, rfl, rfl, by decide +kernel, rfl, by decide +kernel, by decide +kernel⟩
noncomputable abbrev F__law_planted : FN := Lw.F__law_planted
abbrev s__law_less : Stmt := topS 19
theorem sc__law_less : FnScope ["one", "other", "more", "less"] ["one", "other"] (defScope s__law_less) := ⟨rfl, rfl, rfl, by decide +kernel, rfl, by decide +kernel, by decide +kernel⟩
noncomputable abbrev F__law_less : FN := Lw.F__law_less
abbrev s__law_sum : Stmt := topS 18
theorem sc__law_sum : FnScope ["one", "other", "more", "less"] ["one", "other"] (defScope s__law_sum) := ⟨rfl, rfl, rfl, by decide +kernel, rfl, by decide +kernel, by decide +kernel⟩
noncomputable abbrev F__law_sum : FN := Lw.F__law_sum
abbrev s__law_arrow : Stmt := topS 28
theorem sc__law_arrow : FnScope ["works", "source", "target", "total", "marks", "lot", "crew"] ["works", "source", "target", "total", "marks"] (defScope s__law_arrow) := ⟨rfl, rfl, rfl, by decide +kernel, rfl, by decide +kernel, by decide +kernel⟩
noncomputable abbrev F__law_arrow : FN := Lw.F__law_arrow
abbrev s__law_part : Stmt := topS 27
theorem sc__law_part : FnScope ["bag", "lot", "number"] ["bag", "lot"] (defScope s__law_part) := ⟨rfl, rfl, rfl, by decide +kernel, rfl, by decide +kernel, by decide +kernel⟩
noncomputable abbrev F__law_part : FN := Lw.F__law_part
abbrev s__law_held_sender : Stmt := topS 30
theorem sc__law_held_sender : FnScope ["bag", "works", "places", "more", "many", "total", "marks", "place", "arrows", "source", "target", "arrow"] ["bag", "works", "places", "more"] (defScope s__law_held_sender) := ⟨rfl, rfl, rfl, by decide +kernel, rfl, by decide +kernel, by decide +kernel⟩
noncomputable abbrev F__law_held_sender : FN := Lw.F__law_held_sender
abbrev s__law_any_sender : Stmt := topS 31
theorem sc__law_any_sender : FnScope ["bag", "works", "places", "more", "many", "arrows", "links", "source", "target", "lot", "kind", "hand"] ["bag", "works", "places", "more"] (defScope s__law_any_sender) := ⟨rfl, rfl, rfl, by decide +kernel, rfl, by decide +kernel, by decide +kernel⟩
noncomputable abbrev F__law_any_sender : FN := Lw.F__law_any_sender
abbrev s__law_bent_sender : Stmt := topS 32
theorem sc__law_bent_sender : FnScope ["bag", "works", "sender", "at", "source", "target", "lot", "crew", "hands", "place"] ["bag", "works", "sender"] (defScope s__law_bent_sender) := ⟨rfl, rfl, rfl, by decide +kernel, rfl, by decide +kernel, by decide +kernel⟩
noncomputable abbrev F__law_bent_sender : FN := Lw.F__law_bent_sender
abbrev s__law_sender : Stmt := topS 33
theorem sc__law_sender : FnScope ["bag", "works", "places", "more", "way", "found"] ["bag", "works", "places", "more"] (defScope s__law_sender) := ⟨rfl, rfl, rfl, by decide +kernel, rfl, by decide +kernel, by decide +kernel⟩
noncomputable abbrev F__law_sender : FN := Lw.F__law_sender
abbrev s__law_world : Stmt := topS 37
theorem sc__law_world : FnScope ["bag", "kinds", "recipes", "places", "works"] ["bag", "kinds", "recipes", "places"] (defScope s__law_world) := ⟨rfl, rfl, rfl, by decide +kernel, rfl, by decide +kernel, by decide +kernel⟩
noncomputable abbrev F__law_world : FN := Lw.F__law_world
abbrev s__law_thick_ring : Stmt := topS 38
theorem sc__law_thick_ring : FnScope ["bag", "works", "many", "order", "arrows", "at", "number"] ["bag", "works", "many"] (defScope s__law_thick_ring) := ⟨rfl, rfl, rfl, by decide +kernel, rfl, by decide +kernel, by decide +kernel⟩
noncomputable abbrev F__law_thick_ring : FN := Lw.F__law_thick_ring
abbrev s__law_heard : Stmt := topS 39
theorem sc__law_heard : FnScope ["act", "e"] ["act"] (defScope s__law_heard) := ⟨rfl, rfl, rfl, by decide +kernel, rfl, by decide +kernel, by decide +kernel⟩
abbrev s__law_alike : Stmt := topS 17
theorem sc__law_alike : FnScope ["found", "due"] ["found", "due"] (defScope s__law_alike) := ⟨rfl, rfl, rfl, by decide +kernel, rfl, by decide +kernel, by decide +kernel⟩
noncomputable abbrev F__law_alike : FN := Lw.F__law_alike
abbrev s_places_come_to : Stmt := topS 4
theorem sc_places_come_to : FnScope ["sender", "come", "grows", "source", "target", "_"] ["sender"] (defScope s_places_come_to) := ⟨rfl, rfl, rfl, by decide +kernel, rfl, by decide +kernel, by decide +kernel⟩
noncomputable abbrev F_places_come_to : FN := Lw.F_places_come_to
abbrev s_come_to : Stmt := topS 7
theorem sc_come_to : FnScope ["sender"] ["sender"] (defScope s_come_to) := ⟨rfl, rfl, rfl, by decide +kernel, rfl, by decide +kernel, by decide +kernel⟩
noncomputable abbrev F_come_to : FN := Lw.F_come_to
abbrev s__sources_into : Stmt := topS 8
theorem sc__sources_into : FnScope ["sender", "sources", "source", "target", "_"] ["sender"] (defScope s__sources_into) := ⟨rfl, rfl, rfl, by decide +kernel, rfl, by decide +kernel, by decide +kernel⟩
noncomputable abbrev F__sources_into : FN := Lw.F__sources_into
abbrev s__leading_back : Stmt := topS 9
theorem sc__leading_back : FnScope ["sources", "start", "passed", "back", "left", "place", "source"] ["sources", "start", "passed"] (defScope s__leading_back) := ⟨rfl, rfl, rfl, by decide +kernel, rfl, by decide +kernel, by decide +kernel⟩
noncomputable abbrev F__leading_back : FN := Lw.F__leading_back
abbrev s__rings_from : Stmt := topS 10
theorem sc__rings_from : FnScope ["sender", "start", "most", "sources", "found", "paths", "path", "last", "back", "index", "source", "target", "_"] ["sender", "start", "most"] (defScope s__rings_from) := ⟨rfl, rfl, rfl, by decide +kernel, rfl, by decide +kernel, by decide +kernel⟩
noncomputable abbrev F__rings_from : FN := Lw.F__rings_from
abbrev s_rings_of : Stmt := topS 11
theorem sc_rings_of : FnScope ["sender", "found", "start"] ["sender"] (defScope s_rings_of) := ⟨rfl, rfl, rfl, by decide +kernel, rfl, by decide +kernel, by decide +kernel⟩
noncomputable abbrev F_rings_of : FN := Lw.F_rings_of
abbrev s__law_arrows_from : Stmt := topS 34
theorem sc__law_arrows_from : FnScope ["sender", "place", "index"] ["sender", "place"] (defScope s__law_arrows_from) := ⟨rfl, rfl, rfl, by decide +kernel, rfl, by decide +kernel, by decide +kernel⟩
noncomputable abbrev F__law_arrows_from : FN := Lw.F__law_arrows_from
abbrev s__law_come_to : Stmt := topS 35
theorem sc__law_come_to : FnScope ["sender", "found", "todo", "index"] ["sender"] (defScope s__law_come_to) := ⟨rfl, rfl, rfl, by decide +kernel, rfl, by decide +kernel, by decide +kernel⟩
noncomputable abbrev F__law_come_to : FN := Lw.F__law_come_to
abbrev s__law_rings : Stmt := topS 36
theorem sc__law_rings : FnScope ["sender", "most", "found", "steps", "there", "first", "todo", "way", "place", "gone", "index"] ["sender", "most"] (defScope s__law_rings) := ⟨rfl, rfl, rfl, by decide +kernel, rfl, by decide +kernel, by decide +kernel⟩
noncomputable abbrev F__law_rings : FN := Lw.F__law_rings
abbrev s__law_bound_right : Stmt := topS 40
theorem sc__law_bound_right : FnScope ["bag", "works", "many", "full", "found", "away", "loop", "more", "arrow"] ["bag", "works"] (defScope s__law_bound_right) := ⟨rfl, rfl, rfl, by decide +kernel, rfl, by decide +kernel, by decide +kernel⟩
noncomputable abbrev F__law_bound_right : FN := Lw.F__law_bound_right
abbrev s_law : Stmt := topS 41
theorem sc_law : FnScope ["script", "bag", "turn", "works", "sender", "due", "said", "again", "found"] ["script"] (defScope s_law) := ⟨rfl, rfl, rfl, by decide +kernel, rfl, by decide +kernel, by decide +kernel⟩
noncomputable abbrev F_law : FN := Lw.F_law_v13
/-- what the top has written -/
structure Top (K : PySem.W.Frag) (mg : Str → Option Value) where
  f__law_bag : Addr
  fd__law_bag : FuncData
  fn__law_bag : Fun K "_law_bag" "_law_bag" s__law_bag f__law_bag fd__law_bag
  bn__law_bag : Binds K fd__law_bag ["script"] []
  g__law_bag : mg "_law_bag" = some (.ref f__law_bag)
  f__law_take : Addr
  fd__law_take : FuncData
  fn__law_take : Fun K "_law_take" "_law_take" s__law_take f__law_take fd__law_take
  bn__law_take : Binds K fd__law_take ["bag", "many"] []
  g__law_take : mg "_law_take" = some (.ref f__law_take)
  f__law_one : Addr
  fd__law_one : FuncData
  fn__law_one : Fun K "_law_one" "_law_one" s__law_one f__law_one fd__law_one
  bn__law_one : Binds K fd__law_one ["bag", "things"] []
  g__law_one : mg "_law_one" = some (.ref f__law_one)
  f__law_mixed : Addr
  fd__law_mixed : FuncData
  fn__law_mixed : Fun K "_law_mixed" "_law_mixed" s__law_mixed f__law_mixed fd__law_mixed
  bn__law_mixed : Binds K fd__law_mixed ["bag", "things"] []
  g__law_mixed : mg "_law_mixed" = some (.ref f__law_mixed)
  f__law_names : Addr
  fd__law_names : FuncData
  fn__law_names : Fun K "_law_names" "_law_names" s__law_names f__law_names fd__law_names
  bn__law_names : Binds K fd__law_names ["bag", "many"] []
  g__law_names : mg "_law_names" = some (.ref f__law_names)
  f__law_recipe : Addr
  fd__law_recipe : FuncData
  fn__law_recipe : Fun K "_law_recipe" "_law_recipe" s__law_recipe f__law_recipe fd__law_recipe
  bn__law_recipe : Binds K fd__law_recipe ["bag", "size", "hands", "most"] []
  g__law_recipe : mg "_law_recipe" = some (.ref f__law_recipe)
  f__law_out : Addr
  fd__law_out : FuncData
  fn__law_out : Fun K "_law_out" "_law_out" s__law_out f__law_out fd__law_out
  bn__law_out : Binds K fd__law_out ["bag", "size", "place", "hands"] []
  g__law_out : mg "_law_out" = some (.ref f__law_out)
  f__law_works : Addr
  fd__law_works : FuncData
  fn__law_works : Fun K "_law_works" "_law_works" s__law_works f__law_works fd__law_works
  bn__law_works : Binds K fd__law_works ["bag", "kinds", "hands", "recipes"] []
  g__law_works : mg "_law_works" = some (.ref f__law_works)
  f__law_links : Addr
  fd__law_links : FuncData
  fn__law_links : Fun K "_law_links" "_law_links" s__law_links f__law_links fd__law_links
  bn__law_links : Binds K fd__law_links ["bag", "places", "more"] []
  g__law_links : mg "_law_links" = some (.ref f__law_links)
  f__law_wants : Addr
  fd__law_wants : FuncData
  fn__law_wants : Fun K "_law_wants" "_law_wants" s__law_wants f__law_wants fd__law_wants
  bn__law_wants : Binds K fd__law_wants ["works", "counts"] []
  g__law_wants : mg "_law_wants" = some (.ref f__law_wants)
  f__law_nothing : Addr
  fd__law_nothing : FuncData
  fn__law_nothing : Fun K "_law_nothing" "_law_nothing" s__law_nothing f__law_nothing fd__law_nothing
  bn__law_nothing : Binds K fd__law_nothing ["works"] []
  g__law_nothing : mg "_law_nothing" = some (.ref f__law_nothing)
  f__law_planted : Addr
  fd__law_planted : FuncData
  fn__law_planted : Fun K "_law_planted" "_law_planted" s__law_planted f__law_planted fd__law_planted
  bn__law_planted : Binds K fd__law_planted ["bag", "works", "most"] []
  g__law_planted : mg "_law_planted" = some (.ref f__law_planted)
  f__law_less : Addr
  fd__law_less : FuncData
  fn__law_less : Fun K "_law_less" "_law_less" s__law_less f__law_less fd__law_less
  bn__law_less : Binds K fd__law_less ["one", "other"] []
  g__law_less : mg "_law_less" = some (.ref f__law_less)
  f__law_sum : Addr
  fd__law_sum : FuncData
  fn__law_sum : Fun K "_law_sum" "_law_sum" s__law_sum f__law_sum fd__law_sum
  bn__law_sum : Binds K fd__law_sum ["one", "other"] []
  g__law_sum : mg "_law_sum" = some (.ref f__law_sum)
  f__law_arrow : Addr
  fd__law_arrow : FuncData
  fn__law_arrow : Fun K "_law_arrow" "_law_arrow" s__law_arrow f__law_arrow fd__law_arrow
  bn__law_arrow : Binds K fd__law_arrow ["works", "source", "target", "total", "marks"] []
  g__law_arrow : mg "_law_arrow" = some (.ref f__law_arrow)
  f__law_part : Addr
  fd__law_part : FuncData
  fn__law_part : Fun K "_law_part" "_law_part" s__law_part f__law_part fd__law_part
  bn__law_part : Binds K fd__law_part ["bag", "lot"] []
  g__law_part : mg "_law_part" = some (.ref f__law_part)
  f__law_held_sender : Addr
  fd__law_held_sender : FuncData
  fn__law_held_sender : Fun K "_law_held_sender" "_law_held_sender" s__law_held_sender f__law_held_sender fd__law_held_sender
  bn__law_held_sender : Binds K fd__law_held_sender ["bag", "works", "places", "more"] []
  g__law_held_sender : mg "_law_held_sender" = some (.ref f__law_held_sender)
  f__law_any_sender : Addr
  fd__law_any_sender : FuncData
  fn__law_any_sender : Fun K "_law_any_sender" "_law_any_sender" s__law_any_sender f__law_any_sender fd__law_any_sender
  bn__law_any_sender : Binds K fd__law_any_sender ["bag", "works", "places", "more"] []
  g__law_any_sender : mg "_law_any_sender" = some (.ref f__law_any_sender)
  f__law_bent_sender : Addr
  fd__law_bent_sender : FuncData
  fn__law_bent_sender : Fun K "_law_bent_sender" "_law_bent_sender" s__law_bent_sender f__law_bent_sender fd__law_bent_sender
  bn__law_bent_sender : Binds K fd__law_bent_sender ["bag", "works", "sender"] []
  g__law_bent_sender : mg "_law_bent_sender" = some (.ref f__law_bent_sender)
  f__law_sender : Addr
  fd__law_sender : FuncData
  fn__law_sender : Fun K "_law_sender" "_law_sender" s__law_sender f__law_sender fd__law_sender
  bn__law_sender : Binds K fd__law_sender ["bag", "works", "places", "more"] []
  g__law_sender : mg "_law_sender" = some (.ref f__law_sender)
  f__law_world : Addr
  fd__law_world : FuncData
  fn__law_world : Fun K "_law_world" "_law_world" s__law_world f__law_world fd__law_world
  bn__law_world : Binds K fd__law_world ["bag", "kinds", "recipes", "places"] []
  g__law_world : mg "_law_world" = some (.ref f__law_world)
  f__law_thick_ring : Addr
  fd__law_thick_ring : FuncData
  fn__law_thick_ring : Fun K "_law_thick_ring" "_law_thick_ring" s__law_thick_ring f__law_thick_ring fd__law_thick_ring
  bn__law_thick_ring : Binds K fd__law_thick_ring ["bag", "works", "many"] []
  g__law_thick_ring : mg "_law_thick_ring" = some (.ref f__law_thick_ring)
  f__law_heard : Addr
  fd__law_heard : FuncData
  fn__law_heard : Fun K "_law_heard" "_law_heard" s__law_heard f__law_heard fd__law_heard
  bn__law_heard : Binds K fd__law_heard ["act"] []
  g__law_heard : mg "_law_heard" = some (.ref f__law_heard)
  f__law_alike : Addr
  fd__law_alike : FuncData
  fn__law_alike : Fun K "_law_alike" "_law_alike" s__law_alike f__law_alike fd__law_alike
  bn__law_alike : Binds K fd__law_alike ["found", "due"] []
  g__law_alike : mg "_law_alike" = some (.ref f__law_alike)
  f_places_come_to : Addr
  fd_places_come_to : FuncData
  fn_places_come_to : Fun K "places_come_to" "places_come_to" s_places_come_to f_places_come_to fd_places_come_to
  bn_places_come_to : Binds K fd_places_come_to ["sender"] []
  g_places_come_to : mg "places_come_to" = some (.ref f_places_come_to)
  f_come_to : Addr
  fd_come_to : FuncData
  fn_come_to : Fun K "come_to" "come_to" s_come_to f_come_to fd_come_to
  bn_come_to : Binds K fd_come_to ["sender"] []
  g_come_to : mg "come_to" = some (.ref f_come_to)
  f__sources_into : Addr
  fd__sources_into : FuncData
  fn__sources_into : Fun K "_sources_into" "_sources_into" s__sources_into f__sources_into fd__sources_into
  bn__sources_into : Binds K fd__sources_into ["sender"] []
  g__sources_into : mg "_sources_into" = some (.ref f__sources_into)
  f__leading_back : Addr
  fd__leading_back : FuncData
  fn__leading_back : Fun K "_leading_back" "_leading_back" s__leading_back f__leading_back fd__leading_back
  bn__leading_back : Binds K fd__leading_back ["sources", "start", "passed"] []
  g__leading_back : mg "_leading_back" = some (.ref f__leading_back)
  f__rings_from : Addr
  fd__rings_from : FuncData
  fn__rings_from : Fun K "_rings_from" "_rings_from" s__rings_from f__rings_from fd__rings_from
  bn__rings_from : Binds K fd__rings_from ["sender", "start", "most"] []
  g__rings_from : mg "_rings_from" = some (.ref f__rings_from)
  f_rings_of : Addr
  fd_rings_of : FuncData
  fn_rings_of : Fun K "rings_of" "rings_of" s_rings_of f_rings_of fd_rings_of
  bn_rings_of : Binds K fd_rings_of ["sender"] []
  g_rings_of : mg "rings_of" = some (.ref f_rings_of)
  f__law_arrows_from : Addr
  fd__law_arrows_from : FuncData
  fn__law_arrows_from : Fun K "_law_arrows_from" "_law_arrows_from" s__law_arrows_from f__law_arrows_from fd__law_arrows_from
  bn__law_arrows_from : Binds K fd__law_arrows_from ["sender", "place"] []
  g__law_arrows_from : mg "_law_arrows_from" = some (.ref f__law_arrows_from)
  f__law_come_to : Addr
  fd__law_come_to : FuncData
  fn__law_come_to : Fun K "_law_come_to" "_law_come_to" s__law_come_to f__law_come_to fd__law_come_to
  bn__law_come_to : Binds K fd__law_come_to ["sender"] []
  g__law_come_to : mg "_law_come_to" = some (.ref f__law_come_to)
  f__law_rings : Addr
  fd__law_rings : FuncData
  fn__law_rings : Fun K "_law_rings" "_law_rings" s__law_rings f__law_rings fd__law_rings
  bn__law_rings : Binds K fd__law_rings ["sender", "most"] []
  g__law_rings : mg "_law_rings" = some (.ref f__law_rings)
  f__law_bound_right : Addr
  fd__law_bound_right : FuncData
  fn__law_bound_right : Fun K "_law_bound_right" "_law_bound_right" s__law_bound_right f__law_bound_right fd__law_bound_right
  bn__law_bound_right : Binds K fd__law_bound_right ["bag", "works"] []
  g__law_bound_right : mg "_law_bound_right" = some (.ref f__law_bound_right)
  f_law : Addr
  fd_law : FuncData
  fn_law : Fun K "law" "law" s_law f_law fd_law
  bn_law : Binds K fd_law ["script"] []
  g_law : mg "law" = some (.ref f_law)
  cc__law_bound_right : Addr
  PP__law_bound_right : Addr
  tab__law_bound_right : PySem.W.tabIn K "_law_bound_right" = some (cc__law_bound_right, PP__law_bound_right)
  hd__law_bound_right : PySem.W.codeHdIn K cc__law_bound_right PP__law_bound_right = true
  nk__law_bound_right : K.lookup PP__law_bound_right = none
  gp__law_bound_right : mainGlobals ≠ PP__law_bound_right
  cod__law_bound_right : fd__law_bound_right.code = .ref cc__law_bound_right
  bl_law : ∀ s u, BindsTo s fd_law ⟨[u], []⟩ [("script", u)]
  m_abs : mg "abs" = none
  m_enumerate : mg "enumerate" = none
  m_int : mg "int" = none
  m_len : mg "len" = none
  m_list : mg "list" = none
  m_max : mg "max" = none
  m_min : mg "min" = none
  m_range : mg "range" = none
  m_repr : mg "repr" = none
  m_sorted : mg "sorted" = none
  m_tuple : mg "tuple" = none
  m_zip : mg "zip" = none
  t_MOST_RINGS : Tok
  c_MOST_RINGS : mg "MOST_RINGS" = some (.int 2000 t_MOST_RINGS)
  C_TooMany : Addr
  g_TooMany : mg "TooMany" = some (.ref C_TooMany)
  C_HeapError : Addr
  g_HeapError : mg "HeapError" = some (.ref C_HeapError)
  o_TooMany : OexC K C_TooMany
  I_TooMany : Addr
  i_TooMany : PySem.W.findIn K (.ref C_TooMany) "__init__" = some (some (.ref I_TooMany))
  ti_TooMany : PySem.W.typeIn K (.ref I_TooMany) = some (.type "function")
  fdi_TooMany : FuncData
  fni_TooMany : Fun K "__init__" "TooMany.__init__" (methS (topS 2) 0) I_TooMany fdi_TooMany
  bi_TooMany : Binds K fdi_TooMany ["self", "most"] []
  no_TooMany : PySem.W.findIn K (.ref C_TooMany) "most" = some none
  xf_TooMany : XfC K C_TooMany
  x_TooMany_TooMany : PySem.W.exmOne K (.ref C_TooMany) (.ref C_TooMany) = some true
  x_TooMany_HeapError : PySem.W.exmOne K (.ref C_TooMany) (.ref C_HeapError) = some true
abbrev eo0 : XK → ER := fun _ => noEr
def ctT {K : PySem.W.Frag} {mg : Str → Option Value} (T : Top K mg) : CT := ctL [(15, T.C_TooMany, ["most"])]
theorem xm_TooMany {K : PySem.W.Frag} {mg : Str → Option Value} (T : Top K mg) : ∀ c C ns, ctT T c = some (C, ns) → PySem.W.exmOne K (.ref C) (.ref T.C_TooMany) = some (subC c 15) := ctL_all (P := fun c C => PySem.W.exmOne K (.ref C) (.ref T.C_TooMany) = some (subC c 15)) (List.forall_mem_cons.2 ⟨T.x_TooMany_TooMany, fun _ z => nomatch z⟩)
theorem xm_HeapError {K : PySem.W.Frag} {mg : Str → Option Value} (T : Top K mg) : ∀ c C ns, ctT T c = some (C, ns) → PySem.W.exmOne K (.ref C) (.ref T.C_HeapError) = some (subC c 18) := ctL_all (P := fun c C => PySem.W.exmOne K (.ref C) (.ref T.C_HeapError) = some (subC c 18)) (List.forall_mem_cons.2 ⟨T.x_TooMany_HeapError, fun _ z => nomatch z⟩)
theorem sci_TooMany : FnScope ["self", "most"] ["self", "most"] (defScope (methS (topS 2) 0)) := ⟨rfl, rfl, rfl, by decide +kernel, rfl, by decide +kernel, by decide +kernel⟩
theorem init_TooMany {P : Program} {w : World} {K : PySem.W.Frag} {mg : Str → Option Value} {base : Heap} (T : Top K mg) : FnOk P w K mg base CX0 1 T.I_TooMany T.fdi_TooMany ["self", "most"] (spI T.C_TooMany ["most"]) :=
  T.fni_TooMany.ok sci_TooMany (fun vs H Q E h => by obtain ⟨a, ws, rfl, hl, _⟩ := h; simpa using hl) fun cdv A outer s H vs Q E hr h => ⟨_, pss_one (ps_ost (pv 0) (pv 1)), init_pure1 T.o_TooMany T.no_TooMany h⟩
section
variable {P : Program} {w : World} {K : PySem.W.Frag} {mg : Str → Option Value} {base : Heap}
theorem dv__law_bag (T : Top K mg) : FnD P w K mg base CX0 eo0 1 T.f__law_bag T.fd__law_bag ["script"] F__law_bag :=
  fnD_of T.fn__law_bag sc__law_bag fun cdv hcode A outer s H E hr hg => SSs.nox (
    ss_one (ss_ret (se_lst (sa_cons (se_int) (sa_cons (se_int) (sa_cons (se_int) (sa_cons (se_lc [("cell", 1)] rfl sc__law_bag.nd (si_seq (se_slice (se_var 0) (so_none) (so_some (se_int)))) (blkOk_by (by kernel_rfl)) (fun _ _ _ _ _ => svi_one (sv_name 1 sc__law_bag.nd)) (fun _ _ _ _ _ => sts_nil) (fun _ _ _ _ _ => se_callB call_abs rc_abs absG_calm (by rfl) T.m_abs (by decide +kernel) (sa_cons (se_var 1) (sa_nil)))) (sa_nil))))))))
theorem dv__law_take (T : Top K mg) : FnD P w K mg base CX0 eo0 1 T.f__law_take T.fd__law_take ["bag", "many"] F__law_take :=
  fnD_of T.fn__law_take sc__law_take fun cdv hcode A outer s H E hr hg => SSs.nox (
    ss_cons (ss_if (st_cmp (op_eqN (u128 hr)) ro_eq (eqG_calm false) (se_ix (u128 hr) (se_var 0) (se_int)) (se_int)) (ss_cons (ss_set 2 sc__law_take.nd (se_ix (u128 hr) (se_bin op_addA ro_add addG_calm (se_slice (se_ix (u128 hr) (se_var 0) (se_int)) (so_some (se_ix (u128 hr) (se_var 0) (se_int))) (so_none)) (se_lst (sa_cons (se_int) (sa_nil)))) (se_int))) (ss_cons (ss_augS (u128 hr) ip_addI ro_addI addI_calm (se_var 0) (se_int) (se_int)) (ss_cons (ss_if (st_cmp op_ge ro_cmp (cmpG_calm _) (se_var 2) (se_bin op_pow ro_pow powG_calm (se_int) (se_int))) (ss_one (ss_asg (se_var 2) (sg_sub (u128 hr) (se_var 0) (se_int)))) (ss_nil)) (ss_cons (ss_set 3 sc__law_take.nd (se_bin op_addA ro_add addG_calm (se_bin op_addA ro_add addG_calm (se_bin op_mulA ro_mul mulG_calm (se_ix (u128 hr) (se_var 0) (se_int)) (se_int)) (se_bin op_mod ro_mod modG_calm (se_callTy call_int1 rc_int intG_calm (by rfl) T.m_int (by decide +kernel) (sa_cons (se_var 2) (sa_nil))) (se_int))) (se_bin op_mulA ro_mul mulG_calm (se_int) (se_ix (u128 hr) (se_var 0) (se_int))))) (ss_one (ss_asg (se_bin op_mod ro_mod modG_calm (se_callTy call_int1 rc_int intG_calm (by rfl) T.m_int (by decide +kernel) (sa_cons (se_var 3) (sa_nil))) (se_int)) (sg_sub (u128 hr) (se_var 0) (se_int)))))))) (ss_nil)) (ss_cons (ss_if (st_cmp op_gt ro_cmp (cmpG_calm _) (se_ix (u128 hr) (se_var 0) (se_int)) (se_int)) (ss_cons (ss_set 4 sc__law_take.nd (se_bin op_mod ro_mod modG_calm (se_callTy call_int1 rc_int intG_calm (by rfl) T.m_int (by decide +kernel) (sa_cons (se_ix (u128 hr) (se_var 0) (se_int)) (sa_nil))) (se_var 1))) (ss_cons (ss_asg (se_bin op_fdivW ro_fdiv fdivG_calm (se_callTy call_int1 rc_int intG_calm (by rfl) T.m_int (by decide +kernel) (sa_cons (se_ix (u128 hr) (se_var 0) (se_int)) (sa_nil))) (se_var 1)) (sg_sub (u128 hr) (se_var 0) (se_int))) (ss_one (ss_ret (se_var 4))))) (ss_nil)) (ss_cons (ss_set 5 sc__law_take.nd (se_bin op_mod ro_mod modG_calm (se_callTy call_int1 rc_int intG_calm (by rfl) T.m_int (by decide +kernel) (sa_cons (se_bin op_mulA ro_mul mulG_calm (se_bin op_addA ro_add addG_calm (se_ix (u128 hr) (se_var 0) (se_int)) (se_int)) (se_int)) (sa_nil))) (se_int))) (ss_cons (ss_set 6 sc__law_take.nd (se_bin op_mod ro_mod modG_calm (se_callTy call_int1 rc_int intG_calm (by rfl) T.m_int (by decide +kernel) (sa_cons (se_bin op_mulA ro_mul mulG_calm (se_bin op_mod ro_mod modG_calm (se_callTy call_int1 rc_int intG_calm (by rfl) T.m_int (by decide +kernel) (sa_cons (se_bin op_mulA ro_mul mulG_calm (se_var 5) (se_var 5)) (sa_nil))) (se_int)) (se_int)) (sa_nil))) (se_int))) (ss_one (ss_ret (se_bin op_mod ro_mod modG_calm (se_callTy call_int1 rc_int intG_calm (by rfl) T.m_int (by decide +kernel) (sa_cons (se_bin op_fdivW ro_fdiv fdivG_calm (se_var 6) (se_int)) (sa_nil))) (se_var 1))))))))
theorem dv__law_one (T : Top K mg) : FnD P w K mg base CX0 eo0 2 T.f__law_one T.fd__law_one ["bag", "things"] F__law_one :=
  fnD_of T.fn__law_one sc__law_one fun cdv hcode A outer s H E hr hg => SSs.nox (
    ss_one (ss_ret (se_ix (u128 hr) (se_var 1) (se_call 2 (dv__law_take T) hg (hr.mono (by decide)) (by rfl) T.g__law_take T.fn__law_take.kp T.bn__law_take pass0 (fun _ _ _ _ _ h => h) (sa_cons (se_var 0) (sa_cons (se_callB call_len rc_len lenG_calm (by rfl) T.m_len (by decide +kernel) (sa_cons (se_var 1) (sa_nil))) (sa_nil))) (len_cons (len_cons len_nil)) rfl))))
theorem dv__law_mixed (T : Top K mg) : FnD P w K mg base CX0 eo0 2 T.f__law_mixed T.fd__law_mixed ["bag", "things"] F__law_mixed :=
  fnD_of T.fn__law_mixed sc__law_mixed fun cdv hcode A outer s H E hr hg => SSs.nox (
    ss_cons (ss_set 2 sc__law_mixed.nd (se_lst (sa_nil))) (ss_cons (ss_for PassesOwn.never rfl (si_seq (se_var 1)) (sgi_one (sg_name 3 sc__law_mixed.nd)) (ss_one (ss_expr (se_meth PySem.F.plainAttrs_list PySem.F.slot_list_insert PySem.F.type_list_insert mt_insert rm_insert insertG_calm (se_var 2) (sa_cons (se_call 2 (dv__law_take T) hg (hr.mono (by decide)) (by rfl) T.g__law_take T.fn__law_take.kp T.bn__law_take pass0 (fun _ _ _ _ _ h => h) (sa_cons (se_var 0) (sa_cons (se_bin op_addA ro_add addG_calm (se_callB call_len rc_len lenG_calm (by rfl) T.m_len (by decide +kernel) (sa_cons (se_var 2) (sa_nil))) (se_int)) (sa_nil))) (len_cons (len_cons len_nil)) rfl) (sa_cons (se_var 3) (sa_nil))))))) (ss_one (ss_ret (se_var 2)))))
theorem dv__law_names (T : Top K mg) : FnD P w K mg base CX0 eo0 3 T.f__law_names T.fd__law_names ["bag", "many"] F__law_names :=
  fnD_of T.fn__law_names sc__law_names fun cdv hcode A outer s H E hr hg => SSs.nox (
    ss_cons (ss_set 2 sc__law_names.nd (se_lst (sa_cons (se_str) (sa_cons (se_str) (sa_cons (se_str) (sa_cons (se_str) (sa_cons (se_str) (sa_cons (se_str) (sa_cons (se_str) (sa_cons (se_str) (sa_cons (se_str) (sa_cons (se_str) (sa_cons (se_str) (sa_cons (se_str) (sa_cons (se_str) (sa_nil)))))))))))))))) (ss_one (ss_ret (se_slice (se_call 2 (dv__law_mixed T) hg (hr.mono (by decide)) (by rfl) T.g__law_mixed T.fn__law_mixed.kp T.bn__law_mixed pass0 (fun _ _ _ _ _ h => h) (sa_cons (se_var 0) (sa_cons (se_bin op_addA ro_add addG_calm (se_var 2) (se_lst (sa_cons (se_str) (sa_cons (se_str) (sa_cons (se_str) (sa_cons (se_str) (sa_cons (se_str) (sa_cons (se_str) (sa_nil))))))))) (sa_nil))) (len_cons (len_cons len_nil)) rfl) (so_none) (so_some (se_var 1))))))
theorem dv__law_recipe (T : Top K mg) : FnD P w K mg base CX0 eo0 3 T.f__law_recipe T.fd__law_recipe ["bag", "size", "hands", "most"] F__law_recipe :=
  fnD_of T.fn__law_recipe sc__law_recipe fun cdv hcode A outer s H E hr hg => SSs.nox (
    ss_cons (ss_set 4 sc__law_recipe.nd (se_call 2 (dv__law_take T) hg (hr.mono (by decide)) (by rfl) T.g__law_take T.fn__law_take.kp T.bn__law_take pass0 (fun _ _ _ _ _ h => h) (sa_cons (se_var 0) (sa_cons (se_var 1) (sa_nil))) (len_cons (len_cons len_nil)) rfl)) (ss_cons (ss_par3 5 6 7 rfl sc__law_recipe.nd (sa_cons (se_lst (sa_cons (se_int) (sa_cons (se_int) (sa_cons (se_int) (sa_cons (se_bin op_addA ro_add addG_calm (se_int) (se_call 2 (dv__law_take T) hg (hr.mono (by decide)) (by rfl) T.g__law_take T.fn__law_take.kp T.bn__law_take pass0 (fun _ _ _ _ _ h => h) (sa_cons (se_var 0) (sa_cons (se_var 3) (sa_nil))) (len_cons (len_cons len_nil)) rfl)) (sa_nil)))))) (sa_cons (se_bin op_mulA ro_mul mulG_calm (se_lst (sa_cons (se_int) (sa_nil))) (se_var 1)) (sa_cons (se_bin op_mulA ro_mul mulG_calm (se_lst (sa_cons (se_int) (sa_nil))) (se_var 1)) (sa_nil))))) (ss_cons (ss_for PassesOwn.never rfl (si_r1 (by rfl) T.m_range (sa_cons (se_var 1) (sa_nil))) (sgi_one (sg_name 8 sc__law_recipe.nd)) (ss_one (ss_if (st_cmp op_lt ro_cmp (cmpG_calm _) (se_var 8) (se_var 4)) (ss_one (ss_asg (se_call 2 (dv__law_one T) hg (hr.mono (by decide)) (by rfl) T.g__law_one T.fn__law_one.kp T.bn__law_one pass0 (fun _ _ _ _ _ h => h) (sa_cons (se_var 0) (sa_cons (se_var 5) (sa_nil))) (len_cons (len_cons len_nil)) rfl) (sg_sub (u128 hr) (se_var 6) (se_var 8)))) (ss_one (ss_if (SW.st (sw_and (st_cmp op_gt ro_cmp (cmpG_calm _) (se_var 8) (se_var 4)) (sw_and1 (st_cmp (op_eqN (u128 hr)) ro_eq (eqG_calm false) (se_call 2 (dv__law_take T) hg (hr.mono (by decide)) (by rfl) T.g__law_take T.fn__law_take.kp T.bn__law_take pass0 (fun _ _ _ _ _ h => h) (sa_cons (se_var 0) (sa_cons (se_int) (sa_nil))) (len_cons (len_cons len_nil)) rfl) (se_int))))) (ss_one (ss_asg (se_call 2 (dv__law_one T) hg (hr.mono (by decide)) (by rfl) T.g__law_one T.fn__law_one.kp T.bn__law_one pass0 (fun _ _ _ _ _ h => h) (sa_cons (se_var 0) (sa_cons (se_var 5) (sa_nil))) (len_cons (len_cons len_nil)) rfl) (sg_sub (u128 hr) (se_var 7) (se_var 8)))) (ss_nil)))))) (ss_cons (ss_asg (se_call 2 (dv__law_one T) hg (hr.mono (by decide)) (by rfl) T.g__law_one T.fn__law_one.kp T.bn__law_one pass0 (fun _ _ _ _ _ h => h) (sa_cons (se_var 0) (sa_cons (se_lst (sa_cons (se_int) (sa_cons (se_int) (sa_cons (se_int) (sa_cons (se_int) (sa_cons (se_bin op_addA ro_add addG_calm (se_int) (se_call 2 (dv__law_take T) hg (hr.mono (by decide)) (by rfl) T.g__law_take T.fn__law_take.kp T.bn__law_take pass0 (fun _ _ _ _ _ h => h) (sa_cons (se_var 0) (sa_cons (se_var 3) (sa_nil))) (len_cons (len_cons len_nil)) rfl)) (sa_nil))))))) (sa_nil))) (len_cons (len_cons len_nil)) rfl) (sg_sub (u128 hr) (se_var 6) (se_var 4))) (ss_one (ss_ret (se_tup (sa_cons (se_callTy call_tupleZ rc_tuple tupleG_calm (by rfl) T.m_tuple (by decide +kernel) (sa_cons (se_var 6) (sa_nil))) (sa_cons (se_callTy call_tupleZ rc_tuple tupleG_calm (by rfl) T.m_tuple (by decide +kernel) (sa_cons (se_var 7) (sa_nil))) (sa_cons (se_call 2 (dv__law_one T) hg (hr.mono (by decide)) (by rfl) T.g__law_one T.fn__law_one.kp T.bn__law_one pass0 (fun _ _ _ _ _ h => h) (sa_cons (se_var 0) (sa_cons (se_bin op_addA ro_add addG_calm (se_bin op_mulA ro_mul mulG_calm (se_callTy call_list_of rc_list listG_calm (by rfl) T.m_list (by decide +kernel) (sa_cons (se_var 2) (sa_nil))) (se_int)) (se_lst (sa_cons (se_non) (sa_nil)))) (sa_nil))) (len_cons (len_cons len_nil)) rfl) (sa_nil)))))))))))
theorem dv__law_out (T : Top K mg) : FnD P w K mg base CX0 eo0 3 T.f__law_out T.fd__law_out ["bag", "size", "place", "hands"] F__law_out :=
  fnD_of T.fn__law_out sc__law_out fun cdv hcode A outer s H E hr hg => SSs.nox (
    ss_cons (ss_set 4 sc__law_out.nd (se_bin op_mulA ro_mul mulG_calm (se_lst (sa_cons (se_int) (sa_nil))) (se_var 1))) (ss_cons (ss_asg (se_int) (sg_sub (u128 hr) (se_var 4) (se_var 2))) (ss_one (ss_ret (se_tup (sa_cons (se_callTy call_tupleZ rc_tuple tupleG_calm (by rfl) T.m_tuple (by decide +kernel) (sa_cons (se_var 4) (sa_nil))) (sa_cons (se_bin op_mulA ro_mul mulG_calm (se_tup (sa_cons (se_int) (sa_nil))) (se_var 1)) (sa_cons (se_call 2 (dv__law_one T) hg (hr.mono (by decide)) (by rfl) T.g__law_one T.fn__law_one.kp T.bn__law_one pass0 (fun _ _ _ _ _ h => h) (sa_cons (se_var 0) (sa_cons (se_bin op_addA ro_add addG_calm (se_bin op_mulA ro_mul mulG_calm (se_callTy call_list_of rc_list listG_calm (by rfl) T.m_list (by decide +kernel) (sa_cons (se_var 3) (sa_nil))) (se_int)) (se_lst (sa_cons (se_non) (sa_nil)))) (sa_nil))) (len_cons (len_cons len_nil)) rfl) (sa_nil)))))))))
theorem dv__law_works (T : Top K mg) : FnD P w K mg base CX0 eo0 4 T.f__law_works T.fd__law_works ["bag", "kinds", "hands", "recipes"] F__law_works :=
  fnD_of T.fn__law_works sc__law_works fun cdv hcode A outer s H E hr hg => SSs.nox (
    ss_cons (ss_par3 4 5 6 rfl sc__law_works.nd (sa_cons (se_call 2 (dv__law_names T) hg (hr.mono (by decide)) (by rfl) T.g__law_names T.fn__law_names.kp T.bn__law_names pass0 (fun _ _ _ _ _ h => h) (sa_cons (se_var 0) (sa_cons (se_int) (sa_nil))) (len_cons (len_cons len_nil)) rfl) (sa_cons (se_bin op_addA ro_add addG_calm (se_int) (se_call 2 (dv__law_take T) hg (hr.mono (by decide)) (by rfl) T.g__law_take T.fn__law_take.kp T.bn__law_take pass0 (fun _ _ _ _ _ h => h) (sa_cons (se_var 0) (sa_cons (se_var 1) (sa_nil))) (len_cons (len_cons len_nil)) rfl)) (sa_cons (se_call 2 (dv__law_take T) hg (hr.mono (by decide)) (by rfl) T.g__law_take T.fn__law_take.kp T.bn__law_take pass0 (fun _ _ _ _ _ h => h) (sa_cons (se_var 0) (sa_cons (se_bin op_addA ro_add addG_calm (se_var 2) (se_int)) (sa_nil))) (len_cons (len_cons len_nil)) rfl) (sa_nil))))) (ss_cons (ss_par2 7 8 rfl sc__law_works.nd (sa_cons (se_callTy call_tupleZ rc_tuple tupleG_calm (by rfl) T.m_tuple (by decide +kernel) (sa_cons (se_slice (se_var 4) (so_some (se_var 5)) (so_some (se_bin op_addA ro_add addG_calm (se_var 5) (se_var 6)))) (sa_nil))) (sa_cons (se_lst (sa_nil)) (sa_nil)))) (ss_cons (ss_set 9 sc__law_works.nd (se_call 2 (dv__law_one T) hg (hr.mono (by decide)) (by rfl) T.g__law_one T.fn__law_one.kp T.bn__law_one pass0 (fun _ _ _ _ _ h => h) (sa_cons (se_var 0) (sa_cons (se_lst (sa_cons (se_int) (sa_cons (se_int) (sa_cons (se_int) (sa_cons (se_int) (sa_nil)))))) (sa_nil))) (len_cons (len_cons len_nil)) rfl)) (ss_cons (ss_for PassesOwn.never rfl (si_r1 (by rfl) T.m_range (sa_cons (se_call 2 (dv__law_take T) hg (hr.mono (by decide)) (by rfl) T.g__law_take T.fn__law_take.kp T.bn__law_take pass0 (fun _ _ _ _ _ h => h) (sa_cons (se_var 0) (sa_cons (se_bin op_addA ro_add addG_calm (se_var 3) (se_int)) (sa_nil))) (len_cons (len_cons len_nil)) rfl) (sa_nil))) (sgi_one (sg_name 10 sc__law_works.nd)) (ss_one (ss_expr (se_meth PySem.F.plainAttrs_list PySem.F.slot_list_append PySem.F.type_list_append mt_append rm_append appendG_calm (se_var 8) (sa_cons (se_call 4 (dv__law_recipe T) hg (hr.mono (by decide)) (by rfl) T.g__law_recipe T.fn__law_recipe.kp T.bn__law_recipe pass0 (fun _ _ _ _ _ h => h) (sa_cons (se_var 0) (sa_cons (se_var 5) (sa_cons (se_var 7) (sa_cons (se_var 9) (sa_nil))))) (len_cons (len_cons (len_cons (len_cons len_nil)))) rfl) (sa_nil)))))) (ss_cons (ss_for PassesOwn.never rfl (si_r1 (by rfl) T.m_range (sa_cons (se_var 5) (sa_nil))) (sgi_one (sg_name 11 sc__law_works.nd)) (ss_one (ss_if (st_cmp op_gt ro_cmp (cmpG_calm _) (se_call 2 (dv__law_take T) hg (hr.mono (by decide)) (by rfl) T.g__law_take T.fn__law_take.kp T.bn__law_take pass0 (fun _ _ _ _ _ h => h) (sa_cons (se_var 0) (sa_cons (se_int) (sa_nil))) (len_cons (len_cons len_nil)) rfl) (se_int)) (ss_one (ss_expr (se_meth PySem.F.plainAttrs_list PySem.F.slot_list_append PySem.F.type_list_append mt_append rm_append appendG_calm (se_var 8) (sa_cons (se_call 4 (dv__law_out T) hg (hr.mono (by decide)) (by rfl) T.g__law_out T.fn__law_out.kp T.bn__law_out pass0 (fun _ _ _ _ _ h => h) (sa_cons (se_var 0) (sa_cons (se_var 5) (sa_cons (se_var 11) (sa_cons (se_var 7) (sa_nil))))) (len_cons (len_cons (len_cons (len_cons len_nil)))) rfl) (sa_nil))))) (ss_nil)))) (ss_cons (ss_if (SW.st (sw_and (st_cmp (op_neN (u128 hr)) ro_eq (eqG_calm true) (se_var 8) (se_lst (sa_nil))) (sw_and1 (st_cmp (op_eqN (u128 hr)) ro_eq (eqG_calm false) (se_call 2 (dv__law_take T) hg (hr.mono (by decide)) (by rfl) T.g__law_take T.fn__law_take.kp T.bn__law_take pass0 (fun _ _ _ _ _ h => h) (sa_cons (se_var 0) (sa_cons (se_int) (sa_nil))) (len_cons (len_cons len_nil)) rfl) (se_int))))) (ss_one (ss_expr (se_meth PySem.F.plainAttrs_list PySem.F.slot_list_append PySem.F.type_list_append mt_append rm_append appendG_calm (se_var 8) (sa_cons (se_call 2 (dv__law_one T) hg (hr.mono (by decide)) (by rfl) T.g__law_one T.fn__law_one.kp T.bn__law_one pass0 (fun _ _ _ _ _ h => h) (sa_cons (se_var 0) (sa_cons (se_var 8) (sa_nil))) (len_cons (len_cons len_nil)) rfl) (sa_nil))))) (ss_nil)) (ss_one (ss_ret (se_tup (sa_cons (se_callTy call_tupleZ rc_tuple tupleG_calm (by rfl) T.m_tuple (by decide +kernel) (sa_cons (se_slice (se_var 4) (so_none) (so_some (se_var 5))) (sa_nil))) (sa_cons (se_var 7) (sa_cons (se_callTy call_tupleZ rc_tuple tupleG_calm (by rfl) T.m_tuple (by decide +kernel) (sa_cons (se_slice (se_call 2 (dv__law_mixed T) hg (hr.mono (by decide)) (by rfl) T.g__law_mixed T.fn__law_mixed.kp T.bn__law_mixed pass0 (fun _ _ _ _ _ h => h) (sa_cons (se_var 0) (sa_cons (se_var 8) (sa_nil))) (len_cons (len_cons len_nil)) rfl) (so_none) (so_some (se_var 3))) (sa_nil))) (sa_nil)))))))))))))
theorem dv__law_links (T : Top K mg) : FnD P w K mg base CX0 eo0 3 T.f__law_links T.fd__law_links ["bag", "places", "more"] F__law_links :=
  fnD_of T.fn__law_links sc__law_links fun cdv hcode A outer s H E hr hg => SSs.nox (
    ss_cons (ss_set 3 sc__law_links.nd (se_bin op_addA ro_add addG_calm (se_lst (sa_cons (se_int) (sa_nil))) (se_call 2 (dv__law_mixed T) hg (hr.mono (by decide)) (by rfl) T.g__law_mixed T.fn__law_mixed.kp T.bn__law_mixed pass0 (fun _ _ _ _ _ h => h) (sa_cons (se_var 0) (sa_cons (se_listR2 rfl (by rfl) T.m_list (by rfl) T.m_range (se_int) (se_var 1)) (sa_nil))) (len_cons (len_cons len_nil)) rfl))) (ss_cons (ss_set 4 sc__law_links.nd (se_bin op_addA ro_add addG_calm (se_listZip rfl (by rfl) T.m_list (by rfl) T.m_zip (sa_cons (se_var 3) (sa_cons (se_slice (se_var 3) (so_some (se_int)) (so_none)) (sa_nil)))) (se_lst (sa_cons (se_tup (sa_cons (se_ix (u128 hr) (se_var 3) (se_neg (se_int))) (sa_cons (se_call 2 (dv__law_one T) hg (hr.mono (by decide)) (by rfl) T.g__law_one T.fn__law_one.kp T.bn__law_one pass0 (fun _ _ _ _ _ h => h) (sa_cons (se_var 0) (sa_cons (se_var 3) (sa_nil))) (len_cons (len_cons len_nil)) rfl) (sa_nil)))) (sa_nil))))) (ss_cons (ss_for PassesOwn.never rfl (si_r1 (by rfl) T.m_range (sa_cons (se_call 2 (dv__law_take T) hg (hr.mono (by decide)) (by rfl) T.g__law_take T.fn__law_take.kp T.bn__law_take pass0 (fun _ _ _ _ _ h => h) (sa_cons (se_var 0) (sa_cons (se_bin op_addA ro_add addG_calm (se_var 2) (se_int)) (sa_nil))) (len_cons (len_cons len_nil)) rfl) (sa_nil))) (sgi_one (sg_name 5 sc__law_links.nd)) (ss_one (ss_expr (se_meth PySem.F.plainAttrs_list PySem.F.slot_list_append PySem.F.type_list_append mt_append rm_append appendG_calm (se_var 4) (sa_cons (se_tup (sa_cons (se_call 2 (dv__law_take T) hg (hr.mono (by decide)) (by rfl) T.g__law_take T.fn__law_take.kp T.bn__law_take pass0 (fun _ _ _ _ _ h => h) (sa_cons (se_var 0) (sa_cons (se_var 1) (sa_nil))) (len_cons (len_cons len_nil)) rfl) (sa_cons (se_call 2 (dv__law_take T) hg (hr.mono (by decide)) (by rfl) T.g__law_take T.fn__law_take.kp T.bn__law_take pass0 (fun _ _ _ _ _ h => h) (sa_cons (se_var 0) (sa_cons (se_var 1) (sa_nil))) (len_cons (len_cons len_nil)) rfl) (sa_nil)))) (sa_nil)))))) (ss_one (ss_ret (se_call 2 (dv__law_mixed T) hg (hr.mono (by decide)) (by rfl) T.g__law_mixed T.fn__law_mixed.kp T.bn__law_mixed pass0 (fun _ _ _ _ _ h => h) (sa_cons (se_var 0) (sa_cons (se_var 4) (sa_nil))) (len_cons (len_cons len_nil)) rfl))))))
theorem dv__law_wants (T : Top K mg) : FnD P w K mg base CX0 eo0 1 T.f__law_wants T.fd__law_wants ["works", "counts"] F__law_wants :=
  fnD_of T.fn__law_wants sc__law_wants fun cdv hcode A outer s H E hr hg => SSs.nox (
    ss_cons (ss_par2 2 3 rfl sc__law_wants.nd (sa_cons (se_bin op_mulA ro_mul mulG_calm (se_lst (sa_cons (se_int) (sa_nil))) (se_callB call_len rc_len lenG_calm (by rfl) T.m_len (by decide +kernel) (sa_cons (se_ix (u128 hr) (se_var 0) (se_int)) (sa_nil)))) (sa_cons (se_bin op_mulA ro_mul mulG_calm (se_lst (sa_cons (se_int) (sa_nil))) (se_callB call_len rc_len lenG_calm (by rfl) T.m_len (by decide +kernel) (sa_cons (se_ix (u128 hr) (se_var 0) (se_int)) (sa_nil)))) (sa_nil)))) (ss_cons (ss_for PassesOwn.never rfl (si_zip (by rfl) T.m_zip (sa_cons (se_var 1) (sa_cons (se_ix (u128 hr) (se_var 0) (se_int)) (sa_nil)))) (sgi_pair rfl (sgs_cons (sg_name 4 sc__law_wants.nd) (sgs_cons (sg_tup rfl (sgs_cons (sg_name 5 sc__law_wants.nd) (sgs_cons (sg_name 6 sc__law_wants.nd) (sgs_cons (sg_name 7 sc__law_wants.nd) (sgs_nil))))) (sgs_nil)))) (ss_cons (ss_for PassesOwn.never rfl (si_r1 (by rfl) T.m_range (sa_cons (se_callB call_len rc_len lenG_calm (by rfl) T.m_len (by decide +kernel) (sa_cons (se_var 2) (sa_nil))) (sa_nil))) (sgi_one (sg_name 8 sc__law_wants.nd)) (ss_one (ss_augS (u128 hr) ip_addI ro_addI addI_calm (se_var 2) (se_var 8) (se_bin op_mulA ro_mul mulG_calm (se_var 4) (se_bin op_sub ro_sub subG_calm (se_ix (u128 hr) (se_var 5) (se_var 8)) (se_ix (u128 hr) (se_var 6) (se_var 8))))))) (ss_one (ss_if (st_notN (se_var 7)) (ss_one (ss_augS (u128 hr) ip_addI ro_addI addI_calm (se_var 3) (se_meth PySem.F.plainAttrs_tuple PySem.F.slot_tuple_index PySem.F.type_tuple_index mt_tup_index rm_tindex tindexG_calm (se_ix (u128 hr) (se_var 0) (se_int)) (sa_cons (se_var 7) (sa_nil))) (se_var 4))) (ss_nil))))) (ss_one (ss_ret (se_tup (sa_cons (se_callTy call_tupleZ rc_tuple tupleG_calm (by rfl) T.m_tuple (by decide +kernel) (sa_cons (se_var 2) (sa_nil))) (sa_cons (se_callTy call_tupleZ rc_tuple tupleG_calm (by rfl) T.m_tuple (by decide +kernel) (sa_cons (se_var 3) (sa_nil))) (sa_nil))))))))
theorem dv__law_nothing (T : Top K mg) : FnD P w K mg base CX0 eo0 1 T.f__law_nothing T.fd__law_nothing ["works"] F__law_nothing :=
  fnD_of T.fn__law_nothing sc__law_nothing fun cdv hcode A outer s H E hr hg => SSs.nox (
    ss_one (ss_ret (se_bin op_mulA ro_mul mulG_calm (se_tup (sa_cons (se_int) (sa_nil))) (se_callB call_len rc_len lenG_calm (by rfl) T.m_len (by decide +kernel) (sa_cons (se_ix (u128 hr) (se_var 0) (se_int)) (sa_nil))))))
theorem dv__law_planted (T : Top K mg) : FnD P w K mg base CX0 eo0 3 T.f__law_planted T.fd__law_planted ["bag", "works", "most"] F__law_planted :=
  fnD_of T.fn__law_planted sc__law_planted fun cdv hcode A outer s H E hr hg => SSs.nox (
    ss_cons (ss_for PassesOwn.never rfl (si_r1 (by rfl) T.m_range (sa_cons (se_int) (sa_nil))) (sgi_one (sg_name 3 sc__law_planted.nd)) (ss_cons (ss_set 4 sc__law_planted.nd (se_lc [("recipe", 10)] rfl sc__law_planted.nd (si_seq (se_ix (u128 hr) (se_var 1) (se_int))) (blkOk_by (by kernel_rfl)) (fun _ _ _ _ _ => svi_one (sv_name 10 sc__law_planted.nd)) (fun _ _ _ _ _ => sts_nil) (fun _ _ _ _ _ => se_call 2 (dv__law_take T) hg (hr.mono (by decide)) (by rfl) T.g__law_take T.fn__law_take.kp T.bn__law_take pass0 (fun _ _ _ _ _ h => h) (sa_cons (se_var 0) (sa_cons (se_bin op_addA ro_add addG_calm (se_var 2) (se_int)) (sa_nil))) (len_cons (len_cons len_nil)) rfl))) (ss_cons (ss_for PassesOwn.never rfl (si_r1 (by rfl) T.m_range (sa_cons (se_int) (sa_nil))) (sgi_one (sg_name 5 sc__law_planted.nd)) (ss_cons (ss_asg (se_call 2 (dv__law_wants T) hg (hr.mono (by decide)) (by rfl) T.g__law_wants T.fn__law_wants.kp T.bn__law_wants pass0 (fun _ _ _ _ _ h => h) (sa_cons (se_var 1) (sa_cons (se_var 4) (sa_nil))) (len_cons (len_cons len_nil)) rfl) (sg_tup rfl (sgs_cons (sg_name 6 sc__law_planted.nd) (sgs_cons (sg_name 7 sc__law_planted.nd) (sgs_nil))))) (ss_cons (ss_set 8 sc__law_planted.nd (se_lc [("place", 11)] rfl sc__law_planted.nd (si_r1 (by rfl) T.m_range (sa_cons (se_callB call_len rc_len lenG_calm (by rfl) T.m_len (by decide +kernel) (sa_cons (se_var 6) (sa_nil))) (sa_nil))) (blkOk_by (by kernel_rfl)) (fun _ _ _ _ _ => svi_one (sv_name 11 sc__law_planted.nd)) (fun _ _ _ _ _ => sts_one (st_cmp op_lt ro_cmp (cmpG_calm _) (se_ix (u128 hr) (se_var 6) (se_var 11)) (se_int))) (fun _ _ _ _ _ => se_var 11))) (ss_cons (ss_setLc 9 [("k", 12)] rfl sc__law_planted.nd (si_r1 (by rfl) T.m_range (sa_cons (se_callB call_len rc_len lenG_calm (by rfl) T.m_len (by decide +kernel) (sa_cons (se_var 4) (sa_nil))) (sa_nil))) (blkOk_by (by kernel_rfl)) (sw_true rfl rfl rfl (by decide +kernel)) (fun _ _ _ _ _ => svi_one (sv_name 12 sc__law_planted.nd)) (fun _ _ _ _ _ => sts_one (SW.st (sw_and (st_cmp (op_neN (u128 hr)) ro_eq (eqG_calm true) (se_var 8) (se_lst (sa_nil))) (sw_and1 (st_cmp op_gt ro_cmp (cmpG_calm _) (se_ix (u128 hr) (se_ix (u128 hr) (se_ix (u128 hr) (se_ix (u128 hr) (se_var 1) (se_int)) (se_var 12)) (se_int)) (se_ix (u128 hr) (se_var 8) (se_int))) (se_int)))))) (fun _ _ _ _ _ => se_var 12)) (ss_one (ss_if (st_cmp (op_neN (u128 hr)) ro_eq (eqG_calm true) (se_var 9) (se_lst (sa_nil))) (ss_one (ss_augS (u128 hr) ip_addI ro_addI addI_calm (se_var 4) (se_call 2 (dv__law_one T) hg (hr.mono (by decide)) (by rfl) T.g__law_one T.fn__law_one.kp T.bn__law_one pass0 (fun _ _ _ _ _ h => h) (sa_cons (se_var 0) (sa_cons (se_var 9) (sa_nil))) (len_cons (len_cons len_nil)) rfl) (se_int))) (ss_one (ss_if (st_cmp (op_neN (u128 hr)) ro_eq (eqG_calm true) (se_var 8) (se_lst (sa_nil))) (ss_one (ss_set 4 sc__law_planted.nd (se_lc [("k", 12)] rfl sc__law_planted.nd (si_r1 (by rfl) T.m_range (sa_cons (se_callB call_len rc_len lenG_calm (by rfl) T.m_len (by decide +kernel) (sa_cons (se_var 4) (sa_nil))) (sa_nil))) (blkOk_by (by kernel_rfl)) (fun _ _ _ _ _ => svi_one (sv_name 12 sc__law_planted.nd)) (fun _ _ _ _ _ => sts_nil) (fun _ _ _ _ _ => se_if (st_cmp op_gt ro_cmp (cmpG_calm _) (se_ix (u128 hr) (se_ix (u128 hr) (se_ix (u128 hr) (se_ix (u128 hr) (se_var 1) (se_int)) (se_var 12)) (se_int)) (se_ix (u128 hr) (se_var 8) (se_int))) (se_int)) (se_int) (se_ix (u128 hr) (se_var 4) (se_var 12)))))) (ss_nil))))))))) (ss_cons (ss_asg (se_call 2 (dv__law_wants T) hg (hr.mono (by decide)) (by rfl) T.g__law_wants T.fn__law_wants.kp T.bn__law_wants pass0 (fun _ _ _ _ _ h => h) (sa_cons (se_var 1) (sa_cons (se_var 4) (sa_nil))) (len_cons (len_cons len_nil)) rfl) (sg_tup rfl (sgs_cons (sg_name 6 sc__law_planted.nd) (sgs_cons (sg_name 7 sc__law_planted.nd) (sgs_nil))))) (ss_one (ss_if (SW.st (sw_and (st_cmp op_ge ro_cmp (cmpG_calm _) (se_callB (call_minA rfl) rc_min minG_calm (by rfl) T.m_min (by decide +kernel) (sa_cons (se_var 6) (sa_nil))) (se_int)) (sw_and1 (st_cmp op_le ro_cmp (cmpG_calm _) (se_callB (call_maxA rfl) rc_max maxG_calm (by rfl) T.m_max (by decide +kernel) (sa_cons (se_bin op_addA ro_add addG_calm (se_var 6) (se_var 7)) (sa_nil))) (se_int))))) (ss_one (ss_ret (se_tup (sa_cons (se_var 6) (sa_cons (se_var 7) (sa_cons (se_callTy call_tupleZ rc_tuple tupleG_calm (by rfl) T.m_tuple (by decide +kernel) (sa_cons (se_var 4) (sa_nil))) (sa_nil))))))) (ss_nil))))))) (ss_one (ss_ret (se_tup (sa_cons (se_call 1 (dv__law_nothing T) hg (hr.mono (by decide)) (by rfl) T.g__law_nothing T.fn__law_nothing.kp T.bn__law_nothing pass0 (fun _ _ _ _ _ h => h) (sa_cons (se_var 1) (sa_nil)) (len_cons len_nil) rfl) (sa_cons (se_bin op_mulA ro_mul mulG_calm (se_tup (sa_cons (se_int) (sa_nil))) (se_callB call_len rc_len lenG_calm (by rfl) T.m_len (by decide +kernel) (sa_cons (se_ix (u128 hr) (se_var 1) (se_int)) (sa_nil)))) (sa_cons (se_bin op_mulA ro_mul mulG_calm (se_tup (sa_cons (se_int) (sa_nil))) (se_callB call_len rc_len lenG_calm (by rfl) T.m_len (by decide +kernel) (sa_cons (se_ix (u128 hr) (se_var 1) (se_int)) (sa_nil)))) (sa_nil))))))))
theorem dv__law_less (T : Top K mg) : FnD P w K mg base CX0 eo0 1 T.f__law_less T.fd__law_less ["one", "other"] F__law_less :=
  fnD_of T.fn__law_less sc__law_less fun cdv hcode A outer s H E hr hg => SSs.nox (
    ss_one (ss_ret (se_callTy call_tupleZ rc_tuple tupleG_calm (by rfl) T.m_tuple (by decide +kernel) (sa_cons (se_lc [("more", 2), ("less", 3)] rfl sc__law_less.nd (si_zip (by rfl) T.m_zip (sa_cons (se_var 0) (sa_cons (se_var 1) (sa_nil)))) (blkOk_by (by kernel_rfl)) (fun _ _ _ _ _ => svi_pair rfl (svs_cons (sv_name 2 sc__law_less.nd) (svs_cons (sv_name 3 sc__law_less.nd) (svs_nil)))) (fun _ _ _ _ _ => sts_nil) (fun _ _ _ _ _ => se_bin op_sub ro_sub subG_calm (se_var 2) (se_var 3))) (sa_nil)))))
theorem dv__law_sum (T : Top K mg) : FnD P w K mg base CX0 eo0 1 T.f__law_sum T.fd__law_sum ["one", "other"] F__law_sum :=
  fnD_of T.fn__law_sum sc__law_sum fun cdv hcode A outer s H E hr hg => SSs.nox (
    ss_one (ss_ret (se_callTy call_tupleZ rc_tuple tupleG_calm (by rfl) T.m_tuple (by decide +kernel) (sa_cons (se_lc [("more", 2), ("less", 3)] rfl sc__law_sum.nd (si_zip (by rfl) T.m_zip (sa_cons (se_var 0) (sa_cons (se_var 1) (sa_nil)))) (blkOk_by (by kernel_rfl)) (fun _ _ _ _ _ => svi_pair rfl (svs_cons (sv_name 2 sc__law_sum.nd) (svs_cons (sv_name 3 sc__law_sum.nd) (svs_nil)))) (fun _ _ _ _ _ => sts_nil) (fun _ _ _ _ _ => se_bin op_addA ro_add addG_calm (se_var 2) (se_var 3))) (sa_nil)))))
theorem dv__law_arrow (T : Top K mg) : FnD P w K mg base CX0 eo0 2 T.f__law_arrow T.fd__law_arrow ["works", "source", "target", "total", "marks"] F__law_arrow :=
  fnD_of T.fn__law_arrow sc__law_arrow fun cdv hcode A outer s H E hr hg => SSs.nox (
    ss_cons (ss_par2 5 6 rfl sc__law_arrow.nd (sa_cons (se_call 2 (dv__law_less T) hg (hr.mono (by decide)) (by rfl) T.g__law_less T.fn__law_less.kp T.bn__law_less pass0 (fun _ _ _ _ _ h => h) (sa_cons (se_ix (u128 hr) (se_ix (u128 hr) (se_var 4) (se_var 2)) (se_int)) (sa_cons (se_ix (u128 hr) (se_ix (u128 hr) (se_var 4) (se_var 1)) (se_int)) (sa_nil))) (len_cons (len_cons len_nil)) rfl) (sa_cons (se_call 2 (dv__law_less T) hg (hr.mono (by decide)) (by rfl) T.g__law_less T.fn__law_less.kp T.bn__law_less pass0 (fun _ _ _ _ _ h => h) (sa_cons (se_ix (u128 hr) (se_ix (u128 hr) (se_var 4) (se_var 2)) (se_int)) (sa_cons (se_ix (u128 hr) (se_ix (u128 hr) (se_var 4) (se_var 1)) (se_int)) (sa_nil))) (len_cons (len_cons len_nil)) rfl) (sa_nil)))) (ss_cons (ss_if (st_cmp op_lt ro_cmp (cmpG_calm _) (se_callB (call_minA rfl) rc_min minG_calm (by rfl) T.m_min (by decide +kernel) (sa_cons (se_var 5) (sa_nil))) (se_int)) (ss_one (ss_par2 5 6 rfl sc__law_arrow.nd (sa_cons (se_call 2 (dv__law_sum T) hg (hr.mono (by decide)) (by rfl) T.g__law_sum T.fn__law_sum.kp T.bn__law_sum pass0 (fun _ _ _ _ _ h => h) (sa_cons (se_var 5) (sa_cons (se_ix (u128 hr) (se_var 3) (se_int)) (sa_nil))) (len_cons (len_cons len_nil)) rfl) (sa_cons (se_call 2 (dv__law_sum T) hg (hr.mono (by decide)) (by rfl) T.g__law_sum T.fn__law_sum.kp T.bn__law_sum pass0 (fun _ _ _ _ _ h => h) (sa_cons (se_var 6) (sa_cons (se_ix (u128 hr) (se_var 3) (se_int)) (sa_nil))) (len_cons (len_cons len_nil)) rfl) (sa_nil))))) (ss_one (ss_if (SW.st (sw_and (st_cmp (op_neN (u128 hr)) ro_eq (eqG_calm true) (se_var 6) (se_tup (sa_nil))) (sw_and1 (st_cmp op_lt ro_cmp (cmpG_calm _) (se_callB (call_minA rfl) rc_min minG_calm (by rfl) T.m_min (by decide +kernel) (sa_cons (se_var 6) (sa_nil))) (se_int))))) (ss_one (ss_set 6 sc__law_arrow.nd (se_call 2 (dv__law_sum T) hg (hr.mono (by decide)) (by rfl) T.g__law_sum T.fn__law_sum.kp T.bn__law_sum pass0 (fun _ _ _ _ _ h => h) (sa_cons (se_var 6) (sa_cons (se_ix (u128 hr) (se_var 3) (se_int)) (sa_nil))) (len_cons (len_cons len_nil)) rfl))) (ss_nil)))) (ss_one (ss_ret (se_tup (sa_cons (se_var 1) (sa_cons (se_var 2) (sa_cons (se_var 5) (sa_cons (se_var 6) (sa_nil))))))))))
theorem dv__law_part (T : Top K mg) : FnD P w K mg base CX0 eo0 2 T.f__law_part T.fd__law_part ["bag", "lot"] F__law_part :=
  fnD_of T.fn__law_part sc__law_part fun cdv hcode A outer s H E hr hg => SSs.nox (
    ss_one (ss_ret (se_callTy call_tupleZ rc_tuple tupleG_calm (by rfl) T.m_tuple (by decide +kernel) (sa_cons (se_lc [("number", 2)] rfl sc__law_part.nd (si_seq (se_var 1)) (blkOk_by (by kernel_rfl)) (fun _ _ _ _ _ => svi_one (sv_name 2 sc__law_part.nd)) (fun _ _ _ _ _ => sts_nil) (fun _ _ _ _ _ => se_call 2 (dv__law_take T) hg (hr.mono (by decide)) (by rfl) T.g__law_take T.fn__law_take.kp T.bn__law_take pass0 (fun _ _ _ _ _ h => h) (sa_cons (se_var 0) (sa_cons (se_bin op_addA ro_add addG_calm (se_var 2) (se_int)) (sa_nil))) (len_cons (len_cons len_nil)) rfl)) (sa_nil)))))
theorem dv__law_held_sender (T : Top K mg) : FnD P w K mg base CX0 eo0 4 T.f__law_held_sender T.fd__law_held_sender ["bag", "works", "places", "more"] F__law_held_sender :=
  fnD_of T.fn__law_held_sender sc__law_held_sender fun cdv hcode A outer s H E hr hg => SSs.nox (
    ss_cons (ss_par2 4 5 rfl sc__law_held_sender.nd (sa_cons (se_bin op_addA ro_add addG_calm (se_int) (se_call 2 (dv__law_take T) hg (hr.mono (by decide)) (by rfl) T.g__law_take T.fn__law_take.kp T.bn__law_take pass0 (fun _ _ _ _ _ h => h) (sa_cons (se_var 0) (sa_cons (se_var 2) (sa_nil))) (len_cons (len_cons len_nil)) rfl)) (sa_cons (se_call 3 (dv__law_planted T) hg (hr.mono (by decide)) (by rfl) T.g__law_planted T.fn__law_planted.kp T.bn__law_planted pass0 (fun _ _ _ _ _ h => h) (sa_cons (se_var 0) (sa_cons (se_var 1) (sa_cons (se_int) (sa_nil)))) (len_cons (len_cons (len_cons len_nil))) rfl) (sa_nil)))) (ss_cons (ss_set 6 sc__law_held_sender.nd (se_lst (sa_cons (se_tup (sa_cons (se_call 1 (dv__law_nothing T) hg (hr.mono (by decide)) (by rfl) T.g__law_nothing T.fn__law_nothing.kp T.bn__law_nothing pass0 (fun _ _ _ _ _ h => h) (sa_cons (se_var 1) (sa_nil)) (len_cons len_nil) rfl) (sa_cons (se_bin op_mulA ro_mul mulG_calm (se_tup (sa_cons (se_int) (sa_nil))) (se_callB call_len rc_len lenG_calm (by rfl) T.m_len (by decide +kernel) (sa_cons (se_ix (u128 hr) (se_var 1) (se_int)) (sa_nil)))) (sa_nil)))) (sa_nil)))) (ss_cons (ss_for PassesOwn.never rfl (si_r2 (by rfl) T.m_range (sa_cons (se_int) (sa_cons (se_var 4) (sa_nil)))) (sgi_one (sg_name 7 sc__law_held_sender.nd)) (ss_one (ss_expr (se_meth PySem.F.plainAttrs_list PySem.F.slot_list_append PySem.F.type_list_append mt_append rm_append appendG_calm (se_var 6) (sa_cons (se_tup (sa_cons (se_call 2 (dv__law_part T) hg (hr.mono (by decide)) (by rfl) T.g__law_part T.fn__law_part.kp T.bn__law_part pass0 (fun _ _ _ _ _ h => h) (sa_cons (se_var 0) (sa_cons (se_ix (u128 hr) (se_var 5) (se_int)) (sa_nil))) (len_cons (len_cons len_nil)) rfl) (sa_cons (se_call 2 (dv__law_part T) hg (hr.mono (by decide)) (by rfl) T.g__law_part T.fn__law_part.kp T.bn__law_part pass0 (fun _ _ _ _ _ h => h) (sa_cons (se_var 0) (sa_cons (se_ix (u128 hr) (se_var 5) (se_int)) (sa_nil))) (len_cons (len_cons len_nil)) rfl) (sa_nil)))) (sa_nil)))))) (ss_cons (ss_set 8 sc__law_held_sender.nd (se_lst (sa_nil))) (ss_cons (ss_for PassesOwn.never rfl (si_seq (se_call 3 (dv__law_links T) hg (hr.mono (by decide)) (by rfl) T.g__law_links T.fn__law_links.kp T.bn__law_links pass0 (fun _ _ _ _ _ h => h) (sa_cons (se_var 0) (sa_cons (se_var 4) (sa_cons (se_var 3) (sa_nil)))) (len_cons (len_cons (len_cons len_nil))) rfl)) (sgi_one (sg_tup rfl (sgs_cons (sg_name 9 sc__law_held_sender.nd) (sgs_cons (sg_name 10 sc__law_held_sender.nd) (sgs_nil))))) (ss_cons (ss_set 11 sc__law_held_sender.nd (se_call 5 (dv__law_arrow T) hg (hr.mono (by decide)) (by rfl) T.g__law_arrow T.fn__law_arrow.kp T.bn__law_arrow pass0 (fun _ _ _ _ _ h => h) (sa_cons (se_var 1) (sa_cons (se_var 9) (sa_cons (se_var 10) (sa_cons (se_var 5) (sa_cons (se_var 6) (sa_nil)))))) (len_cons (len_cons (len_cons (len_cons (len_cons len_nil))))) rfl)) (ss_cons (ss_if (SW.st (sw_and (st_cmp (op_eqN (u128 hr)) ro_eq (eqG_calm false) (se_var 9) (se_var 10)) (sw_and1 (st_cmp (op_eqN (u128 hr)) ro_eq (eqG_calm false) (se_call 2 (dv__law_take T) hg (hr.mono (by decide)) (by rfl) T.g__law_take T.fn__law_take.kp T.bn__law_take pass0 (fun _ _ _ _ _ h => h) (sa_cons (se_var 0) (sa_cons (se_int) (sa_nil))) (len_cons (len_cons len_nil)) rfl) (se_int))))) (ss_one (ss_set 11 sc__law_held_sender.nd (se_bin op_addA ro_add addG_calm (se_slice (se_var 11) (so_none) (so_some (se_int))) (se_slice (se_var 5) (so_none) (so_some (se_int)))))) (ss_nil)) (ss_one (ss_expr (se_meth PySem.F.plainAttrs_list PySem.F.slot_list_append PySem.F.type_list_append mt_append rm_append appendG_calm (se_var 8) (sa_cons (se_var 11) (sa_nil)))))))) (ss_one (ss_ret (se_tup (sa_cons (se_var 4) (sa_cons (se_callTy call_tupleZ rc_tuple tupleG_calm (by rfl) T.m_tuple (by decide +kernel) (sa_cons (se_var 8) (sa_nil))) (sa_nil)))))))))))
theorem dv__law_any_sender (T : Top K mg) : FnD P w K mg base CX0 eo0 4 T.f__law_any_sender T.fd__law_any_sender ["bag", "works", "places", "more"] F__law_any_sender :=
  fnD_of T.fn__law_any_sender sc__law_any_sender fun cdv hcode A outer s H E hr hg => SSs.nox (
    ss_cons (ss_par2 4 5 rfl sc__law_any_sender.nd (sa_cons (se_bin op_addA ro_add addG_calm (se_int) (se_call 2 (dv__law_take T) hg (hr.mono (by decide)) (by rfl) T.g__law_take T.fn__law_take.kp T.bn__law_take pass0 (fun _ _ _ _ _ h => h) (sa_cons (se_var 0) (sa_cons (se_var 2) (sa_nil))) (len_cons (len_cons len_nil)) rfl)) (sa_cons (se_lst (sa_nil)) (sa_nil)))) (ss_cons (ss_set 6 sc__law_any_sender.nd (se_call 3 (dv__law_links T) hg (hr.mono (by decide)) (by rfl) T.g__law_links T.fn__law_links.kp T.bn__law_links pass0 (fun _ _ _ _ _ h => h) (sa_cons (se_var 0) (sa_cons (se_var 4) (sa_cons (se_var 3) (sa_nil)))) (len_cons (len_cons (len_cons len_nil))) rfl)) (ss_cons (ss_for PassesOwn.never rfl (si_seq (se_slice (se_var 6) (so_none) (so_some (se_call 2 (dv__law_one T) hg (hr.mono (by decide)) (by rfl) T.g__law_one T.fn__law_one.kp T.bn__law_one pass0 (fun _ _ _ _ _ h => h) (sa_cons (se_var 0) (sa_cons (se_lst (sa_cons (se_callB call_len rc_len lenG_calm (by rfl) T.m_len (by decide +kernel) (sa_cons (se_var 6) (sa_nil))) (sa_cons (se_callB call_len rc_len lenG_calm (by rfl) T.m_len (by decide +kernel) (sa_cons (se_var 6) (sa_nil))) (sa_cons (se_call 2 (dv__law_take T) hg (hr.mono (by decide)) (by rfl) T.g__law_take T.fn__law_take.kp T.bn__law_take pass0 (fun _ _ _ _ _ h => h) (sa_cons (se_var 0) (sa_cons (se_bin op_addA ro_add addG_calm (se_callB call_len rc_len lenG_calm (by rfl) T.m_len (by decide +kernel) (sa_cons (se_var 6) (sa_nil))) (se_int)) (sa_nil))) (len_cons (len_cons len_nil)) rfl) (sa_nil))))) (sa_nil))) (len_cons (len_cons len_nil)) rfl)))) (sgi_one (sg_tup rfl (sgs_cons (sg_name 7 sc__law_any_sender.nd) (sgs_cons (sg_name 8 sc__law_any_sender.nd) (sgs_nil))))) (ss_cons (ss_set 9 sc__law_any_sender.nd (se_callTy call_tupleZ rc_tuple tupleG_calm (by rfl) T.m_tuple (by decide +kernel) (sa_cons (se_lc [("kind", 10)] rfl sc__law_any_sender.nd (si_seq (se_ix (u128 hr) (se_var 1) (se_int))) (blkOk_by (by kernel_rfl)) (fun _ _ _ _ _ => svi_one (sv_name 10 sc__law_any_sender.nd)) (fun _ _ _ _ _ => sts_nil) (fun _ _ _ _ _ => se_call 2 (dv__law_one T) hg (hr.mono (by decide)) (by rfl) T.g__law_one T.fn__law_one.kp T.bn__law_one pass0 (fun _ _ _ _ _ h => h) (sa_cons (se_var 0) (sa_cons (se_lst (sa_cons (se_int) (sa_cons (se_int) (sa_cons (se_int) (sa_cons (se_int) (sa_cons (se_int) (sa_nil))))))) (sa_nil))) (len_cons (len_cons len_nil)) rfl)) (sa_nil)))) (ss_one (ss_expr (se_meth PySem.F.plainAttrs_list PySem.F.slot_list_append PySem.F.type_list_append mt_append rm_append appendG_calm (se_var 5) (sa_cons (se_tup (sa_cons (se_var 7) (sa_cons (se_var 8) (sa_cons (se_var 9) (sa_cons (se_callTy call_tupleZ rc_tuple tupleG_calm (by rfl) T.m_tuple (by decide +kernel) (sa_cons (se_lc [("hand", 11)] rfl sc__law_any_sender.nd (si_seq (se_ix (u128 hr) (se_var 1) (se_int))) (blkOk_by (by kernel_rfl)) (fun _ _ _ _ _ => svi_one (sv_name 11 sc__law_any_sender.nd)) (fun _ _ _ _ _ => sts_nil) (fun _ _ _ _ _ => se_call 2 (dv__law_one T) hg (hr.mono (by decide)) (by rfl) T.g__law_one T.fn__law_one.kp T.bn__law_one pass0 (fun _ _ _ _ _ h => h) (sa_cons (se_var 0) (sa_cons (se_lst (sa_cons (se_int) (sa_cons (se_int) (sa_cons (se_int) (sa_cons (se_int) (sa_nil)))))) (sa_nil))) (len_cons (len_cons len_nil)) rfl)) (sa_nil))) (sa_nil)))))) (sa_nil))))))) (ss_one (ss_ret (se_tup (sa_cons (se_var 4) (sa_cons (se_callTy call_tupleZ rc_tuple tupleG_calm (by rfl) T.m_tuple (by decide +kernel) (sa_cons (se_var 5) (sa_nil))) (sa_nil)))))))))
theorem dv__law_bent_sender (T : Top K mg) : FnD P w K mg base CX0 eo0 3 T.f__law_bent_sender T.fd__law_bent_sender ["bag", "works", "sender"] F__law_bent_sender :=
  fnD_of T.fn__law_bent_sender sc__law_bent_sender fun cdv hcode A outer s H E hr hg => SSs.nox (
    ss_cons (ss_if (st_cmp (op_eqN (u128 hr)) ro_eq (eqG_calm false) (se_ix (u128 hr) (se_var 2) (se_int)) (se_tup (sa_nil))) (ss_one (ss_ret (se_var 2))) (ss_nil)) (ss_cons (ss_set 3 sc__law_bent_sender.nd (se_call 2 (dv__law_take T) hg (hr.mono (by decide)) (by rfl) T.g__law_take T.fn__law_take.kp T.bn__law_take pass0 (fun _ _ _ _ _ h => h) (sa_cons (se_var 0) (sa_cons (se_callB call_len rc_len lenG_calm (by rfl) T.m_len (by decide +kernel) (sa_cons (se_ix (u128 hr) (se_var 2) (se_int)) (sa_nil))) (sa_nil))) (len_cons (len_cons len_nil)) rfl)) (ss_cons (ss_asg (se_ix (u128 hr) (se_ix (u128 hr) (se_var 2) (se_int)) (se_var 3)) (sg_tup rfl (sgs_cons (sg_name 4 sc__law_bent_sender.nd) (sgs_cons (sg_name 5 sc__law_bent_sender.nd) (sgs_cons (sg_name 6 sc__law_bent_sender.nd) (sgs_cons (sg_name 7 sc__law_bent_sender.nd) (sgs_nil))))))) (ss_cons (ss_setLc 8 [("place", 9)] rfl sc__law_bent_sender.nd (si_r1 (by rfl) T.m_range (sa_cons (se_callB call_len rc_len lenG_calm (by rfl) T.m_len (by decide +kernel) (sa_cons (se_var 7) (sa_nil))) (sa_nil))) (blkOk_by (by kernel_rfl)) (sw_true rfl rfl rfl (by decide +kernel)) (fun _ _ _ _ _ => svi_one (sv_name 9 sc__law_bent_sender.nd)) (fun _ _ _ _ _ => sts_one (st_cmp op_gt ro_cmp (cmpG_calm _) (se_ix (u128 hr) (se_var 7) (se_var 9)) (se_int))) (fun _ _ _ _ _ => se_var 9)) (ss_cons (ss_if (SW.st (sw_and (st_cmp (op_neN (u128 hr)) ro_eq (eqG_calm true) (se_var 8) (se_lst (sa_nil))) (sw_and1 (st_cmp (op_eqN (u128 hr)) ro_eq (eqG_calm false) (se_call 2 (dv__law_take T) hg (hr.mono (by decide)) (by rfl) T.g__law_take T.fn__law_take.kp T.bn__law_take pass0 (fun _ _ _ _ _ h => h) (sa_cons (se_var 0) (sa_cons (se_int) (sa_nil))) (len_cons (len_cons len_nil)) rfl) (se_int))))) (ss_cons (ss_set 9 sc__law_bent_sender.nd (se_call 2 (dv__law_one T) hg (hr.mono (by decide)) (by rfl) T.g__law_one T.fn__law_one.kp T.bn__law_one pass0 (fun _ _ _ _ _ h => h) (sa_cons (se_var 0) (sa_cons (se_var 8) (sa_nil))) (len_cons (len_cons len_nil)) rfl)) (ss_one (ss_set 7 sc__law_bent_sender.nd (se_bin op_addA ro_add addG_calm (se_bin op_addA ro_add addG_calm (se_slice (se_var 7) (so_none) (so_some (se_var 9))) (se_tup (sa_cons (se_bin op_sub ro_sub subG_calm (se_ix (u128 hr) (se_var 7) (se_var 9)) (se_int)) (sa_nil)))) (se_slice (se_var 7) (so_some (se_bin op_addA ro_add addG_calm (se_var 9) (se_int))) (so_none)))))) (ss_cons (ss_set 9 sc__law_bent_sender.nd (se_call 2 (dv__law_take T) hg (hr.mono (by decide)) (by rfl) T.g__law_take T.fn__law_take.kp T.bn__law_take pass0 (fun _ _ _ _ _ h => h) (sa_cons (se_var 0) (sa_cons (se_callB call_len rc_len lenG_calm (by rfl) T.m_len (by decide +kernel) (sa_cons (se_var 6) (sa_nil))) (sa_nil))) (len_cons (len_cons len_nil)) rfl)) (ss_one (ss_set 6 sc__law_bent_sender.nd (se_bin op_addA ro_add addG_calm (se_bin op_addA ro_add addG_calm (se_slice (se_var 6) (so_none) (so_some (se_var 9))) (se_tup (sa_cons (se_callB (call_minA rfl) rc_min minG_calm (by rfl) T.m_min (by decide +kernel) (sa_cons (se_int) (sa_cons (se_bin op_addA ro_add addG_calm (se_ix (u128 hr) (se_var 6) (se_var 9)) (se_int)) (sa_nil)))) (sa_nil)))) (se_slice (se_var 6) (so_some (se_bin op_addA ro_add addG_calm (se_var 9) (se_int))) (so_none))))))) (ss_one (ss_ret (se_tup (sa_cons (se_ix (u128 hr) (se_var 2) (se_int)) (sa_cons (se_bin op_addA ro_add addG_calm (se_bin op_addA ro_add addG_calm (se_slice (se_ix (u128 hr) (se_var 2) (se_int)) (so_none) (so_some (se_var 3))) (se_tup (sa_cons (se_tup (sa_cons (se_var 4) (sa_cons (se_var 5) (sa_cons (se_var 6) (sa_cons (se_var 7) (sa_nil)))))) (sa_nil)))) (se_slice (se_ix (u128 hr) (se_var 2) (se_int)) (so_some (se_bin op_addA ro_add addG_calm (se_var 3) (se_int))) (so_none))) (sa_nil)))))))))))
theorem dv__law_sender (T : Top K mg) : FnD P w K mg base CX0 eo0 5 T.f__law_sender T.fd__law_sender ["bag", "works", "places", "more"] F__law_sender :=
  fnD_of T.fn__law_sender sc__law_sender fun cdv hcode A outer s H E hr hg => SSs.nox (
    ss_cons (ss_set 4 sc__law_sender.nd (se_call 2 (dv__law_take T) hg (hr.mono (by decide)) (by rfl) T.g__law_take T.fn__law_take.kp T.bn__law_take pass0 (fun _ _ _ _ _ h => h) (sa_cons (se_var 0) (sa_cons (se_int) (sa_nil))) (len_cons (len_cons len_nil)) rfl)) (ss_cons (ss_if (st_cmp (op_eqN (u128 hr)) ro_eq (eqG_calm false) (se_var 4) (se_int)) (ss_one (ss_ret (se_call 4 (dv__law_any_sender T) hg (hr.mono (by decide)) (by rfl) T.g__law_any_sender T.fn__law_any_sender.kp T.bn__law_any_sender pass0 (fun _ _ _ _ _ h => h) (sa_cons (se_var 0) (sa_cons (se_var 1) (sa_cons (se_var 2) (sa_cons (se_var 3) (sa_nil))))) (len_cons (len_cons (len_cons (len_cons len_nil)))) rfl))) (ss_nil)) (ss_cons (ss_set 5 sc__law_sender.nd (se_call 4 (dv__law_held_sender T) hg (hr.mono (by decide)) (by rfl) T.g__law_held_sender T.fn__law_held_sender.kp T.bn__law_held_sender pass0 (fun _ _ _ _ _ h => h) (sa_cons (se_var 0) (sa_cons (se_var 1) (sa_cons (se_var 2) (sa_cons (se_var 3) (sa_nil))))) (len_cons (len_cons (len_cons (len_cons len_nil)))) rfl)) (ss_one (ss_ret (se_if (st_cmp (op_eqN (u128 hr)) ro_eq (eqG_calm false) (se_var 4) (se_int)) (se_call 3 (dv__law_bent_sender T) hg (hr.mono (by decide)) (by rfl) T.g__law_bent_sender T.fn__law_bent_sender.kp T.bn__law_bent_sender pass0 (fun _ _ _ _ _ h => h) (sa_cons (se_var 0) (sa_cons (se_var 1) (sa_cons (se_var 5) (sa_nil)))) (len_cons (len_cons (len_cons len_nil))) rfl) (se_var 5)))))))
theorem dv__law_world (T : Top K mg) : FnD P w K mg base CX0 eo0 6 T.f__law_world T.fd__law_world ["bag", "kinds", "recipes", "places"] F__law_world :=
  fnD_of T.fn__law_world sc__law_world fun cdv hcode A outer s H E hr hg => SSs.nox (
    ss_cons (ss_set 4 sc__law_world.nd (se_call 4 (dv__law_works T) hg (hr.mono (by decide)) (by rfl) T.g__law_works T.fn__law_works.kp T.bn__law_works pass0 (fun _ _ _ _ _ h => h) (sa_cons (se_var 0) (sa_cons (se_var 1) (sa_cons (se_int) (sa_cons (se_var 2) (sa_nil))))) (len_cons (len_cons (len_cons (len_cons len_nil)))) rfl)) (ss_one (ss_ret (se_tup (sa_cons (se_var 4) (sa_cons (se_call 4 (dv__law_sender T) hg (hr.mono (by decide)) (by rfl) T.g__law_sender T.fn__law_sender.kp T.bn__law_sender pass0 (fun _ _ _ _ _ h => h) (sa_cons (se_var 0) (sa_cons (se_var 4) (sa_cons (se_var 3) (sa_cons (se_int) (sa_nil))))) (len_cons (len_cons (len_cons (len_cons len_nil)))) rfl) (sa_nil)))))))
theorem dv__law_thick_ring (T : Top K mg) : FnD P w K mg base CX0 eo0 3 T.f__law_thick_ring T.fd__law_thick_ring ["bag", "works", "many"] F__law_thick_ring :=
  fnD_of T.fn__law_thick_ring sc__law_thick_ring fun cdv hcode A outer s H E hr hg => SSs.nox (
    ss_cons (ss_set 3 sc__law_thick_ring.nd (se_bin op_addA ro_add addG_calm (se_lst (sa_cons (se_int) (sa_nil))) (se_call 2 (dv__law_mixed T) hg (hr.mono (by decide)) (by rfl) T.g__law_mixed T.fn__law_mixed.kp T.bn__law_mixed pass0 (fun _ _ _ _ _ h => h) (sa_cons (se_var 0) (sa_cons (se_lst (sa_cons (se_int) (sa_cons (se_int) (sa_cons (se_int) (sa_cons (se_int) (sa_nil)))))) (sa_nil))) (len_cons (len_cons len_nil)) rfl))) (ss_cons (ss_set 4 sc__law_thick_ring.nd (se_lst (sa_nil))) (ss_cons (ss_for PassesOwn.never rfl (si_enum (by rfl) T.m_enumerate (sa_cons (se_var 2) (sa_nil))) (sgi_pair rfl (sgs_cons (sg_name 5 sc__law_thick_ring.nd) (sgs_cons (sg_name 6 sc__law_thick_ring.nd) (sgs_nil)))) (ss_one (ss_expr (se_meth PySem.F.plainAttrs_list PySem.F.slot_list_extend PySem.F.type_list_extend mt_extZ rm_extend extendG_calm (se_var 4) (sa_cons (se_bin op_mulA ro_mul mulG_calm (se_lst (sa_cons (se_tup (sa_cons (se_ix (u128 hr) (se_var 3) (se_var 5)) (sa_cons (se_ix (u128 hr) (se_bin op_addA ro_add addG_calm (se_slice (se_var 3) (so_some (se_int)) (so_none)) (se_lst (sa_cons (se_int) (sa_nil)))) (se_var 5)) (sa_cons (se_call 1 (dv__law_nothing T) hg (hr.mono (by decide)) (by rfl) T.g__law_nothing T.fn__law_nothing.kp T.bn__law_nothing pass0 (fun _ _ _ _ _ h => h) (sa_cons (se_var 1) (sa_nil)) (len_cons len_nil) rfl) (sa_cons (se_bin op_mulA ro_mul mulG_calm (se_tup (sa_cons (se_int) (sa_nil))) (se_callB call_len rc_len lenG_calm (by rfl) T.m_len (by decide +kernel) (sa_cons (se_ix (u128 hr) (se_var 1) (se_int)) (sa_nil)))) (sa_nil)))))) (sa_nil))) (se_var 6)) (sa_nil)))))) (ss_one (ss_ret (se_tup (sa_cons (se_int) (sa_cons (se_callTy call_tupleZ rc_tuple tupleG_calm (by rfl) T.m_tuple (by decide +kernel) (sa_cons (se_call 2 (dv__law_mixed T) hg (hr.mono (by decide)) (by rfl) T.g__law_mixed T.fn__law_mixed.kp T.bn__law_mixed pass0 (fun _ _ _ _ _ h => h) (sa_cons (se_var 0) (sa_cons (se_var 4) (sa_nil))) (len_cons (len_cons len_nil)) rfl) (sa_nil))) (sa_nil)))))))))
theorem hs__law_heard (T : Top K mg) {cdv : Value} {A : Around} {outer : List Env} {s : Shared} {H : Hp} : HsD (cxOf C8.CX0 P w K mg base ["act", "e"] "_law_heard" (defScope s__law_heard) T.f__law_heard cdv A outer s H C8.E0) (ctT T) (tryH (defBody s__law_heard)) [(15, hRet 1 "many" 0), (18, fun _ => sRet (dTup (aCons (dC (.str "other")) (aCons (dC .non) (aNil)))))] :=
  hd_ret 15 1 0 ⟨rfl, by decide, .inl T.g_TooMany⟩ (xm_TooMany T) (by intro c h; simpa [subC] using h) rfl rfl T.xf_TooMany T.no_TooMany sc__law_heard.nd rfl rfl (.inl rfl) (by decide) (by decide) rfl (hd_only 18 ⟨rfl, by decide, .inl T.g_HeapError⟩ (xm_HeapError T) (fun _ _ => ss_one (ss_ret (se_tup (sa_cons (se_str) (sa_cons (se_non) (sa_nil)))))) (hd_nil))
theorem dv__law_alike (T : Top K mg) : FnD P w K mg base CX0 eo0 1 T.f__law_alike T.fd__law_alike ["found", "due"] F__law_alike :=
  fnD_of T.fn__law_alike sc__law_alike fun cdv hcode A outer s H E hr hg => SSs.nox (
    ss_one (ss_ret (se_and (se_cmp (op_eqN (u128 hr)) ro_eq (eqG_calm false) (se_var 0) (se_var 1)) (se_one (se_cmp (op_eqN (u128 hr)) ro_eq (eqG_calm false) (se_callB (call_repr hg hr.units) rc_repr reprG_calm (by rfl) T.m_repr (by decide +kernel) (sa_cons (se_var 0) (sa_nil))) (se_callB (call_repr hg hr.units) rc_repr reprG_calm (by rfl) T.m_repr (by decide +kernel) (sa_cons (se_var 1) (sa_nil))))))))
theorem dv_places_come_to (T : Top K mg) : FnD P w K mg base CX0 eo0 1 T.f_places_come_to T.fd_places_come_to ["sender"] F_places_come_to :=
  fnD_of T.fn_places_come_to sc_places_come_to fun cdv hcode A outer s H E hr hg => SSs.nox (
    ss_cons (ss_set 1 sc_places_come_to.nd (se_disp (sps_cons (se_int) (se_bl) (sps_nil)))) (ss_cons (ss_set 2 sc_places_come_to.nd (se_bl)) (ss_cons (ss_while PassesOwn.never (st_val (se_var 2)) (ss_cons (ss_set 2 sc_places_come_to.nd (se_bl)) (ss_one (ss_for PassesOwn.never rfl (si_seq (se_ix (u128 hr) (se_var 0) (se_int))) (sgi_one (sg_tup rfl (sgs_cons (sg_name 3 sc_places_come_to.nd) (sgs_cons (sg_name 4 sc_places_come_to.nd) (sgs_cons (sg_name 5 sc_places_come_to.nd) (sgs_cons (sg_name 5 sc_places_come_to.nd) (sgs_nil))))))) (ss_one (ss_if (SW.st (sw_and (st_cmp (op_inA (u128 hr)) ro_in (inG_calm false) (se_var 3) (se_var 1)) (sw_and1 (st_cmp (op_ninA (u128 hr)) ro_in (inG_calm true) (se_var 4) (se_var 1))))) (ss_cons (ss_asg (se_bl) (sg_sub (u128 hr) (se_var 1) (se_var 4))) (ss_one (ss_set 2 sc_places_come_to.nd (se_bl)))) (ss_nil))))))) (ss_one (ss_ret (se_callTy call_tupleZ rc_tuple tupleG_calm (by rfl) T.m_tuple (by decide +kernel) (sa_cons (se_callB (cr_sortAll (u128 hr) rfl) rc_sorted sortedG_calm (by rfl) T.m_sorted (by decide +kernel) (sa_cons (se_var 1) (sa_nil))) (sa_nil))))))))
theorem dv_come_to (T : Top K mg) : FnD P w K mg base CX0 eo0 2 T.f_come_to T.fd_come_to ["sender"] F_come_to :=
  fnD_of T.fn_come_to sc_come_to fun cdv hcode A outer s H E hr hg => SSs.nox (
    ss_one (ss_ret (se_call 1 (dv_places_come_to T) hg (hr.mono (by decide)) (by rfl) T.g_places_come_to T.fn_places_come_to.kp T.bn_places_come_to pass0 (fun _ _ _ _ _ h => h) (sa_cons (se_var 0) (sa_nil)) (len_cons len_nil) rfl)))
theorem dv__sources_into (T : Top K mg) : FnD P w K mg base CX0 eo0 1 T.f__sources_into T.fd__sources_into ["sender"] F__sources_into :=
  fnD_of T.fn__sources_into sc__sources_into fun cdv hcode A outer s H E hr hg => SSs.nox (
    ss_cons (ss_set 1 sc__sources_into.nd (se_newD)) (ss_cons (ss_for PassesOwn.never rfl (si_seq (se_ix (u128 hr) (se_var 0) (se_int))) (sgi_one (sg_tup rfl (sgs_cons (sg_name 2 sc__sources_into.nd) (sgs_cons (sg_name 3 sc__sources_into.nd) (sgs_cons (sg_name 4 sc__sources_into.nd) (sgs_cons (sg_name 4 sc__sources_into.nd) (sgs_nil))))))) (ss_one (ss_expr (se_meth PySem.F.plainAttrs_list PySem.F.slot_list_append PySem.F.type_list_append mt_append rm_append appendG_calm (se_setd (se_var 1) (se_var 3) (se_lst (sa_nil)) ⟨rfl, rfl, rfl, rfl⟩) (sa_cons (se_var 2) (sa_nil)))))) (ss_one (ss_ret (se_var 1)))))
theorem dv__leading_back (T : Top K mg) : FnD P w K mg base CX0 eo0 1 T.f__leading_back T.fd__leading_back ["sources", "start", "passed"] F__leading_back :=
  fnD_of T.fn__leading_back sc__leading_back fun cdv hcode A outer s H E hr hg => SSs.nox (
    ss_cons (ss_set 3 sc__leading_back.nd (se_disp (sps_cons (se_var 1) (se_bl) (sps_nil)))) (ss_cons (ss_set 4 sc__leading_back.nd (se_lst (sa_cons (se_var 1) (sa_nil)))) (ss_cons (ss_while PassesOwn.never (st_truth (se_var 4)) (ss_cons (ss_set 5 sc__leading_back.nd (se_meth0 PySem.F.plainAttrs_list PySem.F.slot_list_pop PySem.F.type_list_pop mt_pop rm_pop popG_calm (se_var 4))) (ss_one (ss_for PassesOwn.never rfl (si_seq (se_meth PySem.F.plainAttrs_dict PySem.F.slot_dict_get PySem.F.type_dict_get (mt_dgetA (u128 hr)) rm_dget dgetMG_calm (se_var 0) (sa_cons (se_var 5) (sa_cons (se_lst (sa_nil)) (sa_nil))))) (sgi_one (sg_name 6 sc__leading_back.nd)) (ss_one (ss_if (SW.st (sw_and (st_cmp op_gt ro_cmp (cmpG_calm _) (se_var 6) (se_var 1)) (sw_and (st_cmp (op_ninA (u128 hr)) ro_in (inG_calm true) (se_var 6) (se_var 3)) (sw_and1 (st_cmp (op_ninA (u128 hr)) ro_in (inG_calm true) (se_var 6) (se_var 2)))))) (ss_cons (ss_asg (se_bl) (sg_sub (u128 hr) (se_var 3) (se_var 6))) (ss_one (ss_expr (se_meth PySem.F.plainAttrs_list PySem.F.slot_list_append PySem.F.type_list_append mt_append rm_append appendG_calm (se_var 4) (sa_cons (se_var 6) (sa_nil)))))) (ss_nil))))))) (ss_one (ss_ret (se_var 3))))))
theorem dv__rings_from (T : Top K mg) : FnD P w K mg base CX0 eo0 2 T.f__rings_from T.fd__rings_from ["sender", "start", "most"] F__rings_from :=
  fnD_of T.fn__rings_from sc__rings_from fun cdv hcode A outer s H E hr hg => SSs.nox (
    ss_cons (ss_set 3 sc__rings_from.nd (se_call 1 (dv__sources_into T) hg (hr.mono (by decide)) (by rfl) T.g__sources_into T.fn__sources_into.kp T.bn__sources_into pass0 (fun _ _ _ _ _ h => h) (sa_cons (se_var 0) (sa_nil)) (len_cons len_nil) rfl)) (ss_cons (ss_par2 4 5 rfl sc__rings_from.nd (sa_cons (se_lst (sa_nil)) (sa_cons (se_lst (sa_cons (se_tup (sa_nil)) (sa_nil))) (sa_nil)))) (ss_cons (ss_while PassesOwn.never (SW.st (sw_and (st_truth (se_var 5)) (sw_and1 (st_cmp op_le ro_cmp (cmpG_calm _) (se_callB call_len rc_len lenG_calm (by rfl) T.m_len (by decide +kernel) (sa_cons (se_var 4) (sa_nil))) (se_var 2))))) (ss_cons (ss_set 6 sc__rings_from.nd (se_meth0 PySem.F.plainAttrs_list PySem.F.slot_list_pop PySem.F.type_list_pop mt_pop rm_pop popG_calm (se_var 5))) (ss_cons (ss_set 7 sc__rings_from.nd (se_if (st_truth (se_var 6)) (se_ix (u128 hr) (se_ix (u128 hr) (se_ix (u128 hr) (se_var 0) (se_int)) (se_ix (u128 hr) (se_var 6) (se_neg (se_int)))) (se_int)) (se_var 1))) (ss_cons (ss_set 8 sc__rings_from.nd (se_call 3 (dv__leading_back T) hg (hr.mono (by decide)) (by rfl) T.g__leading_back T.fn__leading_back.kp T.bn__leading_back pass0 (fun _ _ _ _ _ h => h) (sa_cons (se_var 3) (sa_cons (se_var 1) (sa_cons (se_dc [("index", 9)] rfl sc__rings_from.nd (si_seq (se_var 6)) (blkOk_by (by kernel_rfl)) (fun _ _ _ _ _ => svi_one (sv_name 9 sc__rings_from.nd)) (fun _ _ _ _ _ => sts_nil) (fun _ _ _ _ _ => se_ix (u128 hr) (se_ix (u128 hr) (se_ix (u128 hr) (se_var 0) (se_int)) (se_var 9)) (se_int)) (fun _ _ _ _ _ => se_bl)) (sa_nil)))) (len_cons (len_cons (len_cons len_nil))) rfl)) (ss_one (ss_for PassesOwn.never rfl (si_enum (by rfl) T.m_enumerate (sa_cons (se_ix (u128 hr) (se_var 0) (se_int)) (sa_nil))) (sgi_pair rfl (sgs_cons (sg_name 9 sc__rings_from.nd) (sgs_cons (sg_tup rfl (sgs_cons (sg_name 10 sc__rings_from.nd) (sgs_cons (sg_name 11 sc__rings_from.nd) (sgs_cons (sg_name 12 sc__rings_from.nd) (sgs_cons (sg_name 12 sc__rings_from.nd) (sgs_nil)))))) (sgs_nil)))) (ss_one (ss_if (SW.st (sw_and (st_cmp (op_eqN (u128 hr)) ro_eq (eqG_calm false) (se_var 10) (se_var 7)) (sw_and1 (st_cmp (op_eqN (u128 hr)) ro_eq (eqG_calm false) (se_var 11) (se_var 1))))) (ss_one (ss_expr (se_meth PySem.F.plainAttrs_list PySem.F.slot_list_append PySem.F.type_list_append mt_append rm_append appendG_calm (se_var 4) (sa_cons (se_bin op_addA ro_add addG_calm (se_var 6) (se_tup (sa_cons (se_var 9) (sa_nil)))) (sa_nil))))) (ss_one (ss_if (SW.st (sw_and (st_cmp (op_eqN (u128 hr)) ro_eq (eqG_calm false) (se_var 10) (se_var 7)) (sw_and1 (st_cmp (op_inA (u128 hr)) ro_in (inG_calm false) (se_var 11) (se_var 8))))) (ss_one (ss_expr (se_meth PySem.F.plainAttrs_list PySem.F.slot_list_append PySem.F.type_list_append mt_append rm_append appendG_calm (se_var 5) (sa_cons (se_bin op_addA ro_add addG_calm (se_var 6) (se_tup (sa_cons (se_var 9) (sa_nil)))) (sa_nil))))) (ss_nil))))))))))) (ss_one (ss_ret (se_var 4))))))
theorem dv_rings_of (T : Top K mg) : FnD P w K mg base (L2.CX P w) (eoX K (ctT T)) 3 T.f_rings_of T.fd_rings_of ["sender"] F_rings_of :=
  fnD_of T.fn_rings_of sc_rings_of fun cdv hcode A outer s H E hr hg =>
    ss_cons (ss_set 1 sc_rings_of.nd (se_lst (sa_nil))) (ss_cons (ss_for (passes_of rfl) rfl (si_seq (se_callQ 1 (dv_come_to T) hg (hr.mono (by decide)) (by rfl) T.g_come_to T.fn_come_to.kp T.bn_come_to (sa_cons (se_var 0) (sa_nil)) (len_cons len_nil) rfl)) (sgi_one (sg_name 2 sc_rings_of.nd)) (ss_cons (ss_aug 1 sc_rings_of.nd ip_addIL ro_addIL addIL_calm (se_callQ 3 (dv__rings_from T) hg (hr.mono (by decide)) (by rfl) T.g__rings_from T.fn__rings_from.kp T.bn__rings_from (sa_cons (se_var 0) (sa_cons (se_var 2) (sa_cons (se_bin op_sub ro_sub subG_calm (se_glob (by rfl) T.c_MOST_RINGS) (se_callB call_len rc_len lenG_calm (by rfl) T.m_len (by decide +kernel) (sa_cons (se_var 1) (sa_nil)))) (sa_nil)))) (len_cons (len_cons (len_cons len_nil))) rfl)) (ss_one (ss_if (st_cmp op_gt ro_cmp (cmpG_calm _) (se_callB call_len rc_len lenG_calm (by rfl) T.m_len (by decide +kernel) (sa_cons (se_var 1) (sa_nil))) (se_glob (by rfl) T.c_MOST_RINGS)) (ss_one (ss_raise 1 15 rfl (takes_of rfl rfl rfl rfl) T.o_TooMany T.i_TooMany T.ti_TooMany (init_TooMany T) (hr.mono (by decide)) T.bi_TooMany (by rfl) T.g_TooMany rfl (sa_cons (se_glob (by rfl) T.c_MOST_RINGS) (sa_nil)) (len_cons len_nil) rfl (by decide))) (ss_nil))))) (ss_one (ss_ret (se_callB (cr_sortAll (u128 hr) rfl) rc_sorted sortedG_calm (by rfl) T.m_sorted (by decide +kernel) (sa_cons (se_var 1) (sa_nil))))))
theorem dv__law_arrows_from (T : Top K mg) : FnD P w K mg base CX0 eo0 1 T.f__law_arrows_from T.fd__law_arrows_from ["sender", "place"] F__law_arrows_from :=
  fnD_of T.fn__law_arrows_from sc__law_arrows_from fun cdv hcode A outer s H E hr hg => SSs.nox (
    ss_one (ss_ret (se_lc [("index", 2)] rfl sc__law_arrows_from.nd (si_r1 (by rfl) T.m_range (sa_cons (se_callB call_len rc_len lenG_calm (by rfl) T.m_len (by decide +kernel) (sa_cons (se_ix (u128 hr) (se_var 0) (se_int)) (sa_nil))) (sa_nil))) (blkOk_by (by kernel_rfl)) (fun _ _ _ _ _ => svi_one (sv_name 2 sc__law_arrows_from.nd)) (fun _ _ _ _ _ => sts_one (st_cmp (op_eqN (u128 hr)) ro_eq (eqG_calm false) (se_ix (u128 hr) (se_ix (u128 hr) (se_ix (u128 hr) (se_var 0) (se_int)) (se_var 2)) (se_int)) (se_var 1))) (fun _ _ _ _ _ => se_var 2))))
theorem dv__law_come_to (T : Top K mg) : FnD P w K mg base CX0 eo0 2 T.f__law_come_to T.fd__law_come_to ["sender"] F__law_come_to :=
  fnD_of T.fn__law_come_to sc__law_come_to fun cdv hcode A outer s H E hr hg => SSs.nox (
    ss_cons (ss_par2 1 2 rfl sc__law_come_to.nd (sa_cons (se_lst (sa_cons (se_int) (sa_nil))) (sa_cons (se_lst (sa_cons (se_int) (sa_nil))) (sa_nil)))) (ss_cons (ss_while PassesOwn.never (st_cmp (op_neN (u128 hr)) ro_eq (eqG_calm true) (se_var 2) (se_lst (sa_nil))) (ss_one (ss_for PassesOwn.never rfl (si_seq (se_call 2 (dv__law_arrows_from T) hg (hr.mono (by decide)) (by rfl) T.g__law_arrows_from T.fn__law_arrows_from.kp T.bn__law_arrows_from pass0 (fun _ _ _ _ _ h => h) (sa_cons (se_var 0) (sa_cons (se_meth0 PySem.F.plainAttrs_list PySem.F.slot_list_pop PySem.F.type_list_pop mt_pop rm_pop popG_calm (se_var 2)) (sa_nil))) (len_cons (len_cons len_nil)) rfl)) (sgi_one (sg_name 3 sc__law_come_to.nd)) (ss_one (ss_if (st_cmp (op_ninA (u128 hr)) ro_in (inG_calm true) (se_ix (u128 hr) (se_ix (u128 hr) (se_ix (u128 hr) (se_var 0) (se_int)) (se_var 3)) (se_int)) (se_var 1)) (ss_cons (ss_expr (se_meth PySem.F.plainAttrs_list PySem.F.slot_list_append PySem.F.type_list_append mt_append rm_append appendG_calm (se_var 1) (sa_cons (se_ix (u128 hr) (se_ix (u128 hr) (se_ix (u128 hr) (se_var 0) (se_int)) (se_var 3)) (se_int)) (sa_nil)))) (ss_one (ss_expr (se_meth PySem.F.plainAttrs_list PySem.F.slot_list_append PySem.F.type_list_append mt_append rm_append appendG_calm (se_var 2) (sa_cons (se_ix (u128 hr) (se_ix (u128 hr) (se_ix (u128 hr) (se_var 0) (se_int)) (se_var 3)) (se_int)) (sa_nil)))))) (ss_nil)))))) (ss_one (ss_ret (se_callB (cr_sortAll (u128 hr) rfl) rc_sorted sortedG_calm (by rfl) T.m_sorted (by decide +kernel) (sa_cons (se_var 1) (sa_nil)))))))
theorem dv__law_rings (T : Top K mg) : FnD P w K mg base CX0 eo0 3 T.f__law_rings T.fd__law_rings ["sender", "most"] F__law_rings :=
  fnD_of T.fn__law_rings sc__law_rings fun cdv hcode A outer s H E hr hg => SSs.nox (
    ss_cons (ss_par3 2 3 4 rfl sc__law_rings.nd (sa_cons (se_lst (sa_nil)) (sa_cons (se_int) (sa_cons (se_call 1 (dv__law_come_to T) hg (hr.mono (by decide)) (by rfl) T.g__law_come_to T.fn__law_come_to.kp T.bn__law_come_to pass0 (fun _ _ _ _ _ h => h) (sa_cons (se_var 0) (sa_nil)) (len_cons len_nil) rfl) (sa_nil))))) (ss_cons (ss_for PassesOwn.never rfl (si_seq (se_var 4)) (sgi_one (sg_name 5 sc__law_rings.nd)) (ss_cons (ss_setLc 6 [("index", 10)] rfl sc__law_rings.nd (si_seq (se_call 2 (dv__law_arrows_from T) hg (hr.mono (by decide)) (by rfl) T.g__law_arrows_from T.fn__law_arrows_from.kp T.bn__law_arrows_from pass0 (fun _ _ _ _ _ h => h) (sa_cons (se_var 0) (sa_cons (se_var 5) (sa_nil))) (len_cons (len_cons len_nil)) rfl)) (blkOk_by (by kernel_rfl)) (sw_true rfl rfl rfl (by decide +kernel)) (fun _ _ _ _ _ => svi_one (sv_name 10 sc__law_rings.nd)) (fun _ _ _ _ _ => sts_nil) (fun _ _ _ _ _ => se_tup (sa_cons (se_tup (sa_cons (se_var 10) (sa_nil))) (sa_cons (se_ix (u128 hr) (se_ix (u128 hr) (se_ix (u128 hr) (se_var 0) (se_int)) (se_var 10)) (se_int)) (sa_nil))))) (ss_one (ss_while PassesOwn.never (st_cmp (op_neN (u128 hr)) ro_eq (eqG_calm true) (se_var 6) (se_lst (sa_nil))) (ss_cons (ss_asg (se_meth0 PySem.F.plainAttrs_list PySem.F.slot_list_pop PySem.F.type_list_pop mt_pop rm_pop popG_calm (se_var 6)) (sg_tup rfl (sgs_cons (sg_name 7 sc__law_rings.nd) (sgs_cons (sg_name 8 sc__law_rings.nd) (sgs_nil))))) (ss_cons (ss_aug 3 sc__law_rings.nd ip_addI ro_addI addI_calm (se_int)) (ss_cons (ss_if (st_cmp op_gt ro_cmp (cmpG_calm _) (se_var 3) (se_var 1)) (ss_one (ss_ret (se_non))) (ss_nil)) (ss_cons (ss_setLc 9 [("index", 10)] rfl sc__law_rings.nd (si_seq (se_var 7)) (blkOk_by (by kernel_rfl)) (sw_true rfl rfl rfl (by decide +kernel)) (fun _ _ _ _ _ => svi_one (sv_name 10 sc__law_rings.nd)) (fun _ _ _ _ _ => sts_nil) (fun _ _ _ _ _ => se_ix (u128 hr) (se_ix (u128 hr) (se_ix (u128 hr) (se_var 0) (se_int)) (se_var 10)) (se_int))) (ss_one (ss_if (st_cmp (op_eqN (u128 hr)) ro_eq (eqG_calm false) (se_var 8) (se_var 5)) (ss_one (ss_expr (se_meth PySem.F.plainAttrs_list PySem.F.slot_list_append PySem.F.type_list_append mt_append rm_append appendG_calm (se_var 2) (sa_cons (se_var 7) (sa_nil))))) (ss_one (ss_if (SW.st (sw_and (st_cmp op_gt ro_cmp (cmpG_calm _) (se_var 8) (se_var 5)) (sw_and1 (st_cmp (op_ninA (u128 hr)) ro_in (inG_calm true) (se_var 8) (se_var 9))))) (ss_one (ss_expr (se_meth PySem.F.plainAttrs_list PySem.F.slot_list_extend PySem.F.type_list_extend mt_extZ rm_extend extendG_calm (se_var 6) (sa_cons (se_lc [("index", 10)] rfl sc__law_rings.nd (si_seq (se_call 2 (dv__law_arrows_from T) hg (hr.mono (by decide)) (by rfl) T.g__law_arrows_from T.fn__law_arrows_from.kp T.bn__law_arrows_from pass0 (fun _ _ _ _ _ h => h) (sa_cons (se_var 0) (sa_cons (se_var 8) (sa_nil))) (len_cons (len_cons len_nil)) rfl)) (blkOk_by (by kernel_rfl)) (fun _ _ _ _ _ => svi_one (sv_name 10 sc__law_rings.nd)) (fun _ _ _ _ _ => sts_nil) (fun _ _ _ _ _ => se_tup (sa_cons (se_bin op_addA ro_add addG_calm (se_var 7) (se_tup (sa_cons (se_var 10) (sa_nil)))) (sa_cons (se_ix (u128 hr) (se_ix (u128 hr) (se_ix (u128 hr) (se_var 0) (se_int)) (se_var 10)) (se_int)) (sa_nil))))) (sa_nil))))) (ss_nil))))))))))))) (ss_one (ss_ret (se_callB (cr_sortAll (u128 hr) rfl) rc_sorted sortedG_calm (by rfl) T.m_sorted (by decide +kernel) (sa_cons (se_var 2) (sa_nil)))))))
theorem dv__law_bound_right (T : Top K mg) (hb__law_bound_right : base.BuiltinsAt mg T.PP__law_bound_right) : FnD P w K mg base CX0 eo0 6 T.f__law_bound_right T.fd__law_bound_right ["bag", "works"] F__law_bound_right :=
  fnD_of T.fn__law_bound_right sc__law_bound_right fun cdv hcode A outer s H E hr hg => SSs.nox (
    ss_cons (ss_set 2 sc__law_bound_right.nd (se_call 2 (dv__law_mixed T) hg (hr.mono (by decide)) (by rfl) T.g__law_mixed T.fn__law_mixed.kp T.bn__law_mixed pass0 (fun _ _ _ _ _ h => h) (sa_cons (se_var 0) (sa_cons (se_lst (sa_cons (se_int) (sa_cons (se_int) (sa_cons (se_int) (sa_cons (se_int) (sa_cons (se_int) (sa_nil))))))) (sa_nil))) (len_cons (len_cons len_nil)) rfl)) (ss_cons (ss_set 3 sc__law_bound_right.nd (se_call 3 (dv__law_thick_ring T) hg (hr.mono (by decide)) (by rfl) T.g__law_thick_ring T.fn__law_thick_ring.kp T.bn__law_thick_ring pass0 (fun _ _ _ _ _ h => h) (sa_cons (se_var 0) (sa_cons (se_var 1) (sa_cons (se_var 2) (sa_nil)))) (len_cons (len_cons (len_cons len_nil))) rfl)) (ss_cons (ss_set 4 sc__law_bound_right.nd (se_heardF (ct := ctT T) "_law_bound_right" 3 (by rfl) T.g__law_heard T.fn__law_heard rfl T.bn__law_heard sc__law_heard rfl (.inl rfl) (fun _ _ _ _ _ => hs__law_heard T) T.tab__law_bound_right T.hd__law_bound_right hb__law_bound_right T.gp__law_bound_right (hcode.symm.trans T.cod__law_bound_right) rfl (hr.mono (by decide)) hg (LamX.lamS_by (by kernel_rfl)) (fun A outer s H E f c hr hg => se_call 1 (dv_rings_of T) hg (hr.mono (by decide)) (by rfl) T.g_rings_of T.fn_rings_of.kp T.bn_rings_of (passes_call (takes_of rfl rfl rfl rfl) (fun _ _ _ _ h => h)) (fun _ _ _ _ _ h => h) (sa_cons (se_var 3) (sa_nil)) (len_cons len_nil) rfl))) (ss_cons (ss_if (st_not (st_val (se_call 2 (dv__law_alike T) hg (hr.mono (by decide)) (by rfl) T.g__law_alike T.fn__law_alike.kp T.bn__law_alike pass0 (fun _ _ _ _ _ h => h) (sa_cons (se_var 4) (sa_cons (se_tup (sa_cons (se_str) (sa_cons (se_call 2 (dv__law_rings T) hg (hr.mono (by decide)) (by rfl) T.g__law_rings T.fn__law_rings.kp T.bn__law_rings pass0 (fun _ _ _ _ _ h => h) (sa_cons (se_var 3) (sa_cons (se_int) (sa_nil))) (len_cons (len_cons len_nil)) rfl) (sa_nil)))) (sa_nil))) (len_cons (len_cons len_nil)) rfl))) (ss_one (ss_ret (se_bl))) (ss_nil)) (ss_cons (ss_set 5 sc__law_bound_right.nd (se_tup (sa_cons (se_int) (sa_cons (se_callTy call_tupleZ rc_tuple tupleG_calm (by rfl) T.m_tuple (by decide +kernel) (sa_cons (se_lc [("arrow", 8)] rfl sc__law_bound_right.nd (si_seq (se_ix (u128 hr) (se_call 3 (dv__law_thick_ring T) hg (hr.mono (by decide)) (by rfl) T.g__law_thick_ring T.fn__law_thick_ring.kp T.bn__law_thick_ring pass0 (fun _ _ _ _ _ h => h) (sa_cons (se_var 0) (sa_cons (se_var 1) (sa_cons (se_lst (sa_cons (se_int) (sa_cons (se_int) (sa_cons (se_int) (sa_cons (se_int) (sa_cons (se_int) (sa_nil))))))) (sa_nil)))) (len_cons (len_cons (len_cons len_nil))) rfl) (se_int))) (blkOk_by (by kernel_rfl)) (fun _ _ _ _ _ => svi_one (sv_name 8 sc__law_bound_right.nd)) (fun _ _ _ _ _ => sts_nil) (fun _ _ _ _ _ => se_bin op_addA ro_add addG_calm (se_tup (sa_cons (se_bin op_addA ro_add addG_calm (se_ix (u128 hr) (se_var 8) (se_int)) (se_int)) (sa_cons (se_bin op_addA ro_add addG_calm (se_ix (u128 hr) (se_var 8) (se_int)) (se_int)) (sa_nil)))) (se_slice (se_var 8) (so_some (se_int)) (so_none)))) (sa_nil))) (sa_nil))))) (ss_cons (ss_if (st_not (st_val (se_call 2 (dv__law_alike T) hg (hr.mono (by decide)) (by rfl) T.g__law_alike T.fn__law_alike.kp T.bn__law_alike pass0 (fun _ _ _ _ _ h => h) (sa_cons (se_lst (sa_cons (se_heardF (ct := ctT T) "_law_bound_right" 3 (by rfl) T.g__law_heard T.fn__law_heard rfl T.bn__law_heard sc__law_heard rfl (.inl rfl) (fun _ _ _ _ _ => hs__law_heard T) T.tab__law_bound_right T.hd__law_bound_right hb__law_bound_right T.gp__law_bound_right (hcode.symm.trans T.cod__law_bound_right) rfl (hr.mono (by decide)) hg (LamX.lamS_by (by kernel_rfl)) (fun A outer s H E f c hr hg => se_call 1 (dv_rings_of T) hg (hr.mono (by decide)) (by rfl) T.g_rings_of T.fn_rings_of.kp T.bn_rings_of (passes_call (takes_of rfl rfl rfl rfl) (fun _ _ _ _ h => h)) (fun _ _ _ _ _ h => h) (sa_cons (se_var 5) (sa_nil)) (len_cons len_nil) rfl)) (sa_cons (se_call 1 (dv_come_to T) hg (hr.mono (by decide)) (by rfl) T.g_come_to T.fn_come_to.kp T.bn_come_to pass0 (fun _ _ _ _ _ h => h) (sa_cons (se_var 5) (sa_nil)) (len_cons len_nil) rfl) (sa_nil)))) (sa_cons (se_lst (sa_cons (se_tup (sa_cons (se_str) (sa_cons (se_lst (sa_nil)) (sa_nil)))) (sa_cons (se_tup (sa_cons (se_int) (sa_nil))) (sa_nil)))) (sa_nil))) (len_cons (len_cons len_nil)) rfl))) (ss_one (ss_ret (se_bl))) (ss_nil)) (ss_cons (ss_set 6 sc__law_bound_right.nd (se_bin op_addA ro_add addG_calm (se_bin op_mulA ro_mul mulG_calm (se_tup (sa_cons (se_call 2 (dv__law_take T) hg (hr.mono (by decide)) (by rfl) T.g__law_take T.fn__law_take.kp T.bn__law_take pass0 (fun _ _ _ _ _ h => h) (sa_cons (se_var 0) (sa_cons (se_int) (sa_nil))) (len_cons (len_cons len_nil)) rfl) (sa_nil))) (se_int)) (se_slice (se_ix (u128 hr) (se_ix (u128 hr) (se_var 3) (se_int)) (se_int)) (so_some (se_int)) (so_none)))) (ss_cons (ss_for PassesOwn.never rfl (si_seq (se_tup (sa_cons (se_tup (sa_cons (se_int) (sa_cons (se_bin op_addA ro_add addG_calm (se_ix (u128 hr) (se_var 3) (se_int)) (se_tup (sa_cons (se_var 6) (sa_nil)))) (sa_nil)))) (sa_cons (se_call 3 (dv__law_thick_ring T) hg (hr.mono (by decide)) (by rfl) T.g__law_thick_ring T.fn__law_thick_ring.kp T.bn__law_thick_ring pass0 (fun _ _ _ _ _ h => h) (sa_cons (se_var 0) (sa_cons (se_var 1) (sa_cons (se_call 2 (dv__law_mixed T) hg (hr.mono (by decide)) (by rfl) T.g__law_mixed T.fn__law_mixed.kp T.bn__law_mixed pass0 (fun _ _ _ _ _ h => h) (sa_cons (se_var 0) (sa_cons (se_lst (sa_cons (se_int) (sa_cons (se_int) (sa_cons (se_int) (sa_cons (se_int) (sa_cons (se_int) (sa_nil))))))) (sa_nil))) (len_cons (len_cons len_nil)) rfl) (sa_nil)))) (len_cons (len_cons (len_cons len_nil))) rfl) (sa_nil))))) (sgi_one (sg_name 7 sc__law_bound_right.nd)) (ss_one (ss_if (st_not (st_val (se_call 2 (dv__law_alike T) hg (hr.mono (by decide)) (by rfl) T.g__law_alike T.fn__law_alike.kp T.bn__law_alike pass0 (fun _ _ _ _ _ h => h) (sa_cons (se_heardF (ct := ctT T) "_law_bound_right" 3 (by rfl) T.g__law_heard T.fn__law_heard rfl T.bn__law_heard sc__law_heard rfl (.inl rfl) (fun _ _ _ _ _ => hs__law_heard T) T.tab__law_bound_right T.hd__law_bound_right hb__law_bound_right T.gp__law_bound_right (hcode.symm.trans T.cod__law_bound_right) rfl (hr.mono (by decide)) hg (LamX.lamS_by (by kernel_rfl)) (fun A outer s H E f c hr hg => se_call 1 (dv_rings_of T) hg (hr.mono (by decide)) (by rfl) T.g_rings_of T.fn_rings_of.kp T.bn_rings_of (passes_call (takes_of rfl rfl rfl rfl) (fun _ _ _ _ h => h)) (fun _ _ _ _ _ h => h) (sa_cons (se_var 7) (sa_nil)) (len_cons len_nil) rfl)) (sa_cons (se_tup (sa_cons (se_str) (sa_cons (se_int) (sa_nil)))) (sa_nil))) (len_cons (len_cons len_nil)) rfl))) (ss_one (ss_ret (se_bl))) (ss_nil)))) (ss_one (ss_ret (se_bl)))))))))))
theorem dv_law (T : Top K mg) (hb__law_bound_right : base.BuiltinsAt mg T.PP__law_bound_right) : FnD P w K mg base CX0 eo0 7 T.f_law T.fd_law ["script"] F_law :=
  fnD_of T.fn_law sc_law fun cdv hcode A outer s H E hr hg => SSs.nox (
    ss_cons (ss_set 1 sc_law.nd (se_call 1 (dv__law_bag T) hg (hr.mono (by decide)) (by rfl) T.g__law_bag T.fn__law_bag.kp T.bn__law_bag pass0 (fun _ _ _ _ _ h => h) (sa_cons (se_var 0) (sa_nil)) (len_cons len_nil) rfl)) (ss_cons (ss_for PassesOwn.never rfl (si_r1 (by rfl) T.m_range (sa_cons (se_int) (sa_nil))) (sgi_one (sg_name 2 sc_law.nd)) (ss_cons (ss_asg (se_call 4 (dv__law_world T) hg (hr.mono (by decide)) (by rfl) T.g__law_world T.fn__law_world.kp T.bn__law_world pass0 (fun _ _ _ _ _ h => h) (sa_cons (se_var 1) (sa_cons (se_int) (sa_cons (se_int) (sa_cons (se_int) (sa_nil))))) (len_cons (len_cons (len_cons (len_cons len_nil)))) rfl) (sg_tup rfl (sgs_cons (sg_name 3 sc_law.nd) (sgs_cons (sg_name 4 sc_law.nd) (sgs_nil))))) (ss_cons (ss_par2 5 6 rfl sc_law.nd (sa_cons (se_call 2 (dv__law_rings T) hg (hr.mono (by decide)) (by rfl) T.g__law_rings T.fn__law_rings.kp T.bn__law_rings pass0 (fun _ _ _ _ _ h => h) (sa_cons (se_var 4) (sa_cons (se_int) (sa_nil))) (len_cons (len_cons len_nil)) rfl) (sa_cons (se_callB (call_repr hg hr.units) rc_repr reprG_calm (by rfl) T.m_repr (by decide +kernel) (sa_cons (se_var 4) (sa_nil))) (sa_nil)))) (ss_one (ss_if (SW.st (sw_and (st_notN (se_var 5)) (sw_and1 (st_cmp op_le ro_cmp (cmpG_calm _) (se_callB call_len rc_len lenG_calm (by rfl) T.m_len (by decide +kernel) (sa_cons (se_var 5) (sa_nil))) (se_int))))) (ss_one (ss_for PassesOwn.never rfl (si_r1 (by rfl) T.m_range (sa_cons (se_int) (sa_nil))) (sgi_one (sg_name 7 sc_law.nd)) (ss_cons (ss_set 8 sc_law.nd (se_callQX 1 (dv_rings_of T) hg (hr.mono (by decide)) (by rfl) T.g_rings_of T.fn_rings_of.kp T.bn_rings_of (sa_cons (se_var 4) (sa_nil)) (len_cons len_nil) rfl)) (ss_cons (ss_if (SW.st (sw_or (st_not (st_val (se_call 2 (dv__law_alike T) hg (hr.mono (by decide)) (by rfl) T.g__law_alike T.fn__law_alike.kp T.bn__law_alike pass0 (fun _ _ _ _ _ h => h) (sa_cons (se_lst (sa_cons (se_call 1 (dv_come_to T) hg (hr.mono (by decide)) (by rfl) T.g_come_to T.fn_come_to.kp T.bn_come_to pass0 (fun _ _ _ _ _ h => h) (sa_cons (se_var 4) (sa_nil)) (len_cons len_nil) rfl) (sa_cons (se_var 8) (sa_nil)))) (sa_cons (se_lst (sa_cons (se_callTy call_tupleZ rc_tuple tupleG_calm (by rfl) T.m_tuple (by decide +kernel) (sa_cons (se_call 1 (dv__law_come_to T) hg (hr.mono (by decide)) (by rfl) T.g__law_come_to T.fn__law_come_to.kp T.bn__law_come_to pass0 (fun _ _ _ _ _ h => h) (sa_cons (se_var 4) (sa_nil)) (len_cons len_nil) rfl) (sa_nil))) (sa_cons (se_var 5) (sa_nil)))) (sa_nil))) (len_cons (len_cons len_nil)) rfl))) (sw_or1 (st_cmp (op_neN (u128 hr)) ro_eq (eqG_calm true) (se_callB (call_repr hg hr.units) rc_repr reprG_calm (by rfl) T.m_repr (by decide +kernel) (sa_cons (se_var 4) (sa_nil))) (se_var 6))))) (ss_one (ss_ret (se_bl))) (ss_nil)) (ss_cons (ss_expr (se_meth PySem.F.plainAttrs_list PySem.F.slot_list_append PySem.F.type_list_append mt_append rm_append appendG_calm (se_var 8) (sa_cons (se_non) (sa_nil)))) (ss_one (ss_expr (se_meth0 PySem.F.plainAttrs_list PySem.F.slot_list_reverse PySem.F.type_list_reverse mt_reverse rm_reverse reverseG_calm (se_var 8))))))))) (ss_nil)))))) (ss_one (ss_ret (se_or (se_cmp op_gt ro_cmp (cmpG_calm _) (se_call 2 (dv__law_take T) hg (hr.mono (by decide)) (by rfl) T.g__law_take T.fn__law_take.kp T.bn__law_take pass0 (fun _ _ _ _ _ h => h) (sa_cons (se_var 1) (sa_cons (se_int) (sa_nil))) (len_cons (len_cons len_nil)) rfl) (se_int)) (se_one (se_call 2 (dv__law_bound_right T hb__law_bound_right) hg (hr.mono (by decide)) (by rfl) T.g__law_bound_right T.fn__law_bound_right.kp T.bn__law_bound_right pass0 (fun _ _ _ _ _ h => h) (sa_cons (se_var 1) (sa_cons (se_var 3) (sa_nil))) (len_cons (len_cons len_nil)) rfl)))))))
end
/-! ### the head -/
def top_mk {K : PySem.W.Frag} {h : Heap} {mg : Str → Option Value} (X : K.In h) (G : h.Ns mainGlobals mg) {f0 f1 f2 f3 f4 f5 f6 f7 f8 f9 f10 f11 f12 f13 f14 f15 f16 f17 f18 f19 f20 f21 f22 f23 f24 f25 f26 f27 f28 f29 f30 f31 f32 f33 lc33 lp33 f34 : Addr}
    {od0 an0 od1 an1 od2 an2 od3 an3 od4 an4 od5 an5 od6 an6 od7 an7 od8 an8 od9 an9 od10 an10 od11 an11 od12 an12 od13 an13 od14 an14 od15 an15 od16 an16 od17 an17 od18 an18 od19 an19 od20 an20 od21 an21 od22 an22 od23 an23 od24 an24 od25 an25 od26 an26 od27 an27 od28 an28 od29 an29 od30 an30 od31 an31 od32 an32 od33 an33 od34 an34 : Option Addr} {sl0 sl1 sl2 sl3 sl4 sl5 sl6 sl7 sl8 sl9 sl10 sl11 sl12 sl13 sl14 sl15 sl16 sl17 sl18 sl19 sl20 sl21 sl22 sl23 sl24 sl25 sl26 sl27 sl28 sl29 sl30 sl31 sl32 sl33 sl34 : Array (Option Value)} {oc0 kV0 dc0 pm0 cd0 ct0 oc1 kV1 dc1 pm1 cd1 ct1 oc2 kV2 dc2 pm2 cd2 ct2 oc3 kV3 dc3 pm3 cd3 ct3 oc4 kV4 dc4 pm4 cd4 ct4 oc5 kV5 dc5 pm5 cd5 ct5 oc6 kV6 dc6 pm6 cd6 ct6 oc7 kV7 dc7 pm7 cd7 ct7 oc8 kV8 dc8 pm8 cd8 ct8 oc9 kV9 dc9 pm9 cd9 ct9 oc10 kV10 dc10 pm10 cd10 ct10 oc11 kV11 dc11 pm11 cd11 ct11 oc12 kV12 dc12 pm12 cd12 ct12 oc13 kV13 dc13 pm13 cd13 ct13 oc14 kV14 dc14 pm14 cd14 ct14 oc15 kV15 dc15 pm15 cd15 ct15 oc16 kV16 dc16 pm16 cd16 ct16 oc17 kV17 dc17 pm17 cd17 ct17 oc18 kV18 dc18 pm18 cd18 ct18 oc19 kV19 dc19 pm19 cd19 ct19 oc20 kV20 dc20 pm20 cd20 ct20 oc21 kV21 dc21 pm21 cd21 ct21 oc22 kV22 dc22 pm22 cd22 ct22 oc23 kV23 dc23 pm23 cd23 ct23 oc24 kV24 dc24 pm24 cd24 ct24 oc25 kV25 dc25 pm25 cd25 ct25 oc26 kV26 dc26 pm26 cd26 ct26 oc27 kV27 dc27 pm27 cd27 ct27 oc28 kV28 dc28 pm28 cd28 ct28 oc29 kV29 dc29 pm29 cd29 ct29 oc30 kV30 dc30 pm30 cd30 ct30 oc31 kV31 dc31 pm31 cd31 ct31 oc32 kV32 dc32 pm32 cd32 ct32 oc33 kV33 dc33 pm33 ct33 oc34 kV34 dc34 pm34 cd34 ct34 : Value} {tk0 : Tok}
    {C0 C1 : Addr}
    {nm0 q0_ : Str} {N0 J0 : Addr} {bs0 sub0 : List Value} {sn0 : List Str} {ab0 : Bool} {col0 : Option Bool} {dd0 : Option Addr} {ma0 mb0 mc0 md0 me0 : Option Value} {ioc0 ikV0 idc0 ipm0 icd0 ict0 : Value} {iod0 ian0 : Option Addr} {isl0 : Array (Option Value)}
    (a0 : PySem.W.nsIn K mainGlobals "_law_bag" = some (some (.ref f0))) (l0 : K.lookup f0 = some ⟨oc0, od0, .func (PySem.W.fnOf "_law_bag" "_law_bag" (defArgs s__law_bag) (defBody s__law_bag) (defScope s__law_bag) .none kV0 dc0 pm0 an0 cd0 ct0), sl0⟩) (c0 : PySem.W.codeIn K cd0 "_law_bag" = true) (k0 : PySem.W.keepIn K (.ref f0) = true)
    (a1 : PySem.W.nsIn K mainGlobals "_law_take" = some (some (.ref f1))) (l1 : K.lookup f1 = some ⟨oc1, od1, .func (PySem.W.fnOf "_law_take" "_law_take" (defArgs s__law_take) (defBody s__law_take) (defScope s__law_take) .none kV1 dc1 pm1 an1 cd1 ct1), sl1⟩) (c1 : PySem.W.codeIn K cd1 "_law_take" = true) (k1 : PySem.W.keepIn K (.ref f1) = true)
    (a2 : PySem.W.nsIn K mainGlobals "_law_one" = some (some (.ref f2))) (l2 : K.lookup f2 = some ⟨oc2, od2, .func (PySem.W.fnOf "_law_one" "_law_one" (defArgs s__law_one) (defBody s__law_one) (defScope s__law_one) .none kV2 dc2 pm2 an2 cd2 ct2), sl2⟩) (c2 : PySem.W.codeIn K cd2 "_law_one" = true) (k2 : PySem.W.keepIn K (.ref f2) = true)
    (a3 : PySem.W.nsIn K mainGlobals "_law_mixed" = some (some (.ref f3))) (l3 : K.lookup f3 = some ⟨oc3, od3, .func (PySem.W.fnOf "_law_mixed" "_law_mixed" (defArgs s__law_mixed) (defBody s__law_mixed) (defScope s__law_mixed) .none kV3 dc3 pm3 an3 cd3 ct3), sl3⟩) (c3 : PySem.W.codeIn K cd3 "_law_mixed" = true) (k3 : PySem.W.keepIn K (.ref f3) = true)
    (a4 : PySem.W.nsIn K mainGlobals "_law_names" = some (some (.ref f4))) (l4 : K.lookup f4 = some ⟨oc4, od4, .func (PySem.W.fnOf "_law_names" "_law_names" (defArgs s__law_names) (defBody s__law_names) (defScope s__law_names) .none kV4 dc4 pm4 an4 cd4 ct4), sl4⟩) (c4 : PySem.W.codeIn K cd4 "_law_names" = true) (k4 : PySem.W.keepIn K (.ref f4) = true)
    (a5 : PySem.W.nsIn K mainGlobals "_law_recipe" = some (some (.ref f5))) (l5 : K.lookup f5 = some ⟨oc5, od5, .func (PySem.W.fnOf "_law_recipe" "_law_recipe" (defArgs s__law_recipe) (defBody s__law_recipe) (defScope s__law_recipe) .none kV5 dc5 pm5 an5 cd5 ct5), sl5⟩) (c5 : PySem.W.codeIn K cd5 "_law_recipe" = true) (k5 : PySem.W.keepIn K (.ref f5) = true)
    (a6 : PySem.W.nsIn K mainGlobals "_law_out" = some (some (.ref f6))) (l6 : K.lookup f6 = some ⟨oc6, od6, .func (PySem.W.fnOf "_law_out" "_law_out" (defArgs s__law_out) (defBody s__law_out) (defScope s__law_out) .none kV6 dc6 pm6 an6 cd6 ct6), sl6⟩) (c6 : PySem.W.codeIn K cd6 "_law_out" = true) (k6 : PySem.W.keepIn K (.ref f6) = true)
    (a7 : PySem.W.nsIn K mainGlobals "_law_works" = some (some (.ref f7))) (l7 : K.lookup f7 = some ⟨oc7, od7, .func (PySem.W.fnOf "_law_works" "_law_works" (defArgs s__law_works) (defBody s__law_works) (defScope s__law_works) .none kV7 dc7 pm7 an7 cd7 ct7), sl7⟩) (c7 : PySem.W.codeIn K cd7 "_law_works" = true) (k7 : PySem.W.keepIn K (.ref f7) = true)
    (a8 : PySem.W.nsIn K mainGlobals "_law_links" = some (some (.ref f8))) (l8 : K.lookup f8 = some ⟨oc8, od8, .func (PySem.W.fnOf "_law_links" "_law_links" (defArgs s__law_links) (defBody s__law_links) (defScope s__law_links) .none kV8 dc8 pm8 an8 cd8 ct8), sl8⟩) (c8 : PySem.W.codeIn K cd8 "_law_links" = true) (k8 : PySem.W.keepIn K (.ref f8) = true)
    (a9 : PySem.W.nsIn K mainGlobals "_law_wants" = some (some (.ref f9))) (l9 : K.lookup f9 = some ⟨oc9, od9, .func (PySem.W.fnOf "_law_wants" "_law_wants" (defArgs s__law_wants) (defBody s__law_wants) (defScope s__law_wants) .none kV9 dc9 pm9 an9 cd9 ct9), sl9⟩) (c9 : PySem.W.codeIn K cd9 "_law_wants" = true) (k9 : PySem.W.keepIn K (.ref f9) = true)
    (a10 : PySem.W.nsIn K mainGlobals "_law_nothing" = some (some (.ref f10))) (l10 : K.lookup f10 = some ⟨oc10, od10, .func (PySem.W.fnOf "_law_nothing" "_law_nothing" (defArgs s__law_nothing) (defBody s__law_nothing) (defScope s__law_nothing) .none kV10 dc10 pm10 an10 cd10 ct10), sl10⟩) (c10 : PySem.W.codeIn K cd10 "_law_nothing" = true) (k10 : PySem.W.keepIn K (.ref f10) = true)
    (a11 : PySem.W.nsIn K mainGlobals "_law_planted" = some (some (.ref f11))) (l11 : K.lookup f11 = some ⟨oc11, od11, .func (PySem.W.fnOf "_law_planted" "_law_planted" (defArgs s__law_planted) (defBody s__law_planted) (defScope s__law_planted) .none kV11 dc11 pm11 an11 cd11 ct11), sl11⟩) (c11 : PySem.W.codeIn K cd11 "_law_planted" = true) (k11 : PySem.W.keepIn K (.ref f11) = true)
    (a12 : PySem.W.nsIn K mainGlobals "_law_less" = some (some (.ref f12))) (l12 : K.lookup f12 = some ⟨oc12, od12, .func (PySem.W.fnOf "_law_less" "_law_less" (defArgs s__law_less) (defBody s__law_less) (defScope s__law_less) .none kV12 dc12 pm12 an12 cd12 ct12), sl12⟩) (c12 : PySem.W.codeIn K cd12 "_law_less" = true) (k12 : PySem.W.keepIn K (.ref f12) = true)
    (a13 : PySem.W.nsIn K mainGlobals "_law_sum" = some (some (.ref f13))) (l13 : K.lookup f13 = some ⟨oc13, od13, .func (PySem.W.fnOf "_law_sum" "_law_sum" (defArgs s__law_sum) (defBody s__law_sum) (defScope s__law_sum) .none kV13 dc13 pm13 an13 cd13 ct13), sl13⟩) (c13 : PySem.W.codeIn K cd13 "_law_sum" = true) (k13 : PySem.W.keepIn K (.ref f13) = true)
    (a14 : PySem.W.nsIn K mainGlobals "_law_arrow" = some (some (.ref f14))) (l14 : K.lookup f14 = some ⟨oc14, od14, .func (PySem.W.fnOf "_law_arrow" "_law_arrow" (defArgs s__law_arrow) (defBody s__law_arrow) (defScope s__law_arrow) .none kV14 dc14 pm14 an14 cd14 ct14), sl14⟩) (c14 : PySem.W.codeIn K cd14 "_law_arrow" = true) (k14 : PySem.W.keepIn K (.ref f14) = true)
    (a15 : PySem.W.nsIn K mainGlobals "_law_part" = some (some (.ref f15))) (l15 : K.lookup f15 = some ⟨oc15, od15, .func (PySem.W.fnOf "_law_part" "_law_part" (defArgs s__law_part) (defBody s__law_part) (defScope s__law_part) .none kV15 dc15 pm15 an15 cd15 ct15), sl15⟩) (c15 : PySem.W.codeIn K cd15 "_law_part" = true) (k15 : PySem.W.keepIn K (.ref f15) = true)
    (a16 : PySem.W.nsIn K mainGlobals "_law_held_sender" = some (some (.ref f16))) (l16 : K.lookup f16 = some ⟨oc16, od16, .func (PySem.W.fnOf "_law_held_sender" "_law_held_sender" (defArgs s__law_held_sender) (defBody s__law_held_sender) (defScope s__law_held_sender) .none kV16 dc16 pm16 an16 cd16 ct16), sl16⟩) (c16 : PySem.W.codeIn K cd16 "_law_held_sender" = true) (k16 : PySem.W.keepIn K (.ref f16) = true)
    (a17 : PySem.W.nsIn K mainGlobals "_law_any_sender" = some (some (.ref f17))) (l17 : K.lookup f17 = some ⟨oc17, od17, .func (PySem.W.fnOf "_law_any_sender" "_law_any_sender" (defArgs s__law_any_sender) (defBody s__law_any_sender) (defScope s__law_any_sender) .none kV17 dc17 pm17 an17 cd17 ct17), sl17⟩) (c17 : PySem.W.codeIn K cd17 "_law_any_sender" = true) (k17 : PySem.W.keepIn K (.ref f17) = true)
    (a18 : PySem.W.nsIn K mainGlobals "_law_bent_sender" = some (some (.ref f18))) (l18 : K.lookup f18 = some ⟨oc18, od18, .func (PySem.W.fnOf "_law_bent_sender" "_law_bent_sender" (defArgs s__law_bent_sender) (defBody s__law_bent_sender) (defScope s__law_bent_sender) .none kV18 dc18 pm18 an18 cd18 ct18), sl18⟩) (c18 : PySem.W.codeIn K cd18 "_law_bent_sender" = true) (k18 : PySem.W.keepIn K (.ref f18) = true)
    (a19 : PySem.W.nsIn K mainGlobals "_law_sender" = some (some (.ref f19))) (l19 : K.lookup f19 = some ⟨oc19, od19, .func (PySem.W.fnOf "_law_sender" "_law_sender" (defArgs s__law_sender) (defBody s__law_sender) (defScope s__law_sender) .none kV19 dc19 pm19 an19 cd19 ct19), sl19⟩) (c19 : PySem.W.codeIn K cd19 "_law_sender" = true) (k19 : PySem.W.keepIn K (.ref f19) = true)
    (a20 : PySem.W.nsIn K mainGlobals "_law_world" = some (some (.ref f20))) (l20 : K.lookup f20 = some ⟨oc20, od20, .func (PySem.W.fnOf "_law_world" "_law_world" (defArgs s__law_world) (defBody s__law_world) (defScope s__law_world) .none kV20 dc20 pm20 an20 cd20 ct20), sl20⟩) (c20 : PySem.W.codeIn K cd20 "_law_world" = true) (k20 : PySem.W.keepIn K (.ref f20) = true)
    (a21 : PySem.W.nsIn K mainGlobals "_law_thick_ring" = some (some (.ref f21))) (l21 : K.lookup f21 = some ⟨oc21, od21, .func (PySem.W.fnOf "_law_thick_ring" "_law_thick_ring" (defArgs s__law_thick_ring) (defBody s__law_thick_ring) (defScope s__law_thick_ring) .none kV21 dc21 pm21 an21 cd21 ct21), sl21⟩) (c21 : PySem.W.codeIn K cd21 "_law_thick_ring" = true) (k21 : PySem.W.keepIn K (.ref f21) = true)
    (a22 : PySem.W.nsIn K mainGlobals "_law_heard" = some (some (.ref f22))) (l22 : K.lookup f22 = some ⟨oc22, od22, .func (PySem.W.fnOf "_law_heard" "_law_heard" (defArgs s__law_heard) (defBody s__law_heard) (defScope s__law_heard) .none kV22 dc22 pm22 an22 cd22 ct22), sl22⟩) (c22 : PySem.W.codeIn K cd22 "_law_heard" = true) (k22 : PySem.W.keepIn K (.ref f22) = true)
    (a23 : PySem.W.nsIn K mainGlobals "_law_alike" = some (some (.ref f23))) (l23 : K.lookup f23 = some ⟨oc23, od23, .func (PySem.W.fnOf "_law_alike" "_law_alike" (defArgs s__law_alike) (defBody s__law_alike) (defScope s__law_alike) .none kV23 dc23 pm23 an23 cd23 ct23), sl23⟩) (c23 : PySem.W.codeIn K cd23 "_law_alike" = true) (k23 : PySem.W.keepIn K (.ref f23) = true)
    (a24 : PySem.W.nsIn K mainGlobals "places_come_to" = some (some (.ref f24))) (l24 : K.lookup f24 = some ⟨oc24, od24, .func (PySem.W.fnOf "places_come_to" "places_come_to" (defArgs s_places_come_to) (defBody s_places_come_to) (defScope s_places_come_to) .none kV24 dc24 pm24 an24 cd24 ct24), sl24⟩) (c24 : PySem.W.codeIn K cd24 "places_come_to" = true) (k24 : PySem.W.keepIn K (.ref f24) = true)
    (a25 : PySem.W.nsIn K mainGlobals "come_to" = some (some (.ref f25))) (l25 : K.lookup f25 = some ⟨oc25, od25, .func (PySem.W.fnOf "come_to" "come_to" (defArgs s_come_to) (defBody s_come_to) (defScope s_come_to) .none kV25 dc25 pm25 an25 cd25 ct25), sl25⟩) (c25 : PySem.W.codeIn K cd25 "come_to" = true) (k25 : PySem.W.keepIn K (.ref f25) = true)
    (a26 : PySem.W.nsIn K mainGlobals "_sources_into" = some (some (.ref f26))) (l26 : K.lookup f26 = some ⟨oc26, od26, .func (PySem.W.fnOf "_sources_into" "_sources_into" (defArgs s__sources_into) (defBody s__sources_into) (defScope s__sources_into) .none kV26 dc26 pm26 an26 cd26 ct26), sl26⟩) (c26 : PySem.W.codeIn K cd26 "_sources_into" = true) (k26 : PySem.W.keepIn K (.ref f26) = true)
    (a27 : PySem.W.nsIn K mainGlobals "_leading_back" = some (some (.ref f27))) (l27 : K.lookup f27 = some ⟨oc27, od27, .func (PySem.W.fnOf "_leading_back" "_leading_back" (defArgs s__leading_back) (defBody s__leading_back) (defScope s__leading_back) .none kV27 dc27 pm27 an27 cd27 ct27), sl27⟩) (c27 : PySem.W.codeIn K cd27 "_leading_back" = true) (k27 : PySem.W.keepIn K (.ref f27) = true)
    (a28 : PySem.W.nsIn K mainGlobals "_rings_from" = some (some (.ref f28))) (l28 : K.lookup f28 = some ⟨oc28, od28, .func (PySem.W.fnOf "_rings_from" "_rings_from" (defArgs s__rings_from) (defBody s__rings_from) (defScope s__rings_from) .none kV28 dc28 pm28 an28 cd28 ct28), sl28⟩) (c28 : PySem.W.codeIn K cd28 "_rings_from" = true) (k28 : PySem.W.keepIn K (.ref f28) = true)
    (a29 : PySem.W.nsIn K mainGlobals "rings_of" = some (some (.ref f29))) (l29 : K.lookup f29 = some ⟨oc29, od29, .func (PySem.W.fnOf "rings_of" "rings_of" (defArgs s_rings_of) (defBody s_rings_of) (defScope s_rings_of) .none kV29 dc29 pm29 an29 cd29 ct29), sl29⟩) (c29 : PySem.W.codeIn K cd29 "rings_of" = true) (k29 : PySem.W.keepIn K (.ref f29) = true)
    (a30 : PySem.W.nsIn K mainGlobals "_law_arrows_from" = some (some (.ref f30))) (l30 : K.lookup f30 = some ⟨oc30, od30, .func (PySem.W.fnOf "_law_arrows_from" "_law_arrows_from" (defArgs s__law_arrows_from) (defBody s__law_arrows_from) (defScope s__law_arrows_from) .none kV30 dc30 pm30 an30 cd30 ct30), sl30⟩) (c30 : PySem.W.codeIn K cd30 "_law_arrows_from" = true) (k30 : PySem.W.keepIn K (.ref f30) = true)
    (a31 : PySem.W.nsIn K mainGlobals "_law_come_to" = some (some (.ref f31))) (l31 : K.lookup f31 = some ⟨oc31, od31, .func (PySem.W.fnOf "_law_come_to" "_law_come_to" (defArgs s__law_come_to) (defBody s__law_come_to) (defScope s__law_come_to) .none kV31 dc31 pm31 an31 cd31 ct31), sl31⟩) (c31 : PySem.W.codeIn K cd31 "_law_come_to" = true) (k31 : PySem.W.keepIn K (.ref f31) = true)
    (a32 : PySem.W.nsIn K mainGlobals "_law_rings" = some (some (.ref f32))) (l32 : K.lookup f32 = some ⟨oc32, od32, .func (PySem.W.fnOf "_law_rings" "_law_rings" (defArgs s__law_rings) (defBody s__law_rings) (defScope s__law_rings) .none kV32 dc32 pm32 an32 cd32 ct32), sl32⟩) (c32 : PySem.W.codeIn K cd32 "_law_rings" = true) (k32 : PySem.W.keepIn K (.ref f32) = true)
    (a33 : PySem.W.nsIn K mainGlobals "_law_bound_right" = some (some (.ref f33))) (l33 : K.lookup f33 = some ⟨oc33, od33, .func (PySem.W.fnOf "_law_bound_right" "_law_bound_right" (defArgs s__law_bound_right) (defBody s__law_bound_right) (defScope s__law_bound_right) .none kV33 dc33 pm33 an33 (.ref lc33) ct33), sl33⟩) (c33 : PySem.W.codeIn K (.ref lc33) "_law_bound_right" = true) (k33 : PySem.W.keepIn K (.ref f33) = true)
    (lt33 : PySem.W.tabIn K "_law_bound_right" = some (lc33, lp33)) (lh33 : PySem.W.codeHdIn K lc33 lp33 = true) (lk33 : K.lookup lp33 = none) (lg33 : mainGlobals ≠ lp33)
    (a34 : PySem.W.nsIn K mainGlobals "law" = some (some (.ref f34))) (l34 : K.lookup f34 = some ⟨oc34, od34, .func (PySem.W.fnOf "law" "law" (defArgs s_law) (defBody s_law) (defScope s_law) .none kV34 dc34 pm34 an34 cd34 ct34), sl34⟩) (c34 : PySem.W.codeIn K cd34 "law" = true) (k34 : PySem.W.keepIn K (.ref f34) = true)
    (z0 : PySem.W.nsIn K mainGlobals "abs" = some none)
    (z1 : PySem.W.nsIn K mainGlobals "enumerate" = some none)
    (z2 : PySem.W.nsIn K mainGlobals "int" = some none)
    (z3 : PySem.W.nsIn K mainGlobals "len" = some none)
    (z4 : PySem.W.nsIn K mainGlobals "list" = some none)
    (z5 : PySem.W.nsIn K mainGlobals "max" = some none)
    (z6 : PySem.W.nsIn K mainGlobals "min" = some none)
    (z7 : PySem.W.nsIn K mainGlobals "range" = some none)
    (z8 : PySem.W.nsIn K mainGlobals "repr" = some none)
    (z9 : PySem.W.nsIn K mainGlobals "sorted" = some none)
    (z10 : PySem.W.nsIn K mainGlobals "tuple" = some none)
    (z11 : PySem.W.nsIn K mainGlobals "zip" = some none)
    (q0 : PySem.W.nsIn K mainGlobals "MOST_RINGS" = some (some (.int 2000 tk0)))
    (ca0 : PySem.W.nsIn K mainGlobals "TooMany" = some (some (.ref C0)))
    (ca1 : PySem.W.nsIn K mainGlobals "HeapError" = some (some (.ref C1)))
    (cx0 : K.lookup C0 = some (excClassObj nm0 q0_ C0 N0 bs0 [.ref C1, .type "ValueError", .type "Exception", .type "BaseException", .type "object"] true sn0 sub0 ab0 col0 dd0 ma0 mb0 mc0 md0 me0 "ValueError.__new__"))
    (cs0 : PySem.W.findIn K (.ref C0) "__setattr__" = some (some (.builtin "object.__setattr__")))
    (cg0 : PySem.W.findIn K (.ref C0) "__getattribute__" = some (some (.builtin "BaseException.__getattribute__")))
    (ch0 : PySem.W.findIn K (.ref C0) "__getattr__" = some none)
    (cn0 : PySem.W.findIn K (.ref C0) "most" = some none)
    (ci0 : PySem.W.findIn K (.ref C0) "__init__" = some (some (.ref J0)))
    (cj0 : PySem.W.typeIn K (.ref J0) = some (.type "function"))
    (cl0 : K.lookup J0 = some ⟨ioc0, iod0, .func (PySem.W.fnOf "__init__" "TooMany.__init__" (defArgs (methS (topS 2) 0)) (defBody (methS (topS 2) 0)) (defScope (methS (topS 2) 0)) .none ikV0 idc0 ipm0 ian0 icd0 ict0), isl0⟩)
    (cc0 : PySem.W.codeIn K icd0 "TooMany.__init__" = true)
    (cf0 : PySem.W.keepIn K (.ref J0) = true)
    (ck0 : PySem.W.keepIn K (.ref C0) = true)
    (cd0 : PySem.W.hasDictIn K C0 = true)
    (ce0 : PySem.W.subIn K (.ref C0) (.type "BaseException") = some true)
    (ct0 : PySem.W.typeIn K (.ref C0) = some (.type "type"))
    (cq0 : PySem.W.isClsIn K C0 = true)
    (ce1 : PySem.W.subIn K (.ref C1) (.type "BaseException") = some true)
    (ct1 : PySem.W.typeIn K (.ref C1) = some (.type "type"))
    (cq1 : PySem.W.isClsIn K C1 = true)
    (cp0_0 : PySem.W.subIn K (.ref C0) (.ref C0) = some true)
    (cp0_1 : PySem.W.subIn K (.ref C0) (.ref C1) = some true) : Top K mg :=
  {
    f__law_bag := f0, fd__law_bag := _, fn__law_bag := fun_mk (st := s__law_bag) l0 c0 k0, bn__law_bag := (fun_mk (st := s__law_bag) l0 c0 k0).binds fun _ _ _ _ _ _ us hl => match us, hl with | [_], _ => rfl, g__law_bag := PySem.W.mg_of X G a0,
    f__law_take := f1, fd__law_take := _, fn__law_take := fun_mk (st := s__law_take) l1 c1 k1, bn__law_take := (fun_mk (st := s__law_take) l1 c1 k1).binds fun _ _ _ _ _ _ us hl => match us, hl with | [_, _], _ => rfl, g__law_take := PySem.W.mg_of X G a1,
    f__law_one := f2, fd__law_one := _, fn__law_one := fun_mk (st := s__law_one) l2 c2 k2, bn__law_one := (fun_mk (st := s__law_one) l2 c2 k2).binds fun _ _ _ _ _ _ us hl => match us, hl with | [_, _], _ => rfl, g__law_one := PySem.W.mg_of X G a2,
    f__law_mixed := f3, fd__law_mixed := _, fn__law_mixed := fun_mk (st := s__law_mixed) l3 c3 k3, bn__law_mixed := (fun_mk (st := s__law_mixed) l3 c3 k3).binds fun _ _ _ _ _ _ us hl => match us, hl with | [_, _], _ => rfl, g__law_mixed := PySem.W.mg_of X G a3,
    f__law_names := f4, fd__law_names := _, fn__law_names := fun_mk (st := s__law_names) l4 c4 k4, bn__law_names := (fun_mk (st := s__law_names) l4 c4 k4).binds fun _ _ _ _ _ _ us hl => match us, hl with | [_, _], _ => rfl, g__law_names := PySem.W.mg_of X G a4,
    f__law_recipe := f5, fd__law_recipe := _, fn__law_recipe := fun_mk (st := s__law_recipe) l5 c5 k5, bn__law_recipe := (fun_mk (st := s__law_recipe) l5 c5 k5).binds fun _ _ _ _ _ _ us hl => match us, hl with | [_, _, _, _], _ => rfl, g__law_recipe := PySem.W.mg_of X G a5,
    f__law_out := f6, fd__law_out := _, fn__law_out := fun_mk (st := s__law_out) l6 c6 k6, bn__law_out := (fun_mk (st := s__law_out) l6 c6 k6).binds fun _ _ _ _ _ _ us hl => match us, hl with | [_, _, _, _], _ => rfl, g__law_out := PySem.W.mg_of X G a6,
    f__law_works := f7, fd__law_works := _, fn__law_works := fun_mk (st := s__law_works) l7 c7 k7, bn__law_works := (fun_mk (st := s__law_works) l7 c7 k7).binds fun _ _ _ _ _ _ us hl => match us, hl with | [_, _, _, _], _ => rfl, g__law_works := PySem.W.mg_of X G a7,
    f__law_links := f8, fd__law_links := _, fn__law_links := fun_mk (st := s__law_links) l8 c8 k8, bn__law_links := (fun_mk (st := s__law_links) l8 c8 k8).binds fun _ _ _ _ _ _ us hl => match us, hl with | [_, _, _], _ => rfl, g__law_links := PySem.W.mg_of X G a8,
    f__law_wants := f9, fd__law_wants := _, fn__law_wants := fun_mk (st := s__law_wants) l9 c9 k9, bn__law_wants := (fun_mk (st := s__law_wants) l9 c9 k9).binds fun _ _ _ _ _ _ us hl => match us, hl with | [_, _], _ => rfl, g__law_wants := PySem.W.mg_of X G a9,
    f__law_nothing := f10, fd__law_nothing := _, fn__law_nothing := fun_mk (st := s__law_nothing) l10 c10 k10, bn__law_nothing := (fun_mk (st := s__law_nothing) l10 c10 k10).binds fun _ _ _ _ _ _ us hl => match us, hl with | [_], _ => rfl, g__law_nothing := PySem.W.mg_of X G a10,
    f__law_planted := f11, fd__law_planted := _, fn__law_planted := fun_mk (st := s__law_planted) l11 c11 k11, bn__law_planted := (fun_mk (st := s__law_planted) l11 c11 k11).binds fun _ _ _ _ _ _ us hl => match us, hl with | [_, _, _], _ => rfl, g__law_planted := PySem.W.mg_of X G a11,
    f__law_less := f12, fd__law_less := _, fn__law_less := fun_mk (st := s__law_less) l12 c12 k12, bn__law_less := (fun_mk (st := s__law_less) l12 c12 k12).binds fun _ _ _ _ _ _ us hl => match us, hl with | [_, _], _ => rfl, g__law_less := PySem.W.mg_of X G a12,
    f__law_sum := f13, fd__law_sum := _, fn__law_sum := fun_mk (st := s__law_sum) l13 c13 k13, bn__law_sum := (fun_mk (st := s__law_sum) l13 c13 k13).binds fun _ _ _ _ _ _ us hl => match us, hl with | [_, _], _ => rfl, g__law_sum := PySem.W.mg_of X G a13,
    f__law_arrow := f14, fd__law_arrow := _, fn__law_arrow := fun_mk (st := s__law_arrow) l14 c14 k14, bn__law_arrow := (fun_mk (st := s__law_arrow) l14 c14 k14).binds fun _ _ _ _ _ _ us hl => match us, hl with | [_, _, _, _, _], _ => rfl, g__law_arrow := PySem.W.mg_of X G a14,
    f__law_part := f15, fd__law_part := _, fn__law_part := fun_mk (st := s__law_part) l15 c15 k15, bn__law_part := (fun_mk (st := s__law_part) l15 c15 k15).binds fun _ _ _ _ _ _ us hl => match us, hl with | [_, _], _ => rfl, g__law_part := PySem.W.mg_of X G a15,
    f__law_held_sender := f16, fd__law_held_sender := _, fn__law_held_sender := fun_mk (st := s__law_held_sender) l16 c16 k16, bn__law_held_sender := (fun_mk (st := s__law_held_sender) l16 c16 k16).binds fun _ _ _ _ _ _ us hl => match us, hl with | [_, _, _, _], _ => rfl, g__law_held_sender := PySem.W.mg_of X G a16,
    f__law_any_sender := f17, fd__law_any_sender := _, fn__law_any_sender := fun_mk (st := s__law_any_sender) l17 c17 k17, bn__law_any_sender := (fun_mk (st := s__law_any_sender) l17 c17 k17).binds fun _ _ _ _ _ _ us hl => match us, hl with | [_, _, _, _], _ => rfl, g__law_any_sender := PySem.W.mg_of X G a17,
    f__law_bent_sender := f18, fd__law_bent_sender := _, fn__law_bent_sender := fun_mk (st := s__law_bent_sender) l18 c18 k18, bn__law_bent_sender := (fun_mk (st := s__law_bent_sender) l18 c18 k18).binds fun _ _ _ _ _ _ us hl => match us, hl with | [_, _, _], _ => rfl, g__law_bent_sender := PySem.W.mg_of X G a18,
    f__law_sender := f19, fd__law_sender := _, fn__law_sender := fun_mk (st := s__law_sender) l19 c19 k19, bn__law_sender := (fun_mk (st := s__law_sender) l19 c19 k19).binds fun _ _ _ _ _ _ us hl => match us, hl with | [_, _, _, _], _ => rfl, g__law_sender := PySem.W.mg_of X G a19,
    f__law_world := f20, fd__law_world := _, fn__law_world := fun_mk (st := s__law_world) l20 c20 k20, bn__law_world := (fun_mk (st := s__law_world) l20 c20 k20).binds fun _ _ _ _ _ _ us hl => match us, hl with | [_, _, _, _], _ => rfl, g__law_world := PySem.W.mg_of X G a20,
    f__law_thick_ring := f21, fd__law_thick_ring := _, fn__law_thick_ring := fun_mk (st := s__law_thick_ring) l21 c21 k21, bn__law_thick_ring := (fun_mk (st := s__law_thick_ring) l21 c21 k21).binds fun _ _ _ _ _ _ us hl => match us, hl with | [_, _, _], _ => rfl, g__law_thick_ring := PySem.W.mg_of X G a21,
    f__law_heard := f22, fd__law_heard := _, fn__law_heard := fun_mk (st := s__law_heard) l22 c22 k22, bn__law_heard := (fun_mk (st := s__law_heard) l22 c22 k22).binds fun _ _ _ _ _ _ us hl => match us, hl with | [_], _ => rfl, g__law_heard := PySem.W.mg_of X G a22,
    f__law_alike := f23, fd__law_alike := _, fn__law_alike := fun_mk (st := s__law_alike) l23 c23 k23, bn__law_alike := (fun_mk (st := s__law_alike) l23 c23 k23).binds fun _ _ _ _ _ _ us hl => match us, hl with | [_, _], _ => rfl, g__law_alike := PySem.W.mg_of X G a23,
    f_places_come_to := f24, fd_places_come_to := _, fn_places_come_to := fun_mk (st := s_places_come_to) l24 c24 k24, bn_places_come_to := (fun_mk (st := s_places_come_to) l24 c24 k24).binds fun _ _ _ _ _ _ us hl => match us, hl with | [_], _ => rfl, g_places_come_to := PySem.W.mg_of X G a24,
    f_come_to := f25, fd_come_to := _, fn_come_to := fun_mk (st := s_come_to) l25 c25 k25, bn_come_to := (fun_mk (st := s_come_to) l25 c25 k25).binds fun _ _ _ _ _ _ us hl => match us, hl with | [_], _ => rfl, g_come_to := PySem.W.mg_of X G a25,
    f__sources_into := f26, fd__sources_into := _, fn__sources_into := fun_mk (st := s__sources_into) l26 c26 k26, bn__sources_into := (fun_mk (st := s__sources_into) l26 c26 k26).binds fun _ _ _ _ _ _ us hl => match us, hl with | [_], _ => rfl, g__sources_into := PySem.W.mg_of X G a26,
    f__leading_back := f27, fd__leading_back := _, fn__leading_back := fun_mk (st := s__leading_back) l27 c27 k27, bn__leading_back := (fun_mk (st := s__leading_back) l27 c27 k27).binds fun _ _ _ _ _ _ us hl => match us, hl with | [_, _, _], _ => rfl, g__leading_back := PySem.W.mg_of X G a27,
    f__rings_from := f28, fd__rings_from := _, fn__rings_from := fun_mk (st := s__rings_from) l28 c28 k28, bn__rings_from := (fun_mk (st := s__rings_from) l28 c28 k28).binds fun _ _ _ _ _ _ us hl => match us, hl with | [_, _, _], _ => rfl, g__rings_from := PySem.W.mg_of X G a28,
    f_rings_of := f29, fd_rings_of := _, fn_rings_of := fun_mk (st := s_rings_of) l29 c29 k29, bn_rings_of := (fun_mk (st := s_rings_of) l29 c29 k29).binds fun _ _ _ _ _ _ us hl => match us, hl with | [_], _ => rfl, g_rings_of := PySem.W.mg_of X G a29,
    f__law_arrows_from := f30, fd__law_arrows_from := _, fn__law_arrows_from := fun_mk (st := s__law_arrows_from) l30 c30 k30, bn__law_arrows_from := (fun_mk (st := s__law_arrows_from) l30 c30 k30).binds fun _ _ _ _ _ _ us hl => match us, hl with | [_, _], _ => rfl, g__law_arrows_from := PySem.W.mg_of X G a30,
    f__law_come_to := f31, fd__law_come_to := _, fn__law_come_to := fun_mk (st := s__law_come_to) l31 c31 k31, bn__law_come_to := (fun_mk (st := s__law_come_to) l31 c31 k31).binds fun _ _ _ _ _ _ us hl => match us, hl with | [_], _ => rfl, g__law_come_to := PySem.W.mg_of X G a31,
    f__law_rings := f32, fd__law_rings := _, fn__law_rings := fun_mk (st := s__law_rings) l32 c32 k32, bn__law_rings := (fun_mk (st := s__law_rings) l32 c32 k32).binds fun _ _ _ _ _ _ us hl => match us, hl with | [_, _], _ => rfl, g__law_rings := PySem.W.mg_of X G a32,
    f__law_bound_right := f33, fd__law_bound_right := _, fn__law_bound_right := fun_mk (st := s__law_bound_right) l33 c33 k33, bn__law_bound_right := (fun_mk (st := s__law_bound_right) l33 c33 k33).binds fun _ _ _ _ _ _ us hl => match us, hl with | [_, _], _ => rfl, g__law_bound_right := PySem.W.mg_of X G a33,
    f_law := f34, fd_law := _, fn_law := fun_mk (st := s_law) l34 c34 k34, bn_law := (fun_mk (st := s_law) l34 c34 k34).binds fun _ _ _ _ _ _ us hl => match us, hl with | [_], _ => rfl, g_law := PySem.W.mg_of X G a34,
    cc__law_bound_right := lc33, PP__law_bound_right := lp33, tab__law_bound_right := lt33, hd__law_bound_right := lh33, nk__law_bound_right := lk33, gp__law_bound_right := lg33, cod__law_bound_right := rfl,
    bl_law := fun _ _ => .of_eq rfl,
    m_abs := PySem.W.mg_none_of X G z0,
    m_enumerate := PySem.W.mg_none_of X G z1,
    m_int := PySem.W.mg_none_of X G z2,
    m_len := PySem.W.mg_none_of X G z3,
    m_list := PySem.W.mg_none_of X G z4,
    m_max := PySem.W.mg_none_of X G z5,
    m_min := PySem.W.mg_none_of X G z6,
    m_range := PySem.W.mg_none_of X G z7,
    m_repr := PySem.W.mg_none_of X G z8,
    m_sorted := PySem.W.mg_none_of X G z9,
    m_tuple := PySem.W.mg_none_of X G z10,
    m_zip := PySem.W.mg_none_of X G z11,
    t_MOST_RINGS := tk0, c_MOST_RINGS := PySem.W.mg_of X G q0,
    C_TooMany := C0, g_TooMany := PySem.W.mg_of X G ca0,
    C_HeapError := C1, g_HeapError := PySem.W.mg_of X G ca1,
    o_TooMany := ⟨⟨nm0, q0_, N0, bs0, _, sn0, sub0, ab0, col0, dd0, ma0, mb0, mc0, md0, me0, cx0, rfl⟩, cs0, ce0, ct0, ck0⟩,
    I_TooMany := J0, i_TooMany := ci0, ti_TooMany := cj0, fdi_TooMany := _, fni_TooMany := fun_mk (st := (methS (topS 2) 0)) cl0 cc0 cf0, bi_TooMany := (fun_mk (st := (methS (topS 2) 0)) cl0 cc0 cf0).binds fun _ _ _ _ _ _ us hl => match us, hl with | [_, _], _ => rfl, no_TooMany := cn0, xf_TooMany := ⟨cg0, ch0, ce0, cd0⟩,
    x_TooMany_TooMany := exm_of ce0 cq0 ct0 cp0_0,
    x_TooMany_HeapError := exm_of ce1 cq1 ct1 cp0_1 }
theorem fin {P : Program} {w : World} {K : PySem.W.Frag} {mg : Str → Option Value} {fa : Addr} {Ps : List Addr} (hfa : mg "law" = some (.ref fa)) (T : Top K mg) (hp : ∀ x ∈ [T.PP__law_bound_right], x ∈ Ps) (hn : [T.PP__law_bound_right].Nodup) : ∃ ts : List Tb, ts.map (·.1) = (["_law_bound_right"] : List Str) ∧ (ts.map (·.2.2)).Nodup ∧ (∀ t ∈ ts, PySem.W.tabIn K t.1 = some t.2 ∧ PySem.W.codeHdIn K t.2.1 t.2.2 = true ∧ K.lookup t.2.2 = none ∧ t.2.2 ∈ Ps) ∧ ∃ fd : FuncData, (∀ (s : Shared) (u : Value), BindsTo s fd ⟨[u], []⟩ [("script", u)]) ∧ ∀ base : Heap, K.In base → base.Ns mainGlobals mg → (∀ t ∈ ts, base.BuiltinsAt mg t.2.2) → FnD P w K mg base CX0 eo0 7 fa fd ["script"] F_law := by
  cases hfa.symm.trans T.g_law
  refine ⟨[("_law_bound_right", T.cc__law_bound_right, T.PP__law_bound_right)], rfl, hn, fun t ht => ?_, _, T.bl_law, fun base _ _ hb => dv_law T (hb ("_law_bound_right", T.cc__law_bound_right, T.PP__law_bound_right) (by simp))⟩
  simp only [List.mem_cons, List.not_mem_nil, or_false] at ht
  rcases ht with rfl
  · exact ⟨T.tab__law_bound_right, T.hd__law_bound_right, T.nk__law_bound_right, hp _ (by simp)⟩
end K28
set_option Elab.async false
set_option linter.all false
set_option maxRecDepth 100000
set_option maxHeartbeats 4000000
namespace K28
open PySem PySem.Spec PyProof.Rows L2 Mn
theorem true_law : ∀ ns : List Int, ns.length ≤ 63 → ∃ S', F_law [.box 0] (scriptL ["_law_bound_right"] ns) = .ok (.bl true) S' := fun ns h => by
  obtain ⟨d, S', e, rfl⟩ := (Lw.law28_ok h).ok
  exact ⟨S', e⟩
end K28
open PySem PySem.W PyProof.Rows
set_option maxHeartbeats 0 in
set_option maxRecDepth 100000 in
theorem PySem.Challenge.cw_neverheaps_k28_rings_told_holds : PySem.Challenge.rw_neverheaps_k28_rings_told.Holds := by
  w_on; o_law; k_head; (case hw => w_witness2)
  k_fill
  refine Mn.walkL (l := PySem.Challenge.rw_neverheaps_k28_rings_told) (n := 63) (k := 7) (x := "script") (CX := fun _ => L2.CX0) (eo := fun _ => K28.eo0) (F := K28.F_law) ["_law_bound_right"] rfl (by decide) rfl ⟨rfl, by decide, by decide⟩ (fun w h Y => PySem.W.km_in_of Y) (fun w h Y => PySem.W.km_tabs_of Y) ?F K28.true_law (fun _ _ _ _ _ h => h)
  case F =>
    intro w mg fa h KX G hmg
    refine' K28.fin (show mg "law" = some (.ref fa) from hmg) (K28.top_mk KX G ?a0 ?l0 ?c0 ?k0 ?a1 ?l1 ?c1 ?k1 ?a2 ?l2 ?c2 ?k2 ?a3 ?l3 ?c3 ?k3 ?a4 ?l4 ?c4 ?k4 ?a5 ?l5 ?c5 ?k5 ?a6 ?l6 ?c6 ?k6 ?a7 ?l7 ?c7 ?k7 ?a8 ?l8 ?c8 ?k8 ?a9 ?l9 ?c9 ?k9 ?a10 ?l10 ?c10 ?k10 ?a11 ?l11 ?c11 ?k11 ?a12 ?l12 ?c12 ?k12 ?a13 ?l13 ?c13 ?k13 ?a14 ?l14 ?c14 ?k14 ?a15 ?l15 ?c15 ?k15 ?a16 ?l16 ?c16 ?k16 ?a17 ?l17 ?c17 ?k17 ?a18 ?l18 ?c18 ?k18 ?a19 ?l19 ?c19 ?k19 ?a20 ?l20 ?c20 ?k20 ?a21 ?l21 ?c21 ?k21 ?a22 ?l22 ?c22 ?k22 ?a23 ?l23 ?c23 ?k23 ?a24 ?l24 ?c24 ?k24 ?a25 ?l25 ?c25 ?k25 ?a26 ?l26 ?c26 ?k26 ?a27 ?l27 ?c27 ?k27 ?a28 ?l28 ?c28 ?k28 ?a29 ?l29 ?c29 ?k29 ?a30 ?l30 ?c30 ?k30 ?a31 ?l31 ?c31 ?k31 ?a32 ?l32 ?c32 ?k32 ?a33 ?l33 ?c33 ?k33 ?lt33 ?lh33 ?lk33 ?lg33 ?a34 ?l34 ?c34 ?k34 ?z0 ?z1 ?z2 ?z3 ?z4 ?z5 ?z6 ?z7 ?z8 ?z9 ?z10 ?z11 ?q0 ?ca0 ?ca1 ?cx0 ?cs0 ?cg0 ?ch0 ?cn0 ?ci0 ?cj0 ?cl0 ?cc0 ?cf0 ?ck0 ?cd0 ?ce0 ?ct0 ?cq0 ?ce1 ?ct1 ?cq1 ?cp0_0 ?cp0_1) ?hp ?hn
    (case a0 => k_is); (case l0 => k_is); (case c0 => k_is); (case k0 => k_is); (case a1 => k_is); (case l1 => k_is); (case c1 => k_is); (case k1 => k_is); (case a2 => k_is); (case l2 => k_is); (case c2 => k_is); (case k2 => k_is); (case a3 => k_is); (case l3 => k_is); (case c3 => k_is); (case k3 => k_is); (case a4 => k_is); (case l4 => k_is); (case c4 => k_is); (case k4 => k_is); (case a5 => k_is); (case l5 => k_is); (case c5 => k_is); (case k5 => k_is); (case a6 => k_is); (case l6 => k_is); (case c6 => k_is); (case k6 => k_is); (case a7 => k_is); (case l7 => k_is); (case c7 => k_is); (case k7 => k_is); (case a8 => k_is); (case l8 => k_is); (case c8 => k_is); (case k8 => k_is); (case a9 => k_is); (case l9 => k_is); (case c9 => k_is); (case k9 => k_is); (case a10 => k_is); (case l10 => k_is); (case c10 => k_is); (case k10 => k_is); (case a11 => k_is); (case l11 => k_is); (case c11 => k_is); (case k11 => k_is); (case a12 => k_is); (case l12 => k_is); (case c12 => k_is); (case k12 => k_is); (case a13 => k_is); (case l13 => k_is); (case c13 => k_is); (case k13 => k_is); (case a14 => k_is); (case l14 => k_is); (case c14 => k_is); (case k14 => k_is); (case a15 => k_is); (case l15 => k_is); (case c15 => k_is); (case k15 => k_is); (case a16 => k_is); (case l16 => k_is); (case c16 => k_is); (case k16 => k_is); (case a17 => k_is); (case l17 => k_is); (case c17 => k_is); (case k17 => k_is); (case a18 => k_is); (case l18 => k_is); (case c18 => k_is); (case k18 => k_is); (case a19 => k_is); (case l19 => k_is); (case c19 => k_is); (case k19 => k_is); (case a20 => k_is); (case l20 => k_is); (case c20 => k_is); (case k20 => k_is); (case a21 => k_is); (case l21 => k_is); (case c21 => k_is); (case k21 => k_is); (case a22 => k_is); (case l22 => k_is); (case c22 => k_is); (case k22 => k_is); (case a23 => k_is); (case l23 => k_is); (case c23 => k_is); (case k23 => k_is); (case a24 => k_is); (case l24 => k_is); (case c24 => k_is); (case k24 => k_is); (case a25 => k_is); (case l25 => k_is); (case c25 => k_is); (case k25 => k_is); (case a26 => k_is); (case l26 => k_is); (case c26 => k_is); (case k26 => k_is); (case a27 => k_is); (case l27 => k_is); (case c27 => k_is); (case k27 => k_is); (case a28 => k_is); (case l28 => k_is); (case c28 => k_is); (case k28 => k_is); (case a29 => k_is); (case l29 => k_is); (case c29 => k_is); (case k29 => k_is); (case a30 => k_is); (case l30 => k_is); (case c30 => k_is); (case k30 => k_is); (case a31 => k_is); (case l31 => k_is); (case c31 => k_is); (case k31 => k_is); (case a32 => k_is); (case l32 => k_is); (case c32 => k_is); (case k32 => k_is); (case a33 => k_is); (case l33 => k_is); (case c33 => k_is); (case k33 => k_is); (case hp => first | exact fun x hx => (List.mem_singleton.mp hx) ▸ List.Mem.head _ | exact fun x hx => by simpa using hx | decide); (case lt33 => (first | kernel_rfl | k_is | rfl)); (case lh33 => (first | kernel_rfl | k_is | rfl)); (case lk33 => (first | kernel_rfl | k_is | rfl)); (case lg33 => decide); (case a34 => k_is); (case l34 => k_is); (case c34 => k_is); (case k34 => k_is); (case z0 => k_is); (case z1 => k_is); (case z2 => k_is); (case z3 => k_is); (case z4 => k_is); (case z5 => k_is); (case z6 => k_is); (case z7 => k_is); (case z8 => k_is); (case z9 => k_is); (case z10 => k_is); (case z11 => k_is); (case q0 => k_is); (case ca0 => k_is); (case ca1 => k_is); (case cx0 => k_is); (case cs0 => k_is); (case cg0 => k_is); (case ch0 => k_is); (case cn0 => k_is); (case ci0 => k_is); (case cj0 => k_is); (case cl0 => k_is); (case cc0 => k_is); (case cf0 => k_is); (case ck0 => k_is); (case cd0 => k_is); (case ce0 => k_is); (case ct0 => k_is); (case cq0 => k_is); (case ce1 => k_is); (case ct1 => k_is); (case cq1 => k_is); (case cp0_0 => k_is); (case cp0_1 => k_is)
    case hn => first | exact List.pairwise_singleton _ _ | simp | decide
