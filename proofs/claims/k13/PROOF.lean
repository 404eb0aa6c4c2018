import PyProof.Rows.All
import Wide.All
import OpenK.AllK
import Wide.FinOn
import HandS.ForMost
import HandS.Walk
import HandS.Zip
import HandS.Lambda
import KE.KNestM
import KE.KDictCopyH
import HandS.ExcValue
import HandS.ExcIs
import HandS.Wide
import HandS.TupAny
import HandS.TupMul
import HandS.Flow
import HandS.Style
import HandS.Comp
import HandS.Strs
import HandS.Dict
import HandS.Deep
import PyProof.TupleKey
import PyProof.DictRoadsH
import KE.GoesZip
import KE.GoesEnum
import KE.GoesMore
import HandS.Ends
import HandS.Words
import PyProof.WalksMore
import PyProof.WalkInts
import HandS.SortKw
import KE.SortKeyHeap
import PyProof.TupleOfSeq
import HandS.IsInst
import KE.KDictZip
import HandS.Conv
import HandS.ExcInit
import HandS.ExcField
import HandS.TryMany
import HandS.ExcOwn
import HandS.WordsExc
import HandS.Text
import HandS.Iter
import HandS.SetFor
import PyProof.ReprLen
import PyProof.Rows.StrBin
import HandS.DictComp
import HandS.More
import KE.SortData
import HandS.Gcd
import HandS.Set
import PyProof.Rows.SetFrom
import HandS.TupLen
import KE.KEqNest
import PyProof.EqKinds
import PyProof.StrBlock2
import HandS.HotCalls
import HandS.SetKeys
import HandS.NoneIn
import KE.KMathGC
import KE.KUnpackStar
import PySem.Challenge.RW_neverheaps_k13_least_shares_and_prices
set_option Elab.async false
set_option linter.all false
set_option maxRecDepth 100000
set_option maxHeartbeats 4000000
/-! MnA: values as plain data with numbered boxes, their tie to the abstract heap. -/
namespace Mn
open PySem PySem.Spec PyProof.Rows L2
/-- plain data; box n is the n-th mutable thing -/
inductive Dt where
  | non | bl (b : Bool) | int (i : Int) | str (x : Str) | tup (xs : List Dt) | box (n : Nat)
  deriving Inhabited
/-- what a box holds: a list, a list that nobody changes, a dict by ints and texts, an instance of the class at C -/
inductive MBox where
  | lst (xs : List Dt) | ro (xs : List Dt) | dk (kvs : List (Key × Dt)) | dkr (kvs : List (Key × Dt)) | dt (kvs : List (List Int × Dt)) | obj (x : Str) (fs : List (Str × Dt)) | tab (x : Str) | fnc (x : Str) | nd | exn
def MBox.mu : MBox → Bool
  | .ro _ => false
  | .fnc _ => false
  | _ => true
abbrev Bxs := List MBox
/-- a result -/
inductive Rs (α : Type) where
  | ok (a : α) (s : Bxs) | ex (c : Nat) (ds : List Dt) (s : Bxs) | no
def Rs.bind {α β : Type} (r : Rs α) (k : α → Bxs → Rs β) : Rs β := match r with
  | .ok a s => k a s
  | .ex c ds s => .ex c ds s
  | .no => .no
@[simp] theorem Rs.bind_ok {α β : Type} (a : α) (s : Bxs) (k : α → Bxs → Rs β) : (Rs.ok a s).bind k = k a s := rfl
@[simp] theorem Rs.bind_ex {α β : Type} (c : Nat) (ds : List Dt) (s : Bxs) (k : α → Bxs → Rs β) : (Rs.ex c ds s).bind k = .ex c ds s := rfl
@[simp] theorem Rs.bind_no {α β : Type} (k : α → Bxs → Rs β) : (Rs.no).bind k = .no := rfl
def Rs.Sat {α : Type} (r : Rs α) (P : α → Bxs → Prop) (E : Nat → List Dt → Bxs → Prop) : Prop := match r with
  | .ok a s => P a s
  | .ex c ds s => E c ds s
  | .no => False
theorem Rs.sat_bind {α β : Type} {r : Rs α} {k : α → Bxs → Rs β} {P : β → Bxs → Prop} {E : Nat → List Dt → Bxs → Prop} :
    (r.bind k).Sat P E ↔ r.Sat (fun a s => (k a s).Sat P E) E := by
  cases r <;> rfl
theorem Rs.Sat.mono {α : Type} {r : Rs α} {P P' : α → Bxs → Prop} {E E' : Nat → List Dt → Bxs → Prop} (h : r.Sat P E) (hp : ∀ a s, P a s → P' a s) (he : ∀ c ds s, E c ds s → E' c ds s) : r.Sat P' E' := by
  cases r with
  | ok a s => exact hp _ _ h
  | ex c ds s => exact he _ _ _ h
  | no => exact h
/-! ### the tie -/
/-- a plain tuple's object -/
def PT0 (o : Obj) : Prop := o.cls = .type "tuple" ∧ o.dict = none
/-- a tuple that is known to have no dict -/
def Tp (K : PySem.W.Frag) (H : Hp) (a : Addr) (vs : List V) : Prop :=
  (∃ o, H a = some (.frz o (.tup vs)) ∧ PT0 o) ∨ ∃ (o : Obj) (its : Array Value) (n : Nat), K.lookup a = some o ∧ PT0 o ∧ o.data = .seq its n ∧ its.size ≤ sizeLine ∧ Vals vs its.toList
theorem Tp.sqt {K : PySem.W.Frag} {H : Hp} {a : Addr} {vs : List V} (h : Tp K H a vs) : SqT K H a vs := by
  rcases h with ⟨o, h, _⟩ | ⟨o, its, n, h, p, d, z, r⟩
  · exact .inl (.inr ⟨o, h⟩)
  · exact .inr ⟨o, its, n, h, p.1, d, z, r⟩
mutual
inductive DV (K : PySem.W.Frag) (H : Hp) (ρ : List Addr) : Dt → V → Prop
  | non : DV K H ρ .non .non
  | bl (b : Bool) : DV K H ρ (.bl b) (.bl b)
  | int (i : Int) : DV K H ρ (.int i) (.int i)
  | str (x : Str) : DV K H ρ (.str x) (.str x)
  | tup {a : Addr} {ds : List Dt} {vs : List V} : Tp K H a vs → DVs K H ρ ds vs → DV K H ρ (.tup ds) (.ref a)
  | box {n : Nat} {a : Addr} : ρ[n]? = some a → DV K H ρ (.box n) (.ref a)
inductive DVs (K : PySem.W.Frag) (H : Hp) (ρ : List Addr) : List Dt → List V → Prop
  | nil : DVs K H ρ [] []
  | cons {d : Dt} {v : V} {ds : List Dt} {vs : List V} : DV K H ρ d v → DVs K H ρ ds vs → DVs K H ρ (d :: ds) (v :: vs)
end
/-- what never changes stays: tuples, locked things -/
structure Ext (H H' : Hp) : Prop where
  tup : ∀ a xs, H a = some (.tup xs) → H' a = some (.tup xs)
  frz : ∀ a o u, H a = some (.frz o u) → H' a = some (.frz o u)
  cod : ∀ a q, H a = some (LamX.CodeO a q) → H' a = some (LamX.CodeO a q)
theorem Ext.of {H H' : Hp} (h : ∀ a u, H a = some u → H' a = some u) : Ext H H' := ⟨fun _ _ z => h _ _ z, fun _ _ _ z => h _ _ z, fun _ _ z => h _ _ z⟩
theorem Ext.refl (H : Hp) : Ext H H := .of fun _ _ h => h
theorem Ext.trans {H H1 H2 : Hp} (a : Ext H H1) (b : Ext H1 H2) : Ext H H2 := ⟨fun x o h => b.tup x o (a.tup x o h), fun x o u h => b.frz x o u (a.frz x o u h), fun x q h => b.cod x q (a.cod x q h)⟩
theorem Ext.new {H : Hp} {p : Addr} {o : HO} (h : H p = none) : Ext H (upd H p o) := .of fun a u e => by rw [upd_ne (ne_of_none e h)]; exact e
theorem codeO_is {a : Addr} {q : Str} {o : HO} (h : ∀ φ, o ≠ .ext φ) : LamX.CodeO a q ≠ o := fun z => h _ z.symm
theorem Ext.upd_of {H : Hp} {p : Addr} {o0 o : HO} (h : H p = some o0) (h1 : ∀ xs, o0 ≠ .tup xs) (h2 : ∀ ob u, o0 ≠ .frz ob u) (h3 : ∀ a q, LamX.CodeO a q ≠ o0) : Ext H (upd H p o) :=
  ⟨fun a ys e => by rw [upd_ne (ne_of e h (fun z => h1 _ z.symm))]; exact e, fun a o u e => by rw [upd_ne (ne_of e h (fun z => h2 _ _ z.symm))]; exact e, fun a q e => by rw [upd_ne (ne_of e h (fun z => h3 _ _ z))]; exact e⟩
theorem Ext.set {H : Hp} {p : Addr} {xs : List V} {o : HO} (h : H p = some (.lst xs)) : Ext H (upd H p o) := .upd_of h (fun _ z => nomatch z) (fun _ _ z => nomatch z) fun _ _ => codeO_is fun _ z => nomatch z
theorem Ext.tp {K : PySem.W.Frag} {H H' : Hp} {a : Addr} {xs : List V} (e : Ext H H') (h : Tp K H a xs) : Tp K H' a xs := by
  rcases h with ⟨o, h, p⟩ | h
  · exact .inl ⟨o, e.frz _ _ _ h, p⟩
  · exact .inr h
theorem pre_get {α : Type} {l m : List α} {n : Nat} {a : α} (p : l <+: m) (h : l[n]? = some a) : m[n]? = some a := by
  obtain ⟨t, rfl⟩ := p
  rw [List.getElem?_append_left (List.getElem?_eq_some_iff.mp h).1]
  exact h
mutual
theorem DV.mono {K : PySem.W.Frag} {H H' : Hp} {ρ ρ' : List Addr} (e : Ext H H') (p : ρ <+: ρ') : ∀ {d : Dt} {v : V}, DV K H ρ d v → DV K H' ρ' d v
  | _, _, .non => .non
  | _, _, .bl b => .bl b
  | _, _, .int i => .int i
  | _, _, .str x => .str x
  | _, _, .tup h hs => .tup (e.tp h) (DVs.mono e p hs)
  | _, _, .box h => .box (pre_get p h)
theorem DVs.mono {K : PySem.W.Frag} {H H' : Hp} {ρ ρ' : List Addr} (e : Ext H H') (p : ρ <+: ρ') : ∀ {ds : List Dt} {vs : List V}, DVs K H ρ ds vs → DVs K H' ρ' ds vs
  | _, _, .nil => .nil
  | _, _, .cons h hs => .cons (DV.mono e p h) (DVs.mono e p hs)
end
section
variable {K : PySem.W.Frag} {H : Hp} {ρ : List Addr}
theorem DVs.length : ∀ {ds : List Dt} {vs : List V}, DVs K H ρ ds vs → ds.length = vs.length
  | _, _, .nil => rfl
  | _, _, .cons _ t => congrArg (· + 1) (DVs.length t)
theorem DVs.get : ∀ {ds : List Dt} {vs : List V} {i : Nat} {d : Dt}, DVs K H ρ ds vs → ds[i]? = some d → ∃ v, vs[i]? = some v ∧ DV K H ρ d v
  | _, _, _, _, .nil, e => by simp at e
  | _, _, 0, _, .cons r _, e => by simp at e; subst e; exact ⟨_, rfl, r⟩
  | _, _, i + 1, d, .cons _ t, e => by
    obtain ⟨u, h1, h2⟩ := DVs.get (i := i) (d := d) t (by simpa using e)
    exact ⟨u, by simpa using h1, h2⟩
theorem DVs.app : ∀ {ds es : List Dt} {vs ws : List V}, DVs K H ρ ds vs → DVs K H ρ es ws → DVs K H ρ (ds ++ es) (vs ++ ws)
  | _, _, _, _, .nil, s => s
  | _, _, _, _, .cons r t, s => .cons r (DVs.app t s)
theorem DVs.set {d : Dt} {v : V} (r : DV K H ρ d v) : ∀ {ds : List Dt} {vs : List V} (i : Nat), DVs K H ρ ds vs → DVs K H ρ (ds.set i d) (vs.set i v)
  | _, _, _, .nil => .nil
  | _, _, 0, .cons _ t => .cons r t
  | _, _, i + 1, .cons q t => .cons q (DVs.set r i t)
theorem DVs.take : ∀ {ds : List Dt} {vs : List V} (n : Nat), DVs K H ρ ds vs → DVs K H ρ (ds.take n) (vs.take n)
  | _, _, 0, _ => by rw [List.take_zero, List.take_zero]; exact .nil
  | _, _, _ + 1, .nil => .nil
  | _, _, n + 1, .cons r t => .cons r (DVs.take n t)
theorem DVs.drop : ∀ {ds : List Dt} {vs : List V} (n : Nat), DVs K H ρ ds vs → DVs K H ρ (ds.drop n) (vs.drop n)
  | _, _, 0, r => r
  | _, _, _ + 1, .nil => .nil
  | _, _, n + 1, .cons _ t => DVs.drop n t
theorem DVs.rep {d : Dt} {v : V} (r : DV K H ρ d v) : ∀ n : Nat, DVs K H ρ (List.replicate n d) (List.replicate n v)
  | 0 => .nil
  | n + 1 => .cons r (DVs.rep r n)
end
/-- a list that nobody changes -/
def Ro (K : PySem.W.Frag) (H : Hp) (a : Addr) (vs : List V) : Prop := (∃ o, H a = some (.frz o (.lst vs))) ∨ ∀ H', SqL K H' a vs
theorem Ro.mono {K : PySem.W.Frag} {H H' : Hp} {a : Addr} {vs : List V} (e : Ext H H') (h : Ro K H a vs) : Ro K H' a vs := by
  rcases h with ⟨o, h⟩ | h
  · exact .inl ⟨o, e.frz _ _ _ h⟩
  · exact .inr h
theorem Ro.sql {K : PySem.W.Frag} {H : Hp} {a : Addr} {vs : List V} (h : Ro K H a vs) : SqL K H a vs := by
  rcases h with ⟨o, h⟩ | h
  · exact .inl (.inr ⟨o, h⟩)
  · exact h H
/-- pairs, their second parts data -/
inductive DPs {κ : Type} (K : PySem.W.Frag) (H : Hp) (ρ : List Addr) : List (κ × Dt) → List (κ × V) → Prop
  | nil : DPs K H ρ [] []
  | cons {k : κ} {d : Dt} {v : V} {ds : List (κ × Dt)} {vs : List (κ × V)} : DV K H ρ d v → DPs K H ρ ds vs → DPs K H ρ ((k, d) :: ds) ((k, v) :: vs)
theorem DPs.mono {κ : Type} {K : PySem.W.Frag} {H H' : Hp} {ρ ρ' : List Addr} (e : Ext H H') (p : ρ <+: ρ') : ∀ {ds : List (κ × Dt)} {vs : List (κ × V)}, DPs K H ρ ds vs → DPs K H' ρ' ds vs
  | _, _, .nil => .nil
  | _, _, .cons h hs => .cons (h.mono e p) (DPs.mono e p hs)
theorem DPs.length {κ : Type} {K : PySem.W.Frag} {H : Hp} {ρ : List Addr} : ∀ {ds : List (κ × Dt)} {vs : List (κ × V)}, DPs K H ρ ds vs → ds.length = vs.length
  | _, _, .nil => rfl
  | _, _, .cons _ t => congrArg (· + 1) (DPs.length t)
/-! ### dicts whose keys are tuples of ints -/
abbrev TE3 := List Int × Addr × Value
def tiHash (ks : List Int) : Int := reduceHash (Builtin.Tuple.tupleHashOf (ks.map hashInt))
def tiEntry (x : TE3) : DictEntry := ⟨tiHash x.1, .ref x.2.1, x.2.2⟩
/-- the dict's object -/
def DtP (a : Addr) (xs : List TE3) (h : Heap) : Prop := (a == sysModules) = false ∧ ∃ o es ep, h.get? a = some o ∧ o.ExactDict ∧ o.data = .dict es ep ∧ es.toList = xs.map tiEntry ∧ (xs.map (·.1)).Nodup
def DtO (a : Addr) (xs : List TE3) : HO := .ext (DtP a xs)
/-- the types that an exception is not -/
def tysX : List String := ["int", "bool", "str", "tuple", "list", "dict"]
/-- what the class of an exception that is held as a value must say -/
structure XnC (K : PySem.W.Frag) (C : Addr) : Prop where
  ec : ExcC K C
  no : ∀ T ∈ tysX, PySem.W.kitOne K (.ref C) (.type T) = some false
/-- the dict {None: None} -/
def NdP (a : Addr) (h : Heap) : Prop := (a == sysModules) = false ∧ ∀ (P : Program) (w : World), h.DictOf (leafKind P w) a [(Leaf.none, Value.none)]
def NdO (a : Addr) : HO := .ext (NdP a)
inductive KTp (K : PySem.W.Frag) (H : Hp) (ρ : List Addr) : List (List Int × Dt) → List TE3 → Prop
  | nil : KTp K H ρ [] []
  | cons {k : List Int} {d : Dt} {v : V} {u : Value} {b : Addr} {ds : List (List Int × Dt)} {xs : List TE3} : Tp K H b (k.map V.int) → DV K H ρ d v → RelV v u → KTp K H ρ ds xs → KTp K H ρ ((k, d) :: ds) ((k, b, u) :: xs)
theorem KTp.mono {K : PySem.W.Frag} {H H' : Hp} {ρ ρ' : List Addr} (e : Ext H H') (p : ρ <+: ρ') : ∀ {ds : List (List Int × Dt)} {xs : List TE3}, KTp K H ρ ds xs → KTp K H' ρ' ds xs
  | _, _, .nil => .nil
  | _, _, .cons t h r hs => .cons (e.tp t) (h.mono e p) r (KTp.mono e p hs)
theorem KTp.length {K : PySem.W.Frag} {H : Hp} {ρ : List Addr} : ∀ {ds : List (List Int × Dt)} {xs : List TE3}, KTp K H ρ ds xs → ds.length = xs.length
  | _, _, .nil => rfl
  | _, _, .cons _ _ _ t => congrArg (· + 1) (KTp.length t)
/-- what a box holds stands at a -/
def BoxAt (K : PySem.W.Frag) (H : Hp) (ρ : List Addr) (a : Addr) : MBox → Prop
  | .lst xs => ∃ vs, H a = some (.lst vs) ∧ DVs K H ρ xs vs
  | .ro xs => ∃ vs, Ro K H a vs ∧ DVs K H ρ xs vs
  | .dk kvs => ∃ ws, H a = some (.dK ws) ∧ DPs K H ρ kvs ws
  | .dkr kvs => ∃ (ws : List (Key × V)) (o : Obj), H a = some (HO.frz o (.dK ws)) ∧ DPs K H ρ kvs ws
  | .dt kvs => ∃ xs, H a = some (DtO a xs) ∧ KTp K H ρ kvs xs
  | .obj x fs => ∃ C dx ws, H a = some (.ins C dx ws) ∧ DPs K H ρ fs ws ∧ PySem.W.nsIn K mainGlobals x = some (some (.ref C))
  | .tab x => (∃ c, PySem.W.tabIn K x = some (c, a)) ∧ LamX.TabS H a (x ++ ".<locals>." ++ "<lambda>")
  | .fnc x => PySem.W.nsIn K mainGlobals x = some (some (.ref a))
  | .nd => H a = some (NdO a)
  | .exn => ∃ C, H a = some (ExO (.ref C) a) ∧ XnC K C
/-- the part of the heap that a box leans on -/
theorem BoxAt.mono {K : PySem.W.Frag} {H H' : Hp} {ρ ρ' : List Addr} {a : Addr} {b : MBox} (e : Ext H H') (p : ρ <+: ρ') (ha : b.mu = true → H' a = H a) (h : BoxAt K H ρ a b) : BoxAt K H' ρ' a b := by
  cases b with
  | lst xs => obtain ⟨vs, h1, h2⟩ := h; exact ⟨vs, (ha rfl).trans h1, h2.mono e p⟩
  | ro xs => obtain ⟨vs, h1, h2⟩ := h; exact ⟨vs, h1.mono e, h2.mono e p⟩
  | dk kvs => obtain ⟨vs, h1, h2⟩ := h; exact ⟨vs, (ha rfl).trans h1, h2.mono e p⟩
  | dkr kvs => obtain ⟨vs, o, h1, h2⟩ := h; exact ⟨vs, o, (ha rfl).trans h1, h2.mono e p⟩
  | dt kvs => obtain ⟨vs, h1, h2⟩ := h; exact ⟨vs, (ha rfl).trans h1, h2.mono e p⟩
  | obj x fs => obtain ⟨C, dx, vs, h1, h2, h3⟩ := h; exact ⟨C, dx, vs, (ha rfl).trans h1, h2.mono e p, h3⟩
  | tab x =>
    obtain ⟨h1, ps, h2, h3, h4⟩ := h
    exact ⟨h1, ps, (ha rfl).trans h2, h3, fun pos cv hc => let ⟨c, e1, e2⟩ := h4 pos cv hc; ⟨c, e1, e.cod _ _ e2⟩⟩
  | fnc x => exact h
  | nd => exact (ha rfl).trans h
  | exn => obtain ⟨C, h1, h2⟩ := h; exact ⟨C, (ha rfl).trans h1, h2⟩
theorem BoxAt.some {K : PySem.W.Frag} {H : Hp} {ρ : List Addr} {a : Addr} {b : MBox} (h : BoxAt K H ρ a b) (hb : b.mu = true) : ∃ o, H a = .some o := by
  cases b with
  | lst xs => obtain ⟨vs, h1, _⟩ := h; exact ⟨_, h1⟩
  | ro xs => cases hb
  | dk kvs => obtain ⟨vs, h1, _⟩ := h; exact ⟨_, h1⟩
  | dkr kvs => obtain ⟨vs, o, h1, _⟩ := h; exact ⟨_, h1⟩
  | dt kvs => obtain ⟨vs, h1, _⟩ := h; exact ⟨_, h1⟩
  | obj x fs => obtain ⟨C, dx, vs, h1, _⟩ := h; exact ⟨_, h1⟩
  | tab x => obtain ⟨_, ps, h1, _⟩ := h; exact ⟨_, h1⟩
  | fnc x => cases hb
  | nd => exact ⟨_, h⟩
  | exn => obtain ⟨C, h1, _⟩ := h; exact ⟨_, h1⟩
/-- the boxes stand in the heap -/
structure HR (K : PySem.W.Frag) (H : Hp) (ρ : List Addr) (S : Bxs) : Prop where
  len : ρ.length = S.length
  at_ : ∀ (n : Nat) b, S[n]? = some b → ∃ a, ρ[n]? = some a ∧ BoxAt K H ρ a b
  inj : ∀ (n m : Nat) b c a, S[n]? = some b → S[m]? = some c → b.mu = true → c.mu = true → ρ[n]? = some a → ρ[m]? = some a → n = m
theorem HR.lst {K : PySem.W.Frag} {H : Hp} {ρ : List Addr} {S : Bxs} (h : HR K H ρ S) (n : Nat) (xs : List Dt) (e : S[n]? = some (MBox.lst xs)) : ∃ a vs, ρ[n]? = some a ∧ H a = some (.lst vs) ∧ DVs K H ρ xs vs := by
  obtain ⟨a, h1, vs, h2, h3⟩ := h.at_ n _ e
  exact ⟨a, vs, h1, h2, h3⟩
theorem HR.ro {K : PySem.W.Frag} {H : Hp} {ρ : List Addr} {S : Bxs} (h : HR K H ρ S) (n : Nat) (xs : List Dt) (e : S[n]? = some (MBox.ro xs)) : ∃ a vs, ρ[n]? = some a ∧ Ro K H a vs ∧ DVs K H ρ xs vs := by
  obtain ⟨a, h1, vs, h2, h3⟩ := h.at_ n _ e
  exact ⟨a, vs, h1, h2, h3⟩
theorem HR.dk {K : PySem.W.Frag} {H : Hp} {ρ : List Addr} {S : Bxs} (h : HR K H ρ S) (n : Nat) (xs : List (Key × Dt)) (e : S[n]? = some (MBox.dk xs)) : ∃ a vs, ρ[n]? = some a ∧ H a = some (.dK vs) ∧ DPs K H ρ xs vs := by
  obtain ⟨a, h1, vs, h2, h3⟩ := h.at_ n _ e
  exact ⟨a, vs, h1, h2, h3⟩
theorem HR.dkr {K : PySem.W.Frag} {H : Hp} {ρ : List Addr} {S : Bxs} (h : HR K H ρ S) (n : Nat) (xs : List (Key × Dt)) (e : S[n]? = some (MBox.dkr xs)) : ∃ a vs o, ρ[n]? = some a ∧ H a = some (.frz o (.dK vs)) ∧ DPs K H ρ xs vs := by
  obtain ⟨a, h1, vs, o, h2, h3⟩ := h.at_ n _ e
  exact ⟨a, vs, o, h1, h2, h3⟩
theorem HR.dt {K : PySem.W.Frag} {H : Hp} {ρ : List Addr} {S : Bxs} (h : HR K H ρ S) (n : Nat) (xs : List (List Int × Dt)) (e : S[n]? = some (MBox.dt xs)) : ∃ a vs, ρ[n]? = some a ∧ H a = some (DtO a vs) ∧ KTp K H ρ xs vs := by
  obtain ⟨a, h1, vs, h2, h3⟩ := h.at_ n _ e
  exact ⟨a, vs, h1, h2, h3⟩
/-- a new box -/
theorem HR.grown {K : PySem.W.Frag} {H H' : Hp} {ρ : List Addr} {S : Bxs} {p : Addr} {b : MBox} (h : HR K H ρ S) (hk : ∀ a u, H a = some u → H' a = some u) (hp : H p = none) (hb : BoxAt K H' (ρ ++ [p]) p b) :
    HR K H' (ρ ++ [p]) (S ++ [b]) := by
  have e : Ext H H' := .of hk
  have pre : ρ <+: ρ ++ [p] := List.prefix_append _ _
  have cut : ∀ (n : Nat) (x : MBox), (S ++ [b])[n]? = some x → (n < S.length ∧ S[n]? = some x) ∨ (n = S.length ∧ x = b) := fun n x hx => by
    by_cases hn : n < S.length
    · rw [List.getElem?_append_left hn] at hx
      exact .inl ⟨hn, hx⟩
    · rw [List.getElem?_append_right (by omega)] at hx
      by_cases h0 : n - S.length = 0
      · rw [h0] at hx
        exact .inr ⟨by omega, (Option.some.inj hx).symm⟩
      · rw [List.getElem?_eq_none (by simp; omega)] at hx
        cases hx
  have last : (ρ ++ [p])[S.length]? = some p := by
    rw [← h.len, List.getElem?_append_right (Nat.le_refl _), Nat.sub_self]; rfl
  have old : ∀ (n : Nat) (x : MBox), S[n]? = some x → x.mu = true → ∃ a, ρ[n]? = some a ∧ a ≠ p := fun n x hx hm => by
    obtain ⟨a, h1, h2⟩ := h.at_ n x hx
    obtain ⟨u, hu⟩ := h2.some hm
    exact ⟨a, h1, ne_of_none hu hp⟩
  refine ⟨by simp [h.len], fun n x hx => ?_, fun n m x y a h1 h2 mx my h3 h4 => ?_⟩
  · rcases cut n _ hx with ⟨hn, hx⟩ | ⟨en, ex⟩
    · obtain ⟨a, h1, h2⟩ := h.at_ n x hx
      refine ⟨a, pre_get pre h1, h2.mono e pre fun hm => ?_⟩
      obtain ⟨u, hu⟩ := h2.some hm
      rw [hu]; exact hk _ _ hu
    · subst en; subst ex
      exact ⟨p, last, hb⟩
  · rcases cut n x h1 with ⟨hn, g1⟩ | ⟨rfl, _⟩
    · rcases cut m y h2 with ⟨hm, g2⟩ | ⟨rfl, _⟩
      · obtain ⟨a1, q1, _⟩ := old n x g1 mx
        obtain ⟨a2, q2, _⟩ := old m y g2 my
        rw [pre_get pre q1] at h3
        rw [pre_get pre q2] at h4
        cases h3; cases h4
        exact h.inj n m x y a g1 g2 mx my q1 q2
      · obtain ⟨a1, q1, q2⟩ := old n x g1 mx
        rw [pre_get pre q1] at h3
        rw [last] at h4
        cases h3; cases h4
        exact absurd rfl q2
    · rcases cut m y h2 with ⟨hm, g2⟩ | ⟨rfl, _⟩
      · obtain ⟨a1, q1, q2⟩ := old m y g2 my
        rw [pre_get pre q1] at h4
        rw [last] at h3
        cases h3; cases h4
        exact absurd rfl q2
      · rfl
theorem upd_keeps {H : Hp} {p : Addr} {o : HO} (hp : H p = none) : ∀ a u, H a = some u → upd H p o a = some u := fun a u e => by rw [upd_ne (ne_of_none e hp)]; exact e
theorem HR.newB {K : PySem.W.Frag} {H : Hp} {ρ : List Addr} {S : Bxs} {p : Addr} {b : MBox} {o : HO} (h : HR K H ρ S) (hp : H p = none) (hb : BoxAt K (upd H p o) (ρ ++ [p]) p b) :
    HR K (upd H p o) (ρ ++ [p]) (S ++ [b]) := h.grown (upd_keeps hp) hp hb
theorem HR.new {K : PySem.W.Frag} {H : Hp} {ρ : List Addr} {S : Bxs} {p : Addr} {xs : List Dt} {vs : List V} (h : HR K H ρ S) (hp : H p = none) (hd : DVs K H ρ xs vs) :
    HR K (upd H p (.lst vs)) (ρ ++ [p]) (S ++ [MBox.lst xs]) := h.newB hp ⟨vs, upd_same, hd.mono (Ext.new hp) (List.prefix_append _ _)⟩
/-- a box changed; what changes is no tuple, nothing locked -/
theorem HR.setB {K : PySem.W.Frag} {H : Hp} {ρ : List Addr} {S : Bxs} {n : Nat} {a : Addr} {b c : MBox} {o : HO} (h : HR K H ρ S) (hn : S[n]? = some b) (mb : b.mu = true) (mc : c.mu = true) (ha : ρ[n]? = some a) (e : Ext H (upd H a o)) (hc : BoxAt K (upd H a o) ρ a c) :
    HR K (upd H a o) ρ (S.set n c) := by
  have hl : n < S.length := (List.getElem?_eq_some_iff.mp hn).1
  have same : ∀ (m : Nat) y, (S.set n c)[m]? = some y → y.mu = true → ∃ z, S[m]? = some z ∧ z.mu = true := fun m y hy hm => by
    by_cases hmn : n = m
    · subst hmn; exact ⟨b, hn, mb⟩
    · rw [List.getElem?_set_ne hmn] at hy
      exact ⟨y, hy, hm⟩
  refine ⟨by simp [h.len], fun m y hy => ?_, fun k m y z x h1 h2 my mz h3 h4 => ?_⟩
  · by_cases hm : n = m
    · subst hm
      rw [List.getElem?_set_self hl] at hy
      cases hy
      exact ⟨a, ha, hc⟩
    · rw [List.getElem?_set_ne hm] at hy
      obtain ⟨x, h1, h2⟩ := h.at_ m y hy
      exact ⟨x, h1, h2.mono e (List.prefix_refl _) fun my => upd_ne fun q => hm (h.inj n m b y a hn hy mb my ha (q ▸ h1))⟩
  · obtain ⟨y', h1', m1⟩ := same k y h1 my
    obtain ⟨z', h2', m2⟩ := same m z h2 mz
    exact h.inj k m y' z' x h1' h2' m1 m2 h3 h4
/-- a box's list changed -/
theorem HR.set {K : PySem.W.Frag} {H : Hp} {ρ : List Addr} {S : Bxs} {n : Nat} {a : Addr} {xs0 xs : List Dt} {vs0 vs : List V} (h : HR K H ρ S) (hn : S[n]? = some (MBox.lst xs0)) (ha : ρ[n]? = some a) (hH : H a = some (.lst vs0)) (hd : DVs K H ρ xs vs) :
    HR K (upd H a (.lst vs)) ρ (S.set n (MBox.lst xs)) := h.setB hn rfl rfl ha (Ext.set hH) ⟨vs, upd_same, hd.mono (Ext.set hH) (List.prefix_refl _)⟩
theorem Ext.setD {H : Hp} {p : Addr} {xs : List (Key × V)} {o : HO} (h : H p = some (.dK xs)) : Ext H (upd H p o) := .upd_of h (fun _ z => nomatch z) (fun _ _ z => nomatch z) fun _ _ => codeO_is fun _ z => nomatch z
/-- a heap with code objects alone up to a -/
def codeHeap (a : Addr) (q : Str) : Heap := { objs := Array.replicate (a + 1) { cls := .none, data := .fields #[.none, .str q 0] } }
theorem codeHeap_get {a b : Addr} {q : Str} {o : Obj} (h : (codeHeap a q).get? b = some o) : o.data = .fields #[.none, .str q 0] := by
  unfold codeHeap Heap.get? at h
  rw [Array.getElem?_replicate] at h
  split at h
  · rename_i e; split at e <;> cases e
  · split at h
    · cases h; rfl
    · cases h
theorem codeHeap_at (a : Addr) (q : Str) : (codeHeap a q).get? a = some { cls := .none, data := .fields #[.none, .str q 0] } := by
  unfold codeHeap Heap.get?
  rw [Array.getElem?_replicate, if_pos (Nat.lt_succ_self a)]
theorem codeO_dt {a p : Addr} {q : Str} {xs : List TE3} : LamX.CodeO a q ≠ DtO p xs := fun z => by
  unfold LamX.CodeO DtO at z
  injection z with z
  have h : DtP p xs (codeHeap a q) := by
    rw [← z]
    exact ⟨_, _, 0, codeHeap_at a q, rfl, rfl⟩
  obtain ⟨_, o, es, ep, h1, _, h2, _⟩ := h
  rw [codeHeap_get h1] at h2
  cases h2
theorem Ext.setT {H : Hp} {p : Addr} {xs : List TE3} {o : HO} (h : H p = some (DtO p xs)) : Ext H (upd H p o) := .upd_of h (fun _ z => nomatch z) (fun _ _ z => nomatch z) fun _ _ => codeO_dt
theorem Ext.setO {H : Hp} {p C dx : Addr} {fs : List (Str × V)} {o : HO} (h : H p = some (.ins C dx fs)) : Ext H (upd H p o) := .upd_of h (fun _ z => nomatch z) (fun _ _ z => nomatch z) fun _ _ => codeO_is fun _ z => nomatch z
/-- a box's dict changed -/
theorem HR.setD {K : PySem.W.Frag} {H : Hp} {ρ : List Addr} {S : Bxs} {n : Nat} {a : Addr} {xs0 xs : List (Key × Dt)} {vs0 vs : List (Key × V)} (h : HR K H ρ S) (hn : S[n]? = some (MBox.dk xs0)) (ha : ρ[n]? = some a) (hH : H a = some (.dK vs0)) (hd : DPs K H ρ xs vs) :
    HR K (upd H a (.dK vs)) ρ (S.set n (MBox.dk xs)) := h.setB hn rfl rfl ha (Ext.setD hH) ⟨vs, upd_same, hd.mono (Ext.setD hH) (List.prefix_refl _)⟩
/-- the heap grows otherwise (a new tuple) -/
theorem HR.tup {K : PySem.W.Frag} {H : Hp} {ρ : List Addr} {S : Bxs} {p : Addr} {o : HO} (h : HR K H ρ S) (hp : H p = none) : HR K (upd H p o) ρ S := by
  refine ⟨h.len, fun n y hy => ?_, h.inj⟩
  obtain ⟨a, h1, h2⟩ := h.at_ n y hy
  refine ⟨a, h1, h2.mono (Ext.new hp) (List.prefix_refl _) fun hm => ?_⟩
  obtain ⟨u, hu⟩ := h2.some hm
  exact upd_ne (ne_of_none hu hp)
/-! ### the slots -/
abbrev Sg := List (Option Dt)
structure Sl (K : PySem.W.Frag) (H : Hp) (ρ : List Addr) (σ : Sg) (τ : L2.St) : Prop where
  len : σ.length = τ.length
  at_ : ∀ (i : Nat) d, σ[i]? = some (some d) → ∃ v, τ[i]? = some (some v) ∧ DV K H ρ d v
theorem Sl.mono {K : PySem.W.Frag} {H H' : Hp} {ρ ρ' : List Addr} {σ : Sg} {τ : L2.St} (e : Ext H H') (p : ρ <+: ρ') (h : Sl K H ρ σ τ) : Sl K H' ρ' σ τ :=
  ⟨h.len, fun i d q => let ⟨v, h1, h2⟩ := h.at_ i d q; ⟨v, h1, h2.mono e p⟩⟩
theorem Sl.set {K : PySem.W.Frag} {H : Hp} {ρ : List Addr} {σ : Sg} {τ : L2.St} (h : Sl K H ρ σ τ) {d : Dt} {v : V} (i : Nat) (r : DV K H ρ d v) : Sl K H ρ (σ.set i (some d)) (τ.set i (some v)) := by
  refine ⟨by simp [h.len], fun j e q => ?_⟩
  by_cases hj : i = j
  · subst hj
    by_cases hi : i < σ.length
    · rw [List.getElem?_set_self hi] at q
      cases q
      exact ⟨v, by rw [List.getElem?_set_self (by rw [← h.len]; exact hi)], r⟩
    · rw [List.getElem?_eq_none (by simpa using hi)] at q
      cases q
  · rw [List.getElem?_set_ne hj] at q
    rw [List.getElem?_set_ne hj]
    exact h.at_ j e q
theorem Sl.forget {K : PySem.W.Frag} {H : Hp} {ρ : List Addr} {σ : Sg} {τ : L2.St} (h : Sl K H ρ σ τ) (i : Nat) : Sl K H ρ (σ.set i none) (τ.set i none) := by
  refine ⟨by simp [h.len], fun j e q => ?_⟩
  by_cases hj : i = j
  · subst hj
    by_cases hi : i < σ.length
    · rw [List.getElem?_set_self hi] at q
      cases q
    · rw [List.getElem?_eq_none (by simpa using hi)] at q
      cases q
  · rw [List.getElem?_set_ne hj] at q
    rw [List.getElem?_set_ne hj]
    exact h.at_ j e q
def wipeD (σ : Sg) : List Nat → Sg
  | [] => σ
  | v :: vs => (wipeD σ vs).set v none
theorem Sl.wipe {K : PySem.W.Frag} {H : Hp} {ρ : List Addr} {σ : Sg} {τ : L2.St} (h : Sl K H ρ σ τ) : ∀ vs : List Nat, Sl K H ρ (wipeD σ vs) (L2.wipe τ vs)
  | [] => h
  | v :: vs => (Sl.wipe h vs).forget v
/-- the state of both sides -/
structure Ty (K : PySem.W.Frag) (H : Hp) (ρ : List Addr) (σ : Sg) (S : Bxs) (τ : L2.St) : Prop where
  hr : HR K H ρ S
  sl : Sl K H ρ σ τ
/-- a way on -/
structure To (H H' : Hp) (ρ ρ' : List Addr) : Prop where
  ext : Ext H H'
  pre : ρ <+: ρ'
theorem To.refl (H : Hp) (ρ : List Addr) : To H H ρ ρ := ⟨Ext.refl H, List.prefix_refl _⟩
theorem To.trans {H H1 H2 : Hp} {ρ ρ1 ρ2 : List Addr} (a : To H H1 ρ ρ1) (b : To H1 H2 ρ1 ρ2) : To H H2 ρ ρ2 := ⟨a.ext.trans b.ext, a.pre.trans b.pre⟩
theorem DV.to {K : PySem.W.Frag} {H H' : Hp} {ρ ρ' : List Addr} {d : Dt} {v : V} (t : To H H' ρ ρ') (h : DV K H ρ d v) : DV K H' ρ' d v := h.mono t.ext t.pre
theorem DVs.to {K : PySem.W.Frag} {H H' : Hp} {ρ ρ' : List Addr} {d : List Dt} {v : List V} (t : To H H' ρ ρ') (h : DVs K H ρ d v) : DVs K H' ρ' d v := h.mono t.ext t.pre
theorem Sl.to {K : PySem.W.Frag} {H H' : Hp} {ρ ρ' : List Addr} {σ : Sg} {τ : L2.St} (t : To H H' ρ ρ') (h : Sl K H ρ σ τ) : Sl K H' ρ' σ τ := h.mono t.ext t.pre
/-! ### a dict is locked, and unlocked -/
end Mn
set_option Elab.async false
set_option linter.all false
set_option maxRecDepth 100000
set_option maxHeartbeats 4000000
/-! MnT: tuples that are tracked with their object: no dict. -/
namespace Mn
open PySem PySem.Spec PyProof.Rows L2
/-- «for a new tuple of ys» -/
def NewT (ys : List V) (H : Hp) (Q : VK) : Prop := ∀ p o, H p = none → PT0 o → Q (.ref p) (upd H p (.frz o (.tup ys)))
section
variable {X : Cx} {pins : List (Addr × Obj)} {σ : L2.St} {H : Hp} {s : Shared}
theorem laidT {ys : List V} {us : List Value} {tk : Nat} {Q : VK} (I : Inv X pins σ H s) (r : Vals ys us) (hz : ys.length ≤ sizeLine) (q : NewT ys H Q) :
    EP X pins σ Q (.ref s.heap.objs.size) { s with heap := s.heap.push { cls := .type "tuple", data := .seq us.toArray }, toks := tk } := by
  have nf : H s.heap.objs.size = none := I.hok.fresh (Nat.le_refl _)
  refine ⟨.ref s.heap.objs.size, _, ?_, rfl, q _ { cls := .type "tuple", data := .seq us.toArray } nf ⟨rfl, rfl⟩⟩
  refine I.laid (t' := tk) (fun b u e => Heap.get?_push_of_some _ e) (Nat.le_refl _) ?_
  exact ⟨Heap.get?_push_size _ rfl, hz, us, r, ⟨_, Heap.get?_push_size _ rfl, rfl, _, rfl⟩⟩
def tTupZ (t : TA) : TE := fun σ H Q => t σ H fun xs H1 => xs.length ≤ sizeLine ∧ NewT xs H1 Q
theorem pe_tupZ {es : List Expr} {k : Nat} {pos : Pos} {t : TA} (h : PA X es t) : PE X (.Tuple es k pos) (tTupZ t) := by
  constructor
  intro pins s σ H Q I hq
  refine wpAny_Tuple_spliced (thn (h.run pos pins s σ H _ I hq) ?_)
  rintro us s1 ⟨xs, H1, I1, r, z, q⟩
  exact ⟨by rw [← r.length]; exact z, laidT I1 r z q⟩
/-- tuple(x) -/
def rTupZ (K : PySem.W.Frag) : List V → Hp → VK → Prop := fun xs H Q => ∃ p ys, xs = [.ref p] ∧ ((SqL K H p ys ∧ NewT ys H Q) ∨ (SqT K H p ys ∧ Q (.ref p) H))
theorem call_tupleZ : CallR X (.type "tuple") (rTupZ X.K) := by
  rintro pins s σ H xs us Q I r ⟨p, ys, rfl, h⟩
  obtain ⟨u, rfl, rx⟩ := vals1 r
  cases rx
  rcases h with ⟨hq, q⟩ | ⟨hq, q⟩
  · obtain ⟨its, r', pl, hz⟩ := I.list hq
    have hn := r'.length
    refine call_tuple_list pl.isList (fun h' kp => ?_) (by rw [List.size_toArray]; omega)
    have I1 : Inv X pins σ H { s with heap := h' } := I.kept (t' := s.toks) kp
    exact laidT (tk := s.toks) I1 r' hz q
  · obtain ⟨its, r', pl, hz⟩ := I.tuple hq
    exact call_tuple_same pl ⟨.ref p, H, I, rfl, q⟩
/-- t + u -/
def rCatZ (K : PySem.W.Frag) : R2 := fun x y H Q => ∃ a b xs ys, x = .ref a ∧ y = .ref b ∧ SqT K H a xs ∧ SqT K H b ys ∧ xs.length + ys.length ≤ sizeLine ∧
  (xs = [] → Q (.ref b) H) ∧ (xs ≠ [] → ys = [] → Q (.ref a) H) ∧ (xs ≠ [] → ys ≠ [] → NewT (xs ++ ys) H Q)
theorem op_catZ : OpR X (binaryOp .Add) (rCatZ X.K) := by
  rintro pins s σ H x y v u Q I rx ry ⟨a, b, xs, ys, rfl, rfl, ha, hb, hz, q0, q1, q2⟩
  cases rx
  cases ry
  obtain ⟨its, r1, p1, _⟩ := I.tuple ha
  obtain ⟨its2, r2, p2, _⟩ := I.tuple hb
  by_cases hx : xs = []
  · subst hx
    cases r1
    exact cat_tup0 p1 p2 ⟨.ref b, H, I, rfl, q0 rfl⟩
  · have hx' : its ≠ [] := fun z => hx (r1.nil_iff.mp z)
    have hsz : its.length + its2.length ≤ sizeLine := by rw [← r1.length, ← r2.length]; exact hz
    refine HT.cat_tup p1 p2 hx' (fun z => ⟨.ref a, H, I, rfl, q1 hx (r2.nil_iff.mp z)⟩) (fun z => ?_) hsz
    exact laidT (tk := s.toks) I (r1.append r2) (by rw [List.length_append]; exact hz) (q2 hx fun w => z (r2.nil_iff.mpr w))
/-- t[lo:hi] -/
def wholeCut (n : Nat) (lo hi : Option Int) : Bool := decide (HT.sIx n 0 lo = 0) && decide (HT.sIx n n hi = n)
def rSlZ (K : PySem.W.Frag) : V → Option Int → Option Int → Hp → VK → Prop := fun x lo hi H Q => ∃ a xs, x = .ref a ∧ SqT K H a xs ∧
  (wholeCut xs.length lo hi = true → Q (.ref a) H) ∧ (wholeCut xs.length lo hi = false → NewT (cutV xs lo hi) H Q)
theorem sl_tupZ : SlR X (rSlZ X.K) := by
  rintro pins s σ H x v vl vu lo hi sl Q I rx hs pl pu ⟨a, xs, rfl, hx, q1, q2⟩
  cases rx
  obtain ⟨its, r, ht, hz⟩ := I.tuple hx
  have hlen : its.toArray.size = xs.length := by rw [List.size_toArray]; exact r.length.symm
  refine ⟨"tuple", _, PyProof.Rows.slot_tuple_getitem.lookup, ht.typeIs, ?_⟩
  cases hw : wholeCut xs.length lo hi with
  | true =>
    have hw' : HT.sIx xs.length 0 lo = 0 ∧ HT.sIx xs.length xs.length hi = xs.length := by
      unfold wholeCut at hw
      rw [Bool.and_eq_true, decide_eq_true_eq, decide_eq_true_eq] at hw
      exact hw
    exact getItem_tuple_whole ht hs pl pu (by rw [hlen]; exact hw') ⟨.ref a, H, I, rfl, q1 hw⟩
  | false =>
    have hw' : ¬ (HT.sIx xs.length 0 lo = 0 ∧ HT.sIx xs.length xs.length hi = xs.length) := fun z => by
      unfold wholeCut at hw
      rw [decide_eq_true z.1, decide_eq_true z.2] at hw
      cases hw
    refine HT.getItem_tuple_cut ht hs pl pu (by rw [hlen]; exact hw') ?_ (by rw [hlen]; exact hz)
    rw [hlen]
    have rr : Vals (cutV xs lo hi) ((its.drop (HT.sIx xs.length 0 lo)).take (HT.sIx xs.length xs.length hi - HT.sIx xs.length 0 lo)) := (r.drop _).take _
    exact laidT (tk := s.toks) I rr (Nat.le_trans (cutV_length xs lo hi) hz) (q2 hw)
end
/-! ### t * k -/
section
theorem tmul_same (l : Addr) (items : Array Value) (n : Nat) (dd : Option Addr) (sl : Array (Option Value)) (x : Int) (u : Tok)
    (c0 : (decide (x < -(2 ^ 63)) || decide (x ≥ 2 ^ 63)) = false) (c1 : (items.isEmpty || x == 1) = true) :
    Meets (Builtin.«tuple.__mul__» ⟨[.ref l, .int x u], []⟩) (fun _ Z s =>
      s.heap.get? l = some { cls := .type "tuple", dict := dd, data := .seq items n, slots := sl } ∧ Z (.ok (.ret (Value.ref l))) s) :=
  .of_wp fun prog w A Z s h => by
    obtain ⟨hp, g, d, tk, os⟩ := s
    obtain ⟨hl, h⟩ := h
    have f1 := AutoSeq1.idx_int
    wp_walk using wpAny_loadPart' hl
    repeat (first
      | (refine wpAny_ite_false (decide_eq_false (by rw [c0]; exact Bool.false_ne_true)) ?_; wp_walk using wpAny_loadPart' hl)
      | (refine wpAny_ite_true (decide_eq_true c1) ?_; wp_walk using wpAny_loadPart' hl))
    exact ⟨_, rfl, h⟩
theorem tmul_none (l : Addr) (items : Array Value) (n : Nat) (dd : Option Addr) (sl : Array (Option Value)) (x : Int) (u : Tok)
    (c0 : (decide (x < -(2 ^ 63)) || decide (x ≥ 2 ^ 63)) = false) (c1 : (items.isEmpty || x == 1) = false) (c2 : (decide (x ≤ 0) || items.isEmpty) = true) :
    Meets (Builtin.«tuple.__mul__» ⟨[.ref l, .int x u], []⟩) (fun _ Z s =>
      s.heap.get? l = some { cls := .type "tuple", dict := dd, data := .seq items n, slots := sl } ∧
        Z (.ok (.ret (Value.ref s.heap.objs.size))) { s with heap := s.heap.push { cls := Value.type "tuple", data := Data.seq #[] }, toks := s.toks }) :=
  .of_wp fun prog w A Z s h => by
    obtain ⟨hp, g, d, tk, os⟩ := s
    obtain ⟨hl, h⟩ := h
    have f1 := AutoSeq1.idx_int
    wp_walk using wpAny_loadPart' hl
    repeat (first
      | (refine wpAny_ite_false (decide_eq_false (by rw [c0]; exact Bool.false_ne_true)) ?_; wp_walk using wpAny_loadPart' hl)
      | (refine wpAny_ite_false (decide_eq_false (by rw [c1]; exact Bool.false_ne_true)) ?_; wp_walk using wpAny_loadPart' hl)
      | (refine wpAny_ite_true (decide_eq_true c2) ?_; wp_walk using wpAny_loadPart' hl))
    exact ⟨_, rfl, h⟩
def rRepZ (K : PySem.W.Frag) : R2 := fun x y H Q => ∃ l k xs, x = .ref l ∧ y = .int k ∧ SqT K H l xs ∧ xs ≠ [] ∧ -1000 ≤ k ∧ k ≤ 1000 ∧ xs.length ≤ 100 ∧
  (k = 1 → Q (.ref l) H) ∧ (k ≤ 0 → NewT [] H Q) ∧ (2 ≤ k → NewT (List.replicate k.toNat xs).flatten H Q)
variable {X : Cx}
theorem op_repZ : OpR X (binaryOp .Mult) (rRepZ X.K) := by
  rintro pins s σ H x y v u Q I rx ry ⟨l, k, xs, rfl, rfl, hT, hne, h1, h2, hz, q1, q0, q2⟩
  cases rx
  obtain ⟨t, rfl⟩ := ry
  obtain ⟨its, r, ⟨⟨cls, dd, data, sl⟩, ho, hc, n, hd⟩, hs⟩ := I.tuple hT
  simp only at hc hd
  subst hc hd
  have hle : its.length = xs.length := r.length.symm
  have hi : its.toArray.isEmpty = false := by
    cases its with
    | nil => exact absurd (List.eq_nil_of_length_eq_zero hle.symm) hne
    | cons a b => rfl
  have c0 : (decide (k < -(2 ^ 63)) || decide (k ≥ 2 ^ 63)) = false := by
    rw [decide_eq_false (by omega), decide_eq_false (by omega)] <;> rfl
  by_cases hk1 : k = 1
  · have c1 : (its.toArray.isEmpty || k == 1) = true := by rw [hk1]; simp
    refine wpAny_binaryOp_repeat_ref (T := "tuple") (U := "int") (by decide) ⟨_, ho, rfl⟩ (fun s' => typeIs_int s' k t) noFill_tuple_mul F.fills_int_mul F.slot_int_rmul repeat_tuple F.slot_int_index.lookup
      (call_meets F.slot_int_rmul (typeIs_int s k t) F.entry_int_rmul (F.args_int_rmul_2 _ _) (int_rmul_tuple k t l its.toArray n dd sl)
        ⟨ho, rfl, ⟨_, ho, rfl⟩, call_meets F.slot_tuple_mul ⟨_, ho, rfl⟩ F.entry_tuple_mul (F.args_tuple_mul_2 _ _) (tmul_same l its.toArray n dd sl k t c0 c1) ⟨ho, ?_⟩⟩)
    exact ⟨.ref l, H, I, rfl, q1 hk1⟩
  · have c1 : (its.toArray.isEmpty || k == 1) = false := by
      rw [hi, Bool.false_or]
      exact beq_eq_false_iff_ne.mpr hk1
    by_cases hk0 : k ≤ 0
    · have c2 : (decide (k ≤ 0) || its.toArray.isEmpty) = true := by rw [decide_eq_true hk0]; rfl
      refine wpAny_binaryOp_repeat_ref (T := "tuple") (U := "int") (by decide) ⟨_, ho, rfl⟩ (fun s' => typeIs_int s' k t) noFill_tuple_mul F.fills_int_mul F.slot_int_rmul repeat_tuple F.slot_int_index.lookup
        (call_meets F.slot_int_rmul (typeIs_int s k t) F.entry_int_rmul (F.args_int_rmul_2 _ _) (int_rmul_tuple k t l its.toArray n dd sl)
          ⟨ho, rfl, ⟨_, ho, rfl⟩, call_meets F.slot_tuple_mul ⟨_, ho, rfl⟩ F.entry_tuple_mul (F.args_tuple_mul_2 _ _) (tmul_none l its.toArray n dd sl k t c0 c1 c2) ⟨ho, ?_⟩⟩)
      exact laidT (us := []) (tk := s.toks) I .nil (by decide) (q0 hk0)
    · have hsz0 : its.toArray.size = xs.length := by rw [List.size_toArray, hle]
      have hm : ((its.toArray.size : Nat) : Int) * k ≤ 100000 := by
        rw [hsz0]
        have a1 : ((xs.length : Nat) : Int) * k ≤ 100 * k := Int.mul_le_mul_of_nonneg_right (by omega) (by omega)
        omega
      have a2 : k.toNat * xs.length ≤ 1000 * 100 := Nat.mul_le_mul (by omega) hz
      have flen : (List.replicate k.toNat its).flatten.length ≤ sizeLine := by
        rw [PyProof.Rows.lm_len_rep_flat, hle, sizeLine_eq]
        omega
      have c2 : (decide (k ≤ 0) || its.toArray.isEmpty) = false := by
        rw [hi, Bool.or_false]
        exact decide_eq_false hk0
      have c4 : Builtin.Tuple.tupleTooMany (((its.toArray.size : Nat) : Int) * k) = false := by
        unfold Builtin.Tuple.tupleTooMany
        rw [sizeLine_eq]
        exact decide_eq_false (by omega)
      refine wpAny_binaryOp_repeat_ref (T := "tuple") (U := "int") (by decide) ⟨_, ho, rfl⟩ (fun s' => typeIs_int s' k t) noFill_tuple_mul F.fills_int_mul F.slot_int_rmul repeat_tuple F.slot_int_index.lookup
        (call_meets F.slot_int_rmul (typeIs_int s k t) F.entry_int_rmul (F.args_int_rmul_2 _ _) (int_rmul_tuple k t l its.toArray n dd sl)
          ⟨ho, rfl, ⟨_, ho, rfl⟩, call_meets F.slot_tuple_mul ⟨_, ho, rfl⟩ F.entry_tuple_mul (F.args_tuple_mul_2 _ _) (tuple_mulW l its.toArray n dd sl k t c0 c1 c2 (by omega) c4 (by rw [size_rep, List.size_toArray]; exact flen)) ⟨ho, ?_⟩⟩)
      rw [size_rep]
      exact laidT (tk := s.toks) I (r.rep k.toNat) (by rw [PyProof.Rows.lm_len_rep_flat, sizeLine_eq]; omega) (q2 (by omega))
end
end Mn
set_option Elab.async false
set_option linter.all false
set_option maxRecDepth 100000
set_option maxHeartbeats 4000000
/-! MnB: what an expression comes to, on plain data. -/
namespace Mn
open PySem PySem.Spec PyProof.Rows L2
/-- what is wanted of an exception, at the data: its class's number, its fields, the boxes; the heap, the boxes' places -/
abbrev ER := Nat → List Dt → Bxs → Hp → List Addr → Prop
def KO (K : PySem.W.Frag) (H : Hp) (ρ : List Addr) (Q : VK) : Dt → Bxs → Prop := fun d S' => ∀ v H' ρ', To H H' ρ ρ' → HR K H' ρ' S' → DV K H' ρ' d v → Q v H'
def KB (K : PySem.W.Frag) (H : Hp) (ρ : List Addr) (Q : Bool → Hp → Prop) : Bool → Bxs → Prop := fun b S' => ∀ H' ρ', To H H' ρ ρ' → HR K H' ρ' S' → Q b H'
def KA (K : PySem.W.Frag) (H : Hp) (ρ : List Addr) (Q : List V → Hp → Prop) : List Dt → Bxs → Prop := fun ds S' => ∀ vs H' ρ', To H H' ρ ρ' → HR K H' ρ' S' → DVs K H' ρ' ds vs → Q vs H'
def KX (Er : ER) (H : Hp) (ρ : List Addr) : Nat → List Dt → Bxs → Prop := fun c ds S' => ∀ H' ρ', To H H' ρ ρ' → Er c ds S' H' ρ'
theorem KX.to {Er : ER} {H H1 : Hp} {ρ ρ1 : List Addr} (t : To H H1 ρ ρ1) {c : Nat} {ds : List Dt} {S : Bxs} (h : KX Er H ρ c ds S) : KX Er H1 ρ1 c ds S := fun H' ρ' t' => h H' ρ' (t.trans t')
abbrev noX : Nat → List Dt → Bxs → Prop := fun _ _ _ => False
abbrev FE := Sg → Bxs → Rs Dt
abbrev FB := Sg → Bxs → Rs Bool
abbrev FA := Sg → Bxs → Rs (List Dt)
structure SE (X : Cx) (Er : ER) (e : Expr) (f : FE) : Prop where
  ex : ∃ te, PE X e te ∧ ∀ τ H ρ σ S Q, Ty X.K H ρ σ S τ → (f σ S).Sat (KO X.K H ρ Q) (KX Er H ρ) → te τ H Q
structure ST (X : Cx) (Er : ER) (e : Expr) (f : FB) : Prop where
  ex : ∃ tt, PT X e tt ∧ ∀ τ H ρ σ S Q, Ty X.K H ρ σ S τ → (f σ S).Sat (KB X.K H ρ Q) (KX Er H ρ) → tt τ H Q
structure SA (X : Cx) (Er : ER) (es : List Expr) (f : FA) : Prop where
  ex : ∃ ta, PA X es ta ∧ ∀ τ H ρ σ S Q, Ty X.K H ρ σ S τ → (f σ S).Sat (KA X.K H ρ Q) (KX Er H ρ) → ta τ H Q
/-- one step of a chain: from the first part's answer to the second's -/
theorem link {α β : Type} {r : Rs α} {k : α → Bxs → Rs β} {P : β → Bxs → Prop} {E : Nat → List Dt → Bxs → Prop} (h : (r.bind k).Sat P E) : r.Sat (fun a s => (k a s).Sat P E) E := Rs.sat_bind.mp h
section
variable {X : Cx} {Er : ER} {K : PySem.W.Frag} {H H1 : Hp} {ρ ρ1 : List Addr} {σ : Sg} {S S1 : Bxs} {τ : L2.St}
theorem Ty.to (t : To H H1 ρ ρ1) (h : Ty K H ρ σ S τ) (hr : HR K H1 ρ1 S1) : Ty K H1 ρ1 σ S1 τ := ⟨hr, h.sl.to t⟩
theorem Rs.Sat.toO {r : Rs Dt} {Q : VK} (t : To H H1 ρ ρ1) (h : r.Sat (KO K H ρ Q) (KX Er H ρ)) : r.Sat (KO K H1 ρ1 Q) (KX Er H1 ρ1) :=
  h.mono (fun _ _ q v H' ρ' t' => q v H' ρ' (t.trans t')) fun _ _ _ q => q.to t
theorem Rs.Sat.toB {r : Rs Bool} {Q : Bool → Hp → Prop} (t : To H H1 ρ ρ1) (h : r.Sat (KB K H ρ Q) (KX Er H ρ)) : r.Sat (KB K H1 ρ1 Q) (KX Er H1 ρ1) :=
  h.mono (fun _ _ q H' ρ' t' => q H' ρ' (t.trans t')) fun _ _ _ q => q.to t
/-! ### names, constants -/
def dVar (i : Nat) : FE := fun σ S => match σ[i]? with
  | some (some d) => .ok d S
  | _ => .no
theorem se_var (i : Nat) {x : Str} {pos : Pos} (hN : X.N[i]? = some x := by rfl) (hv : Vis X.env.scope x := by first | exact Or.inl rfl | exact Or.inr (Or.inl rfl) | exact Or.inr (Or.inr rfl)) (hd : (x == ("__debug__" : Str)) = false := by decide)
    (hcd : (x == ("__classdict__" : Str)) = false := by decide) : SE X Er (.Name x pos) (dVar i) := by
  refine ⟨_, pe_var hN hv hd hcd, fun τ H ρ σ S Q T h => ?_⟩
  unfold dVar at h
  cases e : σ[i]? with
  | none => rw [e] at h; exact h.elim
  | some o =>
    cases o with
    | none => rw [e] at h; exact h.elim
    | some d =>
      rw [e] at h
      obtain ⟨v, h1, h2⟩ := T.sl.at_ i d e
      exact ⟨v, h1, h v H ρ (To.refl _ _) T.hr h2⟩
def dC (d : Dt) : FE := fun _ S => .ok d S
theorem se_int {i j pos} : SE X Er (.Constant (.int i) j pos) (dC (.int i)) := ⟨_, pe_int, fun τ H ρ σ S Q T h => h _ H ρ (To.refl _ _) T.hr (.int i)⟩
theorem se_bl {b j pos} : SE X Er (.Constant (.bool b) j pos) (dC (.bl b)) := ⟨_, pe_bl, fun τ H ρ σ S Q T h => h _ H ρ (To.refl _ _) T.hr (.bl b)⟩
theorem se_non {j pos} : SE X Er (.Constant .none j pos) (dC .non) := ⟨_, pe_non, fun τ H ρ σ S Q T h => h _ H ρ (To.refl _ _) T.hr .non⟩
/-! ### two places -/
abbrev G2 := Dt → Dt → Bxs → Rs Dt
def dBin (g : G2) (a b : FE) : FE := fun σ S => (a σ S).bind fun x S1 => (b σ S1).bind fun y S2 => g x y S2
/-- the operation by values keeps to g -/
def RO (K : PySem.W.Frag) (r : R2) (g : G2) : Prop := ∀ H ρ S x y xv yv Q, HR K H ρ S → DV K H ρ x xv → DV K H ρ y yv → (g x y S).Sat (KO K H ρ Q) noX → r xv yv H Q
/-- nothing is raised by g -/
def Calm2 (g : G2) : Prop := ∀ x y S c ds S', g x y S ≠ .ex c ds S'
theorem sat_calm {α : Type} {r : Rs α} {P : α → Bxs → Prop} {E : Nat → List Dt → Bxs → Prop} (hc : ∀ c ds S', r ≠ .ex c ds S') (h : r.Sat P E) : r.Sat P noX := by
  cases r with
  | ok a s => exact h
  | ex c ds s => exact absurd rfl (hc c ds s)
  | no => exact h
theorem bin_sat {fa fb : FE} {g : G2} {ta tb : TE} {r : R2} (ha : ∀ τ H ρ σ S Q, Ty X.K H ρ σ S τ → (fa σ S).Sat (KO X.K H ρ Q) (KX Er H ρ) → ta τ H Q) (hb : ∀ τ H ρ σ S Q, Ty X.K H ρ σ S τ → (fb σ S).Sat (KO X.K H ρ Q) (KX Er H ρ) → tb τ H Q)
    (hr : RO X.K r g) (hc : Calm2 g) {τ : L2.St} {Q : VK} (T : Ty X.K H ρ σ S τ) (h : (dBin g fa fb σ S).Sat (KO X.K H ρ Q) (KX Er H ρ)) : ta τ H fun x H1 => tb τ H1 fun y H2 => r x y H2 Q := by
  refine ha τ H ρ σ S _ T ((link h).mono (fun x S1 h1 => ?_) fun _ _ _ q => q)
  intro xv H1 ρ1 t1 hr1 dx
  refine hb τ H1 ρ1 σ S1 _ (T.to t1 hr1) ((link h1).mono (fun y S2 h2 => ?_) fun _ _ _ q => q.to t1)
  intro yv H2 ρ2 t2 hr2 dy
  exact hr H2 ρ2 S2 x y xv yv Q hr2 (dx.to t2) dy (sat_calm (hc x y S2) (Rs.Sat.toO (t1.trans t2) h2))
theorem se_bin {a b : Expr} {op : Operator} {pos : Pos} {fa fb : FE} {g : G2} {r : R2} (ho : OpR X (binaryOp op) r) (hr : RO X.K r g) (hc : Calm2 g) (ha : SE X Er a fa) (hb : SE X Er b fb) : SE X Er (.BinOp a op b pos) (dBin g fa fb) := by
  obtain ⟨ta, pa, qa⟩ := ha.ex
  obtain ⟨tb, pb, qb⟩ := hb.ex
  exact ⟨_, pe_op ho pa pb, fun τ H ρ σ S Q T h => bin_sat qa qb hr hc T h⟩
theorem se_cmp {a b : Expr} {op : CmpOp} {pos : Pos} {fa fb : FE} {g : G2} {r : R2} (ho : OpR X (compareOp op) r) (hr : RO X.K r g) (hc : Calm2 g) (ha : SE X Er a fa) (hb : SE X Er b fb) (hm : behindInMarks op b = false := by rfl) : SE X Er (.Compare a [op] [b] pos) (dBin g fa fb) := by
  obtain ⟨ta, pa, qa⟩ := ha.ex
  obtain ⟨tb, pb, qb⟩ := hb.ex
  exact ⟨_, pe_cmpR ho pa pb hm, fun τ H ρ σ S Q T h => bin_sat qa qb hr hc T h⟩
/-- a comparison as a test -/
def dTrue (f : FE) : FB := fun σ S => (f σ S).bind fun d S1 => match d with
  | .bl b => .ok b S1
  | _ => .no
theorem true_sat {f : FE} {Q : Bool → Hp → Prop} (h : (dTrue f σ S).Sat (KB K H ρ Q) (KX Er H ρ)) : (f σ S).Sat (KO K H ρ fun x H1 => ∃ c, x = V.bl c ∧ Q c H1) (KX Er H ρ) :=
  (link h).mono (fun d S1 h1 => by
    intro v H' ρ' t hr dv
    cases dv with
    | bl b => exact ⟨b, rfl, h1 H' ρ' t hr⟩
    | _ => exact h1.elim) fun _ _ _ q => q
theorem st_cmp {a b : Expr} {op : CmpOp} {pos : Pos} {fa fb : FE} {g : G2} {r : R2} (ho : OpR X (compareOp op) r) (hr : RO X.K r g) (hc : Calm2 g) (ha : SE X Er a fa) (hb : SE X Er b fb) (hm : behindInMarks op b = false := by rfl) : ST X Er (.Compare a [op] [b] pos) (dTrue (dBin g fa fb)) := by
  obtain ⟨ta, pa, qa⟩ := ha.ex
  obtain ⟨tb, pb, qb⟩ := hb.ex
  exact ⟨_, pt_cmpR ho pa pb hm, fun τ H ρ σ S Q T h => bin_sat qa qb hr hc T (true_sat h)⟩
/-- an expression that gives True or False, as a test -/
theorem st_val {e : Expr} {f : FE} (h : SE X Er e f) (he : ∀ whole, isTrue e X.env whole = (do let v ← whole; standAt e.pos; holding [v] (truthy v)) := by intro _; rfl) : ST X Er e (dTrue f) := by
  obtain ⟨te, p, q⟩ := h.ex
  exact ⟨_, pt_val p he, fun τ H ρ σ S Q T h => q τ H ρ σ S _ T (true_sat h)⟩
/-- is None, is not None -/
def Dt.isN : Dt → Bool
  | .non => true
  | _ => false
def dIsN (a : FE) : FE := fun σ S => (a σ S).bind fun d S1 => .ok (.bl d.isN) S1
def dNotN (a : FE) : FE := fun σ S => (a σ S).bind fun d S1 => .ok (.bl (!d.isN)) S1
theorem non_iff {d : Dt} {v : V} (h : DV K H ρ d v) : decide (v = .non) = d.isN := by
  cases h <;> first | rfl | exact decide_eq_false (fun z => nomatch z)
/-! ### and, or, not, if else -/
def dAnd (a b : FB) : FB := fun σ S => (a σ S).bind fun c S1 => if c = true then b σ S1 else .ok false S1
def dOr (a b : FB) : FB := fun σ S => (a σ S).bind fun c S1 => if c = true then .ok true S1 else b σ S1
def dNot (a : FB) : FB := fun σ S => (a σ S).bind fun c S1 => .ok (!c) S1
structure SW (X : Cx) (Er : ER) (e : Expr) (f : FB) : Prop where
  ex : ∃ tt, PW X e tt ∧ ∀ τ H ρ σ S Q, Ty X.K H ρ σ S τ → (f σ S).Sat (KB X.K H ρ Q) (KX Er H ρ) → tt τ H Q
theorem SW.st {e : Expr} {f : FB} (h : SW X Er e f) : ST X Er e f := let ⟨t, p, q⟩ := h.ex; ⟨t, p.pt, q⟩
theorem sw_and1 {a : Expr} {fa : FB} {pos : Pos} (h : ST X Er a fa) : SW X Er (.BoolOp .And [a] pos) fa := let ⟨_, p, q⟩ := h.ex; ⟨_, pw_and1 p, q⟩
theorem sw_or1 {a : Expr} {fa : FB} {pos : Pos} (h : ST X Er a fa) : SW X Er (.BoolOp .Or [a] pos) fa := let ⟨_, p, q⟩ := h.ex; ⟨_, pw_or1 p, q⟩
theorem sw_and {a b : Expr} {rest : List Expr} {fa fb : FB} {pos : Pos} (ha : ST X Er a fa) (hb : SW X Er (.BoolOp .And (b :: rest) pos) fb) : SW X Er (.BoolOp .And (a :: b :: rest) pos) (dAnd fa fb) := by
  obtain ⟨ta, pa, qa⟩ := ha.ex
  obtain ⟨tb, pb, qb⟩ := hb.ex
  refine ⟨_, pw_and pa pb, fun τ H ρ σ S Q T h => qa τ H ρ σ S _ T ((link h).mono (fun c S1 h1 => ?_) fun _ _ _ q => q)⟩
  intro H' ρ' t hr
  cases c with
  | true =>
    rw [if_pos rfl] at h1 ⊢
    exact qb τ H' ρ' σ S1 Q (T.to t hr) (Rs.Sat.toB t h1)
  | false =>
    rw [if_neg Bool.false_ne_true] at h1 ⊢
    exact h1 H' ρ' t hr
theorem sw_or {a b : Expr} {rest : List Expr} {fa fb : FB} {pos : Pos} (ha : ST X Er a fa) (hb : SW X Er (.BoolOp .Or (b :: rest) pos) fb) : SW X Er (.BoolOp .Or (a :: b :: rest) pos) (dOr fa fb) := by
  obtain ⟨ta, pa, qa⟩ := ha.ex
  obtain ⟨tb, pb, qb⟩ := hb.ex
  refine ⟨_, pw_or pa pb, fun τ H ρ σ S Q T h => qa τ H ρ σ S _ T ((link h).mono (fun c S1 h1 => ?_) fun _ _ _ q => q)⟩
  intro H' ρ' t hr
  cases c with
  | false =>
    rw [if_neg Bool.false_ne_true] at h1 ⊢
    exact qb τ H' ρ' σ S1 Q (T.to t hr) (Rs.Sat.toB t h1)
  | true =>
    rw [if_pos rfl] at h1 ⊢
    exact h1 H' ρ' t hr
theorem st_not {a : Expr} {fa : FB} {pos : Pos} (ha : ST X Er a fa) : ST X Er (.UnaryOp .Not a pos) (dNot fa) := by
  obtain ⟨ta, pa, qa⟩ := ha.ex
  refine ⟨_, pt_not pa, fun τ H ρ σ S Q T h => qa τ H ρ σ S _ T ((link h).mono (fun c S1 h1 => ?_) fun _ _ _ q => q)⟩
  intro H' ρ' t hr
  exact h1 H' ρ' t hr
def dAndV (a b : FE) : FE := fun σ S => (a σ S).bind fun d S1 => match d with
  | .bl true => b σ S1
  | .bl false => .ok (.bl false) S1
  | _ => .no
def dNotV (a : FE) : FE := fun σ S => (a σ S).bind fun d S1 => match d with
  | .bl b => .ok (.bl (!b)) S1
  | _ => .no
theorem se_one {op} {a : Expr} {fa : FE} {pos : Pos} (h : SE X Er a fa) : SE X Er (.BoolOp op [a] pos) fa := let ⟨_, p, q⟩ := h.ex; ⟨_, pe_one p, q⟩
theorem se_and {a b : Expr} {rest : List Expr} {fa fb : FE} {pos : Pos} (ha : SE X Er a fa) (hb : SE X Er (.BoolOp .And (b :: rest) pos) fb) : SE X Er (.BoolOp .And (a :: b :: rest) pos) (dAndV fa fb) := by
  obtain ⟨ta, pa, qa⟩ := ha.ex
  obtain ⟨tb, pb, qb⟩ := hb.ex
  refine ⟨_, pe_and pa pb, fun τ H ρ σ S Q T h => qa τ H ρ σ S _ T ((link h).mono (fun d S1 h1 => ?_) fun _ _ _ q => q)⟩
  intro v H' ρ' t hr dv
  cases dv with
  | bl b =>
    refine ⟨b, rfl, ?_⟩
    cases b with
    | true =>
      rw [if_pos rfl]
      exact qb τ H' ρ' σ S1 Q (T.to t hr) (Rs.Sat.toO t h1)
    | false =>
      rw [if_neg Bool.false_ne_true]
      exact h1 _ H' ρ' t hr (.bl _)
  | _ => exact h1.elim
theorem se_not {a : Expr} {fa : FE} {pos : Pos} (ha : SE X Er a fa) : SE X Er (.UnaryOp .Not a pos) (dNotV fa) := by
  obtain ⟨ta, pa, qa⟩ := ha.ex
  refine ⟨_, pe_not pa, fun τ H ρ σ S Q T h => qa τ H ρ σ S _ T ((link h).mono (fun d S1 h1 => ?_) fun _ _ _ q => q)⟩
  intro v H' ρ' t hr dv
  cases dv with
  | bl b => exact ⟨b, rfl, h1 _ H' ρ' t hr (.bl _)⟩
  | _ => exact h1.elim
def dIf (c : FB) (a b : FE) : FE := fun σ S => (c σ S).bind fun k S1 => if k = true then a σ S1 else b σ S1
theorem se_if {c a b : Expr} {fc : FB} {fa fb : FE} {pos : Pos} (hc : ST X Er c fc) (ha : SE X Er a fa) (hb : SE X Er b fb) : SE X Er (.IfExp c a b pos) (dIf fc fa fb) := by
  obtain ⟨tc, pc, qc⟩ := hc.ex
  obtain ⟨ta, pa, qa⟩ := ha.ex
  obtain ⟨tb, pb, qb⟩ := hb.ex
  refine ⟨_, pe_ifExp pc pa pb, fun τ H ρ σ S Q T h => qc τ H ρ σ S _ T ((link h).mono (fun k S1 h1 => ?_) fun _ _ _ q => q)⟩
  intro H' ρ' t hr
  cases k with
  | true =>
    rw [if_pos rfl] at h1 ⊢
    exact qa τ H' ρ' σ S1 Q (T.to t hr) (Rs.Sat.toO t h1)
  | false =>
    rw [if_neg Bool.false_ne_true] at h1 ⊢
    exact qb τ H' ρ' σ S1 Q (T.to t hr) (Rs.Sat.toO t h1)
/-! ### argument lists, displays -/
def aNil : FA := fun _ S => .ok [] S
def aCons (a : FE) (r : FA) : FA := fun σ S => (a σ S).bind fun d S1 => (r σ S1).bind fun ds S2 => .ok (d :: ds) S2
theorem sa_nil : SA X Er [] aNil := ⟨_, pa_nil, fun τ H ρ σ S Q T h => h [] H ρ (To.refl _ _) T.hr .nil⟩
theorem sa_cons {e : Expr} {es : List Expr} {f : FE} {g : FA} (ha : SE X Er e f) (hr : SA X Er es g) (hs : starEach (e :: es) X.env = (false, eval e X.env) :: starEach es X.env := by rfl) : SA X Er (e :: es) (aCons f g) := by
  obtain ⟨ta, pa, qa⟩ := ha.ex
  obtain ⟨tr, pr, qr⟩ := hr.ex
  refine ⟨_, pa_cons pa pr hs, fun τ H ρ σ S Q T h => qa τ H ρ σ S _ T ((link h).mono (fun d S1 h1 => ?_) fun _ _ _ q => q)⟩
  intro v H1 ρ1 t1 hr1 dv
  refine qr τ H1 ρ1 σ S1 _ (T.to t1 hr1) ((link h1).mono (fun ds S2 h2 => ?_) fun _ _ _ q => q.to t1)
  intro vs H2 ρ2 t2 hr2 dvs
  exact h2 (v :: vs) H2 ρ2 (t1.trans t2) hr2 (.cons (dv.to t2) dvs)
/-- lists of this length may stand anywhere -/
def LIM : Nat := 100000
theorem lim_le {n : Nat} (h : n ≤ LIM) : n ≤ sizeLine := Nat.le_trans h (by decide)
theorem lim_lt {n : Nat} (h : n < LIM) : n < sizeLine := Nat.lt_of_lt_of_le h (by decide)
def dTup (a : FA) : FE := fun σ S => (a σ S).bind fun ds S1 => if ds.length ≤ LIM then .ok (.tup ds) S1 else .no
/-- a new list -/
def newL (ds : List Dt) (S : Bxs) : Rs Dt := if ds.length ≤ LIM then .ok (.box S.length) (S ++ [.lst ds]) else .no
def dLst (a : FA) : FE := fun σ S => (a σ S).bind newL
theorem new_tup {Q : VK} {ds : List Dt} {vs : List V} (hr : HR K H ρ S) (dvs : DVs K H ρ ds vs) (h : KO K H ρ Q (.tup ds) S) : NewT vs H Q := fun p o hp po =>
  h _ _ ρ ⟨Ext.new hp, List.prefix_refl _⟩ (hr.tup hp) (.tup (.inl ⟨o, upd_same, po⟩) (dvs.mono (Ext.new hp) (List.prefix_refl _)))
theorem new_lst {Q : VK} {ds : List Dt} {vs : List V} {p : Addr} (hr : HR K H ρ S) (dvs : DVs K H ρ ds vs) (hp : H p = none) (h : KO K H ρ Q (.box S.length) (S ++ [.lst ds])) : Q (.ref p) (upd H p (.lst vs)) := by
  refine h _ _ (ρ ++ [p]) ⟨Ext.new hp, List.prefix_append _ _⟩ (hr.new hp dvs) (.box ?_)
  rw [← hr.len, List.getElem?_append_right (Nat.le_refl _), Nat.sub_self]; rfl
theorem se_tup {es : List Expr} {x1} {f : FA} {pos : Pos} (h : SA X Er es f) : SE X Er (.Tuple es x1 pos) (dTup f) := by
  obtain ⟨ta, pa, qa⟩ := h.ex
  refine ⟨_, pe_tupZ pa, fun τ H ρ σ S Q T h => qa τ H ρ σ S _ T ((link h).mono (fun ds S1 h1 => ?_) fun _ _ _ q => q)⟩
  intro vs H1 ρ1 t1 hr1 dvs
  by_cases hl : ds.length ≤ LIM
  · rw [if_pos hl] at h1
    refine ⟨by rw [← dvs.length]; exact lim_le hl, new_tup hr1 dvs ?_⟩
    exact fun v H' ρ' t' => h1 v H' ρ' (t1.trans t')
  · rw [if_neg hl] at h1
    exact h1.elim
theorem se_lst {es : List Expr} {f : FA} {pos : Pos} (h : SA X Er es f) : SE X Er (.List es pos) (dLst f) := by
  obtain ⟨ta, pa, qa⟩ := h.ex
  refine ⟨_, pe_lst pa, fun τ H ρ σ S Q T h => qa τ H ρ σ S _ T ((link h).mono (fun ds S1 h1 => ?_) fun _ _ _ q => q)⟩
  intro vs H1 ρ1 t1 hr1 dvs
  unfold newL at h1
  by_cases hl : ds.length ≤ LIM
  · rw [if_pos hl] at h1
    refine ⟨by rw [← dvs.length]; exact lim_le hl, fun p hp => new_lst hr1 dvs hp ?_⟩
    exact fun v H' ρ' t' => h1 v H' ρ' (t1.trans t')
  · rw [if_neg hl] at h1
    exact h1.elim
end
end Mn
set_option Elab.async false
set_option linter.all false
set_option maxRecDepth 100000
set_option maxHeartbeats 4000000
/-! MnC: the operations on plain data. -/
namespace Mn
open PySem PySem.Spec PyProof.Rows L2
section
variable {X : Cx} {Er : ER} {K : PySem.W.Frag} {H H1 : Hp} {ρ ρ1 : List Addr} {σ : Sg} {S S1 : Bxs} {τ : L2.St}
/-! ### what a box holds -/
def Bxs.lst (S : Bxs) (n : Nat) : Option (List Dt) := match S[n]? with
  | some (.lst xs) => some xs
  | _ => none
/-- .. to be read -/
def Bxs.seq (S : Bxs) (n : Nat) : Option (List Dt) := match S[n]? with
  | some (.lst xs) => some xs
  | some (.ro xs) => some xs
  | _ => none
theorem lst_get {n : Nat} {xs : List Dt} (h : S.lst n = some xs) : S[n]? = some (MBox.lst xs) := by
  unfold Bxs.lst at h
  cases e : S[n]? with
  | none => rw [e] at h; cases h
  | some b =>
    rw [e] at h
    cases b <;> cases h
    rfl
theorem HR.rd {n : Nat} {a : Addr} {xs : List Dt} (hr : HR K H ρ S) (ha : ρ[n]? = some a) (h : S.seq n = some xs) : ∃ vs, SqL K H a vs ∧ DVs K H ρ xs vs := by
  unfold Bxs.seq at h
  cases e : S[n]? with
  | none => rw [e] at h; cases h
  | some b =>
    rw [e] at h
    cases b with
    | lst ys =>
      cases h
      obtain ⟨a', vs, h1, h2, h3⟩ := hr.lst n _ e
      rw [ha] at h1; cases h1
      exact ⟨vs, SqL.of h2, h3⟩
    | ro ys =>
      cases h
      obtain ⟨a', vs, h1, h2, h3⟩ := hr.ro n _ e
      rw [ha] at h1; cases h1
      exact ⟨vs, h2.sql, h3⟩
    | dk _ => cases h
    | dkr _ => cases h
    | dt _ => cases h
    | obj _ _ => cases h
    | tab _ => cases h
    | fnc _ => cases h
    | nd => cases h
    | exn => cases h
theorem HR.mu {n : Nat} {a : Addr} {xs : List Dt} (hr : HR K H ρ S) (ha : ρ[n]? = some a) (h : S.lst n = some xs) : ∃ vs, H a = some (.lst vs) ∧ DVs K H ρ xs vs := by
  obtain ⟨a', vs, h1, h2, h3⟩ := hr.lst n _ (lst_get h)
  rw [ha] at h1; cases h1
  exact ⟨vs, h2, h3⟩
theorem newL_ok {ds : List Dt} {P : Dt → Bxs → Prop} {E : Nat → List Dt → Bxs → Prop} (h : (newL ds S).Sat P E) : ds.length ≤ LIM ∧ P (.box S.length) (S ++ [.lst ds]) := by
  unfold newL at h
  by_cases hl : ds.length ≤ LIM
  · rw [if_pos hl] at h; exact ⟨hl, h⟩
  · rw [if_neg hl] at h; exact h.elim
theorem newL_calm (ds : List Dt) (S : Bxs) (c : Nat) (es : List Dt) (S' : Bxs) : newL ds S ≠ .ex c es S' := by
  unfold newL
  split <;> (intro z; cases z)
/-! ### numbers -/
def mulOk (i j : Int) : Prop := CMul i j ∨ CMulW i j
instance (i j : Int) : Decidable (mulOk i j) := by unfold mulOk CMul CMulW; infer_instance
theorem mulOk.small {i j : Int} (h1 : -(2 ^ 64) < i) (h2 : i < 2 ^ 64) : mulOk i j := .inl (.inl ⟨h1, h2⟩)
theorem mulOk.small2 {i j : Int} (h1 : -(2 ^ 64) < j) (h2 : j < 2 ^ 64) : mulOk i j := .inl (.inr ⟨h1, h2⟩)
def divOk (j : Int) : Prop := 0 < j ∧ j.natAbs.log2 < 9000
instance (j : Int) : Decidable (divOk j) := by unfold divOk; infer_instance
def powOk (i j : Int) : Prop := CPow i j
instance (i j : Int) : Decidable (powOk i j) := by unfold powOk CPow; infer_instance
def strLim : Nat := 1000000
def addG : G2 := fun x y S => match x, y with
  | .int i, .int j => .ok (.int (i + j)) S
  | .str a, .str b => if a.length + b.length ≤ strLim then .ok (.str (a ++ b)) S else .no
  | .box m, .box n => match S.lst m, S.lst n with
    | some xs, some ys => newL (xs ++ ys) S
    | _, _ => .no
  | .tup xs, .tup ys => if xs.length + ys.length ≤ LIM then .ok (.tup (xs ++ ys)) S else .no
  | _, _ => .no
def subG : G2 := fun x y S => match x, y with
  | .int i, .int j => .ok (.int (i - j)) S
  | _, _ => .no
def mulG : G2 := fun x y S => match x, y with
  | .int i, .int j => if mulOk i j then .ok (.int (i * j)) S else .no
  | .box n, .int k => match S.lst n with
    | some xs => if -1000 ≤ k ∧ k ≤ 1000 ∧ xs.length ≤ 100 then newL (List.replicate k.toNat xs).flatten S else .no
    | none => .no
  | .tup xs, .int k => if xs ≠ [] ∧ -1000 ≤ k ∧ k ≤ 1000 ∧ xs.length ≤ 100 then .ok (.tup (List.replicate k.toNat xs).flatten) S else .no
  | _, _ => .no
def fdivG : G2 := fun x y S => match x, y with
  | .int i, .int j => if divOk j then .ok (.int (i / j)) S else .no
  | _, _ => .no
def modG : G2 := fun x y S => match x, y with
  | .int i, .int j => if 0 < j then .ok (.int (i % j)) S else .no
  | _, _ => .no
def powG : G2 := fun x y S => match x, y with
  | .int i, .int j => if powOk i j then .ok (.int (i ^ j.toNat)) S else .no
  | _, _ => .no
def cmpG (p : Int → Int → Bool) : G2 := fun x y S => match x, y with
  | .int i, .int j => .ok (.bl (p i j)) S
  | _, _ => .no
abbrev ltG := cmpG fun i j => decide (i < j)
abbrev gtG := cmpG fun i j => decide (j < i)
abbrev geG := cmpG fun i j => decide (j ≤ i)
theorem calm_ite {α : Type} {c : Prop} [Decidable c] {r : Rs α} (h : ∀ k ds S', r ≠ .ex k ds S') : ∀ k ds S', (if c then r else .no) ≠ .ex k ds S' := fun k ds S' => by
  split
  · exact h k ds S'
  · intro z; cases z
theorem calm_ok {α : Type} (a : α) (S : Bxs) : ∀ k ds S', (Rs.ok a S) ≠ .ex k ds S' := fun _ _ _ z => nomatch z
theorem calm_no {α : Type} : ∀ k ds S', (Rs.no : Rs α) ≠ .ex k ds S' := fun _ _ _ z => nomatch z
theorem cmpG_calm (p) : Calm2 (cmpG p) := by
  intro x y S
  unfold cmpG
  split <;> first | exact calm_ok _ _ | exact calm_no
theorem subG_calm : Calm2 subG := by
  intro x y S
  unfold subG
  split <;> first | exact calm_ok _ _ | exact calm_no
theorem fdivG_calm : Calm2 fdivG := by
  intro x y S
  unfold fdivG
  split <;> first | exact calm_ite (calm_ok _ _) | exact calm_no
theorem modG_calm : Calm2 modG := by
  intro x y S
  unfold modG
  split <;> first | exact calm_ite (calm_ok _ _) | exact calm_no
theorem powG_calm : Calm2 powG := by
  intro x y S
  unfold powG
  split <;> first | exact calm_ite (calm_ok _ _) | exact calm_no
theorem mulG_calm : Calm2 mulG := by
  intro x y S
  unfold mulG
  split
  · exact calm_ite (calm_ok _ _)
  · split
    · exact calm_ite (newL_calm _ _)
    · exact calm_no
  · exact calm_ite (calm_ok _ _)
  · exact calm_no
theorem addG_calm : Calm2 addG := by
  intro x y S
  unfold addG
  split
  · exact calm_ok _ _
  · exact calm_ite (calm_ok _ _)
  · split
    · exact newL_calm _ _
    · exact calm_no
  · exact calm_ite (calm_ok _ _)
  · exact calm_no
theorem ko_here {Q : VK} {d : Dt} {v : V} (hr : HR K H ρ S) (h : KO K H ρ Q d S) (dv : DV K H ρ d v) : Q v H := h v H ρ (To.refl _ _) hr dv
theorem ite_sat {α : Type} {c : Prop} [Decidable c] {r : Rs α} {P : α → Bxs → Prop} {E : Nat → List Dt → Bxs → Prop} (h : (if c then r else .no).Sat P E) : c ∧ r.Sat P E := by
  by_cases hc : c
  · rw [if_pos hc] at h; exact ⟨hc, h⟩
  · rw [if_neg hc] at h; exact h.elim
theorem ro_cmp {p : Int → Int → Bool} : RO K (rI0 fun i j => .bl (p i j)) (cmpG p) := by
  intro H ρ S x y xv yv Q hr dx dy h
  cases dx <;> first | exact h.elim | skip
  cases dy <;> first | exact h.elim | skip
  exact ⟨_, _, rfl, rfl, ko_here hr h (.bl _)⟩
theorem ro_sub : RO K (rI0 fun i j => .int (i - j)) subG := by
  intro H ρ S x y xv yv Q hr dx dy h
  cases dx <;> first | exact h.elim | skip
  cases dy <;> first | exact h.elim | skip
  exact ⟨_, _, rfl, rfl, ko_here hr h (.int _)⟩
theorem ro_fdiv : RO K (rI CDivW fun i j => .int (i / j)) fdivG := by
  intro H ρ S x y xv yv Q hr dx dy h
  cases dx <;> first | exact h.elim | skip
  cases dy <;> first | exact h.elim | skip
  obtain ⟨c, h⟩ := ite_sat h
  exact ⟨_, _, rfl, rfl, c, ko_here hr h (.int _)⟩
theorem ro_mod : RO K (rI (fun _ j => 0 < j) fun i j => .int (i % j)) modG := by
  intro H ρ S x y xv yv Q hr dx dy h
  cases dx <;> first | exact h.elim | skip
  cases dy <;> first | exact h.elim | skip
  obtain ⟨c, h⟩ := ite_sat h
  exact ⟨_, _, rfl, rfl, c, ko_here hr h (.int _)⟩
theorem ro_pow : RO K (rI CPow fun i j => .int (i ^ j.toNat)) powG := by
  intro H ρ S x y xv yv Q hr dx dy h
  cases dx <;> first | exact h.elim | skip
  cases dy <;> first | exact h.elim | skip
  obtain ⟨c, h⟩ := ite_sat h
  exact ⟨_, _, rfl, rfl, c, ko_here hr h (.int _)⟩
def rMulA (K : PySem.W.Frag) : R2 := fun x y H Q => rI CMul (fun i j => .int (i * j)) x y H Q ∨ (rI CMulW (fun i j => .int (i * j)) x y H Q ∨ (rRep x y H Q ∨ rRepZ K x y H Q))
theorem op_mulA : OpR X (binaryOp .Mult) (rMulA X.K) := op_mul.or (op_mulW.or (op_rep.or op_repZ))
theorem DVs.flat {ds : List Dt} {vs : List V} (h : DVs K H ρ ds vs) : ∀ n : Nat, DVs K H ρ (List.replicate n ds).flatten (List.replicate n vs).flatten
  | 0 => .nil
  | n + 1 => by
    rw [List.replicate_succ, List.replicate_succ, List.flatten_cons, List.flatten_cons]
    exact h.app (DVs.flat h n)
theorem ro_mul : RO K (rMulA K) mulG := by
  intro H ρ S x y xv yv Q hr dx dy h
  cases dx <;> first | exact h.elim | skip
  · cases dy <;> first | exact h.elim | skip
    obtain ⟨c, h⟩ := ite_sat h
    have q := ko_here hr h (.int _)
    rcases c with c | c
    · exact .inl ⟨_, _, rfl, rfl, c, q⟩
    · exact .inr (.inl ⟨_, _, rfl, rfl, c, q⟩)
  · rename_i a ds vs ht hd
    cases dy <;> first | exact h.elim | skip
    rename_i k
    obtain ⟨⟨c0, c1, c2, c3⟩, h⟩ := ite_sat h
    have hl := hd.length
    refine .inr (.inr (.inr ⟨a, k, vs, rfl, rfl, ht.sqt, fun z => c0 (List.eq_nil_of_length_eq_zero (by rw [hl, z]; rfl)), c1, c2, by rw [← hl]; exact c3, fun hk => ?_, fun hk => ?_, fun hk => ?_⟩))
    · have e : (List.replicate k.toNat ds).flatten = ds := by rw [hk]; simp
      rw [e] at h
      exact ko_here hr h (.tup ht hd)
    · have e : (List.replicate k.toNat ds).flatten = [] := by rw [show k.toNat = 0 by omega]; rfl
      rw [e] at h
      exact new_tup hr .nil h
    · exact new_tup hr (hd.flat k.toNat) h
  · rename_i n a ha
    cases dy <;> first | exact h.elim | skip
    rename_i k
    unfold mulG at h
    simp only at h
    cases e : S.lst n with
    | none => rw [e] at h; exact h.elim
    | some xs =>
      rw [e] at h
      obtain ⟨⟨c1, c2, c3⟩, h⟩ := ite_sat h
      obtain ⟨hl, h⟩ := newL_ok h
      obtain ⟨vs, h1, h2⟩ := hr.mu ha e
      have hv := (h2.flat k.toNat).length
      have hz : vs.length * k.toNat ≤ sizeLine := by
        have := h2.length
        have a2 : vs.length * k.toNat ≤ 100 * 1000 := Nat.mul_le_mul (by omega) (by omega)
        exact Nat.le_trans a2 (by decide)
      exact .inr (.inr (.inl ⟨a, k, vs, rfl, rfl, h1, by omega, by omega, hz, fun p hp => new_lst hr (h2.flat k.toNat) hp h⟩))
def rAddA (K : PySem.W.Frag) : R2 := fun x y H Q => rI0 (fun i j => .int (i + j)) x y H Q ∨
  ((∃ i j, x = .str i ∧ y = .str j ∧ i.length + j.length ≤ sizeLine ∧ Q (.str (i ++ j)) H) ∨ (rCat x y H Q ∨ rCatZ K x y H Q))
theorem op_addA : OpR X (binaryOp .Add) (rAddA X.K) := op_add.or (op_add_str.or (op_cat.or op_catZ))
theorem ro_add : RO K (rAddA K) addG := by
  intro H ρ S x y xv yv Q hr dx dy h
  cases dx <;> first | exact h.elim | skip
  · cases dy <;> first | exact h.elim | skip
    exact .inl ⟨_, _, rfl, rfl, ko_here hr h (.int _)⟩
  · cases dy <;> first | exact h.elim | skip
    obtain ⟨c, h⟩ := ite_sat h
    exact .inr (.inl ⟨_, _, rfl, rfl, Nat.le_trans c (by decide), ko_here hr h (.str _)⟩)
  · rename_i a ds vs ht hd
    cases dy <;> first | exact h.elim | skip
    rename_i b es ws ht2 hd2
    obtain ⟨c, h⟩ := ite_sat h
    have hl := hd.length
    have hl2 := hd2.length
    refine .inr (.inr (.inr ⟨a, b, vs, ws, rfl, rfl, ht.sqt, ht2.sqt, by rw [← hl, ← hl2]; exact lim_le c, fun z => ?_, fun _ z => ?_, fun _ _ => new_tup hr (hd.app hd2) h⟩))
    · subst z
      cases hd
      exact ko_here hr h (.tup ht2 hd2)
    · subst z
      cases hd2
      rw [List.append_nil] at h
      exact ko_here hr h (.tup ht hd)
  · rename_i m a ha
    cases dy <;> first | exact h.elim | skip
    rename_i n b hb
    unfold addG at h
    simp only at h
    cases e : S.lst m with
    | none => rw [e] at h; exact h.elim
    | some xs =>
      cases e2 : S.lst n with
      | none => rw [e, e2] at h; exact h.elim
      | some ys =>
        rw [e, e2] at h
        obtain ⟨hl, h⟩ := newL_ok h
        obtain ⟨vs, h1, h2⟩ := hr.mu ha e
        obtain ⟨ws, h3, h4⟩ := hr.mu hb e2
        rw [List.length_append] at hl
        have := h2.length
        have := h4.length
        exact .inr (.inr (.inl ⟨a, b, vs, ws, rfl, rfl, h1, h3, lim_le (by omega), fun p hp => new_lst hr (h2.app h4) hp h⟩))
/-! ### one place -/
def dNeg (a : FE) : FE := fun σ S => (a σ S).bind fun d S1 => match d with
  | .int i => .ok (.int (-i)) S1
  | _ => .no
theorem se_neg {a : Expr} {fa : FE} {pos : Pos} (ha : SE X Er a fa) : SE X Er (.UnaryOp .USub a pos) (dNeg fa) := by
  obtain ⟨ta, pa, qa⟩ := ha.ex
  refine ⟨_, pe_un un_neg pa, fun τ H ρ σ S Q T h => qa τ H ρ σ S _ T ((link h).mono (fun d S1 h1 => ?_) fun _ _ _ q => q)⟩
  intro v H' ρ' t hr dv
  cases dv <;> first | exact h1.elim | skip
  exact ⟨_, rfl, h1 _ H' ρ' t hr (.int _)⟩
/-! ### x in xs -/
def Dt.flat : Dt → Bool
  | .tup _ => false
  | .box _ => false
  | _ => true
/-! ### dicts by ints and texts -/
def keyOf : Dt → Option Key
  | .int i => some (.inl i)
  | .str x => some (.inr x)
  | _ => none
def valD (kvs : List (Key × Dt)) (k : Key) : Option Dt := (kvs.find? fun kv => decide (kv.1 = k)).map (·.2)
def putD (kvs : List (Key × Dt)) (k : Key) (d : Dt) : List (Key × Dt) :=
  if (kvs.any fun kv => decide (kv.1 = k)) = true then kvs.map fun kv => if kv.1 = k then (kv.1, d) else kv else kvs ++ [(k, d)]
def Bxs.dk (S : Bxs) (n : Nat) : Option (List (Key × Dt)) := match S[n]? with
  | some (.dk kvs) => some kvs
  | _ => none
/-- the dict that a value is -/
def Bxs.dkR (S : Bxs) (n : Nat) : Option (List (Key × Dt)) := match S[n]? with
  | some (.dk kvs) => some kvs
  | some (.dkr kvs) => some kvs
  | _ => none
def dkW (S : Bxs) : Dt → Option (List (Key × Dt))
  | .box n => S.dk n
  | _ => none
def dkO (S : Bxs) : Dt → Option (List (Key × Dt))
  | .box n => S.dkR n
  | _ => none
theorem dk_get {n : Nat} {kvs : List (Key × Dt)} (h : S.dk n = some kvs) : S[n]? = some (MBox.dk kvs) := by
  unfold Bxs.dk at h
  cases e : S[n]? with
  | none => rw [e] at h; cases h
  | some b =>
    rw [e] at h
    cases b <;> cases h
    rfl
theorem dkW_some {d : Dt} {v : V} {kvs : List (Key × Dt)} (hr : HR K H ρ S) (dv : DV K H ρ d v) (h : dkW S d = some kvs) : ∃ n a ws, d = .box n ∧ v = .ref a ∧ ρ[n]? = some a ∧ S[n]? = some (MBox.dk kvs) ∧ H a = some (.dK ws) ∧ DPs K H ρ kvs ws := by
  cases dv <;> first | (cases h; done) | skip
  rename_i n a ha
  have e := dk_get h
  obtain ⟨a', ws, h1, h2, h3⟩ := hr.dk n _ e
  rw [ha] at h1; cases h1
  exact ⟨n, a, ws, rfl, rfl, ha, e, h2, h3⟩
theorem dkR_get {n : Nat} {kvs : List (Key × Dt)} (h : S.dkR n = some kvs) : S[n]? = some (MBox.dk kvs) ∨ S[n]? = some (MBox.dkr kvs) := by
  unfold Bxs.dkR at h
  cases e : S[n]? with
  | none => rw [e] at h; cases h
  | some b =>
    rw [e] at h
    cases b <;> cases h
    · exact .inl rfl
    · exact .inr rfl
theorem dkO_some {d : Dt} {v : V} {kvs : List (Key × Dt)} (hr : HR K H ρ S) (dv : DV K H ρ d v) (h : dkO S d = some kvs) : ∃ n a ws, d = .box n ∧ v = .ref a ∧ ρ[n]? = some a ∧ Rd H a (.dK ws) ∧ DPs K H ρ kvs ws := by
  cases dv <;> first | (cases h; done) | skip
  rename_i n a ha
  rcases dkR_get h with e | e
  · obtain ⟨a', ws, h1, h2, h3⟩ := hr.dk n _ e
    rw [ha] at h1; cases h1
    exact ⟨n, a, ws, rfl, rfl, ha, .inl h2, h3⟩
  · obtain ⟨a', ws, o, h1, h2, h3⟩ := hr.dkr n _ e
    rw [ha] at h1; cases h1
    exact ⟨n, a, ws, rfl, rfl, ha, .inr ⟨o, h2⟩, h3⟩
theorem DGet.rd {a : Addr} {ws : List (Key × V)} {k : Key} (e : Rd H a (.dK ws)) : DGet H a (kV k) (valV ws k) := .inl ⟨ws, k, e, rfl, rfl⟩
theorem key_dv {d : Dt} {v : V} {k : Key} (dv : DV K H ρ d v) (h : keyOf d = some k) : v = kV k := by
  cases dv <;> cases h <;> rfl
theorem dps_val (k : Key) : ∀ {kvs : List (Key × Dt)} {ws : List (Key × V)}, DPs K H ρ kvs ws → (∃ d v, valD kvs k = some d ∧ valV ws k = some v ∧ DV K H ρ d v) ∨ (valD kvs k = none ∧ valV ws k = none)
  | _, _, .nil => .inr ⟨rfl, rfl⟩
  | _, _, .cons (k := j) (ds := ds) (vs := vs) h t => by
    by_cases e : j = k
    · exact .inl ⟨_, _, by simp [valD, List.find?_cons, e], by simp [valV, List.find?_cons, e], h⟩
    · have e1 : ∀ d : Dt, valD ((j, d) :: ds) k = valD ds k := fun d => by simp [valD, List.find?_cons, e]
      have e2 : ∀ v : V, valV ((j, v) :: vs) k = valV vs k := fun v => by simp [valV, List.find?_cons, e]
      rw [e1, e2]
      exact dps_val k t
theorem dps_any (k : Key) : ∀ {kvs : List (Key × Dt)} {ws : List (Key × V)}, DPs K H ρ kvs ws → (kvs.any fun kv => decide (kv.1 = k)) = (ws.any fun kv => decide (kv.1 = k))
  | _, _, .nil => rfl
  | _, _, .cons _ t => by rw [List.any_cons, List.any_cons, dps_any k t]
theorem dps_snoc {k : Key} {d : Dt} {v : V} (r : DV K H ρ d v) : ∀ {kvs : List (Key × Dt)} {ws : List (Key × V)}, DPs K H ρ kvs ws → DPs K H ρ (kvs ++ [(k, d)]) (ws ++ [(k, v)])
  | _, _, .nil => .cons r .nil
  | _, _, .cons h t => .cons h (dps_snoc r t)
theorem dps_map {k : Key} {d : Dt} {v : V} (r : DV K H ρ d v) : ∀ {kvs : List (Key × Dt)} {ws : List (Key × V)}, DPs K H ρ kvs ws →
    DPs K H ρ (kvs.map fun kv => if kv.1 = k then (kv.1, d) else kv) (ws.map fun kv => if kv.1 = k then (kv.1, v) else kv)
  | _, _, .nil => .nil
  | _, _, .cons (k := j) h t => by
    rw [List.map_cons, List.map_cons]
    by_cases e : j = k
    · rw [if_pos e, if_pos e]; exact .cons r (dps_map r t)
    · rw [if_neg e, if_neg e]; exact .cons h (dps_map r t)
theorem dps_put {k : Key} {d : Dt} {v : V} (r : DV K H ρ d v) {kvs : List (Key × Dt)} {ws : List (Key × V)} (h : DPs K H ρ kvs ws) : DPs K H ρ (putD kvs k d) (putK ws k v) := by
  unfold putD putK
  rw [dps_any k h]
  split
  · exact dps_map r h
  · exact dps_snoc r h
/-- v = d[k] -/
def dgetG (kvs : List (Key × Dt)) (y : Dt) (S : Bxs) : Rs Dt := match keyOf y with
  | some k => match valD kvs k with
    | some d => .ok d S
    | none => .no
  | none => .no
theorem dgetG_calm (kvs : List (Key × Dt)) (y : Dt) (S : Bxs) : ∀ c es S', dgetG kvs y S ≠ .ex c es S' := by
  intro c es S'
  unfold dgetG
  split
  · split
    · exact calm_ok _ _ _ _ _
    · exact calm_no _ _ _
  · exact calm_no _ _ _
def rDGet : R2 := fun x y H Q => ∃ a v, x = .ref a ∧ DGet H a y (some v) ∧ Q v H
theorem dget_sat {x y : Dt} {xv yv : V} {kvs : List (Key × Dt)} {Q : VK} (hr : HR K H ρ S) (dx : DV K H ρ x xv) (dy : DV K H ρ y yv) (e : dkO S x = some kvs) (h : (dgetG kvs y S).Sat (KO K H ρ Q) noX) : rDGet xv yv H Q := by
  obtain ⟨n, a, ws, rfl, rfl, ha, hH, hd⟩ := dkO_some hr dx e
  unfold dgetG at h
  cases ek : keyOf y with
  | none => rw [ek] at h; exact h.elim
  | some k =>
    rw [ek] at h
    simp only at h
    rcases dps_val k hd with ⟨d, v, e1, e2, dv⟩ | ⟨e1, e2⟩
    · rw [e1] at h
      rw [key_dv dy ek]
      exact ⟨a, v, rfl, e2 ▸ DGet.rd hH, ko_here hr h dv⟩
    · rw [e1] at h; exact h.elim
theorem ix_dict (hu : X.A.units + 1 < cLine) : IxR X rDGet := by
  rintro value slice pins s σ H x y v u Q I rx ry ⟨a, z, rfl, g, q⟩ hs
  cases rx
  unfold subscriptTail
  refine wpAny_bind ?_
  rw [getitemInPython_of_ne (dict_typeIs I g).not_modules]
  refine wpAny_bind (wpAny_specialOf (dict_typeIs I g) PySem.F.slot_dict_getitem.lookup ?_)
  have fin : wpAny (model X.prog X.w) X.A (subscripted slice false (.ref a) u) (fun r s₃ => wpAny (model X.prog X.w) X.A (letTemporaryGo value (.ref a) r >>= fun _ => pure r) (EP X pins σ Q) X.xe s₃) X.xe s := by
    rw [hs]
    refine wpAny_operating (wpAny_mono (d_getItem hu I g ry (Q := fun w' s' => ∃ H', Inv X pins σ H' s' ∧ RelV z w' ∧ H' = H) fun w' s3 I3 rw' => ⟨H, I3, rw', rfl⟩) (fun r s₃ h₃ => ?_) fun _ _ x => x)
    obtain ⟨H', I3, rw', rfl⟩ := h₃
    exact wpAny_bind (wpAny_letTemporaryGo (wpAny_pure ⟨z, _, I3, rw', q⟩))
  first
    | exact wpAny_pure (wpAny_bind fin)
    | exact wpAny_bind (wpAny_pure (wpAny_bind fin))
    | exact wpAny_bind fin
theorem get_dict (hu : X.A.units + 1 < cLine) : PGet X rDGet := by
  rintro pins s τ H o i ov iv Q I ro ri ⟨a, z, rfl, g, q⟩
  cases ro
  exact d_getItem hu I g ri fun w' s3 I3 rw' => ⟨z, H, I3, rw', q⟩
def rDSet : V → V → V → Hp → (Hp → Prop) → Prop := fun o i v H Q => ∃ a H', o = .ref a ∧ DPut H a i v H' ∧ Q H'
theorem set_dict (hu : X.A.units + 1 < cLine) : PSet X rDSet := by
  rintro pins s σ H o i v ov iv u Q I ro ri rv ⟨a, H', rfl, g, q⟩
  cases ro
  exact d_setItem hu I g ri rv fun s4 I4 => ⟨H', I4, q⟩
theorem PSet.or {t t' : TSet} (h : PSet X t) (h' : PSet X t') : PSet X (fun o i v H Q => t o i v H Q ∨ t' o i v H Q) := by
  intro pins s σ H o i v ov iv u Q I ro ri rv q
  rcases q with q | q
  · exact h pins s σ H o i v ov iv u Q I ro ri rv q
  · exact h' pins s σ H o i v ov iv u Q I ro ri rv q
theorem PGet.or {t t' : V → V → Hp → VK → Prop} (h : PGet X t) (h' : PGet X t') : PGet X (fun o i H Q => t o i H Q ∨ t' o i H Q) := by
  intro pins s σ H o i ov iv Q I ro ri q
  rcases q with q | q
  · exact h pins s σ H o i ov iv Q I ro ri q
  · exact h' pins s σ H o i ov iv Q I ro ri q
end
end Mn
set_option Elab.async false
set_option linter.all false
set_option maxRecDepth 100000
set_option maxHeartbeats 4000000
/-! MnCt: dicts whose keys are tuples of ints. -/
namespace Mn
open PySem PySem.Spec PyProof.Rows L2
section
variable {X : Cx} {pins : List (Addr × Obj)} {τ : L2.St} {H : Hp} {s : Shared} {K : PySem.W.Frag} {ρ : List Addr} {S : Bxs}
theorem ints_are {P : Program} {w : World} : ∀ {ks : List Int} {us : List Value}, Vals (ks.map V.int) us → ItemsAre (PySem.intKind P w) ks us
  | [], _, h => by cases h; exact .nil
  | k :: ks, _, h => by
    rw [List.map_cons] at h
    cases h with
    | cons r t =>
      obtain ⟨tk, rfl⟩ := (show ∃ t, _ = Value.int k t from r)
      exact .cons (intKind_is P w k tk) (ints_are t)
theorem tk_is {b : Addr} {k : List Int} (I : Inv X pins τ H s) (t : Tp X.K H b (k.map V.int)) : (tupleKind (PySem.intKind X.prog X.w)).is s.heap k b := by
  rcases t with ⟨o, ho, p⟩ | ⟨o, its, n, ho, p, hd, hz, hv⟩
  · obtain ⟨e, z, its, r, o2, h1, h2, n, h3⟩ := I.hok b _ ho
    exact ⟨o2, its.toArray, n, h1, h2, h3, by simpa using ints_are r⟩
  · exact ⟨o, its, n, I.kIn b o ho, p.1, hd, ints_are hv⟩
/-- a dict with such keys, to be read -/
def TRd (K : PySem.W.Frag) (H : Hp) (a : Addr) (xs : List TE3) : Prop := (H a = some (DtO a xs) ∧ ∀ x ∈ xs, Tp K H x.2.1 (x.1.map V.int)) ∨ (H a = some (.dK []) ∧ xs = [])
theorem trd_at {a : Addr} {xs : List TE3} (I : Inv X pins τ H s) (t : TRd X.K H a xs) : (a == sysModules) = false ∧ s.heap.DictOfH (tupleKind (PySem.intKind X.prog X.w)) a xs := by
  rcases t with ⟨e, hk⟩ | ⟨e, rfl⟩
  · obtain ⟨⟨hd, o, es, ep, h1, h2, h3, h4, h5⟩, _⟩ := I.hok a _ e
    exact ⟨hd, o, es, ep, h1, h2, h3, h4, fun x hx => tk_is I (hk x hx), h5⟩
  · obtain ⟨z, hd, vs, rel, dd⟩ := dk_of I.hok e
    cases rel
    obtain ⟨o, es, ep, h1, h2, h3, h4⟩ := dd
    have hes : es.toList = [] := by
      obtain ⟨_, hp, _⟩ := h4
      cases e : es.toList with
      | nil => rfl
      | cons b l => rw [e] at hp; cases hp
    exact ⟨hd, o, es, ep, h1, h2, h3, hes, (fun _ z => nomatch z), List.nodup_nil⟩
def rTIx (K : PySem.W.Frag) : R2 := fun x y H Q => ∃ (a b : Addr) (k : List Int) (xs : List TE3) (u : Value) (v : V), x = .ref a ∧ y = .ref b ∧ Tp K H b (k.map V.int) ∧ TRd K H a xs ∧ (atKey xs k).map (·.2) = some u ∧ RelV v u ∧ Q v H
theorem t_getItem {a b : Addr} {k : List Int} {xs : List TE3} {u : Value} {Q : Value → Shared → Prop} {A : Around} {E : Value → Shared → Prop} (hu : A.units + 1 < cLine) (I : Inv X pins τ H s) (tk : Tp X.K H b (k.map V.int)) (t : TRd X.K H a xs) (e : (atKey xs k).map (·.2) = some u)
    (h : ∀ s', Inv X pins τ H s' → Q u s') : wpAny (model X.prog X.w) A (getItem (.ref a) (.ref b)) Q E s := by
  obtain ⟨hd, dd⟩ := trd_at I t
  obtain ⟨p, hp, hp2⟩ := Option.map_eq_some_iff.mp e
  refine wpAny_getItem_heap (tupleKind_room_in1 hu) (tk_is I tk) dd hp ?_
  rw [hp2]
  exact h _ (I.tok _)
theorem ix_dt (hu : X.A.units + 1 < cLine) : IxR X (rTIx X.K) := by
  rintro value slice pins s σ H x y v u Q I rx ry ⟨a, b, k, xs, w', z, rfl, rfl, tk, t, e, rz, q⟩ hs
  cases rx
  cases ry
  obtain ⟨hd, dd⟩ := trd_at I t
  unfold subscriptTail
  refine wpAny_bind ?_
  rw [getitemInPython_of_ne dd.typeIs.not_modules]
  refine wpAny_bind (wpAny_specialOf dd.typeIs PySem.F.slot_dict_getitem.lookup ?_)
  have fin : wpAny (model X.prog X.w) X.A (subscripted slice false (.ref a) (.ref b)) (fun r s₃ => wpAny (model X.prog X.w) X.A (letTemporaryGo value (.ref a) r >>= fun _ => pure r) (EP X pins σ Q) X.xe s₃) X.xe s := by
    rw [hs]
    refine wpAny_operating (wpAny_mono (t_getItem hu I tk t e (Q := fun w2 s' => ∃ H', Inv X pins σ H' s' ∧ RelV z w2 ∧ H' = H) fun s3 I3 => ⟨H, I3, rz, rfl⟩) (fun r s₃ h₃ => ?_) fun _ _ x => x)
    obtain ⟨H', I3, rw', rfl⟩ := h₃
    exact wpAny_bind (wpAny_letTemporaryGo (wpAny_pure ⟨z, _, I3, rw', q⟩))
  first
    | exact wpAny_pure (wpAny_bind fin)
    | exact wpAny_bind (wpAny_pure (wpAny_bind fin))
    | exact wpAny_bind fin
theorem get_dt (hu : X.A.units + 1 < cLine) : PGet X (rTIx X.K) := by
  rintro pins s τ H o i ov iv Q I ro ri ⟨a, b, k, xs, w', z, rfl, rfl, tk, t, e, rz, q⟩
  cases ro
  cases ri
  exact t_getItem hu I tk t e fun s3 I3 => ⟨z, H, I3, rz, q⟩
theorem dt_ok {P : Program} {w : World} {H' : Hp} {h' : Heap} {a : Addr} {xs : List TE3} (hd : (a == sysModules) = false) (dd : h'.DictOfH (tupleKind (PySem.intKind P w)) a xs) : ObjOk P w H' h' a (DtO a xs) := by
  obtain ⟨o, es, ep, h1, h2, h3, h4, _, h5⟩ := dd
  refine ⟨⟨hd, o, es, ep, h1, h2, h3, h4, h5⟩, ⟨o, h1⟩, fun g1 g2 ⟨hd, o, es, ep, h1, h2, h3, h4, h5⟩ k => ⟨hd, o, es, ep, k o h1, h2, h3, h4, h5⟩⟩
def rTSet (K : PySem.W.Frag) : V → V → V → Hp → (Hp → Prop) → Prop := fun o i v H Q => ∃ (a b : Addr) (k : List Int) (xs : List TE3), o = .ref a ∧ i = .ref b ∧ Tp K H b (k.map V.int) ∧ TRd K H a xs ∧ xs.length < sizeLine ∧ ∀ u, RelV v u → Q (upd H a (DtO a (storedH xs k b u)))
theorem set_dt (hu : X.A.units + 1 < cLine) : PSet X (rTSet X.K) := by
  rintro pins s σ H o i v ov iv u Q I ro ri rv ⟨a, b, k, xs, rfl, rfl, tk, t, hl, q⟩
  cases ro
  cases ri
  obtain ⟨hd, dd⟩ := trd_at I t
  refine wpAny_setItem_heap (hsz := Nat.le_of_lt hl) (tupleKind_room_in1 hu) (tk_is I tk) dd fun h' dd' hs => ?_
  have he : ∃ q, h'.get? a = some q := let ⟨q, _, _, hq, _⟩ := dd'; ⟨q, hq⟩
  exact ⟨_, d_write I (by rcases t with ⟨e, _⟩ | ⟨e, _⟩ <;> rw [e] <;> exact True.intro) hs he (dt_ok hd dd'), q u rv⟩
/-! d.get(k), d.get(k, x) -/
/-! as data -/
def tiAll : List Dt → Option (List Int)
  | [] => some []
  | .int i :: r => (tiAll r).map (i :: ·)
  | _ :: _ => none
def tiOf : Dt → Option (List Int)
  | .tup ds => tiAll ds
  | _ => none
theorem tiAll_v : ∀ {ds : List Dt} {vs : List V} {k : List Int}, DVs K H ρ ds vs → tiAll ds = some k → vs = k.map V.int
  | [], _, _, .nil, e => by cases e; rfl
  | d :: ds, _, k, .cons h t, e => by
    cases h <;> first | (cases e; done) | skip
    rename_i i
    have e : (tiAll ds).map (i :: ·) = some k := e
    cases e2 : tiAll ds with
    | none => rw [e2] at e; cases e
    | some l =>
      rw [e2] at e
      cases e
      rw [tiAll_v t e2]; rfl
theorem tiOf_dv {d : Dt} {v : V} {k : List Int} (dv : DV K H ρ d v) (e : tiOf d = some k) : ∃ b, v = .ref b ∧ Tp K H b (k.map V.int) := by
  cases dv <;> first | (cases e; done) | skip
  rename_i a ds vs ht hd
  exact ⟨a, rfl, tiAll_v hd e ▸ ht⟩
def Bxs.dt (S : Bxs) (n : Nat) : Option (List (List Int × Dt)) := match S[n]? with
  | some (.dt kvs) => some kvs
  | some (.dk []) => some []
  | _ => none
def dtO (S : Bxs) : Dt → Option (List (List Int × Dt))
  | .box n => S.dt n
  | _ => none
def valT (kvs : List (List Int × Dt)) (k : List Int) : Option Dt := (kvs.find? fun kv => decide (kv.1 = k)).map (·.2)
def putT (kvs : List (List Int × Dt)) (k : List Int) (d : Dt) : List (List Int × Dt) :=
  if (valT kvs k).isSome = true then kvs.map (fun kv => if kv.1 = k then (kv.1, d) else kv) else kvs ++ [(k, d)]
theorem dt_get {n : Nat} {kvs : List (List Int × Dt)} (h : S.dt n = some kvs) : S[n]? = some (MBox.dt kvs) ∨ (S[n]? = some (MBox.dk []) ∧ kvs = []) := by
  unfold Bxs.dt at h
  cases e : S[n]? with
  | none => rw [e] at h; cases h
  | some b =>
    rw [e] at h
    cases b with
    | dt l => cases h; exact .inl rfl
    | dk l =>
      cases l with
      | nil => cases h; exact .inr ⟨rfl, rfl⟩
      | cons x l => cases h
    | lst l => cases h
    | ro l => cases h
    | dkr l => cases h
    | obj C l => cases h
    | tab l => cases h
    | fnc l => cases h
    | nd => cases h
    | exn => cases h
theorem KTp.keys : ∀ {kvs : List (List Int × Dt)} {xs : List TE3}, KTp K H ρ kvs xs → ∀ x ∈ xs, Tp K H x.2.1 (x.1.map V.int)
  | _, _, .nil => fun _ z => nomatch z
  | _, _, .cons t _ _ r => fun x hx => by
    rcases List.mem_cons.mp hx with rfl | hx
    · exact t
    · exact KTp.keys r x hx
theorem dtO_some {d : Dt} {v : V} {kvs : List (List Int × Dt)} (hr : HR K H ρ S) (dv : DV K H ρ d v) (h : dtO S d = some kvs) : ∃ n a xs, d = .box n ∧ v = .ref a ∧ ρ[n]? = some a ∧ S.dt n = some kvs ∧ TRd K H a xs ∧ KTp K H ρ kvs xs := by
  cases dv <;> first | (cases h; done) | skip
  rename_i n a ha
  have h : S.dt n = some kvs := h
  rcases dt_get h with e | ⟨e, rfl⟩
  · obtain ⟨a', ws, h1, h2, h3⟩ := hr.dt n _ e
    rw [ha] at h1; cases h1
    exact ⟨n, a, ws, rfl, rfl, ha, h, .inl ⟨h2, h3.keys⟩, h3⟩
  · obtain ⟨a', ws, h1, h2, h3⟩ := hr.dk n _ e
    rw [ha] at h1; cases h1
    cases h3
    exact ⟨n, a, [], rfl, rfl, ha, h, .inr ⟨h2, rfl⟩, .nil⟩
theorem kt_val (k : List Int) : ∀ {kvs : List (List Int × Dt)} {xs : List TE3}, KTp K H ρ kvs xs → (∃ d v u, valT kvs k = some d ∧ (atKey xs k).map (·.2) = some u ∧ RelV v u ∧ DV K H ρ d v) ∨ (valT kvs k = none ∧ atKey xs k = none)
  | _, _, .nil => .inr ⟨rfl, rfl⟩
  | _, _, .cons (k := j) (ds := ds) (xs := xs) (d := d) (v := v) (u := u) (b := b) _ h r t => by
    by_cases e : j = k
    · exact .inl ⟨d, v, u, by simp [valT, List.find?_cons, e], by simp [atKey, List.find?_cons, e], r, h⟩
    · have e1 : valT ((j, d) :: ds) k = valT ds k := by simp [valT, List.find?_cons, e]
      have e2 : atKey ((j, b, u) :: xs) k = atKey xs k := by simp [atKey, List.find?_cons, e]
      rw [e1, e2]
      exact kt_val k t
theorem kt_isSome {kvs : List (List Int × Dt)} {xs : List TE3} (h : KTp K H ρ kvs xs) (k : List Int) : (valT kvs k).isSome = (atKey xs k).isSome := by
  rcases kt_val k h with ⟨d, v, u, e1, e2, _⟩ | ⟨e1, e2⟩
  · rw [e1]
    cases e : atKey xs k with
    | none => rw [e] at e2; cases e2
    | some p => rfl
  · rw [e1, e2]; rfl
theorem kt_snoc {k : List Int} {d : Dt} {v : V} {u : Value} {b : Addr} (tk : Tp K H b (k.map V.int)) (r : DV K H ρ d v) (ru : RelV v u) : ∀ {kvs : List (List Int × Dt)} {xs : List TE3}, KTp K H ρ kvs xs → KTp K H ρ (kvs ++ [(k, d)]) (xs ++ [(k, b, u)])
  | _, _, .nil => .cons tk r ru .nil
  | _, _, .cons t h q s => .cons t h q (kt_snoc tk r ru s)
theorem kt_map {k : List Int} {d : Dt} {v : V} {u : Value} (r : DV K H ρ d v) (ru : RelV v u) : ∀ {kvs : List (List Int × Dt)} {xs : List TE3}, KTp K H ρ kvs xs →
    KTp K H ρ (kvs.map fun kv => if kv.1 = k then (kv.1, d) else kv) (xs.map (putAt k u))
  | _, _, .nil => .nil
  | _, _, .cons (k := j) t h q s => by
    rw [List.map_cons, List.map_cons]
    unfold putAt
    by_cases e : j = k
    · rw [if_pos e, if_pos e]; exact .cons t r ru (kt_map r ru s)
    · rw [if_neg e, if_neg e]; exact .cons t h q (kt_map r ru s)
theorem kt_put {k : List Int} {d : Dt} {v : V} {u : Value} {b : Addr} (tk : Tp K H b (k.map V.int)) (r : DV K H ρ d v) (ru : RelV v u) {kvs : List (List Int × Dt)} {xs : List TE3} (h : KTp K H ρ kvs xs) : KTp K H ρ (putT kvs k d) (storedH xs k b u) := by
  unfold putT storedH
  rw [kt_isSome h k]
  split
  · exact kt_map r ru h
  · exact kt_snoc tk r ru h
/-- d[k], k in d, by tuples -/
def tget (S : Bxs) (x y : Dt) : Option (Option Dt) := match tiOf y, dtO S x with
  | some k, some kvs => some (valT kvs k)
  | _, _ => none
theorem tget_some {x y : Dt} {xv yv : V} {o : Option Dt} (hr : HR K H ρ S) (dx : DV K H ρ x xv) (dy : DV K H ρ y yv) (e : tget S x y = some o) :
    ∃ (a b : Addr) (k : List Int) (xs : List TE3), xv = .ref a ∧ yv = .ref b ∧ Tp K H b (k.map V.int) ∧ TRd K H a xs ∧ (o.isSome = (atKey xs k).isSome) ∧ ((∃ d v u, o = some d ∧ (atKey xs k).map (·.2) = some u ∧ RelV v u ∧ DV K H ρ d v) ∨ (o = none ∧ atKey xs k = none)) := by
  unfold tget at e
  cases e1 : tiOf y with
  | none => rw [e1] at e; cases e
  | some k =>
    cases e2 : dtO S x with
    | none => rw [e1, e2] at e; cases e
    | some kvs =>
      rw [e1, e2] at e
      cases e
      obtain ⟨b, rfl, tk⟩ := tiOf_dv dy e1
      obtain ⟨n, a, xs, rfl, rfl, ha, hn, t, kt⟩ := dtO_some hr dx e2
      exact ⟨a, b, k, xs, rfl, rfl, tk, t, kt_isSome kt k, kt_val k kt⟩
end
end Mn
set_option Elab.async false
set_option linter.all false
set_option maxRecDepth 100000
set_option maxHeartbeats 4000000
/-! MnD: equality, in, subscripts, slices, calls of built-ins, repr. -/
namespace Mn
open PySem PySem.Spec PyProof.Rows L2
section
variable {X : Cx} {Er : ER} {K : PySem.W.Frag} {H H1 : Hp} {ρ ρ1 : List Addr} {σ : Sg} {S S1 : Bxs} {τ : L2.St}
/-! ### x in xs, flat items -/
/-- the items of a sequence -/
def seqOf (S : Bxs) : Dt → Option (List Dt)
  | .tup xs => some xs
  | .box n => S.seq n
  | _ => none
theorem seq_of {d : Dt} {v : V} {xs : List Dt} (hr : HR K H ρ S) (h : DV K H ρ d v) (hs : seqOf S d = some xs) : ∃ a vs, v = .ref a ∧ (SqL K H a vs ∨ SqT K H a vs) ∧ DVs K H ρ xs vs := by
  cases h <;> first | (cases hs; done) | skip
  · rename_i a ds vs ht hd
    cases hs
    exact ⟨a, vs, rfl, .inr ht.sqt, hd⟩
  · rename_i n a ha
    obtain ⟨vs, h1, h2⟩ := hr.rd ha hs
    exact ⟨a, vs, rfl, .inl h1, h2⟩
/-! ### data as a whole -/
def optAll {α : Type} : List (Option α) → Option (List α)
  | [] => some []
  | none :: _ => none
  | some a :: r => (optAll r).map (a :: ·)
/-- the data, boxes opened, so deep at most -/
def pd (S : Bxs) : Nat → Dt → Option PyData
  | 0, _ => none
  | _ + 1, .non => some .none
  | _ + 1, .bl b => some (.bool b)
  | _ + 1, .int i => some (.int i)
  | _ + 1, .str x => some (.str x)
  | n + 1, .tup xs => (optAll (xs.map (pd S n))).map .tuple
  | n + 1, .box m => match S.seq m with
    | some xs => (optAll (xs.map (pd S n))).map .list
    | none => none
theorem dps_of {n : Nat} (ih : ∀ (d : Dt) (v : V) (p : PyData), DV K H ρ d v → pd S n d = some p → Dp K H v p) : ∀ (ds : List Dt) (vs : List V) (ps : List PyData), DVs K H ρ ds vs → optAll (ds.map (pd S n)) = some ps → DpAll K H vs ps
  | [], _, _, .nil, h => by cases h; exact .nil
  | x :: xs, _, ps, .cons hx hs, h => by
    rw [List.map_cons] at h
    cases e : pd S n x with
    | none => rw [e] at h; cases h
    | some p =>
      rw [e] at h
      unfold optAll at h
      cases e2 : optAll (xs.map (pd S n)) with
      | none => rw [e2] at h; cases h
      | some qs =>
        rw [e2] at h
        cases h
        exact .cons (ih x _ p hx e) (dps_of ih xs _ qs hs e2)
theorem dp_of (hr : HR K H ρ S) : ∀ (n : Nat) (d : Dt) (v : V) (p : PyData), DV K H ρ d v → pd S n d = some p → Dp K H v p
  | 0, _, _, _, _, h => by unfold pd at h; cases h
  | n + 1, .non, _, _, .non, h => by unfold pd at h; cases h; exact .non
  | n + 1, .bl b, _, _, .bl _, h => by unfold pd at h; cases h; exact .bl b
  | n + 1, .int i, _, _, .int _, h => by unfold pd at h; cases h; exact .int i
  | n + 1, .str x, _, _, .str _, h => by unfold pd at h; cases h; exact .str x
  | n + 1, .tup xs, _, p, .tup ht hd, h => by
    unfold pd at h
    cases e : optAll (xs.map (pd S n)) with
    | none => rw [e] at h; cases h
    | some ps =>
      rw [e] at h
      cases h
      exact .tup ht.sqt (dps_of (dp_of hr n) xs _ ps hd e)
  | n + 1, .box m, _, p, .box ha, h => by
    unfold pd at h
    cases e : S.seq m with
    | none => rw [e] at h; cases h
    | some xs =>
      rw [e] at h
      simp only at h
      cases e2 : optAll (xs.map (pd S n)) with
      | none => rw [e2] at h; cases h
      | some ps =>
        rw [e2] at h
        cases h
        obtain ⟨vs, h1, h2⟩ := hr.rd ha e
        exact .lst h1 (dps_of (dp_of hr n) xs vs ps h2 e2)
/-- so deep data may be -/
def DEEP : Nat := 60
def pdo (S : Bxs) (d : Dt) : Option PyData := pd S DEEP d
theorem u128 {k : Nat} {A : Around} (r : Room k A) : A.units + 128 < cLine := by have := r.un; omega
def eqG (neg : Bool) : G2 := fun x y S => match pdo S x, pdo S y with
  | some p, some q => if SeqAt.shaped p = true ∧ SeqAt.shaped q = true then .ok (.bl (if neg then !PyData.eqv p q else PyData.eqv p q)) S else .no
  | _, _ => .no
theorem eqG_calm (neg : Bool) : Calm2 (eqG neg) := by
  intro x y S
  unfold eqG
  split
  · exact calm_ite (calm_ok _ _)
  · exact calm_no
def rEqN (K : PySem.W.Frag) (neg : Bool) : R2 := fun x y H Q => ∃ d e, Dp K H x d ∧ Dp K H y e ∧ SeqAt.shaped d = true ∧ SeqAt.shaped e = true ∧ Q (.bl (if neg then !PyData.eqv d e else PyData.eqv d e)) H
theorem op_eqN (hu : X.A.units + 128 < cLine) : OpR X (compareOp .Eq) (rEqN X.K false) := op_eqD (by omega)
theorem op_neN (hu : X.A.units + 128 < cLine) : OpR X (compareOp .NotEq) (rEqN X.K true) := op_neD (by omega)
theorem ro_eq {neg : Bool} : RO K (rEqN K neg) (eqG neg) := by
  intro H ρ S x y xv yv Q hr dx dy h
  unfold eqG at h
  cases e : pdo S x with
  | none => rw [e] at h; exact h.elim
  | some p =>
    cases e2 : pdo S y with
    | none => rw [e, e2] at h; exact h.elim
    | some q =>
      rw [e, e2] at h
      obtain ⟨⟨c1, c2⟩, h⟩ := ite_sat h
      exact ⟨p, q, dp_of hr _ x xv p dx e, dp_of hr _ y yv q dy e2, c1, c2, ko_here hr h (.bl _)⟩
/-! ### x[i], x[a:b] -/
def ixL : G2 := fun x y S => match y with
  | .int i => match x with
    | .str z => if z.length ≤ strLim then match atI z.cps.toList i with
      | some c => .ok (.str ⟨#[c]⟩) S
      | none => .no else .no
    | _ => match seqOf S x with
      | some xs => match atI xs i with
        | some d => .ok d S
        | none => .no
      | none => .no
  | _ => .no
theorem DVs.atI {ds : List Dt} {vs : List V} {i : Int} {d : Dt} (h : DVs K H ρ ds vs) (e : L2.atI ds i = some d) : ∃ v, L2.atI vs i = some v ∧ DV K H ρ d v := by
  unfold L2.atI at e ⊢
  rw [← h.length]
  cases hj : ixN ds.length i with
  | none => rw [hj] at e; cases e
  | some j =>
    rw [hj] at e
    exact h.get e
theorem ro_ixL : RO K (rIx K) ixL := by
  intro H ρ S x y xv yv Q hr dx dy h
  cases dy <;> first | exact h.elim | skip
  rename_i i
  unfold ixL at h
  simp only at h
  cases dx
  case str z =>
    simp only at h
    obtain ⟨c, h⟩ := ite_sat h
    cases e : atI z.cps.toList i with
    | none => rw [e] at h; exact h.elim
    | some c' =>
      rw [e] at h
      exact .inr (.inr ⟨z, i, c', rfl, rfl, Nat.le_trans c (by decide), e, ko_here hr h (.str _)⟩)
  case tup a ds vs ht hd =>
    simp only [seqOf] at h
    cases e : L2.atI ds i with
    | none => rw [e] at h; exact h.elim
    | some d =>
      rw [e] at h
      obtain ⟨v, h1, h2⟩ := hd.atI e
      exact .inr (.inl ⟨a, vs, i, v, rfl, rfl, ht.sqt, h1, ko_here hr h h2⟩)
  case box n a ha =>
    simp only [seqOf] at h
    cases e0 : S.seq n with
    | none => rw [e0] at h; exact h.elim
    | some xs =>
      rw [e0] at h
      simp only at h
      obtain ⟨vs, h1, h2⟩ := hr.rd ha e0
      cases e : L2.atI xs i with
      | none => rw [e] at h; exact h.elim
      | some d =>
        rw [e] at h
        obtain ⟨v, h3, h4⟩ := h2.atI e
        exact .inl ⟨a, vs, i, v, rfl, rfl, h1, h3, ko_here hr h h4⟩
  all_goals (simp only [seqOf] at h; exact h.elim)
theorem ixL_calm : Calm2 ixL := by
  intro x y S c ds S'
  unfold ixL
  split <;> try exact calm_no _ _ _
  split
  · split
    · split
      · exact calm_ok _ _ _ _ _
      · exact calm_no _ _ _
    · exact calm_no _ _ _
  · split
    · split
      · exact calm_ok _ _ _ _ _
      · exact calm_no _ _ _
    · exact calm_no _ _ _
def ixG0 : G2 := fun x y S => match dkO S x with
  | some kvs => dgetG kvs y S
  | none => ixL x y S
theorem ixG0_calm : Calm2 ixG0 := by
  intro x y S
  unfold ixG0
  split
  · exact dgetG_calm _ _ _
  · exact ixL_calm x y S
theorem ro_ix0 : RO K (fun x y H Q => rIx K x y H Q ∨ rDGet x y H Q) ixG0 := by
  intro H ρ S x y xv yv Q hr dx dy h
  unfold ixG0 at h
  cases e : dkO S x with
  | none =>
    rw [e] at h
    exact .inl (ro_ixL H ρ S x y xv yv Q hr dx dy h)
  | some kvs =>
    rw [e] at h
    exact .inr (dget_sat hr dx dy e h)
def ixG : G2 := fun x y S => match tget S x y with
  | some (some d) => .ok d S
  | some none => .no
  | none => ixG0 x y S
theorem ixG_calm : Calm2 ixG := by
  intro x y S
  unfold ixG
  split
  · exact calm_ok _ _
  · exact calm_no
  · exact ixG0_calm x y S
theorem ro_ix : RO K (fun x y H Q => (rIx K x y H Q ∨ rDGet x y H Q) ∨ rTIx K x y H Q) ixG := by
  intro H ρ S x y xv yv Q hr dx dy h
  unfold ixG at h
  cases e : tget S x y with
  | none =>
    rw [e] at h
    exact .inl (ro_ix0 H ρ S x y xv yv Q hr dx dy h)
  | some o =>
    rw [e] at h
    obtain ⟨a, b, k, xs, rfl, rfl, tk, t, es, c⟩ := tget_some hr dx dy e
    rcases c with ⟨d, v, u, rfl, e1, r, dv⟩ | ⟨rfl, _⟩
    · exact .inr ⟨a, b, k, xs, u, v, rfl, rfl, tk, t, e1, r, ko_here hr h dv⟩
    · exact h.elim
theorem se_ix {a b : Expr} {pos : Pos} {fa fb : FE} (hu : X.A.units + 128 < cLine) (ha : SE X Er a fa) (hb : SE X Er b fb) (hs : PlainIx b := by intro _ _; rfl) : SE X Er (.Subscript a b pos) (dBin ixG fa fb) := by
  obtain ⟨ta, pa, qa⟩ := ha.ex
  obtain ⟨tb, pb, qb⟩ := hb.ex
  exact ⟨_, pe_ix ((ix_seq.or (ix_dict (by omega))).or (ix_dt (by omega))) pa pb hs, fun τ H ρ σ S Q T h => bin_sat qa qb ro_ix ixG_calm T h⟩
abbrev FO := Sg → Bxs → Rs (Option Int)
structure SO (X : Cx) (Er : ER) (e : Option Expr) (f : FO) : Prop where
  ex : ∃ t, PO X e t ∧ ∀ τ H ρ σ S (Q : Option Int → Hp → Prop), Ty X.K H ρ σ S τ → (f σ S).Sat (fun o S' => ∀ H' ρ', To H H' ρ ρ' → HR X.K H' ρ' S' → Q o H') (KX Er H ρ) → t τ H Q
def oNone : FO := fun _ S => .ok none S
def oSome (f : FE) : FO := fun σ S => (f σ S).bind fun d S1 => match d with
  | .int i => .ok (some i) S1
  | _ => .no
theorem so_none : SO X Er none oNone := ⟨_, po_none, fun τ H ρ σ S Q T h => h H ρ (To.refl _ _) T.hr⟩
theorem so_some {e : Expr} {f : FE} (h : SE X Er e f) : SO X Er (some e) (oSome f) := by
  obtain ⟨te, p, q⟩ := h.ex
  refine ⟨_, po_some p, fun τ H ρ σ S Q T h => q τ H ρ σ S _ T ((link h).mono (fun d S1 h1 => ?_) fun _ _ _ q => q)⟩
  intro v H' ρ' t hr dv
  cases dv <;> first | exact h1.elim | skip
  exact ⟨_, rfl, h1 H' ρ' t hr⟩
def cutD (xs : List Dt) (lo hi : Option Int) : List Dt := (xs.drop (HT.sIx xs.length 0 lo)).take (HT.sIx xs.length xs.length hi - HT.sIx xs.length 0 lo)
theorem DVs.cut {ds : List Dt} {vs : List V} (h : DVs K H ρ ds vs) (lo hi : Option Int) : DVs K H ρ (cutD ds lo hi) (cutV vs lo hi) := by
  unfold cutD cutV
  rw [← h.length]
  exact (h.drop _).take _
theorem cutD_length (xs : List Dt) (lo hi : Option Int) : (cutD xs lo hi).length ≤ xs.length := by
  unfold cutD
  rw [List.length_take, List.length_drop]
  omega
theorem cutD_whole {xs : List Dt} {lo hi : Option Int} (h : wholeCut xs.length lo hi = true) : cutD xs lo hi = xs := by
  unfold wholeCut at h
  rw [Bool.and_eq_true, decide_eq_true_eq, decide_eq_true_eq] at h
  unfold cutD
  rw [h.1, h.2, List.drop_zero, Nat.sub_zero, List.take_length]
def slG (lo hi : Option Int) (x : Dt) (S : Bxs) : Rs Dt := match x with
  | .str z => if z.length ≤ strLim then .ok (.str (cutS z lo hi)) S else .no
  | .tup xs => .ok (.tup (cutD xs lo hi)) S
  | .box n => match S.seq n with
    | some xs => newL (cutD xs lo hi) S
    | none => .no
  | _ => .no
def dSl (f : FE) (lo hi : FO) : FE := fun σ S => (f σ S).bind fun d S1 => (lo σ S1).bind fun l S2 => (hi σ S2).bind fun u S3 => slG l u d S3
def rSlAll (K : PySem.W.Frag) : V → Option Int → Option Int → Hp → VK → Prop := fun x lo hi H Q => rSlL K x lo hi H Q ∨ (rSlZ K x lo hi H Q ∨ rSlS x lo hi H Q)
theorem sl_all : SlR X (rSlAll X.K) := sl_list.or (sl_tupZ.or sl_str)
theorem slG_calm (lo hi : Option Int) (x : Dt) (S : Bxs) (c : Nat) (es : List Dt) (S' : Bxs) : slG lo hi x S ≠ .ex c es S' := by
  unfold slG
  split
  · exact calm_ite (calm_ok _ _) _ _ _
  · exact calm_ok _ _ _ _ _
  · split
    · exact newL_calm _ _ _ _ _
    · exact calm_no _ _ _
  · exact calm_no _ _ _
theorem sl_sat {lo hi : Option Int} {d : Dt} {v : V} {Q : VK} (hr : HR K H ρ S) (dv : DV K H ρ d v) (h : (slG lo hi d S).Sat (KO K H ρ Q) noX) : rSlAll K v lo hi H Q := by
  cases dv <;> first | exact h.elim | skip
  · obtain ⟨c, h⟩ := ite_sat h
    exact .inr (.inr ⟨_, rfl, Nat.le_trans c (by decide), ko_here hr h (.str _)⟩)
  · rename_i a ds vs ht hd
    refine .inr (.inl ⟨a, vs, rfl, ht.sqt, fun z => ?_, fun _ => new_tup hr (hd.cut lo hi) h⟩)
    have h' : KO K H ρ Q (.tup (cutD ds lo hi)) S := h
    rw [cutD_whole (by rw [hd.length]; exact z)] at h'
    exact ko_here hr h' (.tup ht hd)
  · rename_i n a ha
    unfold slG at h
    simp only at h
    cases e : S.seq n with
    | none => rw [e] at h; exact h.elim
    | some xs =>
      rw [e] at h
      obtain ⟨hl, h⟩ := newL_ok h
      obtain ⟨vs, h1, h2⟩ := hr.rd ha e
      exact .inl ⟨a, vs, rfl, h1, fun p hp => new_lst hr (h2.cut lo hi) hp h⟩
theorem se_slice {e : Expr} {lo hi : Option Expr} {f : FE} {fl fh : FO} {p2 pos : Pos} (he : SE X Er e f) (hl : SO X Er lo fl) (hh : SO X Er hi fh) : SE X Er (.Subscript e (.Slice lo hi none p2) pos) (dSl f fl fh) := by
  obtain ⟨te, pe, qe⟩ := he.ex
  obtain ⟨tl, pl, ql⟩ := hl.ex
  obtain ⟨th, ph, qh⟩ := hh.ex
  refine ⟨_, pe_slice sl_all pe pl ph, fun τ H ρ σ S Q T h => qe τ H ρ σ S _ T ((link h).mono (fun d S1 h1 => ?_) fun _ _ _ q => q)⟩
  intro v H1 ρ1 t1 hr1 dv
  refine ql τ H1 ρ1 σ S1 _ (T.to t1 hr1) ((link h1).mono (fun l S2 h2 => ?_) fun _ _ _ q => q.to t1)
  intro H2 ρ2 t2 hr2
  refine qh τ H2 ρ2 σ S2 _ (T.to (t1.trans t2) hr2) ((link h2).mono (fun u S3 h3 => ?_) fun _ _ _ q => q.to (t1.trans t2))
  intro H3 ρ3 t3 hr3
  exact sl_sat hr3 (dv.to (t2.trans t3)) (sat_calm (slG_calm _ _ _ _) (Rs.Sat.toO ((t1.trans t2).trans t3) h3))
/-! ### calls of built-ins -/
abbrev GC := List Dt → Bxs → Rs Dt
def CalmC (g : GC) : Prop := ∀ ds S c es S', g ds S ≠ .ex c es S'
def RCo (K : PySem.W.Frag) (r : List V → Hp → VK → Prop) (g : GC) : Prop := ∀ H ρ S ds vs Q, HR K H ρ S → DVs K H ρ ds vs → (g ds S).Sat (KO K H ρ Q) noX → r vs H Q
def dCall (g : GC) (a : FA) : FE := fun σ S => (a σ S).bind g
theorem call_sat {fa : FA} {g : GC} {ta : TA} {r : List V → Hp → VK → Prop} (ha : ∀ τ H ρ σ S Q, Ty X.K H ρ σ S τ → (fa σ S).Sat (KA X.K H ρ Q) (KX Er H ρ) → ta τ H Q)
    (hr : RCo X.K r g) (hc : CalmC g) {τ : L2.St} {Q : VK} (T : Ty X.K H ρ σ S τ) (h : (dCall g fa σ S).Sat (KO X.K H ρ Q) (KX Er H ρ)) : ta τ H fun vs H1 => r vs H1 Q := by
  refine ha τ H ρ σ S _ T ((link h).mono (fun ds S1 h1 => ?_) fun _ _ _ q => q)
  intro vs H1 ρ1 t1 hr1 dvs
  exact hr H1 ρ1 S1 ds vs Q hr1 dvs (sat_calm (hc ds S1) (Rs.Sat.toO t1 h1))
theorem se_callB {x : Str} {p pos : Pos} {e : Expr} {es : List Expr} {id : String} {r : List V → Hp → VK → Prop} {g : GC} {fa : FA} (hc : CallR X (.builtin id) r) (hr : RCo X.K r g) (hcalm : CalmC g) (hg : Gl X x) (hm : X.mg x = none) (hv : bootBuiltins x = some (.builtin id))
    (ha : SA X Er (e :: es) fa) (hn : x ≠ "__name__" := by decide) (hdb : (x == ("__debug__" : Str)) = false := by decide)
    (he : starEach (e :: es) X.env = (false, eval e X.env) :: starEach es X.env := by rfl) (hpl : (backTo pos (starEach es X.env)).any (·.1) = false := by rfl) : SE X Er (.Call (.Name x p) (e :: es) [] pos) (dCall g fa) := by
  obtain ⟨ta, pa, qa⟩ := ha.ex
  exact ⟨_, pe_callB hc hg hm hv pa hn hdb he hpl, fun τ H ρ σ S Q T h => call_sat qa hr hcalm T h⟩
theorem se_callTy {x : Str} {p pos : Pos} {e : Expr} {es : List Expr} {tn : String} {r : List V → Hp → VK → Prop} {g : GC} {fa : FA} (hc : CallR X (.type tn) r) (hr : RCo X.K r g) (hcalm : CalmC g) (hg : Gl X x) (hm : X.mg x = none) (hv : bootBuiltins x = some (.type tn))
    (ha : SA X Er (e :: es) fa) (hn : x ≠ "__name__" := by decide) (hdb : (x == ("__debug__" : Str)) = false := by decide)
    (he : starEach (e :: es) X.env = (false, eval e X.env) :: starEach es X.env := by rfl) (hpl : (backTo pos (starEach es X.env)).any (·.1) = false := by rfl) : SE X Er (.Call (.Name x p) (e :: es) [] pos) (dCall g fa) := by
  obtain ⟨ta, pa, qa⟩ := ha.ex
  exact ⟨_, pe_callTy hc hg hm hv pa hn hdb he hpl, fun τ H ρ σ S Q T h => call_sat qa hr hcalm T h⟩
end
end Mn
set_option Elab.async false
set_option linter.all false
set_option maxRecDepth 100000
set_option maxHeartbeats 4000000
/-! MnE: targets, statements, loops, comprehensions. -/
namespace Mn
open PySem PySem.Spec PyProof.Rows L2
section
variable {X : Cx} {Er : ER} {K : PySem.W.Frag} {H H1 : Hp} {ρ ρ1 : List Addr} {σ : Sg} {S S1 : Bxs} {τ : L2.St}
/-! ### one form for each judgement -/
def canE (K : PySem.W.Frag) (Er : ER) (f : FE) : TE := fun τ H Q => ∃ ρ σ S, Ty K H ρ σ S τ ∧ (f σ S).Sat (KO K H ρ Q) (KX Er H ρ)
def canT (K : PySem.W.Frag) (Er : ER) (f : FB) : TT := fun τ H Q => ∃ ρ σ S, Ty K H ρ σ S τ ∧ (f σ S).Sat (KB K H ρ Q) (KX Er H ρ)
theorem SE.can {e : Expr} {f : FE} (h : SE X Er e f) : PE X e (canE X.K Er f) := by
  obtain ⟨te, p, q⟩ := h.ex
  exact ⟨fun pins s σ H Q I ⟨ρ, σ', S, T, hs⟩ => p.run pins s σ H Q I (q _ _ _ _ _ _ T hs)⟩
theorem ST.can {e : Expr} {f : FB} (h : ST X Er e f) : PT X e (canT X.K Er f) := by
  obtain ⟨te, p, q⟩ := h.ex
  exact ⟨fun pins s σ H Q I ⟨ρ, σ', S, T, hs⟩ => p.run pins s σ H Q I (q _ _ _ _ _ _ T hs)⟩
/-! ### targets -/
abbrev FT := Dt → Sg → Bxs → Rs Sg
abbrev FTs := List Dt → Sg → Bxs → Rs Sg
def KS (K : PySem.W.Frag) (H : Hp) (ρ : List Addr) (Q : L2.St → Hp → Prop) : Sg → Bxs → Prop := fun σ' S' => ∀ τ' H' ρ', To H H' ρ ρ' → Ty K H' ρ' σ' S' τ' → Q τ' H'
structure SG (X : Cx) (Er : ER) (tg : Expr) (g : FT) : Prop where
  ex : ∃ t, PG X tg t ∧ ∀ v d τ H ρ σ S Q, Ty X.K H ρ σ S τ → DV X.K H ρ d v → (g d σ S).Sat (KS X.K H ρ Q) (KX Er H ρ) → t v τ H Q
structure SGs (X : Cx) (Er : ER) (ts : List Expr) (g : FTs) : Prop where
  ex : ∃ t, PGs X ts t ∧ ∀ vs ds τ H ρ σ S Q, Ty X.K H ρ σ S τ → DVs X.K H ρ ds vs → (g ds σ S).Sat (KS X.K H ρ Q) (KX Er H ρ) → t vs τ H Q
theorem Rs.Sat.toS {r : Rs Sg} {Q : L2.St → Hp → Prop} (t : To H H1 ρ ρ1) (h : r.Sat (KS K H ρ Q) (KX Er H ρ)) : r.Sat (KS K H1 ρ1 Q) (KX Er H1 ρ1) :=
  h.mono (fun _ _ q τ' H' ρ' t' => q τ' H' ρ' (t.trans t')) fun _ _ _ q => q.to t
def tName (i : Nat) : FT := fun d σ S => .ok (σ.set i (some d)) S
theorem sg_name (i : Nat) {x : Str} {pos : Pos} (hN : X.N.Nodup) (hi : X.N[i]? = some x := by rfl) (hx : Loc X.env.scope x := by first | exact .inl rfl | exact .inr rfl) (hf : X.fn x = true ∨ X.env.scope.names.lookup x = some .local := by first | exact .inl rfl | exact .inr rfl) : SG X Er (.Name x pos) (tName i) :=
  ⟨_, pg_name hN hi hx hf, fun v d τ H ρ σ S Q T dv h => h _ H ρ (To.refl _ _) ⟨T.hr, T.sl.set i dv⟩⟩
def tNilG : FTs := fun ds σ S => match ds with
  | [] => .ok σ S
  | _ => .no
def tConsG (g : FT) (r : FTs) : FTs := fun ds σ S => match ds with
  | d :: ds => (g d σ S).bind fun σ1 S1 => r ds σ1 S1
  | [] => .no
theorem sgs_nil : SGs X Er [] tNilG := by
  refine ⟨_, pgs_nil, fun vs ds τ H ρ σ S Q T dv h => ?_⟩
  cases dv with
  | nil => exact ⟨rfl, h τ H ρ (To.refl _ _) T⟩
  | cons _ _ => exact h.elim
theorem sgs_cons {e : Expr} {es : List Expr} {g : FT} {r : FTs} (h1 : SG X Er e g) (h2 : SGs X Er es r) (hs : (assignEach (e :: es) X.env).map (·.2) = assign e X.env :: (assignEach es X.env).map (·.2) := by rfl) : SGs X Er (e :: es) (tConsG g r) := by
  obtain ⟨t1, p1, q1⟩ := h1.ex
  obtain ⟨t2, p2, q2⟩ := h2.ex
  refine ⟨_, pgs_cons p1 p2 hs, fun vs ds τ H ρ σ S Q T dv h => ?_⟩
  cases dv with
  | nil => exact h.elim
  | cons dx dxs =>
    refine ⟨_, _, rfl, q1 _ _ τ H ρ σ S _ T dx ((link h).mono (fun σ1 S1 h1 => ?_) fun _ _ _ q => q)⟩
    intro τ1 H1 ρ1 t T1
    exact q2 _ _ τ1 H1 ρ1 σ1 S1 Q T1 (dxs.to t) (Rs.Sat.toS t h1)
/-- (a, b, ..) = a tuple -/
def tTupG (n : Nat) (g : FTs) : FT := fun d σ S => match d with
  | .tup xs => if xs.length = n then g xs σ S else .no
  | _ => .no
theorem sg_tup {es : List Expr} {k n : Nat} {pos : Pos} {g : FTs} (hc : X.calm = true) (h : SGs X Er es g) (hn : (assignEach es X.env).length = n := by rfl) (hst : (assignEach es X.env).findIdx? (·.1) = none := by rfl) : SG X Er (.Tuple es k pos) (tTupG n g) := by
  obtain ⟨t, p, q⟩ := h.ex
  refine ⟨_, pg_tup hc p hn hst, fun v d τ H ρ σ S Q T dv h => ?_⟩
  cases dv <;> first | exact h.elim | skip
  rename_i a ds vs ht hd
  obtain ⟨c, h⟩ := ite_sat h
  exact ⟨a, vs, rfl, ht.sqt, by rw [← hd.length]; exact c, q _ _ τ H ρ σ S Q T hd h⟩
/-- xs[i] = .. of a list -/
def setL (o i d : Dt) (S : Bxs) : Rs Unit := match o, i with
  | .box n, .int k => match S.lst n with
    | some xs => match ixN xs.length k with
      | some j => .ok () (S.set n (.lst (xs.set j d)))
      | none => .no
    | none => .no
  | _, _ => .no
theorem setL_sat {o i d : Dt} {ov iv v : V} {Q : Hp → Prop} (hr : HR K H ρ S) (dO : DV K H ρ o ov) (di : DV K H ρ i iv) (dv : DV K H ρ d v)
    (h : (setL o i d S).Sat (fun _ S' => ∀ H' , To H H' ρ ρ → HR K H' ρ S' → Q H') noX) : rSetL ov iv v H Q := by
  cases dO <;> first | exact h.elim | skip
  rename_i n a ha
  cases di <;> first | exact h.elim | skip
  rename_i k
  unfold setL at h
  simp only at h
  cases e : S.lst n with
  | none => rw [e] at h; exact h.elim
  | some xs =>
    rw [e] at h
    simp only at h
    cases e2 : ixN xs.length k with
    | none => rw [e2] at h; exact h.elim
    | some j =>
      rw [e2] at h
      obtain ⟨vs, h1, h2⟩ := hr.mu ha e
      exact ⟨a, vs, k, j, rfl, rfl, h1, by rw [← h2.length]; exact e2, h _ ⟨Ext.set h1, List.prefix_refl _⟩ (hr.set (lst_get e) ha h1 (h2.set dv j))⟩
theorem setL_calm (o i d : Dt) (S : Bxs) : ∀ c es S', setL o i d S ≠ .ex c es S' := by
  intro c es S'
  unfold setL
  split
  · split
    · split
      · exact calm_ok _ _ _ _ _
      · exact calm_no _ _ _
    · exact calm_no _ _ _
  · exact calm_no _ _ _
/-- d[k] = .. of a dict -/
def dsetG (o i d : Dt) (kvs : List (Key × Dt)) (S : Bxs) : Rs Unit := match o, keyOf i with
  | .box n, some k => if kvs.length < LIM then .ok () (S.set n (.dk (putD kvs k d))) else .no
  | _, _ => .no
/-- x[i] = .. -/
def setG0 (o i d : Dt) (S : Bxs) : Rs Unit := match dkW S o with
  | some kvs => dsetG o i d kvs S
  | none => setL o i d S
theorem setG0_calm (o i d : Dt) (S : Bxs) : ∀ c es S', setG0 o i d S ≠ .ex c es S' := by
  intro c es S'
  unfold setG0
  split
  · unfold dsetG
    split
    · exact calm_ite (calm_ok _ _) _ _ _
    · exact calm_no _ _ _
  · exact setL_calm _ _ _ _ _ _ _
theorem set_sat0 {o i d : Dt} {ov iv v : V} {Q : Hp → Prop} (hr : HR K H ρ S) (dO : DV K H ρ o ov) (di : DV K H ρ i iv) (dv : DV K H ρ d v)
    (h : (setG0 o i d S).Sat (fun _ S' => ∀ H' , To H H' ρ ρ → HR K H' ρ S' → Q H') noX) : rSetL ov iv v H Q ∨ rDSet ov iv v H Q := by
  unfold setG0 at h
  cases e : dkW S o with
  | none =>
    rw [e] at h
    exact .inl (setL_sat hr dO di dv h)
  | some kvs =>
    rw [e] at h
    simp only at h
    obtain ⟨n, a, ws, rfl, rfl, ha, hn, hH, hd⟩ := dkW_some hr dO e
    unfold dsetG at h
    cases ek : keyOf i with
    | none => rw [ek] at h; exact h.elim
    | some k =>
      rw [ek] at h
      obtain ⟨c, h⟩ := ite_sat h
      refine .inr ⟨a, _, rfl, by rw [key_dv di ek]; exact DPut.k hH (by rw [← hd.length]; exact lim_lt c), h _ ⟨Ext.setD hH, List.prefix_refl _⟩ (hr.setD hn ha hH (dps_put dv hd))⟩
def tsetG (o i d : Dt) (S : Bxs) : Option (Rs Unit) := match o, tiOf i, dtO S o with
  | .box n, some k, some kvs => some (if kvs.length < LIM then .ok () (S.set n (.dt (putT kvs k d))) else .no)
  | _, _, _ => none
def setG (o i d : Dt) (S : Bxs) : Rs Unit := match tsetG o i d S with
  | some r => r
  | none => setG0 o i d S
theorem setG_calm (o i d : Dt) (S : Bxs) : ∀ c es S', setG o i d S ≠ .ex c es S' := by
  intro c es S'
  unfold setG tsetG
  split
  · rename_i r e
    split at e
    · cases e
      exact calm_ite (calm_ok _ _) _ _ _
    · cases e
  · exact setG0_calm _ _ _ _ _ _ _
theorem set_sat {o i d : Dt} {ov iv v : V} {Q : Hp → Prop} (hr : HR K H ρ S) (dO : DV K H ρ o ov) (di : DV K H ρ i iv) (dv : DV K H ρ d v)
    (h : (setG o i d S).Sat (fun _ S' => ∀ H' , To H H' ρ ρ → HR K H' ρ S' → Q H') noX) : (rSetL ov iv v H Q ∨ rDSet ov iv v H Q) ∨ rTSet K ov iv v H Q := by
  unfold setG at h
  cases e : tsetG o i d S with
  | none =>
    rw [e] at h
    exact .inl (set_sat0 hr dO di dv h)
  | some r =>
    rw [e] at h
    unfold tsetG at e
    split at e
    · rename_i n k kvs e1 e2
      cases e
      obtain ⟨c, h⟩ := ite_sat h
      obtain ⟨b, rfl, tk⟩ := tiOf_dv di e1
      obtain ⟨n', a, xs, en, rfl, ha, hn, t, kt⟩ := dtO_some hr dO e2
      cases en
      refine .inr ⟨a, b, k, xs, rfl, rfl, tk, t, by rw [← kt.length]; exact lim_lt c, fun u ru => ?_⟩
      have ex : Ext H (upd H a (DtO a (storedH xs k b u))) := by
        rcases t with ⟨q, _⟩ | ⟨q, _⟩
        · exact Ext.setT q
        · exact Ext.setD q
      refine h _ ⟨ex, List.prefix_refl _⟩ ?_
      have hb : ∃ bx, S[n]? = some bx ∧ bx.mu = true := by
        rcases dt_get hn with q | ⟨q, _⟩
        · exact ⟨_, q, rfl⟩
        · exact ⟨_, q, rfl⟩
      obtain ⟨bx, hb1, hb2⟩ := hb
      exact hr.setB hb1 hb2 rfl ha ex ⟨_, upd_same, (kt_put tk dv ru kt).mono ex (List.prefix_refl _)⟩
    · cases e
def tSubG (o i : FE) : FT := fun d σ S => (o σ S).bind fun a S1 => (i σ S1).bind fun b S2 => (setG a b d S2).bind fun _ S3 => .ok σ S3
theorem sg_sub {o i : Expr} {fo fi : FE} {pos : Pos} (hu : X.A.units + 128 < cLine) (ho : SE X Er o fo) (hi : SE X Er i fi)
    (ha : ∀ v, assign (.Subscript o i pos) X.env v = (do
      let ov ← holding [v] (eval o X.env)
      let iv ← holding [v, ov] (eval i X.env)
      standAt pos
      holding [v, ov, iv] (setItem ov iv v)
      release [v, ov, iv] []) := by intro _; rfl) : SG X Er (.Subscript o i pos) (tSubG fo fi) := by
  obtain ⟨to, po, qo⟩ := ho.ex
  obtain ⟨ti, pi, qi⟩ := hi.ex
  refine ⟨_, pg_sub po pi (PSet.or (PSet.or set_list (set_dict (by omega))) (set_dt (by omega))) ha, fun v d τ H ρ σ S Q T dv h => qo τ H ρ σ S _ T ((link h).mono (fun a S1 h1 => ?_) fun _ _ _ q => q)⟩
  intro ov H1 ρ1 t1 hr1 da
  refine qi τ H1 ρ1 σ S1 _ (T.to t1 hr1) ((link h1).mono (fun b S2 h2 => ?_) fun _ _ _ q => q.to t1)
  intro iv H2 ρ2 t2 hr2 db
  refine set_sat hr2 (da.to t2) db (dv.to (t1.trans t2)) (sat_calm (setG_calm _ _ _ _) ((link h2).mono (fun _ S3 h3 => ?_) fun _ _ _ q => q))
  intro H3 t3 hr3
  exact h3 τ H3 ρ2 ((t1.trans t2).trans t3) (T.to ((t1.trans t2).trans t3) hr3)
/-! ### statements -/
inductive Fl where
  | nx | rt (d : Dt) | bk | ct
abbrev FS := Sg → Bxs → Rs (Fl × Sg)
def KF (K : PySem.W.Frag) (H : Hp) (ρ : List Addr) (D : Ends) : Fl × Sg → Bxs → Prop := fun r S' => match r.1 with
  | .nx => KS K H ρ D.nx r.2 S'
  | .rt d => KO K H ρ D.rt d S'
  | .bk => KS K H ρ D.bk r.2 S'
  | .ct => KS K H ρ D.ct r.2 S'
theorem KF.to {D : Ends} {r : Fl × Sg} {S' : Bxs} (t : To H H1 ρ ρ1) (h : KF K H ρ D r S') : KF K H1 ρ1 D r S' := by
  obtain ⟨fl, σ'⟩ := r
  cases fl with
  | nx => exact fun τ' H' ρ' t' => h τ' H' ρ' (t.trans t')
  | rt d => exact fun v H' ρ' t' => h v H' ρ' (t.trans t')
  | bk => exact fun τ' H' ρ' t' => h τ' H' ρ' (t.trans t')
  | ct => exact fun τ' H' ρ' t' => h τ' H' ρ' (t.trans t')
theorem Rs.Sat.toF {r : Rs (Fl × Sg)} {D : Ends} (t : To H H1 ρ ρ1) (h : r.Sat (KF K H ρ D) (KX Er H ρ)) : r.Sat (KF K H1 ρ1 D) (KX Er H1 ρ1) :=
  h.mono (fun _ _ q => q.to t) fun _ _ _ q => q.to t
structure SS (X : Cx) (Er : ER) (st : Stmt) (f : FS) : Prop where
  ex : ∃ ts, PS X st ts ∧ ∀ τ H ρ σ S D, Ty X.K H ρ σ S τ → (f σ S).Sat (KF X.K H ρ D) (KX Er H ρ) → ts D τ H
structure SSs (X : Cx) (Er : ER) (st : List Stmt) (f : FS) : Prop where
  ex : ∃ ts, PSs X st ts ∧ ∀ τ H ρ σ S D, Ty X.K H ρ σ S τ → (f σ S).Sat (KF X.K H ρ D) (KX Er H ρ) → ts D τ H
def sNil : FS := fun σ S => .ok (.nx, σ) S
def sCons (f g : FS) : FS := fun σ S => (f σ S).bind fun r S1 => match r.1 with
  | .nx => g r.2 S1
  | _ => .ok r S1
theorem ss_nil : SSs X Er [] sNil := ⟨_, pss_nil, fun τ H ρ σ S D T h => h τ H ρ (To.refl _ _) T⟩
theorem ss_cons {st : Stmt} {rest : List Stmt} {f g : FS} (h1 : SS X Er st f) (h2 : SSs X Er rest g) : SSs X Er (st :: rest) (sCons f g) := by
  obtain ⟨t1, p1, q1⟩ := h1.ex
  obtain ⟨t2, p2, q2⟩ := h2.ex
  refine ⟨_, pss_cons p1 p2, fun τ H ρ σ S D T h => q1 τ H ρ σ S _ T ((link h).mono (fun r S1 h1 => ?_) fun _ _ _ q => q)⟩
  obtain ⟨fl, σ1⟩ := r
  cases fl with
  | nx =>
    intro τ1 H1 ρ1 t T1
    exact q2 τ1 H1 ρ1 σ1 S1 D T1 (Rs.Sat.toF t h1)
  | rt d => exact h1
  | bk => exact h1
  | ct => exact h1
theorem ss_one {st : Stmt} {f : FS} (h1 : SS X Er st f) : SSs X Er [st] f := let ⟨_, p, q⟩ := h1.ex; ⟨_, pss_one p, q⟩
def sExpr (f : FE) : FS := fun σ S => (f σ S).bind fun _ S1 => .ok (.nx, σ) S1
theorem ss_expr {e : Expr} {f : FE} {pos : Pos} (he : SE X Er e f) (hs : swapsWith e none pos.line X.env = pure false := by rfl) : SS X Er (.Expr e pos) (sExpr f) := by
  obtain ⟨te, p, q⟩ := he.ex
  refine ⟨_, ps_expr p hs, fun τ H ρ σ S D T h => q τ H ρ σ S _ T ((link h).mono (fun d S1 h1 => ?_) fun _ _ _ q => q)⟩
  intro v H' ρ' t hr _
  exact h1 τ H' ρ' t (T.to t hr)
def sRet (f : FE) : FS := fun σ S => (f σ S).bind fun d S1 => .ok (.rt d, σ) S1
theorem ss_ret {e : Expr} {f : FE} {pos : Pos} (he : SE X Er e f) : SS X Er (.Return (some e) pos) (sRet f) := by
  obtain ⟨te, p, q⟩ := he.ex
  exact ⟨_, ps_ret p, fun τ H ρ σ S D T h => q τ H ρ σ S _ T ((link h).mono (fun d S1 h1 => h1) fun _ _ _ q => q)⟩
def sAsg (f : FE) (g : FT) : FS := fun σ S => (f σ S).bind fun d S1 => (g d σ S1).bind fun σ1 S2 => .ok (.nx, σ1) S2
theorem ss_asg {tg e : Expr} {f : FE} {g : FT} {pos : Pos} (he : SE X Er e f) (hg : SG X Er tg g) (hs : swapsWithSole [tg] e pos.line X.env = pure false := by rfl) (hw : swappedStores [tg] e X.env = pure none := by rfl)
    (h1 : (assignEach [tg] X.env).map (·.2) = [assign tg X.env] := by rfl) : SS X Er (.Assign [tg] e pos) (sAsg f g) := by
  obtain ⟨te, p, q⟩ := he.ex
  obtain ⟨t, pg, qg⟩ := hg.ex
  refine ⟨_, ps_asg p pg hs hw h1, fun τ H ρ σ S D T h => q τ H ρ σ S _ T ((link h).mono (fun d S1 h1 => ?_) fun _ _ _ q => q)⟩
  intro v H1 ρ1 t1 hr1 dv
  refine qg v d τ H1 ρ1 σ S1 _ (T.to t1 hr1) dv ((link h1).mono (fun σ1 S2 h2 => ?_) fun _ _ _ q => q.to t1)
  intro τ2 H2 ρ2 t2 T2
  exact h2 τ2 H2 ρ2 (t1.trans t2) T2
/-- name = e -/
def sSet (i : Nat) (f : FE) : FS := fun σ S => (f σ S).bind fun d S1 => .ok (.nx, σ.set i (some d)) S1
theorem ss_set (i : Nat) {x : Str} {e : Expr} {f : FE} {pos pos' : Pos} (hN : X.N.Nodup) (he : SE X Er e f) (hi : X.N[i]? = some x := by rfl) (hx : Loc X.env.scope x := by first | exact .inl rfl | exact .inr rfl)
    (hs : swapsWith e (some (.Name x pos')) pos.line X.env = pure false := by rfl) (hf : X.fn x = true ∨ X.env.scope.names.lookup x = some .local := by first | exact .inl rfl | exact .inr rfl) : SS X Er (.Assign [.Name x pos'] e pos) (sSet i f) := by
  obtain ⟨te, p, q⟩ := he.ex
  refine ⟨_, ps_set (i := i) hN hi hx p hs hf, fun τ H ρ σ S D T h => q τ H ρ σ S _ T ((link h).mono (fun d S1 h1 => ?_) fun _ _ _ q => q)⟩
  intro v H1 ρ1 t1 hr1 dv
  exact h1 _ H1 ρ1 t1 ⟨hr1, (T.sl.to t1).set i dv⟩
/-- a, b = x, y by plain local names -/
def sPar2 (i j : Nat) (a : FA) : FS := fun σ S => (a σ S).bind fun ds S1 => match ds with
  | [d, e] => .ok (.nx, (σ.set i (some d)).set j (some e)) S1
  | _ => .no
theorem ss_par2 (i j : Nat) {x y : Str} {a b : Expr} {fa : FA} {px py pt pos : Pos} {kt k2 pt2} (hc : X.calm = true) (hN : X.N.Nodup) (ha : SA X Er [a, b] fa) (hi : X.N[i]? = some x := by rfl) (hj : X.N[j]? = some y := by rfl) (hij : i ≠ j := by decide)
    (hx : X.env.scope.names.lookup x = some .local := by rfl) (hy : X.env.scope.names.lookup y = some .local := by rfl)
    (hw : swappedStores [.Tuple [.Name x px, .Name y py] kt pt] (.Tuple [a, b] k2 pt2) X.env = pure (some [x, y]) := by rfl)
    (hs : swapsWithSole [.Tuple [.Name x px, .Name y py] kt pt] (.Tuple [a, b] k2 pt2) pos.line X.env = pure false := by rfl) :
    SS X Er (.Assign [.Tuple [.Name x px, .Name y py] kt pt] (.Tuple [a, b] k2 pt2) pos) (sPar2 i j fa) := by
  obtain ⟨ta, pa, qa⟩ := ha.ex
  refine ⟨_, ps_par hc hN hi hj hij hx hy pa hw hs, fun τ H ρ σ S D T h => qa τ H ρ σ S _ T ((link h).mono (fun ds S1 h1 => ?_) fun _ _ _ q => q)⟩
  intro vs H1 ρ1 t1 hr1 dvs
  cases dvs with
  | nil => exact h1.elim
  | cons d1 r1 =>
    cases r1 with
    | nil => exact h1.elim
    | cons d2 r2 =>
      cases r2 with
      | nil => exact ⟨_, _, rfl, h1 _ H1 ρ1 t1 ⟨hr1, ((T.sl.to t1).set i d1).set j d2⟩⟩
      | cons _ _ => exact h1.elim
def sIf (c : FB) (a b : FS) : FS := fun σ S => (c σ S).bind fun k S1 => if k = true then a σ S1 else b σ S1
theorem ss_if {c : Expr} {a b : List Stmt} {fc : FB} {fa fb : FS} {pos : Pos} (hc : ST X Er c fc) (ha : SSs X Er a fa) (hb : SSs X Er b fb) : SS X Er (.If c a b pos) (sIf fc fa fb) := by
  obtain ⟨tc, pc, qc⟩ := hc.ex
  obtain ⟨ta, pa, qa⟩ := ha.ex
  obtain ⟨tb, pb, qb⟩ := hb.ex
  refine ⟨_, ps_if pc pa pb, fun τ H ρ σ S D T h => qc τ H ρ σ S _ T ((link h).mono (fun k S1 h1 => ?_) fun _ _ _ q => q)⟩
  intro H1 ρ1 t1 hr1
  cases k with
  | true =>
    rw [if_pos rfl] at h1 ⊢
    exact qa τ H1 ρ1 σ S1 D (T.to t1 hr1) (Rs.Sat.toF t1 h1)
  | false =>
    rw [if_neg Bool.false_ne_true] at h1 ⊢
    exact qb τ H1 ρ1 σ S1 D (T.to t1 hr1) (Rs.Sat.toF t1 h1)
theorem ip_addI : PIp X .Add (rI0 fun i j => .int (i + j)) := ip_add
def addI : G2 := fun x y S => match x, y with
  | .int i, .int j => .ok (.int (i + j)) S
  | _, _ => .no
theorem addI_calm : Calm2 addI := by
  intro x y S
  unfold addI
  split <;> first | exact calm_ok _ _ | exact calm_no
theorem ro_addI : RO K (rI0 fun i j => .int (i + j)) addI := by
  intro H ρ S x y xv yv Q hr dx dy h
  cases dx <;> first | exact h.elim | skip
  cases dy <;> first | exact h.elim | skip
  exact ⟨_, _, rfl, rfl, ko_here hr h (.int _)⟩
end
end Mn
set_option Elab.async false
set_option linter.all false
set_option maxRecDepth 100000
set_option maxHeartbeats 4000000
/-! MnZ: zip and enumerate over lists and tuples in any mix. -/
namespace Mn
open PySem PySem.Spec PyProof.Rows L2
/-- a list (false) or a tuple (true), to be read -/
def SqX (k : Bool) (K : PySem.W.Frag) (H : Hp) (a : Addr) (xs : List V) : Prop := match k with
  | true => SqT K H a xs
  | false => SqL K H a xs
def HIt (k : Bool) (h : Heap) (it a : Addr) (i : Nat) : Prop := match k with
  | true => h.IsTupleIter it a i
  | false => h.IsListIter it a i
def HSq (k : Bool) (h : Heap) (a : Addr) (vs : Array Value) : Prop := match k with
  | true => h.IsTuple a vs
  | false => h.IsList a vs
def itObj (k : Bool) (a : Addr) : Obj := match k with
  | true => { cls := .type "tuple_iterator", data := .fields #[.ref a, .int 0 0] }
  | false => { cls := .type "list_iterator", data := .fields #[.ref a, .int 0 0] }
section
variable {X : Cx} {pins : List (Addr × Obj)} {σ : L2.St} {H : Hp} {s : Shared} {a : Addr} {xs ys : List V} {k : Bool}
theorem sqx_inv (I : Inv X pins σ H s) (h : SqX k X.K H a xs) : ∃ its : List Value, Vals xs its ∧ HSq k s.heap a its.toArray ∧ a < s.heap.objs.size := by
  cases k with
  | true =>
    obtain ⟨its, r, p, _⟩ := I.tuple h
    exact ⟨its, r, p, p.lt⟩
  | false =>
    obtain ⟨its, r, p, _⟩ := I.list h
    exact ⟨its, r, p.isList, p.lt⟩
theorem sqx_inj (I : Inv X pins σ H s) (h : SqX k X.K H a xs) (h' : SqX k X.K H a ys) : xs = ys := by
  cases k with
  | true => exact I.tuple_inj h h'
  | false => exact I.list_inj h h'
theorem drawsX {prog : Program} {w : World} {A : Around} (k : Bool) (hh : A.handled = none) (it l : Addr) (hne : l ≠ it) (items : Array Value) :
    Draws prog w A it [it, l] items.size (fun i v => items[i]? = some v) (fun i h => HIt k h it l i ∧ HSq k h l items) := by
  cases k with
  | true => exact Draws.tuple hh it l hne items
  | false => exact Draws.list hh it l hne items
theorem HIt.at {h h' : Heap} {it : Addr} {i : Nat} (x : HIt k h it a i) (f : ∀ o, h.get? it = some o → h'.get? it = some o) : HIt k h' it a i := by
  cases k with
  | true => exact Heap.IsTupleIter.at x f
  | false => exact Heap.IsListIter.at x f
theorem HIt.obj {h : Heap} {it : Addr} {i : Nat} (x : HIt k h it a i) : ∃ o, h.get? it = some o ∧ ∀ v, o.data ≠ .cell v := by
  cases k with
  | true =>
    obtain ⟨o, e, _, d⟩ := x
    exact ⟨o, e, fun v q => by rw [d] at q; cases q⟩
  | false =>
    obtain ⟨o, e, _, d⟩ := x
    exact ⟨o, e, fun v q => by rw [d] at q; cases q⟩
theorem beginsX (k : Bool) (l : Addr) (items : Array Value) : Begins (.ref l) (itObj k l) fun h => HSq k h l items := by
  cases k with
  | true => exact begins_tuple l items
  | false => exact begins_list l items
theorem hit_new {h : Heap} {it : Addr} (e : h.get? it = some (itObj k a)) : HIt k h it a 0 := by
  cases k with
  | true => exact ⟨_, e, rfl, rfl⟩
  | false => exact ⟨_, e, rfl, rfl⟩
end
/-! ### zip -/
def ItzX (k1 k2 : Bool) (K : PySem.W.Frag) (a b : Addr) : It where
  go := fun i H => ∃ (xs ys : List V) (x y : V), SqX k1 K H a xs ∧ SqX k2 K H b ys ∧ xs[i]? = some x ∧ ys[i]? = some y
  yld := fun i H v H' => ∃ T x y, v = .ref T ∧ H T = none ∧ H' = upd H T (.tup [x, y]) ∧ (∀ xs, SqX k1 K H a xs → xs[i]? = some x) ∧ ∀ ys, SqX k2 K H b ys → ys[i]? = some y
  stop := fun i H => ∃ xs ys : List V, SqX k1 K H a xs ∧ SqX k2 K H b ys ∧ i ≤ xs.length ∧ i ≤ ys.length ∧ (i = xs.length ∨ i = ys.length)
/-- the cells apart -/
structure ZA (z TI TO i1 i2 a b : Addr) : Prop where
  sep : ZipSep2 z TI TO i1 i2 [i1, a] [i2, b]
  ai1 : a ≠ i1
  bi2 : b ≠ i2
  TIi2 : TI ≠ i2
theorem turn_zipX {P : Program} {w : World} {K : PySem.W.Frag} {elts : List Expr} {kk : Nat} {tpos : Pos} {k1 k2 : Bool} {a b z TI TO i1 i2 : Addr} (D : ZA z TI TO i1 i2 a b) :
    Turn P w K (.Tuple elts kk tpos) (ItzX k1 k2 K a b) [z, TI, TO, i1, i2] z
      (fun i h => IsZip h z TI TO .none ∧ IsTupOf2 h TI (.ref i1) (.ref i2) ∧ (∃ x y, IsTupOf2 h TO x y) ∧ HIt k1 h i1 a i ∧ HIt k2 h i2 b i) where
  mem := by simp
  obj := fun i h st c hc => by
    obtain ⟨hz, hTI, ⟨x, y, hTO⟩, h1, h2⟩ := st
    have e' : c = z ∨ c = TI ∨ c = TO ∨ c = i1 ∨ c = i2 := by simpa using hc
    rcases e' with rfl | rfl | rfl | rfl | rfl
    · exact ⟨_, hz, fun v q => nomatch q⟩
    · exact ⟨_, hTI, fun v q => nomatch q⟩
    · exact ⟨_, hTO, fun v q => nomatch q⟩
    · exact h1.obj
    · exact h2.obj
  keep := fun i h h' st f => by
    obtain ⟨hz, hTI, ⟨x, y, hTO⟩, h1, h2⟩ := st
    exact ⟨f z (by simp) _ hz, f TI (by simp) _ hTI, ⟨x, y, f TO (by simp) _ hTO⟩, h1.at fun o q => f i1 (by simp) o q, h2.at fun o q => f i2 (by simp) o q⟩
  item := by
    intro X hP hw hK hc i pins s σ H E I hf st hg
    subst hP hw hK
    obtain ⟨hz, hTI, ⟨x0, y0, hTO⟩, h1, h2⟩ := st
    obtain ⟨xs, ys, x, y, hqx, hqy, hx, hy⟩ := hg
    obtain ⟨its, rv, p, _⟩ := sqx_inv I hqx
    obtain ⟨its2, rv2, p2, _⟩ := sqx_inv I hqy
    obtain ⟨u, hu, ru⟩ := rv.get hx
    obtain ⟨u2, hu2, ru2⟩ := rv2.get hy
    have hzl : z < s.heap.objs.size := Heap.lt_size hz
    have l1 : i < its.toArray.size := by rw [List.size_toArray]; exact (List.getElem?_eq_some_iff.mp hu).1
    have l2 : i < its2.toArray.size := by rw [List.size_toArray]; exact (List.getElem?_eq_some_iff.mp hu2).1
    have d1 := drawsX (prog := X.prog) (w := X.w) (A := X.A.in1) k1 (I.ok.hd hc) i1 a D.ai1 its.toArray
    have d2 := drawsX (prog := X.prog) (w := X.w) (A := X.A.in1) k2 (I.ok.hd hc) i2 b D.bi2 its2.toArray
    refine wpAny_pyNext_zipD2_item D.sep d1 d2 hz hTI hTO ⟨h1, p⟩ ⟨h2, p2⟩ l1 l2 fun x1 x2 h' tk y1 y2 z' TO' s1 s2 hT hsz hk => ?_
    obtain rfl : u = x1 := Option.some.inj ((show its[i]? = some u from hu).symm.trans (by simpa using y1))
    obtain rfl : u2 = x2 := Option.some.inj ((show its2[i]? = some u2 from hu2).symm.trans (by simpa using y2))
    refine ⟨_, rfl, wpAny_letOwnedTupleGo_zip (s := { s with heap := h', toks := tk }) z' fun h'' z'' sb => ?_⟩
    have hT2 : h''.get? s.heap.objs.size = some { cls := .type "tuple", data := .seq #[u, u2] } := (sb.2 _ (Nat.ne_of_gt hzl)).trans hT
    have new : ObjOk X.prog X.w (upd H s.heap.objs.size (.tup [x, y])) h'' s.heap.objs.size (.tup [x, y]) :=
      ⟨by show 2 ≤ sizeLine; decide, [u, u2], .cons ru (.cons ru2 .nil), ⟨_, hT2, rfl, _, rfl⟩⟩
    have hk' : ∀ c o, c ∉ [z, TI, TO, i1, i2] → s.heap.get? c = some o → h''.get? c = some o := fun c o hb q => by
      simp only [List.mem_cons, List.not_mem_nil, or_false, not_or] at hb
      exact (sb.2 c hb.1).trans (hk c o hb.1 hb.2.2.1 hb.2.2.2.1 hb.2.2.2.2 q)
    have I1 : Inv X pins σ (upd H s.heap.objs.size (.tup [x, y])) { s with heap := h'', toks := tk } := I.turnedNew (t' := tk) (ch := [z, TI, TO, i1, i2]) hk' hf (Nat.le_refl _) new
    refine ⟨.ref s.heap.objs.size, _, I1, rfl, ⟨_, x, y, rfl, I.hok.fresh (Nat.le_refl _), rfl, fun l hl => by rw [sqx_inj I hl hqx]; exact hx, fun l hl => by rw [sqx_inj I hl hqy]; exact hy⟩, ⟨z'', ?_, ⟨u, u2, ?_⟩, ?_, ?_⟩, fun c hcm => ?_⟩
    · exact (sb.2 _ D.sep.TIz).trans (hk _ _ D.sep.TIz D.sep.TITO D.sep.TIi1 D.TIi2 hTI)
    · exact (sb.2 _ D.sep.TOz).trans TO'
    · exact s1.1.at fun o q => (sb.2 _ D.sep.zi1.symm).trans q
    · exact s2.1.at fun o q => (sb.2 _ D.sep.zi2.symm).trans q
    · rw [upd_ne]
      · exact (hf c hcm).1
      · have e' : c = z ∨ c = TI ∨ c = TO ∨ c = i1 ∨ c = i2 := by simpa using hcm
        refine Nat.ne_of_lt ?_
        rcases e' with rfl | rfl | rfl | rfl | rfl
        · exact hzl
        · exact Heap.lt_size hTI
        · exact Heap.lt_size hTO
        · obtain ⟨_, e1, _⟩ := h1.obj; exact Heap.lt_size e1
        · obtain ⟨_, e2, _⟩ := h2.obj; exact Heap.lt_size e2
  done := by
    intro X hP hw hK hc i pins s σ H E I hf st hg
    subst hP hw hK
    obtain ⟨hz, hTI, ⟨x0, y0, hTO⟩, h1, h2⟩ := st
    obtain ⟨xs, ys, hqx, hqy, hl1, hl2, hend⟩ := hg
    obtain ⟨its, rv, p, _⟩ := sqx_inv I hqx
    obtain ⟨its2, rv2, p2, _⟩ := sqx_inv I hqy
    have l1 := rv.length
    have l2 := rv2.length
    have d1 := drawsX (prog := X.prog) (w := X.w) (A := X.A.in1) k1 (I.ok.hd hc) i1 a D.ai1 its.toArray
    have d2 := drawsX (prog := X.prog) (w := X.w) (A := X.A.in1) k2 (I.ok.hd hc) i2 b D.bi2 its2.toArray
    refine wpAny_pyNext_zipD2_end D.sep d1 d2 hz hTI hTO ⟨h1, p⟩ ⟨h2, p2⟩
      (by rw [List.size_toArray]; omega) (by rw [List.size_toArray]; omega) (by rw [List.size_toArray, List.size_toArray]; omega) fun h' tk hk => ⟨rfl, I.turnedL (t' := tk) (ch := [z, TI, TO, i1, i2]) (fun c o hb q => ?_) hf⟩
    simp only [List.mem_cons, List.not_mem_nil, or_false, not_or] at hb
    exact hk c o hb.1 hb.2.2.1 hb.2.2.2.1 hb.2.2.2.2 q
  self := fun A i s Q E st h => wpAny_pyIter_zip st.1 h
def iZipX (k1 k2 : Bool) (K : PySem.W.Frag) (ta : TA) : TI := fun σ H R => ta σ H fun vs H1 => ∃ a b xs ys, vs = [.ref a, .ref b] ∧ SqX k1 K H1 a xs ∧ SqX k2 K H1 b ys ∧ R (ItzX k1 k2 K a b) H1
theorem pi_zipX {X : Cx} {e e2 : Expr} {ta : TA} {p pos tpos : Pos} {elts : List Expr} {kk : Nat} (k1 k2 : Bool) (hg : Gl X "zip") (hm : X.mg "zip" = none) (ha : PA X [e, e2] ta)
    (hs : starEach [e, e2] X.env = (false, eval e X.env) :: starEach [e2] X.env := by rfl) (hpl : (backTo pos (starEach [e2] X.env)).any (·.1) = false := by rfl) :
    PI X (.Tuple elts kk tpos) (.Call (.Name "zip" p) [e, e2] [] pos) (iZipX k1 k2 X.K ta) := by
  constructor
  intro pins s σ H R I h
  refine Call_ (ld_blt I hg hm PyProof.Rows.boot_zip (PyProof.Rows.callWith_type1 (thn (ha.run pos pins s σ H _ I h) ?_) hs hpl))
  rintro us s1 ⟨vs, H1, I1, r1, a, b, xs, ys, rfl, hqx, hqy, q⟩
  obtain ⟨u1, u2, rfl, ra, rb⟩ := r1.two
  cases ra
  cases rb
  obtain ⟨its, rv, p1, la⟩ := sqx_inv I1 hqx
  obtain ⟨its2, rv2, p2, lb⟩ := sqx_inv I1 hqy
  refine zip_begins2 (beginsX k1 a its.toArray) (beginsX k2 b its2.toArray) p1 p2 fun h' hz hTI hTO g1 g2 hsz hk => wpAny_pyIter_zip hz ?_
  have I2 : Inv X pins σ H1 { s1 with heap := h' } := I1.kept (t' := s1.toks) hk
  have dz : ZA (s1.heap.objs.size + 4) (s1.heap.objs.size + 2) (s1.heap.objs.size + 3) s1.heap.objs.size (s1.heap.objs.size + 1) a b :=
    ⟨zip_sep2 (fp1 := [a]) (fp2 := [b]) (by intro c hc; rw [List.mem_singleton.mp hc]; exact la) (by intro c hc; rw [List.mem_singleton.mp hc]; exact lb),
      Nat.ne_of_lt la, Nat.ne_of_lt (Nat.lt_succ_of_lt lb), Nat.ne_of_gt (Nat.lt_succ_self _)⟩
  refine ⟨s1.heap.objs.size + 4, [s1.heap.objs.size + 4, s1.heap.objs.size + 2, s1.heap.objs.size + 3, s1.heap.objs.size, s1.heap.objs.size + 1], _, _, H1, rfl, I2, turn_zipX dz, ⟨hz, hTI, ⟨_, _, hTO⟩, hit_new g1, hit_new g2⟩, fun c hcm => ?_, q⟩
  have hle : s1.heap.objs.size ≤ c := by
    have e' : c = s1.heap.objs.size + 4 ∨ c = s1.heap.objs.size + 2 ∨ c = s1.heap.objs.size + 3 ∨ c = s1.heap.objs.size ∨ c = s1.heap.objs.size + 1 := by simpa using hcm
    rcases e' with z | z | z | z | z <;> rw [z] <;> first | exact Nat.le_add_right _ _ | exact Nat.le_refl _
  exact I1.fpOk hle (I1.hok.fresh hle)
end Mn
set_option Elab.async false
set_option linter.all false
set_option maxRecDepth 100000
set_option maxHeartbeats 4000000
/-! MnF: what is walked, loops, comprehensions. -/
namespace Mn
open PySem PySem.Spec PyProof.Rows L2
section
variable {X : Cx} {Er : ER} {K : PySem.W.Frag} {H H1 : Hp} {ρ ρ1 : List Addr} {σ : Sg} {S S1 : Bxs} {τ : L2.St}
/-! ### items -/
/-- how an item of a walk comes, told at the heap ahead: the item, the value that is yielded, the heap behind -/
abbrev IRel (α : Type) := PySem.W.Frag → Hp → List Addr → α → V → Hp → Prop
def itS : IRel Dt := fun K H ρ a x H' => H' = H ∧ DV K H ρ a x
def itP : IRel (Dt × Dt) := fun K H ρ a x H' => ∃ T x1 x2, x = .ref T ∧ H T = none ∧ H' = upd H T (.tup [x1, x2]) ∧ DV K H ρ a.1 x1 ∧ DV K H ρ a.2 x2
abbrev Src (α : Type) := Sg → Bxs → Rs (List α × (Bxs → Prop))
/-- a walk: its items, and what must stand all the while -/
def KI {α : Type} (K : PySem.W.Frag) (H : Hp) (ρ : List Addr) (it : IRel α) (R : It → Hp → Prop) : List α × (Bxs → Prop) → Bxs → Prop := fun r S1 =>
  ∀ H1 ρ1 J G Y, To H H1 ρ ρ1 → HR K H1 ρ1 S1 → Walk J r.1.length G Y → (∀ H' ρ' S', To H1 H' ρ1 ρ' → HR K H' ρ' S' → r.2 S' → G H') →
    (∀ i a x H' H'' ρ' S', To H1 H' ρ1 ρ' → HR K H' ρ' S' → r.2 S' → r.1[i]? = some a → Y i H' x H'' → it K H' ρ' a x H'') → R J H1
structure SI {α : Type} (X : Cx) (Er : ER) (it : IRel α) (tg iter : Expr) (src : Src α) : Prop where
  ex : ∃ wi, PI X tg iter wi ∧ ∀ τ H ρ σ S R, Ty X.K H ρ σ S τ → (src σ S).Sat (KI X.K H ρ it R) (KX Er H ρ) → wi τ H R
theorem PI.or {tg iter : Expr} {w1 w2 : TI} (h1 : PI X tg iter w1) (h2 : PI X tg iter w2) : PI X tg iter (fun σ H R => w1 σ H R ∨ w2 σ H R) :=
  ⟨fun pins s σ H R I h => h.elim (h1.run pins s σ H R I) (h2.run pins s σ H R I)⟩
/-- tuple (true) or list (false) -/
def Dt.isT : Dt → Bool
  | .tup _ => true
  | _ => false
theorem sqx_of {d : Dt} {v : V} {xs : List Dt} (hr : HR K H ρ S) (h : DV K H ρ d v) (hs : seqOf S d = some xs) : ∃ a vs, v = .ref a ∧ SqX d.isT K H a vs ∧ DVs K H ρ xs vs := by
  cases h <;> first | (cases hs; done) | skip
  · rename_i a ds vs ht hd
    cases hs
    exact ⟨a, vs, rfl, ht.sqt, hd⟩
  · rename_i n a ha
    obtain ⟨vs, h1, h2⟩ := hr.rd ha hs
    exact ⟨a, vs, rfl, h1, h2⟩
def ItX (k : Bool) (K : PySem.W.Frag) (a : Addr) : It := match k with
  | true => Itt K a
  | false => Itl K a
theorem walkX {k : Bool} {a : Addr} {n : Nat} : Walk (ItX k K a) n (fun H => ∃ vs, SqX k K H a vs ∧ vs.length = n) (fun i H x H' => H' = H ∧ ∀ vs, SqX k K H a vs → vs[i]? = some x) := by
  cases k with
  | true =>
    exact ⟨fun i _ hi ⟨vs, q, hl⟩ => ⟨vs, vs[i]'(by omega), q, by simp [hl, hi]⟩, fun _ ⟨vs, q, hl⟩ => ⟨vs, q, by omega⟩, fun _ _ _ _ _ _ y => y⟩
  | false =>
    exact ⟨fun i _ hi ⟨vs, q, hl⟩ => ⟨vs, vs[i]'(by omega), q, by simp [hl, hi]⟩, fun _ ⟨vs, q, hl⟩ => ⟨vs, q, by omega⟩, fun _ _ _ _ _ _ y => y⟩
theorem walkZ {k1 k2 : Bool} {a b : Addr} {n1 n2 : Nat} :
    Walk (ItzX k1 k2 K a b) (min n1 n2) (fun H => ∃ vs ws, SqX k1 K H a vs ∧ SqX k2 K H b ws ∧ vs.length = n1 ∧ ws.length = n2)
      (fun i H v H' => ∃ T x y, v = .ref T ∧ H T = none ∧ H' = upd H T (.tup [x, y]) ∧ (∀ xs, SqX k1 K H a xs → xs[i]? = some x) ∧ ∀ ys, SqX k2 K H b ys → ys[i]? = some y) := by
  refine ⟨fun i _ hi ⟨vs, ws, q1, q2, l1, l2⟩ => ?_, fun _ ⟨vs, ws, q1, q2, l1, l2⟩ => ⟨vs, ws, q1, q2, by omega, by omega, by omega⟩, fun i H v H' _ _ y => y⟩
  · exact ⟨vs, ws, vs[i]'(by omega), ws[i]'(by omega), q1, q2, by simp [show i < vs.length by omega], by simp [show i < ws.length by omega]⟩
/-- a list, a tuple -/
def srcSeq (f : FE) : Src Dt := fun σ S => (f σ S).bind fun d S1 => match seqOf S1 d with
  | some xs => .ok (xs, fun S' => seqOf S' d = some xs) S1
  | none => .no
theorem si_seq {tg iter : Expr} {f : FE} (h : SE X Er iter f) : SI X Er itS tg iter (srcSeq f) := by
  obtain ⟨te, p, q⟩ := h.ex
  refine ⟨_, PI.or (pi_list p) (pi_tup p), fun τ H ρ σ S R T h => ?_⟩
  have h := link h
  cases e : f σ S with
  | no => rw [e] at h; exact h.elim
  | ex c ds s' =>
    rw [e] at h
    exact .inl (q τ H ρ σ S _ T (by rw [e]; exact h))
  | ok d S1 =>
    rw [e] at h
    have h : (match seqOf S1 d with
      | some xs => Rs.ok (xs, fun S' => seqOf S' d = some xs) S1
      | none => Rs.no).Sat (KI X.K H ρ itS R) (KX Er H ρ) := h
    cases e2 : seqOf S1 d with
    | none => rw [e2] at h; exact h.elim
    | some xs =>
      rw [e2] at h
      have h : KI X.K H ρ itS R (xs, fun S' => seqOf S' d = some xs) S1 := h
      have core : ∀ v H1 ρ1, To H H1 ρ ρ1 → HR X.K H1 ρ1 S1 → DV X.K H1 ρ1 d v → ∃ a, v = .ref a ∧ (∃ vs, SqX d.isT X.K H1 a vs) ∧ R (ItX d.isT X.K a) H1 := by
        intro v H1 ρ1 t1 hr1 dv
        obtain ⟨a, vs, rfl, hs, hd⟩ := sqx_of hr1 dv e2
        refine ⟨a, rfl, ⟨vs, hs⟩, h H1 ρ1 _ _ _ t1 hr1 walkX (fun H' ρ' S' t hr' st => ?_) fun i x y H' H'' ρ' S' t hr' st hi hy => ?_⟩
        · obtain ⟨a', vs', ea, hs', hd'⟩ := sqx_of hr' (dv.to t) st
          cases ea
          exact ⟨vs', hs', hd'.length.symm⟩
        · obtain ⟨e3, hx⟩ := hy
          obtain ⟨a', vs', ea, hs', hd'⟩ := sqx_of hr' (dv.to t) st
          cases ea
          obtain ⟨v', h3, h4⟩ := hd'.get hi
          rw [hx vs' hs'] at h3
          cases h3
          exact ⟨e3, h4⟩
      cases hk : d.isT with
      | true =>
        refine .inr (q τ H ρ σ S _ T ?_)
        rw [e]
        intro v H1 ρ1 t1 hr1 dv
        have := core v H1 ρ1 t1 hr1 dv
        rw [hk] at this
        exact this
      | false =>
        refine .inl (q τ H ρ σ S _ T ?_)
        rw [e]
        intro v H1 ρ1 t1 hr1 dv
        have := core v H1 ρ1 t1 hr1 dv
        rw [hk] at this
        exact this
/-- range(n), range(a, b) -/
def rgD (lo : Int) (n : Nat) : List Dt := (List.range n).map fun (i : Nat) => Dt.int (lo + (i : Int))
theorem rgD_get {lo : Int} {n i : Nat} {a : Dt} (h : (rgD lo n)[i]? = some a) : a = .int (lo + (i : Int)) := by
  unfold rgD at h
  rw [List.getElem?_map] at h
  by_cases hi : i < n
  · rw [List.getElem?_range hi] at h
    exact (Option.some.inj h).symm
  · rw [List.getElem?_eq_none (by rw [List.length_range]; omega)] at h
    cases h
def inR (j : Int) : Prop := -(2 ^ 62) ≤ j ∧ j < 2 ^ 62
instance (j : Int) : Decidable (inR j) := by unfold inR; infer_instance
def srcR1 (f : FA) : Src Dt := fun σ S => (f σ S).bind fun ds S1 => match ds with
  | [.int j] => if inR j then .ok (rgD 0 j.toNat, fun _ => True) S1 else .no
  | _ => .no
theorem range_ki {R : It → Hp → Prop} {lo : Int} {n : Nat} {st : Bxs → Prop} (h : KI K H ρ itS R (rgD lo n, st) S1) (t : To H H1 ρ ρ1) (hr : HR K H1 ρ1 S1) : R (Itr lo n) H1 := by
  have hl : (rgD lo n).length = n := by unfold rgD; rw [List.length_map, List.length_range]
  refine h H1 ρ1 (Itr lo n) (fun _ => True) (YFn fun i => .int (lo + i)) t hr (by rw [hl]; exact walk_range) (fun _ _ _ _ _ _ => trivial) fun i a x H' H'' ρ' S' _ _ _ hi hy => ?_
  obtain ⟨e1, e2⟩ := hy
  rw [rgD_get hi, e2]
  exact ⟨e1, .int _⟩
theorem si_r1 {tg a : Expr} {fa : FA} {p pos : Pos} (hg : Gl X "range") (hm : X.mg "range" = none) (ha : SA X Er [a] fa) (hs : starEach [a] X.env = [(false, eval a X.env)] := by rfl) : SI X Er itS tg (.Call (.Name "range" p) [a] [] pos) (srcR1 fa) := by
  obtain ⟨ta, pa, qa⟩ := ha.ex
  refine ⟨_, pi_range1 hg hm pa hs, fun τ H ρ σ S R T h => qa τ H ρ σ S _ T ((link h).mono (fun ds S1 h1 => ?_) fun _ _ _ q => q)⟩
  intro vs H1 ρ1 t1 hr1 dvs
  split at h1
  · rename_i j
    obtain ⟨c, h1⟩ := ite_sat h1
    cases dvs with
    | cons d r =>
      cases r
      cases d
      exact ⟨_, rfl, c.1, c.2, range_ki h1 t1 hr1⟩
  · exact h1.elim
/-- zip -/
def srcZip (f : FA) : Src (Dt × Dt) := fun σ S => (f σ S).bind fun ds S1 => match ds with
  | [d, e] => match seqOf S1 d, seqOf S1 e with
    | some xs, some ys => .ok (xs.zip ys, fun S' => seqOf S' d = some xs ∧ seqOf S' e = some ys) S1
    | _, _ => .no
  | _ => .no
theorem PI.or4 {tg iter : Expr} {w : Bool → Bool → TI} (h : ∀ a b, PI X tg iter (w a b)) : PI X tg iter (fun σ H R => ∃ a b, w a b σ H R) :=
  ⟨fun pins s σ H R I ⟨a, b, q⟩ => (h a b).run pins s σ H R I q⟩
theorem si_zip {elts : List Expr} {kk : Nat} {tpos : Pos} {a b : Expr} {fa : FA} {p pos : Pos} (hg : Gl X "zip") (hm : X.mg "zip" = none) (ha : SA X Er [a, b] fa)
    (hs : starEach [a, b] X.env = (false, eval a X.env) :: starEach [b] X.env := by rfl) (hpl : (backTo pos (starEach [b] X.env)).any (·.1) = false := by rfl) :
    SI X Er itP (.Tuple elts kk tpos) (.Call (.Name "zip" p) [a, b] [] pos) (srcZip fa) := by
  obtain ⟨ta, pa, qa⟩ := ha.ex
  refine ⟨_, PI.or4 fun k1 k2 => pi_zipX k1 k2 hg hm pa hs hpl, fun τ H ρ σ S R T h => ?_⟩
  have h := link h
  cases e : fa σ S with
  | no => rw [e] at h; exact h.elim
  | ex c ds s' =>
    rw [e] at h
    exact ⟨true, true, qa τ H ρ σ S _ T (by rw [e]; exact h)⟩
  | ok ds S1 =>
    rw [e] at h
    rcases ds with _ | ⟨d, _ | ⟨d2, _ | ⟨d3, dr⟩⟩⟩
    · exact h.elim
    · exact h.elim
    · cases e1 : seqOf S1 d with
      | none =>
        simp only [Rs.Sat, e1] at h
      | some xs =>
       cases e2 : seqOf S1 d2 with
       | none =>
        simp only [Rs.Sat, e1, e2] at h
       | some ys =>
        have h : KI X.K H ρ itP R (xs.zip ys, fun S' => seqOf S' d = some xs ∧ seqOf S' d2 = some ys) S1 := by
          simpa only [Rs.Sat, e1, e2] using h
        refine ⟨d.isT, d2.isT, qa τ H ρ σ S _ T ?_⟩
        rw [e]
        intro vs H1 ρ1 t1 hr1 dvs
        cases dvs with
        | cons dv r =>
          cases r with
          | cons dv2 r =>
            cases r
            obtain ⟨a, us, rfl, hs1, hd1⟩ := sqx_of hr1 dv e1
            obtain ⟨b, ws, rfl, hs2, hd2⟩ := sqx_of hr1 dv2 e2
            refine ⟨a, b, us, ws, rfl, hs1, hs2, h H1 ρ1 _ _ _ t1 hr1 (by rw [List.length_zip]; exact walkZ (n1 := xs.length) (n2 := ys.length)) (fun H' ρ' S' t hr' st => ?_) fun i x y H' H'' ρ' S' t hr' st hi hy => ?_⟩
            · obtain ⟨a', us', ea, q1, q2⟩ := sqx_of hr' (dv.to t) st.1
              obtain ⟨b', ws', eb, q3, q4⟩ := sqx_of hr' (dv2.to t) st.2
              cases ea
              cases eb
              exact ⟨us', ws', q1, q3, q2.length.symm, q4.length.symm⟩
            · obtain ⟨U, x1, x2, h1, h2, h3, h4, h5⟩ := hy
              obtain ⟨a', us', ea, q1, q2⟩ := sqx_of hr' (dv.to t) st.1
              obtain ⟨b', ws', eb, q3, q4⟩ := sqx_of hr' (dv2.to t) st.2
              cases ea
              cases eb
              obtain ⟨p1, p2⟩ := x
              have hz := List.getElem?_zip_eq_some.mp hi
              obtain ⟨v1, g1, g2⟩ := q2.get hz.1
              obtain ⟨v2, g3, g4⟩ := q4.get hz.2
              rw [h4 us' q1] at g1
              rw [h5 ws' q3] at g3
              cases g1
              cases g3
              exact ⟨U, _, _, h1, h2, h3, g2, g4⟩
    · exact h.elim
/-! ### targets of walks -/
structure SGi {α : Type} (X : Cx) (Er : ER) (it : IRel α) (tg : Expr) (g : α → Sg → Bxs → Rs Sg) : Prop where
  ex : ∃ t, PG X tg t ∧ ∀ v a τ H H' ρ σ S Q, Ty X.K H ρ σ S τ → it X.K H ρ a v H' → (g a σ S).Sat (KS X.K H ρ Q) (KX Er H ρ) → t v τ H' Q
theorem sgi_one {tg : Expr} {g : FT} (h : SG X Er tg g) : SGi X Er itS tg g := by
  obtain ⟨t, p, q⟩ := h.ex
  refine ⟨t, p, fun v a τ H H' ρ σ S Q T hi hs => ?_⟩
  obtain ⟨rfl, dv⟩ := hi
  exact q v a τ _ ρ σ S Q T dv hs
def tPairG (g : FTs) : Dt × Dt → Sg → Bxs → Rs Sg := fun a σ S => g [a.1, a.2] σ S
theorem sgi_pair {es : List Expr} {k : Nat} {pos : Pos} {g : FTs} (hc : X.calm = true) (h : SGs X Er es g) (hn : (assignEach es X.env).length = 2 := by rfl) (hst : (assignEach es X.env).findIdx? (·.1) = none := by rfl) : SGi X Er itP (.Tuple es k pos) (tPairG g) := by
  obtain ⟨t, p, q⟩ := h.ex
  refine ⟨_, pg_tup hc p hn hst, fun v a τ H H' ρ σ S Q T hi hs => ?_⟩
  obtain ⟨U, x1, x2, rfl, hU, rfl, d1, d2⟩ := hi
  have t1 : To H (upd H U (.tup [x1, x2])) ρ ρ := ⟨Ext.new hU, List.prefix_refl _⟩
  exact ⟨U, [x1, x2], rfl, SqT.of upd_same, rfl, q _ _ τ _ ρ σ S Q (T.to t1 (T.hr.tup hU)) (.cons (d1.to t1) (.cons (d2.to t1) .nil)) (Rs.Sat.toS t1 hs)⟩
def canG {α : Type} (K : PySem.W.Frag) (Er : ER) (it : IRel α) (g : α → Sg → Bxs → Rs Sg) : TG := fun v τ H' Q => ∃ H a ρ σ S, Ty K H ρ σ S τ ∧ it K H ρ a v H' ∧ (g a σ S).Sat (KS K H ρ Q) (KX Er H ρ)
theorem SGi.can {α : Type} {it : IRel α} {tg : Expr} {g : α → Sg → Bxs → Rs Sg} (h : SGi X Er it tg g) : PG X tg (canG X.K Er it g) := by
  obtain ⟨t, p, q⟩ := h.ex
  exact ⟨fun pins s τ H' v u Q I r ⟨H, a, ρ, σ, S, T, hi, hs⟩ => p.run pins s τ H' v u Q I r (q _ _ _ _ _ _ _ _ _ T hi hs)⟩
/-! ### for -/
open Classical in
noncomputable def loopF {α : Type} (st : Bxs → Prop) (g : α → Sg → Bxs → Rs Sg) (body : FS) : List α → Sg → Bxs → Rs (Fl × Sg)
  | [], σ, S => if st S then .ok (.nx, σ) S else .no
  | x :: xs, σ, S => if st S then (g x σ S).bind fun σ1 S1 => (body σ1 S1).bind fun r S2 => match r.1 with
      | .nx => loopF st g body xs r.2 S2
      | .ct => loopF st g body xs r.2 S2
      | .bk => .ok (.nx, r.2) S2
      | .rt d => .ok (.rt d, r.2) S2 else .no
noncomputable def sFor {α : Type} (src : Src α) (g : α → Sg → Bxs → Rs Sg) (body : FS) : FS := fun σ S => (src σ S).bind fun r S1 => loopF r.2 g body r.1 σ S1
theorem iteC_sat {α : Type} {c : Prop} {dc : Decidable c} {r : Rs α} {P : α → Bxs → Prop} {E : Nat → List Dt → Bxs → Prop} (h : (@ite _ c dc r .no).Sat P E) : c ∧ r.Sat P E := by
  by_cases hc : c
  · rw [if_pos hc] at h; exact ⟨hc, h⟩
  · rw [if_neg hc] at h; exact h.elim
theorem loop_st {α : Type} {st : Bxs → Prop} {g : α → Sg → Bxs → Rs Sg} {body : FS} {xs : List α} {P : Fl × Sg → Bxs → Prop} {E : Nat → List Dt → Bxs → Prop} (h : (loopF st g body xs σ S).Sat P E) : st S := by
  cases xs with
  | nil => unfold loopF at h; exact (iteC_sat h).1
  | cons x xs => unfold loopF at h; exact (iteC_sat h).1
theorem ss_for {α : Type} {it : IRel α} {tg iter : Expr} {body : List Stmt} {src : Src α} {g : α → Sg → Bxs → Rs Sg} {fb : FS} {pos : Pos} (hp : PassesOwn (model X.prog X.w) X.A X.env X.xe) (hc : X.calm = true) (hi : SI X Er it tg iter src) (hg : SGi X Er it tg g) (hb : SSs X Er body fb)
    (hs : ∀ x, foldedSetIterable iter X.env x = pure x := by intro _; rfl) : SS X Er (.For tg iter body [] pos) (sFor src g fb) := by
  obtain ⟨wi, pi, qi⟩ := hi.ex
  obtain ⟨t, pg, qg⟩ := hg.ex
  obtain ⟨tb, pb, qb⟩ := hb.ex
  refine ⟨_, ps_for hp hc pi pg pb hs, fun τ H ρ σ S D T h => qi τ H ρ σ S _ T ((link h).mono (fun r S1 h1 => ?_) fun _ _ _ q => q)⟩
  obtain ⟨xs, st⟩ := r
  intro H1 ρ1 J G Y t1 hr1 w hG hY
  refine for_it w (fun i τ' H' => ∃ ρ' σ' S', To H1 H' ρ1 ρ' ∧ Ty X.K H' ρ' σ' S' τ' ∧ (loopF st g fb (xs.drop i) σ' S').Sat (KF X.K H' ρ' D) (KX Er H' ρ'))
    ⟨ρ1, σ, S1, To.refl _ _, T.to t1 hr1, Rs.Sat.toF t1 h1⟩ (fun i τ' H' _ ⟨ρ', σ', S', t', T', h'⟩ => hG H' ρ' S' t' T'.hr (loop_st h')) (fun i x τ' H' H'' hlt ⟨ρ', σ', S', t', T', h'⟩ hy => ?_) fun τ' H' ⟨ρ', σ', S', t', T', h'⟩ => ?_
  · have hi : xs[i]? = some xs[i] := List.getElem?_eq_getElem hlt
    have hd : xs.drop i = xs[i] :: xs.drop (i + 1) := List.drop_eq_getElem_cons hlt
    rw [hd] at h'
    have hst := loop_st h'
    unfold loopF at h'
    obtain ⟨_, h'⟩ := iteC_sat h'
    refine qg x xs[i] τ' H' H'' ρ' σ' S' _ T' (hY i _ x H' H'' ρ' S' t' T'.hr hst hi hy) ((link h').mono (fun σ1 S2 h2 => ?_) fun _ _ _ q => q)
    intro τ2 H2 ρ2 t2 T2
    refine qb τ2 H2 ρ2 σ1 S2 _ T2 ((link h2).mono (fun r S3 h3 => ?_) fun _ _ _ q => q.to t2)
    obtain ⟨fl, σ3⟩ := r
    cases fl with
    | nx =>
      intro τ3 H3 ρ3 t3 T3
      exact ⟨ρ3, σ3, S3, (t'.trans t2).trans t3, T3, Rs.Sat.toF (t2.trans t3) h3⟩
    | ct =>
      intro τ3 H3 ρ3 t3 T3
      exact ⟨ρ3, σ3, S3, (t'.trans t2).trans t3, T3, Rs.Sat.toF (t2.trans t3) h3⟩
    | bk =>
      intro τ3 H3 ρ3 t3 T3
      exact h3 τ3 H3 ρ3 (t2.trans t3) T3
    | rt d =>
      intro v H3 ρ3 t3 hr3 dv
      exact h3 v H3 ρ3 (t2.trans t3) hr3 dv
  · rw [List.drop_length] at h'
    unfold loopF at h'
    obtain ⟨_, h'⟩ := iteC_sat h'
    exact h' τ' H' ρ' (To.refl _ _) T'
end
end Mn
set_option Elab.async false
set_option linter.all false
set_option maxRecDepth 100000
set_option maxHeartbeats 4000000
/-! MnG: comprehensions. -/
namespace Mn
open PySem PySem.Spec PyProof.Rows L2
/-- nothing leaves a comprehension -/
abbrev noEr : ER := fun _ _ _ _ _ => False
section
variable {X : Cx} {Er : ER} {K : PySem.W.Frag} {H H1 : Hp} {ρ ρ1 : List Addr} {σ : Sg} {S S1 : Bxs} {τ : L2.St}
/-! ### targets that keep to the block's own slots -/
def KW (K : PySem.W.Frag) (H : Hp) (ρ : List Addr) (vs : List Nat) (τ : L2.St) (Q : L2.St → Hp → Prop) : Sg → Bxs → Prop := fun σ' S' => ∀ τ' H' ρ', To H H' ρ ρ' → Ty K H' ρ' σ' S' τ' → L2.wipe τ' vs = L2.wipe τ vs → Q τ' H'
structure SV (X : Cx) (vs : List Nat) (tg : Expr) (g : FT) : Prop where
  ex : ∃ t, PG X tg t ∧ ∀ v d τ H ρ σ S Q, Ty X.K H ρ σ S τ → DV X.K H ρ d v → (g d σ S).Sat (KW X.K H ρ vs τ Q) noX → t v τ H Q
structure SVs (X : Cx) (vs : List Nat) (ts : List Expr) (g : FTs) : Prop where
  ex : ∃ t, PGs X ts t ∧ ∀ us ds τ H ρ σ S Q, Ty X.K H ρ σ S τ → DVs X.K H ρ ds us → (g ds σ S).Sat (KW X.K H ρ vs τ Q) noX → t us τ H Q
theorem wipe_set {i : Nat} {o : Option V} : ∀ {vs : List Nat} {τ : L2.St}, i ∈ vs → L2.wipe (τ.set i o) vs = L2.wipe τ vs
  | v :: vs, τ, h => by
    by_cases hv : v = i
    · subst hv
      have key : ∀ (ws : List Nat) (τ : L2.St), (L2.wipe (τ.set v o) ws).set v none = (L2.wipe τ ws).set v none := by
        intro ws
        induction ws with
        | nil => intro τ; show (τ.set v o).set v none = τ.set v none; rw [List.set_set]
        | cons w ws ih =>
          intro τ
          show ((L2.wipe (τ.set v o) ws).set w none).set v none = ((L2.wipe τ ws).set w none).set v none
          by_cases hw : w = v
          · subst hw
            rw [List.set_set, List.set_set]
            exact ih τ
          · rw [List.set_comm _ _ hw, List.set_comm _ _ hw, ih τ]
      exact key vs τ
    · have h' : i ∈ vs := by
        rcases List.mem_cons.mp h with e | e
        · exact absurd e.symm hv
        · exact e
      show (L2.wipe (τ.set i o) vs).set v none = (L2.wipe τ vs).set v none
      rw [wipe_set h']
theorem sv_name (i : Nat) {x : Str} {pos : Pos} {vs : List Nat} (hN : X.N.Nodup) (hi : X.N[i]? = some x := by rfl) (hx : Loc X.env.scope x := by first | exact .inl rfl | exact .inr rfl) (hf : X.fn x = true ∨ X.env.scope.names.lookup x = some .local := by first | exact .inl rfl | exact .inr rfl)
    (hv : i ∈ vs := by decide) : SV X vs (.Name x pos) (tName i) :=
  ⟨_, pg_name hN hi hx hf, fun v d τ H ρ σ S Q T dv h => h _ H ρ (To.refl _ _) ⟨T.hr, T.sl.set i dv⟩ (wipe_set hv)⟩
theorem svs_nil {vs : List Nat} : SVs X vs [] tNilG := by
  refine ⟨_, pgs_nil, fun us ds τ H ρ σ S Q T dv h => ?_⟩
  cases dv with
  | nil => exact ⟨rfl, h τ H ρ (To.refl _ _) T rfl⟩
  | cons _ _ => exact h.elim
theorem svs_cons {vs : List Nat} {e : Expr} {es : List Expr} {g : FT} {r : FTs} (h1 : SV X vs e g) (h2 : SVs X vs es r) (hs : (assignEach (e :: es) X.env).map (·.2) = assign e X.env :: (assignEach es X.env).map (·.2) := by rfl) : SVs X vs (e :: es) (tConsG g r) := by
  obtain ⟨t1, p1, q1⟩ := h1.ex
  obtain ⟨t2, p2, q2⟩ := h2.ex
  refine ⟨_, pgs_cons p1 p2 hs, fun us ds τ H ρ σ S Q T dv h => ?_⟩
  cases dv with
  | nil => exact h.elim
  | cons dx dxs =>
    refine ⟨_, _, rfl, q1 _ _ τ H ρ σ S _ T dx ((link h).mono (fun σ1 S1 h1 => ?_) fun _ _ _ q => q)⟩
    intro τ1 H1 ρ1 t T1 w1
    exact q2 _ _ τ1 H1 ρ1 σ1 S1 Q T1 (dxs.to t) (h1.mono (fun σ2 S2 k τ2 H2 ρ2 t2 T2 w2 => k τ2 H2 ρ2 (t.trans t2) T2 (w2.trans w1)) fun _ _ _ q => q)
structure SVi {α : Type} (X : Cx) (vs : List Nat) (it : IRel α) (tg : Expr) (g : α → Sg → Bxs → Rs Sg) : Prop where
  ex : ∃ t, PG X tg t ∧ ∀ v a τ H H' ρ σ S Q, Ty X.K H ρ σ S τ → it X.K H ρ a v H' → (g a σ S).Sat (KW X.K H ρ vs τ Q) noX → t v τ H' Q
theorem svi_one {vs : List Nat} {tg : Expr} {g : FT} (h : SV X vs tg g) : SVi X vs itS tg g := by
  obtain ⟨t, p, q⟩ := h.ex
  refine ⟨t, p, fun v a τ H H' ρ σ S Q T hi hs => ?_⟩
  obtain ⟨rfl, dv⟩ := hi
  exact q v a τ _ ρ σ S Q T dv hs
theorem svi_pair {vs : List Nat} {es : List Expr} {k : Nat} {pos : Pos} {g : FTs} (hc : X.calm = true) (h : SVs X vs es g) (hn : (assignEach es X.env).length = 2 := by rfl) (hst : (assignEach es X.env).findIdx? (·.1) = none := by rfl) : SVi X vs itP (.Tuple es k pos) (tPairG g) := by
  obtain ⟨t, p, q⟩ := h.ex
  refine ⟨_, pg_tup hc p hn hst, fun v a τ H H' ρ σ S Q T hi hs => ?_⟩
  obtain ⟨U, x1, x2, rfl, hU, rfl, d1, d2⟩ := hi
  have t1 : To H (upd H U (.tup [x1, x2])) ρ ρ := ⟨Ext.new hU, List.prefix_refl _⟩
  exact ⟨U, [x1, x2], rfl, SqT.of upd_same, rfl, q _ _ τ _ ρ σ S Q (T.to t1 (T.hr.tup hU)) (.cons (d1.to t1) (.cons (d2.to t1) .nil)) (hs.mono (fun σ2 S2 k τ2 H2 ρ2 t2 T2 w2 => k τ2 H2 ρ2 (t1.trans t2) T2 w2) fun _ _ _ q => q)⟩
def canV {α : Type} (K : PySem.W.Frag) (vs : List Nat) (it : IRel α) (g : α → Sg → Bxs → Rs Sg) : TG := fun v τ H' Q => ∃ H a ρ σ S, Ty K H ρ σ S τ ∧ it K H ρ a v H' ∧ (g a σ S).Sat (KW K H ρ vs τ Q) noX
theorem SVi.can {α : Type} {vs : List Nat} {it : IRel α} {tg : Expr} {g : α → Sg → Bxs → Rs Sg} (h : SVi X vs it tg g) : PG X tg (canV X.K vs it g) := by
  obtain ⟨t, p, q⟩ := h.ex
  exact ⟨fun pins s τ H' v u Q I r ⟨H, a, ρ, σ, S, T, hi, hs⟩ => p.run pins s τ H' v u Q I r (q _ _ _ _ _ _ _ _ _ T hi hs)⟩
/-! ### tests of a clause -/
structure STs (X : Cx) (ifs : List Expr) (f : FB) : Prop where
  can : PTs X ifs (canT X.K noEr f)
def bYes : FB := fun _ S => .ok true S
theorem sts_nil : STs X [] bYes := ⟨⟨fun pins s σ H Q I ⟨ρ, σ', S, T, h⟩ => pts_nil.run pins s σ H Q I (h H ρ (To.refl _ _) T.hr)⟩⟩
theorem sts_one {c : Expr} {f : FB} (h : ST X noEr c f) : STs X [c] f := ⟨pts_one h.can⟩
/-! ### the loop -/
open Classical in
noncomputable def lcF {α : Type} (st : Bxs → Prop) (g : α → Sg → Bxs → Rs Sg) (tt : FB) (te : FE) (σw : Sg) (n : Nat) : List α → Bxs → Rs Unit
  | [], S => if st S then .ok () S else .no
  | x :: xs, S => if st S then (g x σw S).bind fun σ1 S1 => (tt σ1 S1).bind fun b S2 => if b = true then (te σ1 S2).bind fun d S3 => match S3.lst n with
      | some acc => if acc.length < LIM then lcF st g tt te σw n xs (S3.set n (.lst (acc ++ [d]))) else .no
      | none => .no else lcF st g tt te σw n xs S2 else .no
/-- what raises is not told -/
def Rs.quiet {α : Type} : Rs α → Rs α
  | .ok a s => .ok a s
  | _ => .no
@[simp] theorem Rs.quiet_ok {α : Type} (a : α) (s : Bxs) : (Rs.ok a s).quiet = .ok a s := rfl
theorem quiet_sat {α : Type} {r : Rs α} {P : α → Bxs → Prop} {E E' : Nat → List Dt → Bxs → Prop} (h : r.quiet.Sat P E) : r.Sat P E' := by
  cases r with
  | ok a s => exact h
  | ex c ds s => exact h.elim
  | no => exact h.elim
noncomputable def dLc {α : Type} (src : Src α) (g : α → Sg → Bxs → Rs Sg) (tt : FB) (te : FE) (vs : List Nat) : FE := fun σ S => (src σ S).bind fun r S1 =>
  (lcF r.2 g tt te (wipeD σ vs) S1.length r.1 (S1 ++ [.lst []])).quiet.bind fun _ S2 => .ok (.box S1.length) S2
theorem lcF_st {α : Type} {st : Bxs → Prop} {g : α → Sg → Bxs → Rs Sg} {tt : FB} {te : FE} {n : Nat} {xs : List α} {P : Unit → Bxs → Prop} {E : Nat → List Dt → Bxs → Prop} (h : (lcF st g tt te σ n xs S).Sat P E) : st S := by
  cases xs with
  | nil => unfold lcF at h; exact (iteC_sat h).1
  | cons x xs => unfold lcF at h; exact (iteC_sat h).1
/-- what the reading of a comprehension asks, from the plain one -/
theorem lc_sat {α : Type} {it : IRel α} {src : Src α} {g : α → Sg → Bxs → Rs Sg} {ft : FB} {fe : FE} {vs : List Nat} {wi : TI} (qi : ∀ τ H ρ σ S R, Ty X.K H ρ σ S τ → (src σ S).Sat (KI X.K H ρ it R) (KX Er H ρ) → wi τ H R)
    {Q : VK} (T : Ty X.K H ρ σ S τ) (h : (dLc src g ft fe vs σ S).Sat (KO X.K H ρ Q) (KX Er H ρ)) : tLc wi (canV X.K vs it g) (canT X.K noEr ft) (canE X.K noEr fe) vs τ H Q := by
  refine qi τ H ρ σ S _ T ((link h).mono (fun r S1 h1 => ?_) fun _ _ _ q => q)
  obtain ⟨xs, st⟩ := r
  intro H1 ρ1 J G Y t1 hr1 w hG hY
  intro D hD
  have h2 : (lcF st g ft fe (wipeD σ vs) S1.length xs (S1 ++ [MBox.lst []])).Sat (fun _ S2 => KO X.K H ρ Q (.box S1.length) S2) noX := quiet_sat (link h1)
  have tD : To H1 (upd H1 D (.lst [])) ρ1 (ρ1 ++ [D]) := ⟨Ext.new hD, List.prefix_append _ _⟩
  have hDr : (ρ1 ++ [D])[S1.length]? = some D := by rw [← hr1.len, List.getElem?_append_right (Nat.le_refl _), Nat.sub_self]; rfl
  refine lc_it w (fun i H' => ∃ ρ' S', To (upd H1 D (.lst [])) H' (ρ1 ++ [D]) ρ' ∧ HR X.K H' ρ' S' ∧ (lcF st g ft fe (wipeD σ vs) S1.length (xs.drop i) S').Sat (fun _ S2 => KO X.K H ρ Q (.box S1.length) S2) noX)
    ⟨ρ1 ++ [D], S1 ++ [MBox.lst []], To.refl _ _, hr1.new hD .nil, h2⟩ (fun i H' _ ⟨ρ', S', t', hr', h'⟩ => hG H' ρ' S' (tD.trans t') hr' (lcF_st h')) (fun i x H' H'' hlt ⟨ρ', S', t', hr', h'⟩ hy => ?_) fun H' ⟨ρ', S', t', hr', h'⟩ => ?_
  · have hi : xs[i]? = some xs[i] := List.getElem?_eq_getElem hlt
    have hd : xs.drop i = xs[i] :: xs.drop (i + 1) := List.drop_eq_getElem_cons hlt
    rw [hd] at h'
    have hst := lcF_st h'
    unfold lcF at h'
    obtain ⟨_, h'⟩ := iteC_sat h'
    have Tw : Ty X.K H' ρ' (wipeD σ vs) S' (L2.wipe τ vs) := ⟨hr', (T.sl.to ((t1.trans tD).trans t')).wipe vs⟩
    refine ⟨H', xs[i], ρ', wipeD σ vs, S', Tw, hY i _ x H' H'' ρ' S' (tD.trans t') hr' hst hi hy, (link h').mono (fun σ1 S2 h3 => ?_) fun _ _ _ q => q⟩
    intro τ2 H2 ρ2 t2 T2 w2
    refine ⟨?_, ρ2, σ1, S2, T2, (link h3).mono (fun b S3 h4 => ?_) fun c ds s q => q.elim⟩
    · rw [w2]
      have idem : ∀ (us : List Nat) (τ : L2.St), (∀ u ∈ us, u ∈ vs) → L2.wipe (L2.wipe τ us) vs = L2.wipe τ vs := by
        intro us
        induction us with
        | nil => intro τ _; rfl
        | cons u us ih =>
          intro τ hu
          show L2.wipe ((L2.wipe τ us).set u none) vs = L2.wipe τ vs
          rw [wipe_set (hu u List.mem_cons_self)]
          exact ih τ fun x hx => hu x (List.mem_cons_of_mem _ hx)
      exact idem vs τ fun u hu => hu
    intro H3 ρ3 t3 hr3
    cases b with
    | true =>
      rw [if_pos rfl] at h4
      show if true = true then _ else _
      rw [if_pos rfl]
      refine ⟨ρ3, σ1, S3, T2.to t3 hr3, (link h4).mono (fun d S4 h5 => ?_) fun c ds s q => q.elim⟩
      intro y H4 ρ4 t4 hr4 dv
      cases e : S4.lst S1.length with
      | none => rw [e] at h5; exact h5.elim
      | some acc =>
        rw [e] at h5
        obtain ⟨hl, h5⟩ := ite_sat h5
        have ha : ρ4[S1.length]? = some D := pre_get (((t'.trans t2).trans t3).trans t4).pre hDr
        obtain ⟨us, g1, g2⟩ := hr4.mu ha e
        have tu : To H4 (upd H4 D (.lst (us ++ [y]))) ρ4 ρ4 := ⟨Ext.set g1, List.prefix_refl _⟩
        exact ⟨us, g1, by rw [← g2.length]; exact lim_lt hl, ρ4, _, (((t'.trans t2).trans t3).trans t4).trans tu, hr4.set (lst_get e) ha g1 (g2.app (.cons dv .nil)), h5⟩
    | false =>
      rw [if_neg Bool.false_ne_true] at h4
      show if false = true then _ else _
      rw [if_neg Bool.false_ne_true]
      exact ⟨ρ3, S3, (t'.trans t2).trans t3, hr3, h4⟩
  · rw [List.drop_length] at h'
    unfold lcF at h'
    obtain ⟨_, h'⟩ := iteC_sat h'
    exact h' (.ref D) H' ρ' ((t1.trans tD).trans t') hr' (.box (pre_get t'.pre hDr))
section
variable {α : Type} {it : IRel α} {elt tg iter : Expr} {ifs : List Expr} {scope : Scope} {own : List (Str × Nat)} {pos : Pos} {src : Src α} {g : α → Sg → Bxs → Rs Sg} {ft : FB} {fe : FE}
theorem se_lc (own : List (Str × Nat)) (hc : X.calm = true) (hN : X.N.Nodup) (hi : SI X Er it tg iter src) (ok : BlkOk X.N X.env.scope scope own)
    (hg : ∀ (s : Shared) (H : Hp) (C : Addr) (cl : List (Str × Addr)) (fp : List Addr), SVi (X.blk s H scope (compEnvC scope cl C X.env) fp) (own.map (·.2)) it tg g)
    (ht : ∀ (s : Shared) (H : Hp) (C : Addr) (cl : List (Str × Addr)) (fp : List Addr), STs (X.blk s H scope (compEnvC scope cl C X.env) fp) ifs ft)
    (he : ∀ (s : Shared) (H : Hp) (C : Addr) (cl : List (Str × Addr)) (fp : List Addr), SE (X.blk s H scope (compEnvC scope cl C X.env) fp) noEr elt fe)
    (hs : ∀ x, foldedSetIterable iter X.env x = pure x := by intro _; rfl) : SE X Er (.ListComp elt [⟨tg, iter, ifs, 0⟩] scope pos) (dLc src g ft fe (own.map (·.2))) := by
  obtain ⟨wi, pi, qi⟩ := hi.ex
  exact ⟨tLc wi (canV X.K (own.map (·.2)) it g) (canT X.K noEr ft) (canE X.K noEr fe) (own.map (·.2)), pe_lc hc hN pi ok (fun s H C cl fp => (hg s H C cl fp).can) (fun s H C cl fp => (ht s H C cl fp).can) (fun s H C cl fp => (he s H C cl fp).can) hs, fun τ H ρ σ S Q T h => lc_sat qi T h⟩
/-- name = [..] on one line, the name a local -/
theorem ss_setLc (i : Nat) (own : List (Str × Nat)) {y : Str} {py spos : Pos} (hc : X.calm = true) (hN : X.N.Nodup) (hi : SI X Er it tg iter src) (ok : BlkOk X.N X.env.scope scope own)
    (hsw : swapsWith (.ListComp elt [⟨tg, iter, ifs, 0⟩] scope pos) (some (.Name y py)) spos.line X.env = pure true)
    (hg : ∀ (s : Shared) (H : Hp) (C : Addr) (cl : List (Str × Addr)) (fp : List Addr), SVi (X.blk s H scope (compEnvC scope cl C X.env) fp) (own.map (·.2)) it tg g)
    (ht : ∀ (s : Shared) (H : Hp) (C : Addr) (cl : List (Str × Addr)) (fp : List Addr), STs (X.blk s H scope (compEnvC scope cl C X.env) fp) ifs ft)
    (he : ∀ (s : Shared) (H : Hp) (C : Addr) (cl : List (Str × Addr)) (fp : List Addr), SE (X.blk s H scope (compEnvC scope cl C X.env) fp) noEr elt fe)
    (hy : X.N[i]? = some y := by rfl) (hyl : X.env.scope.names.lookup y = some .local := by rfl) (hs : ∀ x, foldedSetIterable iter X.env x = pure x := by intro _; rfl) :
    SS X Er (.Assign [.Name y py] (.ListComp elt [⟨tg, iter, ifs, 0⟩] scope pos) spos) (sSet i (dLc src g ft fe (own.map (·.2)))) := by
  obtain ⟨wi, pi, qi⟩ := hi.ex
  refine ⟨tAsg (tLc wi (canV X.K (own.map (·.2)) it g) (canT X.K noEr ft) (canE X.K noEr fe) (own.map (·.2))) (gName i), ps_setLc hc hN hy hyl hsw pi ok (fun s H C cl fp => (hg s H C cl fp).can) (fun s H C cl fp => (ht s H C cl fp).can) (fun s H C cl fp => (he s H C cl fp).can) hs, fun τ H ρ σ S D T h => ?_⟩
  refine lc_sat qi T ((link h).mono (fun d S1 h1 => ?_) fun _ _ _ q => q)
  intro v H1 ρ1 t1 hr1 dv
  exact h1 _ H1 ρ1 t1 ⟨hr1, (T.sl.to t1).set i dv⟩
end
end
end Mn
set_option Elab.async false
set_option linter.all false
set_option maxRecDepth 100000
set_option maxHeartbeats 4000000
/-! MnH: defs, their calls, repr, the end of a law. -/
namespace Mn
open PySem PySem.Spec PyProof.Rows L2
abbrev FN := List Dt → Bxs → Rs Dt
/-- the def at f comes to what F tells, where no repr is under way -/
structure FnD (P : Program) (w : World) (K : PySem.W.Frag) (mg : Str → Option Value) (base : Heap) (CX : CXT) (eo : XK → ER) (k : Nat) (f : Addr) (fd : FuncData) (ps : List Str) (F : FN) : Prop where
  run : ∀ (A : Around) (outer : List Env) (s : Shared) (H : Hp) (args : Args) (us : List Value) (vs : List V) (ρ : List Addr) (S : Bxs) (ds : List Dt) (Q : VK) (E : XK), A.guards = some [] → Room k A → Env0 P w K mg base A outer s H →
    BindsTo s fd args (ps.zip us) → Vals vs us → ds.length = ps.length → HR K H ρ S → DVs K H ρ ds vs → (F ds S).Sat (KO K H ρ Q) (KX (eo E) H ρ) → codeAny (model P w) A (.call (.ref f) args) (CR CX outer P w H s Q E) s
theorem FnD.mono {P : Program} {w : World} {K : PySem.W.Frag} {mg : Str → Option Value} {base : Heap} {CX : CXT} {eo : XK → ER} {j k : Nat} {f : Addr} {fd : FuncData} {ps : List Str} {F : FN} (h : FnD P w K mg base CX eo j f fd ps F) (hk : j ≤ k) :
    FnD P w K mg base CX eo k f fd ps F := ⟨fun A outer s H args us vs ρ S ds Q E hg hr => h.run A outer s H args us vs ρ S ds Q E hg (hr.mono hk)⟩
/-! ### a def by its body -/
/-- the slots at the entry -/
def startD (n : Nat) (ds : List Dt) : Sg := ds.map some ++ List.replicate (n - ds.length) none
def bodyF (n : Nat) (f : FS) : FN := fun ds S => (f (startD n ds) S).bind fun r S1 => match r.1 with
  | .rt d => .ok d S1
  | .nx => .ok .non S1
  | _ => .no
theorem sl_start {K : PySem.W.Frag} {H : Hp} {ρ : List Addr} {N : List Str} {ds : List Dt} {vs : List V} (h : DVs K H ρ ds vs) : Sl K H ρ (startD N.length ds) (L2.start N vs) := by
  have hl := h.length
  refine ⟨by unfold startD L2.start; simp [hl], fun i d e => ?_⟩
  unfold startD at e
  unfold L2.start
  by_cases hi : i < ds.length
  · rw [List.getElem?_append_left (by simpa using hi), List.getElem?_map] at e
    cases e2 : ds[i]? with
    | none => rw [e2] at e; cases e
    | some d' =>
      rw [e2] at e
      cases e
      obtain ⟨v, h1, h2⟩ := h.get e2
      refine ⟨v, ?_, h2⟩
      rw [List.getElem?_append_left (by simpa [← hl] using hi), List.getElem?_map, h1]
      rfl
  · rw [List.getElem?_append_right (by simpa using hi), List.getElem?_replicate] at e
    split at e <;> cases e
section
variable {P : Program} {w : World} {K : PySem.W.Frag} {mg : Str → Option Value} {base : Heap}
theorem fnD_of {CX : CXT} {eo : XK → ER} {k : Nat} {x qual : Str} {st : Stmt} {f : Addr} {fd : FuncData} {N ps : List Str} {fb : FS} (F : Fun K x qual st f fd) (S0 : FnScope N ps (defScope st))
    (hbody : ∀ cdv : Value, fd.code = cdv → ∀ (A : Around) (outer : List Env) (s : Shared) (H : Hp) (E : XK), Room k (A.deeper (envOfC qual (defScope st) s.heap.objs.size f cdv)) → A.guards = some [] →
      SSs (cxOf CX P w K mg base N qual (defScope st) f cdv A outer s H E) (eo E) (defBody st) fb) : FnD P w K mg base CX eo (k + 1) f fd ps (bodyF N.length fb) := by
  obtain ⟨oc, od, kV, doc, pm, an, cdv, ct, osl, rfl, lk, hcd⟩ := F.ex
  constructor
  intro A outer s H args us vs ρ S ds Q E hgd hr e0 hb r hl hR dvs hs
  have hlv : vs.length = ps.length := by rw [← dvs.length]; exact hl
  have inK : K.In s.heap := e0.mod.kin.keeps fun b o e => (e0.bs b o e).1
  have lim : s.heap.NoLimit := e0.mod.nolimit.keeps fun b o e => (e0.bs b o e).1
  have kinds : ∀ y ∈ ps.zip us, (defScope st).names.lookup y.1 = some .local ∨ ((defScope st).names.lookup y.1 = some .cell ∧ ((cellsFrom (s.heap.objs.size + 1) (defScope st).names []).lookup y.1).isSome = true) := by
    rintro ⟨n, v⟩ hy
    rcases S0.par n (List.of_mem_zip hy).1 with q | q
    · exact .inl q
    · exact .inr ⟨q, PySem.W.cellsFrom_some _ _ _ (.inl q)⟩
  refine codeAny_call_function hr.depth (inK _ _ lk) rfl S0.co S0.gen rfl (PySem.W.codeRec_of inK hcd) (hb _ _ _ _ ?_)
  refine wpAny_newFunctionEnv_cells S0.kind kinds fun env he s1 x1 => ?_
  subst he
  refine ⟨lim.keeps x1.toInCall.keep, codeAny_func ?_⟩
  obtain ⟨t, pt, qt⟩ := (hbody cdv rfl A outer s H E (hr.deeper _) hgd).ex
  have I := inv_start (CX := CX) (E := E) S0 hr.hd e0 hlv r x1
  have T : Ty K H ρ (startD N.length ds) S (L2.start N vs) := ⟨hR, sl_start dvs⟩
  have go : t { nx := fun _ H' => Q .non H', rt := Q } (L2.start N vs) H := by
    refine qt _ H ρ (startD N.length ds) S _ T ((link hs).mono (fun r S1 h1 => ?_) fun _ _ _ q => q)
    obtain ⟨fl, σ1⟩ := r
    cases fl with
    | nx => exact fun τ' H' ρ' t' T' => h1 _ H' ρ' t' T'.hr .non
    | rt d => exact h1
    | bk => exact h1.elim
    | ct => exact h1.elim
  refine wpAny_mono (pt.run [] s1 (L2.start N vs) H _ I go) (fun fl s' hf => ?_) fun e s' he => he
  cases fl with
  | ret u =>
    obtain ⟨v, σ', H', J, rv, q⟩ := hf
    exact ⟨v, H', J.os, J.bare, J.base, J.hok, rv, q⟩
  | next =>
    obtain ⟨σ', H', J, q⟩ := hf
    exact ⟨V.non, H', J.os, J.bare, J.base, J.hok, rfl, q⟩
  | brk =>
    obtain ⟨_, _, _, q⟩ := hf
    exact False.elim q
  | cont =>
    obtain ⟨_, _, _, q⟩ := hf
    exact False.elim q
end
/-! ### a def called -/
section
variable {X : Cx} {Er : ER} {H H1 : Hp} {ρ ρ1 : List Addr} {σ : Sg} {S S1 : Bxs} {τ : L2.St}
theorem SE.ofCan {e : Expr} {f : FE} (h : PE X e (canE X.K Er f)) : SE X Er e f := ⟨_, h, fun τ H ρ σ S Q T q => ⟨ρ, σ, S, T, q⟩⟩
theorem se_call {CX : CXT} {eo : XK → ER} {E : XK} {k : Nat} {f : Addr} {fd : FuncData} {ps : List Str} {F : FN} {x : Str} {p pos : Pos} {e : Expr} {es : List Expr} {fa : FA} (n : Nat) (FD : FnD X.prog X.w X.K X.mg X.base CX eo k f fd ps F) (hgd : X.A.guards = some []) (hr : Room k X.A) (hg : Gl X x) (hm : X.mg x = some (.ref f))
    (hk : PySem.W.keepIn X.K (.ref f) = true) (hb : Binds X.K fd ps []) (hx : Passes CX X E) (hE : ∀ c ds S H ρ, Er c ds S H ρ → eo E c ds S H ρ) (ha : SA X Er (e :: es) fa) (hn : ∀ σ S ds S', fa σ S = .ok ds S' → ds.length = n) (hps : ps.length = n)
    (hdb : (x == ("__debug__" : Str)) = false := by decide) (he : starEach (e :: es) X.env = (false, eval e X.env) :: starEach es X.env := by rfl) (hpl : (backTo pos (starEach es X.env)).any (·.1) = false := by rfl) :
    SE X Er (.Call (.Name x p) (e :: es) [] pos) (dCall F fa) := by
  obtain ⟨ta, pa, qa⟩ := ha.ex
  refine SE.ofCan ⟨fun pins s τ H Q I ⟨ρ, σ, S, T, h⟩ => ?_⟩
  refine wpAny_Call_Name_kw (ld_glob I hg hm ?_ hdb)
  have h := link h
  have h' : (fa σ S).Sat (fun ds S1 => ds.length = n ∧ (F ds S1).Sat (KO X.K H ρ Q) (KX Er H ρ)) (KX Er H ρ) := by
    cases e0 : fa σ S with
    | ok ds S1 => rw [e0] at h; exact ⟨hn σ S ds S1 e0, h⟩
    | ex c ds S1 => rw [e0] at h; exact h
    | no => rw [e0] at h; exact h
  refine PySem.W.callWith_K (h₀ := X.base) I.ok.mod.kin hk (thn (pa.run pos pins s τ H (fun vs H1 => ∃ ρ1 S1 ds, To H H1 ρ ρ1 ∧ HR X.K H1 ρ1 S1 ∧ DVs X.K H1 ρ1 ds vs ∧ ds.length = n ∧ (F ds S1).Sat (KO X.K H ρ Q) (KX Er H ρ)) I ?_) ?_) he hpl
  · exact qa τ H ρ σ S _ T (h'.mono (fun ds S1 q vs H1 ρ1 t1 hr1 dvs => ⟨ρ1, S1, ds, t1, hr1, dvs, q.1, q.2⟩) fun _ _ _ q => q)
  · rintro us s1 ⟨vs, H1, I1, r, ρ1, S1, ds, t1, hr1, dvs, hl, q⟩
    refine ⟨I1.kIn, ?_⟩
    have hlu : (us ++ []).length = ps.length := by rw [List.append_nil, ← r.length, ← dvs.length, hl, hps]
    have hq := (Rs.Sat.toO t1 q).mono (fun _ _ z => z) (fun c es S' (z : KX Er H1 ρ1 c es S') => (fun H' ρ' t' => hE _ _ _ _ _ (z H' ρ' t') : KX (eo E) H1 ρ1 c es S'))
    refine wpAny_call (codeAny_mono (FD.run X.A X.stack s1 H1 ⟨us, []⟩ (us ++ []) vs ρ1 S1 ds Q E hgd hr I1.env0 (hb s1 us I1.kIn hlu) (by rw [List.append_nil]; exact r) (hl.trans hps.symm) hr1 dvs hq) fun rr s' hq => ?_)
    cases rr with
    | error e => exact hx pins τ H1 s1 e s' I1 hq
    | ok fl =>
      cases fl with
      | ret u => exact I1.after hq
      | next => exact False.elim hq
      | brk => exact False.elim hq
      | cont => exact False.elim hq
/-- so many arguments -/
theorem len_nil : ∀ σ S ds S', aNil σ S = .ok ds S' → ds.length = 0 := fun σ S ds S' h => by cases h; rfl
theorem len_cons {a : FE} {r : FA} {n : Nat} (hr : ∀ σ S ds S', r σ S = .ok ds S' → ds.length = n) : ∀ σ S ds S', aCons a r σ S = .ok ds S' → ds.length = n + 1 := fun σ S ds S' h => by
  unfold aCons at h
  cases e : a σ S with
  | ok d S1 =>
    rw [e, Rs.bind_ok] at h
    cases e2 : r σ S1 with
    | ok es S2 =>
      rw [e2, Rs.bind_ok] at h
      cases h
      rw [List.length_cons, hr _ _ _ _ e2]
    | ex c es S2 => rw [e2] at h; cases h
    | no => rw [e2] at h; cases h
  | ex c es S1 => rw [e] at h; cases h
  | no => rw [e] at h; cases h
end
/-! ### repr -/
section
variable {X : Cx} {Er : ER} {K : PySem.W.Frag} {H H1 : Hp} {ρ ρ1 : List Addr} {σ : Sg} {S S1 : Bxs} {τ : L2.St}
def showOk (p : PyData) : Bool := PyData.showable p && !PyData.hasDict p && decide (p.depth ≤ 60) && decide (p.shown.length ≤ strLim)
def reprG : GC := fun ds S => match ds with
  | [d] => match pdo S d with
    | some p => if showOk p = true then .ok (.str p.shown) S else .no
    | none => .no
  | _ => .no
theorem reprG_calm : CalmC reprG := by
  intro ds S c es S'
  unfold reprG
  split
  · split
    · exact calm_ite (calm_ok _ _) _ _ _
    · exact calm_no _ _ _
  · exact calm_no _ _ _
def rRepr (K : PySem.W.Frag) : List V → Hp → VK → Prop := fun vs H Q => ∃ v p, vs = [v] ∧ Dp K H v p ∧ showOk p = true ∧ Q (.str p.shown) H
theorem call_repr (hg : X.A.guards = some []) (hu : X.A.units + 64 < cLine) : CallR X (.builtin "repr") (rRepr X.K) := by
  rintro pins s σ H xs us Q I r ⟨v, p, rfl, hd, hs, q⟩
  obtain ⟨u, rfl, rv⟩ := vals1 r
  unfold showOk at hs
  rw [Bool.and_eq_true, Bool.and_eq_true, Bool.and_eq_true, decide_eq_true_eq, decide_eq_true_eq] at hs
  obtain ⟨⟨⟨s1, s2⟩, s3⟩, s4⟩ := hs
  have hsz : p.shown.length ≤ sizeLine := Nat.le_trans s4 (by decide)
  have hnd : p.hasDict = true → False := fun z => by rw [z] at s2; cases s2
  obtain ⟨as, hr⟩ := Dp.reads I p v u hd rv
  cases hd with
  | non =>
    cases rv
    exact PySem.P.repr_of_none ⟨.str _, H, I.tok _, ⟨_, rfl⟩, q⟩
  | bl b =>
    cases rv
    refine PySem.P.repr_of_bool ⟨.str _, H, I.tok _, ⟨_, rfl⟩, ?_⟩
    have q' : Q (.str (PyData.shown (.bool b))) H := q
    simp only [PyData.shown] at q'
    cases b <;> exact q'
  | int i =>
    obtain ⟨t, rfl⟩ := rv
    refine PySem.P.repr_of_int ?_ ⟨.str _, H, I.tok _, ⟨_, rfl⟩, ?_⟩
    · simpa [PyData.showable] using s1
    · have q' : Q (.str (PyData.shown (.int i))) H := q
      simp only [PyData.shown] at q'
      exact q'
  | str x =>
    obtain ⟨t, rfl⟩ := rv
    have q' : Q (.str (PyData.shown (.str x))) H := q
    simp only [PyData.shown] at q' hsz
    exact PySem.P.repr_of_str ⟨.str _, H, I.tok _, ⟨_, rfl⟩, q'⟩ hsz
  | lst hq ha =>
    cases rv
    exact repr_of_reads' hr s1 (fun z => (hnd z).elim) hg (by omega) (fun _ _ e => e) (fun h' u tk hk => ⟨.str _, H, I.kept (t' := tk) hk, ⟨_, rfl⟩, q⟩) hsz
  | tup hq ha =>
    cases rv
    exact repr_of_reads' hr s1 (fun z => (hnd z).elim) hg (by omega) (fun _ _ e => e) (fun h' u tk hk => ⟨.str _, H, I.kept (t' := tk) hk, ⟨_, rfl⟩, q⟩) hsz
theorem rc_repr : RCo K (rRepr K) reprG := by
  intro H ρ S ds vs Q hr dvs h
  cases dvs with
  | nil => exact h.elim
  | cons dv r =>
    cases r with
    | cons _ _ => exact h.elim
    | nil =>
      unfold reprG at h
      simp only at h
      rename_i d v
      cases e : pdo S d with
      | none => rw [e] at h; exact h.elim
      | some p =>
        rw [e] at h
        obtain ⟨c, h⟩ := ite_sat h
        exact ⟨v, p, rfl, dp_of hr _ d v p dv e, c, ko_here hr h (.str _)⟩
end
end Mn
set_option Elab.async false
set_option linter.all false
set_option maxRecDepth 100000
set_option maxHeartbeats 4000000
/-! MnI: built-in calls and methods. -/
namespace Mn
open PySem PySem.Spec PyProof.Rows L2
section
variable {X : Cx} {Er : ER} {K : PySem.W.Frag} {H H1 : Hp} {ρ ρ1 : List Addr} {σ : Sg} {S S1 : Bxs} {τ : L2.St}
/-! ### lists of ints, of truths, of texts -/
def intsOf : List Dt → Option (List Int)
  | [] => some []
  | .int i :: r => (intsOf r).map (i :: ·)
  | _ => none
theorem ints_v : ∀ {ds : List Dt} {vs : List V} {ns : List Int}, DVs K H ρ ds vs → intsOf ds = some ns → vs = ns.map V.int
  | _, _, _, .nil, h => by cases h; rfl
  | _, _, ns, .cons dv r, h => by
    cases dv <;> first | (cases h; done) | skip
    unfold intsOf at h
    rename_i ds vs i
    cases e : intsOf ds with
    | none => rw [e] at h; cases h
    | some ms =>
      rw [e] at h
      cases h
      rw [List.map_cons, ints_v r e]
theorem dvs1 {d : Dt} {vs : List V} (h : DVs K H ρ [d] vs) : ∃ v, vs = [v] ∧ DV K H ρ d v := by
  cases h with
  | cons a r => cases r; exact ⟨_, rfl, a⟩
theorem dvs2 {d e : Dt} {vs : List V} (h : DVs K H ρ [d, e] vs) : ∃ v w, vs = [v, w] ∧ DV K H ρ d v ∧ DV K H ρ e w := by
  cases h with
  | cons a r =>
    cases r with
    | cons b r => cases r; exact ⟨_, _, rfl, a, b⟩
/-! ### len, list, tuple -/
def lenG : GC := fun ds S => match ds with
  | [.str z] => if z.length ≤ strLim then .ok (.int z.length) S else .no
  | [d] => match seqOf S d with
    | some xs => .ok (.int (xs.length : Int)) S
    | none => .no
  | _ => .no
theorem lenG_calm : CalmC lenG := by
  intro ds S c es S'
  unfold lenG
  split
  · exact calm_ite (calm_ok _ _) _ _ _
  · split
    · exact calm_ok _ _ _ _ _
    · exact calm_no _ _ _
  · exact calm_no _ _ _
def rLen (K : PySem.W.Frag) : List V → Hp → VK → Prop := fun xs H Q => ∃ x n, xs = [x] ∧ LenV K x H n ∧ Q (.int n) H
theorem rc_len : RCo K (rLen K) lenG := by
  intro H ρ S ds vs Q hr dvs h
  unfold lenG at h
  split at h
  · obtain ⟨v, rfl, dv⟩ := dvs1 dvs
    cases dv
    obtain ⟨c, h⟩ := ite_sat h
    exact ⟨_, _, rfl, ⟨Nat.le_trans c (by decide), rfl⟩, ko_here hr h (.int _)⟩
  · obtain ⟨v, rfl, dv⟩ := dvs1 dvs
    split at h
    · rename_i xs e
      obtain ⟨a, us, rfl, hs, hd⟩ := seq_of hr dv e
      have hl := hd.length
      rw [hl] at h
      refine ⟨_, us.length, rfl, ?_, ko_here hr h (.int _)⟩
      rcases hs with hs | hs
      · exact .inl ⟨us, hs, rfl⟩
      · exact .inr ⟨us, hs, rfl⟩
    · exact h.elim
  · exact h.elim
def listG : GC := fun ds S => match ds with
  | [d] => match seqOf S d with
    | some xs => newL xs S
    | none => .no
  | _ => .no
theorem listG_calm : CalmC listG := by
  intro ds S c es S'
  unfold listG
  split
  · split
    · exact newL_calm _ _ _ _ _
    · exact calm_no _ _ _
  · exact calm_no _ _ _
def rList (K : PySem.W.Frag) : List V → Hp → VK → Prop := fun xs H Q => ∃ p ys, xs = [.ref p] ∧ (SqL K H p ys ∨ SqT K H p ys) ∧ ∀ l, H l = none → Q (.ref l) (upd H l (.lst ys))
theorem rc_list : RCo K (rList K) listG := by
  intro H ρ S ds vs Q hr dvs h
  unfold listG at h
  split at h
  · obtain ⟨v, rfl, dv⟩ := dvs1 dvs
    split at h
    · rename_i xs e
      obtain ⟨a, us, rfl, hs, hd⟩ := seq_of hr dv e
      obtain ⟨hl, h⟩ := newL_ok h
      exact ⟨a, us, rfl, hs, fun p hp => new_lst hr hd hp h⟩
    · exact h.elim
  · exact h.elim
def tupleG : GC := fun ds S => match ds with
  | [.tup xs] => .ok (.tup xs) S
  | [.box n] => match S.seq n with
    | some xs => .ok (.tup xs) S
    | none => .no
  | _ => .no
theorem tupleG_calm : CalmC tupleG := by
  intro ds S c es S'
  unfold tupleG
  split
  · exact calm_ok _ _ _ _ _
  · split
    · exact calm_ok _ _ _ _ _
    · exact calm_no _ _ _
  · exact calm_no _ _ _
theorem rc_tuple : RCo K (rTupZ K) tupleG := by
  intro H ρ S ds vs Q hr dvs h
  unfold tupleG at h
  split at h
  · obtain ⟨v, rfl, dv⟩ := dvs1 dvs
    cases dv with
    | tup ht hd => exact ⟨_, _, rfl, .inr ⟨ht.sqt, ko_here hr h (.tup ht hd)⟩⟩
  · obtain ⟨v, rfl, dv⟩ := dvs1 dvs
    split at h
    · rename_i xs e
      cases dv with
      | box ha =>
        obtain ⟨us, h1, h2⟩ := hr.rd ha e
        exact ⟨_, us, rfl, .inl ⟨h1, new_tup hr h2 h⟩⟩
    · exact h.elim
  · exact h.elim
/-! ### numbers -/
def absG : GC := fun ds S => match ds with
  | [.int i] => .ok (.int (if i < 0 then -i else i)) S
  | _ => .no
theorem absG_calm : CalmC absG := by
  intro ds S c es S'
  unfold absG
  split <;> first | exact calm_ok _ _ _ _ _ | exact calm_no _ _ _
theorem rc_abs : RCo K (fun xs H Q => ∃ i, xs = [.int i] ∧ Q (.int (if i < 0 then -i else i)) H) absG := by
  intro H ρ S ds vs Q hr dvs h
  unfold absG at h
  split at h
  · obtain ⟨v, rfl, dv⟩ := dvs1 dvs
    cases dv
    exact ⟨_, rfl, ko_here hr h (.int _)⟩
  · exact h.elim
def intG : GC := fun ds S => match ds with
  | [.int i] => .ok (.int i) S
  | [.bl b] => .ok (.int (if b then 1 else 0)) S
  | _ => .no
theorem intG_calm : CalmC intG := by
  intro ds S c es S'
  unfold intG
  split <;> first | exact calm_ok _ _ _ _ _ | exact calm_no _ _ _
theorem rc_int : RCo K (fun xs H Q => (∃ i, xs = [.int i] ∧ Q (.int i) H) ∨ ∃ k, xs = [.bl k] ∧ Q (.int (if k then 1 else 0)) H) intG := by
  intro H ρ S ds vs Q hr dvs h
  unfold intG at h
  split at h
  · obtain ⟨v, rfl, dv⟩ := dvs1 dvs
    cases dv
    exact .inl ⟨_, rfl, ko_here hr h (.int _)⟩
  · obtain ⟨v, rfl, dv⟩ := dvs1 dvs
    cases dv
    exact .inr ⟨_, rfl, ko_here hr h (.int _)⟩
  · exact h.elim
def maxI : List Int → Int
  | [] => 0
  | [i] => i
  | i :: r => if maxI r > i then maxI r else i
/-! max of a tuple -/
def maxG : GC := fun ds S => match ds with
  | [.int i, .int j] => .ok (.int (if j > i then j else i)) S
  | [d] => match seqOf S d with
    | some xs => match intsOf xs with
      | some ns => if ns ≠ [] then .ok (.int (maxI ns)) S else .no
      | none => .no
    | none => .no
  | _ => .no
def sumG : GC := fun ds S => match ds with
  | [.box n] => match S.seq n with
    | some xs => match intsOf xs with
      | some ns => .ok (.int ns.sum) S
      | none => .no
    | none => .no
  | _ => .no
theorem sumG_calm : CalmC sumG := by
  intro ds S c es S'
  unfold sumG
  split
  · split
    · split
      · exact calm_ok _ _ _ _ _
      · exact calm_no _ _ _
    · exact calm_no _ _ _
  · exact calm_no _ _ _
theorem rc_sum : RCo K (rSum K) sumG := by
  intro H ρ S ds vs Q hr dvs h
  unfold sumG at h
  split at h
  · obtain ⟨v, rfl, dv⟩ := dvs1 dvs
    split at h
    · rename_i xs e
      split at h
      · rename_i ns e2
        cases dv with
        | box ha =>
          obtain ⟨us, h1, h2⟩ := hr.rd ha e
          have hu := ints_v h2 e2
          subst hu
          exact ⟨_, ns, rfl, h1, ko_here hr h (.int _)⟩
      · exact h.elim
    · exact h.elim
  · exact h.elim
/-! ### methods -/
/-- the receiver is of that type -/
def tyD (T : String) (d : Dt) (S : Bxs) : Prop := match d with
  | .box n => (T = "list" ∧ (S.seq n).isSome = true) ∨ (T = "dict" ∧ ((S.dkR n).isSome = true ∨ (S.dt n).isSome = true))
  | .tup _ => T = "tuple"
  | _ => False
theorem ty_is {pins : List (Addr × Obj)} {s : Shared} {T : String} {d : Dt} {x : V} {v : Value} (I : Inv X pins τ H s) (hr : HR X.K H ρ S) (dv : DV X.K H ρ d x) (r : RelV x v) (ty : tyD T d S) :
    s.TypeIs v T ∧ ∀ a, v = .ref a → ∃ ob, s.heap.get? a = some ob ∧ ob.dict = none := by
  cases dv <;> first | exact ty.elim | skip
  · rename_i a ds vs ht hd
    obtain rfl : T = "tuple" := ty
    cases r
    rcases ht with ⟨o, ho, p⟩ | ⟨o, its, n, ho, p, _⟩
    · obtain ⟨e, _⟩ := I.hok a _ ho
      exact ⟨⟨o, e, p.1⟩, fun b eb => by cases eb; exact ⟨o, e, p.2⟩⟩
    · have e := I.kIn a o ho
      exact ⟨⟨o, e, p.1⟩, fun b eb => by cases eb; exact ⟨o, e, p.2⟩⟩
  · rename_i n a ha
    rcases ty with ⟨hT, hs⟩ | ⟨hT, hs⟩
    · subst hT
      obtain ⟨xs, hx⟩ := Option.isSome_iff_exists.mp hs
      obtain ⟨vs, h1, _⟩ := hr.rd ha hx
      exact tyV_is I r (.inl ⟨rfl, vs, h1⟩)
    · subst hT
      cases r
      rcases hs with hs | hs
      · obtain ⟨kvs, hx⟩ := Option.isSome_iff_exists.mp hs
        obtain ⟨n', a', ws, en, ea, h1, h2, h3⟩ := dkO_some hr (.box ha) hx
        cases en
        cases ea
        obtain ⟨t1, t2, _⟩ := isD_at I (.inl ⟨ws, h2⟩)
        exact ⟨t1, t2⟩
      · obtain ⟨kvs, hx⟩ := Option.isSome_iff_exists.mp hs
        obtain ⟨n', a', xs, en, ea, h1, h2, h3, h4⟩ := dtO_some hr (.box ha) hx
        cases en
        cases ea
        obtain ⟨_, dd⟩ := trd_at I h3
        obtain ⟨o, es, ep, g1, g2, _⟩ := id dd
        exact ⟨dd.typeIs, fun b eb => by cases eb; exact ⟨o, g1, g2.2.1⟩⟩
abbrev GM := Dt → List Dt → Bxs → Rs Dt
open Classical in
noncomputable def dMeth (T : String) (g : GM) (o : FE) (a : FA) : FE := fun σ S => (o σ S).bind fun d S1 => if tyD T d S1 then (a σ S1).bind fun ds S2 => g d ds S2 else .no
def RMo (K : PySem.W.Frag) (r : V → List V → Hp → VK → Prop) (g : GM) : Prop := ∀ H ρ S d v ds vs Q, HR K H ρ S → DV K H ρ d v → DVs K H ρ ds vs → (g d ds S).Sat (KO K H ρ Q) noX → r v vs H Q
def CalmM (g : GM) : Prop := ∀ d ds S c es S', g d ds S ≠ .ex c es S'
theorem se_meth {T id : String} {name : Str} {r : V → List V → Hp → VK → Prop} {g : GM} {o e : Expr} {es : List Expr} {fo : FE} {fa : FA} {apos cpos : Pos} (pa : PlainAttrs T) (slot : Slot T name id) (hty : typeOf (.builtin id) = pure (.type "method_descriptor")) (hm : MtR X id r) (hr : RMo X.K r g) (hc : CalmM g)
    (ho : SE X Er o fo) (ha : SA X Er (e :: es) fa) (hbase : attributeBase o name X.env (eval o X.env) = eval o X.env := by rfl)
    (hfew : ((backTo cpos (starEach (e :: es) X.env)).all (fun x => !x.1) && (backToKw cpos (keywordEach [] X.env)).all (fun x => x.1.isSome)
      && decide ((e :: es).length + ([] : List Keyword).length + (if ([] : List Keyword).isEmpty then 0 else 1) < 30)) = true := by rfl)
    (hline : (apos.endLine == cpos.line) = true := by rfl) (hs : starEach (e :: es) X.env = (false, eval e X.env) :: starEach es X.env := by rfl) (hplain : (backTo cpos (starEach es X.env)).any (·.1) = false := by rfl) :
    SE X Er (.Call (.Attribute o name apos) (e :: es) [] cpos) (dMeth T g fo fa) := by
  obtain ⟨to, po, qo⟩ := ho.ex
  obtain ⟨ta, pA, qa⟩ := ha.ex
  refine SE.ofCan ⟨fun pins s τ H Q I ⟨ρ, σ, S, Ty0, h⟩ => ?_⟩
  have h := link h
  refine wpAny_Call_method_late hbase hfew hline rfl (thn (po.run pins s τ H (fun x H1 => ∃ ρ1 S1 d, To H H1 ρ ρ1 ∧ HR X.K H1 ρ1 S1 ∧ DV X.K H1 ρ1 d x ∧ tyD T d S1 ∧ ((fa σ S1).bind fun ds S2 => g d ds S2).Sat (KO X.K H ρ Q) (KX Er H ρ)) I ?_) ?_)
  · exact qo τ H ρ σ S _ Ty0 (h.mono (fun d S1 q x H1 ρ1 t1 hr1 dv => ⟨ρ1, S1, d, t1, hr1, dv, (iteC_sat q).1, (iteC_sat q).2⟩) fun _ _ _ q => q)
  rintro v s1 ⟨x, H1, I1, r1, ρ1, S1, d, t1, hr1, dv, ty, q⟩
  obtain ⟨h1, h2⟩ := ty_is I1 hr1 dv r1 ty
  refine ⟨T, id, pa, slot, hty, h1, h2, ?_⟩
  have q := link q
  have hA := pA.run cpos pins s1 τ H1 (fun vs H2 => ∃ ρ2 S2 ds, To H1 H2 ρ1 ρ2 ∧ HR X.K H2 ρ2 S2 ∧ DVs X.K H2 ρ2 ds vs ∧ (g d ds S2).Sat (KO X.K H ρ Q) (KX Er H ρ)) I1
    (qa τ H1 ρ1 σ S1 _ (Ty0.to t1 hr1) (q.mono (fun ds S2 z vs H2 ρ2 t2 hr2 dvs => ⟨ρ2, S2, ds, t2, hr2, dvs, z⟩) fun _ _ _ z => z.to t1))
  rw [hs] at hA ⊢
  have hnn : ((false, eval e X.env) :: backTo cpos (starEach es X.env)).any (·.1) = false := by
    rw [List.any_cons, hplain]
    rfl
  refine Calls.callWith_builtin hnn (Calls.evalArgs_plain (thn hA ?_))
  rintro us s2 ⟨vs, H2, I2, r2, ρ2, S2, ds, t2, hr2, dvs, z⟩
  exact hm pins s2 τ H2 x vs v us Q I2 r1 r2 (hr H2 ρ2 S2 d x ds vs Q hr2 (dv.to t2) dvs (sat_calm (hc _ _ _) (Rs.Sat.toO (t1.trans t2) z)))
def appendG : GM := fun d ds S => match d, ds with
  | .box n, [e] => match S.lst n with
    | some xs => if xs.length < LIM then .ok .non (S.set n (.lst (xs ++ [e]))) else .no
    | none => .no
  | _, _ => .no
theorem appendG_calm : CalmM appendG := by
  intro d ds S c es S'
  unfold appendG
  split
  · split
    · exact calm_ite (calm_ok _ _) _ _ _
    · exact calm_no _ _ _
  · exact calm_no _ _ _
/-- a box's list changed, the answer None -/
theorem ko_set {Q : VK} {n : Nat} {a : Addr} {xs0 xs : List Dt} {vs0 vs : List V} (hr : HR K H ρ S) (e : S.lst n = some xs0) (ha : ρ[n]? = some a) (h1 : H a = some (.lst vs0)) (hd : DVs K H ρ xs vs)
    (h : KO K H ρ Q .non (S.set n (.lst xs))) : Q .non (upd H a (.lst vs)) := h _ _ ρ ⟨Ext.set h1, List.prefix_refl _⟩ (hr.set (lst_get e) ha h1 hd) .non
theorem rm_append : RMo K rAppend appendG := by
  intro H ρ S d v ds vs Q hr dv dvs h
  unfold appendG at h
  split at h
  · obtain ⟨w, rfl, dw⟩ := dvs1 dvs
    rename_i n e0
    cases dv with
    | box ha =>
      split at h
      · rename_i xs e
        obtain ⟨c, h⟩ := ite_sat h
        obtain ⟨us, h1, h2⟩ := hr.mu ha e
        exact ⟨_, us, w, rfl, rfl, h1, by rw [← h2.length]; exact lim_lt c, ko_set hr e ha h1 (h2.app (.cons dw .nil)) h⟩
      · exact h.elim
  · exact h.elim
end
end Mn
set_option Elab.async false
set_option linter.all false
set_option maxRecDepth 100000
set_option maxHeartbeats 4000000
/-! MnJ: xs[i] op= e, three names at once, the law's call, the end. -/
namespace Mn
open PySem PySem.Spec PyProof.Rows L2
section
variable {X : Cx} {Er : ER} {K : PySem.W.Frag} {H H1 : Hp} {ρ ρ1 : List Addr} {σ : Sg} {S S1 : Bxs} {τ : L2.St}
/-- xs[i] of a list, i from 0 on -/
def rGetL (K : PySem.W.Frag) : V → V → Hp → VK → Prop := fun o i H Q => ∃ a xs j v, o = .ref a ∧ i = .int j ∧ SqL K H a xs ∧ 0 ≤ j ∧ j < 2 ^ 63 ∧ xs[j.toNat]? = some v ∧ Q v H
theorem get_list : PGet X (rGetL X.K) := by
  rintro pins s τ H o i ov iv Q I ro ri ⟨a, xs, j, v, rfl, rfl, hq, h0, h1, hv, q⟩
  cases ro
  obtain ⟨t, rfl⟩ := ri
  obtain ⟨its, r, p, hz⟩ := I.list hq
  obtain ⟨u, hu, ru⟩ := r.get hv
  exact wpAny_getItem_list p.isList h0 h1 (by simpa using hu) ⟨v, H, I, ru, q⟩
def getL (o i : Dt) (S : Bxs) : Rs Dt := match o, i with
  | .box n, .int j => match S.lst n with
    | some xs => if 0 ≤ j ∧ j < 2 ^ 63 then match xs[j.toNat]? with
      | some d => .ok d S
      | none => .no else .no
    | none => .no
  | _, _ => .no
theorem getL_calm (o i : Dt) (S : Bxs) : ∀ c es S', getL o i S ≠ .ex c es S' := by
  intro c es S'
  unfold getL
  split
  · split
    · split
      · split
        · exact calm_ok _ _ _ _ _
        · exact calm_no _ _ _
      · exact calm_no _ _ _
    · exact calm_no _ _ _
  · exact calm_no _ _ _
theorem getL_sat {o i : Dt} {ov iv : V} {Q : VK} (hr : HR K H ρ S) (dO : DV K H ρ o ov) (di : DV K H ρ i iv) (h : (getL o i S).Sat (KO K H ρ Q) noX) : rGetL K ov iv H Q := by
  cases dO <;> first | exact h.elim | skip
  rename_i n a ha
  cases di <;> first | exact h.elim | skip
  rename_i j
  unfold getL at h
  simp only at h
  cases e : S.lst n with
  | none => rw [e] at h; exact h.elim
  | some xs =>
    rw [e] at h
    obtain ⟨c, h⟩ := ite_sat h
    cases e2 : xs[j.toNat]? with
    | none => rw [e2] at h; exact h.elim
    | some d =>
      rw [e2] at h
      obtain ⟨vs, h1, h2⟩ := hr.mu ha e
      obtain ⟨v, h3, h4⟩ := h2.get e2
      exact ⟨a, vs, j, v, rfl, rfl, SqL.of h1, c.1, c.2, h3, ko_here hr h h4⟩
def getG0 (o i : Dt) (S : Bxs) : Rs Dt := match dkO S o with
  | some kvs => dgetG kvs i S
  | none => getL o i S
theorem getG0_calm (o i : Dt) (S : Bxs) : ∀ c es S', getG0 o i S ≠ .ex c es S' := by
  intro c es S'
  unfold getG0
  split
  · exact dgetG_calm _ _ _ _ _ _
  · exact getL_calm _ _ _ _ _ _
theorem get_sat0 {o i : Dt} {ov iv : V} {Q : VK} (hr : HR K H ρ S) (dO : DV K H ρ o ov) (di : DV K H ρ i iv) (h : (getG0 o i S).Sat (KO K H ρ Q) noX) : rGetL K ov iv H Q ∨ rDGet ov iv H Q := by
  unfold getG0 at h
  cases e : dkO S o with
  | none =>
    rw [e] at h
    exact .inl (getL_sat hr dO di h)
  | some kvs =>
    rw [e] at h
    exact .inr (dget_sat hr dO di e h)
def getG (o i : Dt) (S : Bxs) : Rs Dt := match tget S o i with
  | some (some d) => .ok d S
  | some none => .no
  | none => getG0 o i S
theorem getG_calm (o i : Dt) (S : Bxs) : ∀ c es S', getG o i S ≠ .ex c es S' := by
  intro c es S'
  unfold getG
  split
  · exact calm_ok _ _ _ _ _
  · exact calm_no _ _ _
  · exact getG0_calm _ _ _ _ _ _
theorem get_sat {o i : Dt} {ov iv : V} {Q : VK} (hr : HR K H ρ S) (dO : DV K H ρ o ov) (di : DV K H ρ i iv) (h : (getG o i S).Sat (KO K H ρ Q) noX) : (rGetL K ov iv H Q ∨ rDGet ov iv H Q) ∨ rTIx K ov iv H Q := by
  unfold getG at h
  cases e : tget S o i with
  | none =>
    rw [e] at h
    exact .inl (get_sat0 hr dO di h)
  | some q =>
    rw [e] at h
    obtain ⟨a, b, k, xs, rfl, rfl, tk, t, es, c⟩ := tget_some hr dO di e
    rcases c with ⟨d, v, u, rfl, e1, r, dv⟩ | ⟨rfl, _⟩
    · exact .inr ⟨a, b, k, xs, u, v, rfl, rfl, tk, t, e1, r, ko_here hr h dv⟩
    · exact h.elim
/-- o[i] op= e -/
def sAugS (o i : FE) (g : G2) (f : FE) : FS := fun σ S => (o σ S).bind fun a S1 => (i σ S1).bind fun b S2 => (getG a b S2).bind fun d S3 => (f σ S3).bind fun e S4 => (g d e S4).bind fun z S5 => (setG a b z S5).bind fun _ S6 => .ok (.nx, σ) S6
theorem ss_augS {o i e : Expr} {fo fi f : FE} {op : Operator} {tip : TIp} {g : G2} {tpos pos : Pos} (hu : X.A.units + 128 < cLine) (hp : PIp X op tip) (hrp : RO X.K tip g) (hcp : Calm2 g) (ho : SE X Er o fo) (hi : SE X Er i fi) (he : SE X Er e f)
    (ha : ∀ ov iv new, augStore i ov iv new = (do holding [new, ov, iv] (setItem ov iv new); release [new, ov, iv] []; pure .next) := by intros; rfl) : SS X Er (.AugAssign (.Subscript o i tpos) op e pos) (sAugS fo fi g f) := by
  obtain ⟨to, po, qo⟩ := ho.ex
  obtain ⟨ti, pi, qi⟩ := hi.ex
  obtain ⟨te, pe, qe⟩ := he.ex
  refine ⟨_, ps_augS po pi (PGet.or (PGet.or get_list (get_dict (by omega))) (get_dt (by omega))) pe hp (PSet.or (PSet.or set_list (set_dict (by omega))) (set_dt (by omega))) ha, fun τ H ρ σ S D T h => qo τ H ρ σ S _ T ((link h).mono (fun a S1 h1 => ?_) fun _ _ _ q => q)⟩
  intro ov H1 ρ1 t1 hr1 da
  refine qi τ H1 ρ1 σ S1 _ (T.to t1 hr1) ((link h1).mono (fun b S2 h2 => ?_) fun _ _ _ q => q.to t1)
  intro iv H2 ρ2 t2 hr2 db
  refine get_sat hr2 (da.to t2) db (sat_calm (getG_calm _ _ _) ((link h2).mono (fun d S3 h3 => ?_) fun _ _ _ q => q))
  intro dv H3 ρ3 t3 hr3 dd
  have t13 := (t1.trans t2).trans t3
  refine qe τ H3 ρ3 σ S3 _ (T.to t13 hr3) ((link h3).mono (fun e S4 h4 => ?_) fun _ _ _ q => q.to t13)
  intro ev H4 ρ4 t4 hr4 de
  refine hrp H4 ρ4 S4 d e dv ev _ hr4 (dd.to t4) de (sat_calm (hcp _ _ _) ((link h4).mono (fun z S5 h5 => ?_) fun _ _ _ q => q))
  intro zv H5 ρ5 t5 hr5 dz
  have t25 := ((t3.trans t4).trans t5)
  refine set_sat hr5 (da.to (t2.trans t25)) (db.to t25) dz (sat_calm (setG_calm _ _ _ _) ((link h5).mono (fun _ S6 h6 => ?_) fun _ _ _ q => q))
  intro H6 t6 hr6
  have tt := (t13.trans (t4.trans t5)).trans t6
  exact h6 τ H6 ρ5 tt (T.to tt hr6)
def subI : G2 := fun x y S => match x, y with
  | .int i, .int j => .ok (.int (i - j)) S
  | _, _ => .no
/-- a, b, c = x, y, z by plain local names -/
def sPar3 (i j l : Nat) (a : FA) : FS := fun σ S => (a σ S).bind fun ds S1 => match ds with
  | [d, e, f] => .ok (.nx, ((σ.set i (some d)).set j (some e)).set l (some f)) S1
  | _ => .no
end
/-! ### the law's own call -/
/-- the boxes ahead: the script alone -/
def script0 (ns : List Int) : Bxs := [.ro (ns.map Dt.int)]
theorem script_dvs {K : PySem.W.Frag} {H : Hp} {ρ : List Addr} : ∀ ns : List Int, DVs K H ρ (ns.map Dt.int) (ns.map V.int)
  | [] => .nil
  | n :: ns => .cons (.int n) (script_dvs ns)
theorem hr_script {K : PySem.W.Frag} {H : Hp} {a : Addr} {ns : List Int} (h : Ro K H a (ns.map V.int)) : HR K H [a] (script0 ns) := by
  refine ⟨rfl, fun n b e => ?_, fun n m b c x h1 h2 hb hc _ _ => ?_⟩
  · cases n with
    | zero =>
      cases e
      exact ⟨a, rfl, ns.map V.int, h, script_dvs ns⟩
    | succ n => cases e
  · cases n with
    | zero => cases h1; cases hb
    | succ n => cases h1
theorem ro_of {K : PySem.W.Frag} {H : Hp} {a : Addr} {vs : List V} (hO : Only H) (h : SqL K H a vs) : Ro K H a vs := by
  rcases h with (h | ⟨o, h⟩) | h
  · rcases hO a with z | ⟨o, xs, z⟩
    · rw [z] at h; cases h
    · rw [z] at h; cases h
  · exact .inl ⟨o, h⟩
  · exact .inr fun H' => .inr h
/-- the goal that k_head leaves, from the law's plain function: FD gives its def once, then what it comes to, over every base -/
theorem walkD {l : PySem.W.OpenLaw} {n k : Nat} {q : Program} {loose : List Str} {XP : (Str → Option Value) → Heap → Prop} {YP : World → Heap → Prop} {d : DefRec} {K : Params → PySem.W.Frag} {CX : World → CXT} {eo : World → XK → ER} {F : FN} {x : Str}
    (hn : l.most = some n) (hn2 : n ≤ sizeLine) (hdf : d.params.defaults = []) (hr : Room k callerA)
    (hY : ∀ (w : World) (h : Heap), YP w h → (K w.params).In h)
    (FD : ∀ (w : World) (mg : Str → Option Value) (fa : Addr) (h : Heap), (K w.params).In h → h.Ns mainGlobals mg → mg d.name = some (.ref fa) →
      ∃ fd : FuncData, (∀ (s : Shared) (u : Value), BindsTo s fd ⟨[u], []⟩ [(x, u)]) ∧
        ∀ base : Heap, (K w.params).In base → base.Ns mainGlobals mg → FnD l.prog w (K w.params) mg base (CX w) (eo w) k fa fd [x] F)
    (hF : ∀ ns : List Int, ns.length ≤ n → ∃ S', F [.box 0] (script0 ns) = .ok (.bl true) S')
    (hCX : ∀ (w : World) (H : Hp) (s : Shared) (e : Value) (s' : Shared), CX w [] H s (fun _ _ _ => False) e s' → False) :
    PySem.W.WalkO q loose XP YP l.row.toRowW d [] (fun f vs => PySem.call f vs) := by
  refine Att.attach_call hn hdf fun w s₀ s₁ mg mb fa o pm cd doc a vs ns G Y ho hd hcd hmg hobj hints hlen hg => ?_
  have KIn := hY w _ Y
  obtain ⟨fd, hb, hFD⟩ := FD w mg fa _ KIn G.T.g hmg
  obtain ⟨S', hS⟩ := hF ns hlen
  have hl : ns.length ≤ sizeLine := Nat.le_trans hlen hn2
  have rv := vals_ints hints
  have lenV := hints.length
  have core : ∀ H : Hp, Only H → SqL (K w.params) H a (ns.map V.int) → HOk l.prog w H s₁.heap → (∀ b, H b ≠ none → b = a) → (H a ≠ none → (K w.params).lookup a = none) →
      codeAny (model l.prog w) callerA (.call (.ref fa) ⟨[.ref a], []⟩) (fun r s' => r = .ok (.ret (.bool true)) ∧ OldK s₁.heap s'.heap ∧ s'.os = s₁.os ∧ AllBare s'.gens) s₁ := by
    intro H hO hSq hok hA hK
    have notDict : ∀ {b : Addr} {ob : Obj} {es : Array DictEntry} {ep : Nat}, s₁.heap.get? b = some ob → ob.data = .dict es ep → H b = none := by
      intro b ob es ep e dd
      cases z : H b with
      | none => rfl
      | some u =>
        obtain rfl : b = a := hA b (by rw [z]; simp)
        rw [hobj] at e
        cases e
        cases dd
    have nsK : ∀ {b : Addr} {m : Str → Option Value}, s₁.heap.Ns b m → (hidT s₁.heap H).Ns b m := by
      rintro b m ⟨ob, es, ep, e, dd, rest⟩
      exact ⟨ob, es, ep, hidT_get e (notDict e dd), dd, rest⟩
    have inB : (K w.params).In (hidT s₁.heap H) := by
      intro b ob e
      refine hidT_get (KIn b ob e) ?_
      cases z : H b with
      | none => rfl
      | some u =>
        obtain rfl : b = a := hA b (by rw [z]; simp)
        rw [hK (by rw [z]; simp)] at e
        cases e
    obtain ⟨mc, m1, m2⟩ := G.T.nolimit
    have hM : Mod (K w.params) mg (hidT s₁.heap H) := ⟨inB, nsK G.T.g, ⟨mb, nsK G.T.b, G.T.builtins⟩, mc, nsK m1, m2⟩
    have e0 : Env0 l.prog w (K w.params) mg (hidT s₁.heap H) callerA [] s₁ H :=
      ⟨rfl, hM, fun b ob e => of_hidT e, Nat.le_of_eq (hidT_size _ _), trivial, fun b hb => absurd (show b ∈ ([] : List Addr) from hb) (by simp), hok, .of_eq hg⟩
    have sat : (F [.box 0] (script0 ns)).Sat (KO (K w.params) H [a] fun v _ => v = .bl true) (KX (eo w fun _ _ _ => False) H [a]) := by
      rw [hS]
      intro v H' ρ' _ _ dv
      cases dv
      rfl
    refine codeAny_mono ((hFD _ inB (nsK G.T.g)).run callerA [] s₁ H ⟨[.ref a], []⟩ [.ref a] [.ref a] [a] (script0 ns) [.box 0] _ _ rfl hr e0 (hb s₁ (.ref a)) (.cons rfl .nil) rfl (hr_script (ro_of hO hSq)) (.cons (.box rfl) .nil) sat) fun r s' h => ?_
    cases r with
    | error e => exact (hCX w H s₁ e s' h).elim
    | ok fl =>
      cases fl with
      | next => exact False.elim h
      | brk => exact False.elim h
      | cont => exact False.elim h
      | ret u =>
        obtain ⟨v, H', os, bare, un, hok', r', hv⟩ := h
        obtain rfl : v = .bl true := hv
        obtain rfl : u = Value.bool true := r'
        refine ⟨rfl, OldK.of_keep fun b ob e => ?_, os, bare⟩
        cases z : H b with
        | none => exact un.keep b ob e z (fun y => absurd (show b ∈ ([] : List Addr) from y) (by simp)) (by simp)
        | some u =>
          rcases hO b with y | ⟨o2, xs, y⟩
          · rw [z] at y; cases y
          · obtain ⟨g1, _⟩ := hok b _ y
            obtain ⟨g2, _⟩ := hok' b _ (un.frzs b o2 _ y)
            rw [e] at g1
            cases g1
            exact g2
  cases hk : (K w.params).lookup a with
  | some ob =>
    have e := KIn a ob hk
    rw [hobj] at e
    cases e
    refine core (fun _ => none) (fun _ => .inl rfl) (.inr ⟨_, vs.toArray, _, hk, rfl, rfl, rfl, by rw [List.size_toArray, lenV]; exact hl, by simpa using rv⟩) (fun b u z => nomatch z) (fun b z => absurd rfl z) fun z => absurd rfl z
  | none =>
    let H0 : Hp := fun b => if b = a then some (.frz { cls := .type "list", data := .seq vs.toArray } (.lst (ns.map V.int))) else none
    have h0a : H0 a = some (.frz { cls := .type "list", data := .seq vs.toArray } (.lst (ns.map V.int))) := if_pos rfl
    have h0n : ∀ b, b ≠ a → H0 b = none := fun b hb => if_neg hb
    have one : ∀ b, H0 b ≠ none → b = a := fun b z => by
      by_cases hb : b = a
      · exact hb
      · exact absurd (h0n b hb) z
    refine core H0 (fun b => ?_) (.inl (.inr ⟨_, h0a⟩)) (fun b u z => ?_) one fun _ => hk
    · by_cases hb : b = a
      · subst hb
        exact .inr ⟨_, _, h0a⟩
      · exact .inl (h0n b hb)
    · obtain rfl : b = a := one b (by rw [z]; simp)
      rw [h0a] at z
      cases z
      exact ⟨hobj, by rw [List.length_map]; exact hl, vs, _, rv, hobj⟩
end Mn
namespace Mn
open PySem PySem.Spec PyProof.Rows L2
section
variable {X : Cx} {Er : ER} {a : Expr} {fa : FE} {pos pos' : Pos} {j : Nat}
theorem st_isN (ha : SE X Er a fa) : ST X Er (.Compare a [.Is] [.Constant .none j pos'] pos) (dTrue (dIsN fa)) := by
  obtain ⟨te, p, q⟩ := ha.ex
  refine ⟨_, pt_cmp (pc_isN p) rfl, fun τ H ρ σ S Q T h => q τ H ρ σ S _ T ((link (true_sat h)).mono (fun d S1 h1 => ?_) fun _ _ _ q => q)⟩
  intro v H' ρ' t hr dv
  show ∃ c, V.bl (decide (v = .non)) = V.bl c ∧ Q c H'
  rw [non_iff dv]
  exact h1 _ H' ρ' t hr (.bl _)
theorem st_notN (ha : SE X Er a fa) : ST X Er (.Compare a [.IsNot] [.Constant .none j pos'] pos) (dTrue (dNotN fa)) := by
  obtain ⟨te, p, q⟩ := ha.ex
  refine ⟨_, pt_cmp (pc_notN p) rfl, fun τ H ρ σ S Q T h => q τ H ρ σ S _ T ((link (true_sat h)).mono (fun d S1 h1 => ?_) fun _ _ _ q => q)⟩
  intro v H' ρ' t hr dv
  show ∃ c, V.bl (!decide (v = .non)) = V.bl c ∧ Q c H'
  rw [non_iff dv]
  exact h1 _ H' ρ' t hr (.bl _)
end
theorem SSs.nox {X : Cx} {Er : ER} {st : List Stmt} {f : FS} (h : SSs X.nox Er st f) : SSs X Er st f := by
  obtain ⟨t, p, q⟩ := h.ex
  exact ⟨t, p.nox, q⟩
end Mn
set_option Elab.async false
set_option linter.all false
set_option maxRecDepth 100000
set_option maxHeartbeats 4000000
/-! MnK: enumerate over a list or a tuple; comparisons in a chain; truth. -/
namespace Mn
open PySem PySem.Spec PyProof.Rows L2
theorem meets_enum1 {v : Value} {o : Obj} {Z : Heap → Prop} (B : Begins v o Z) :
    Meets (Builtin.«enumerate.__new__» ⟨[.type "enumerate", v], []⟩) (fun _ R s => Z s.heap ∧
      R (.ok (.ret (.ref (s.heap.push o).objs.size))) { s with heap := (s.heap.push o).push { cls := .type "enumerate", data := .fields #[.none, .bool false, .ref s.heap.objs.size, rawInt 0, .none, .none] } }) :=
  .of_wp fun prog w A R s h => by
    obtain ⟨hp, g, d, tk, os⟩ := s
    obtain ⟨h1, h⟩ := h
    have hsub := sub_enumerate
    have q1 : ∀ {A' : Around} {E : Value → Shared → Prop} {Q : Value → Shared → Prop}, Q (.ref hp.objs.size) ⟨hp.push o, g, d, tk, os⟩ →
        wpAny (model prog w) A' (pyIter v) Q E ⟨hp, g, d, tk, os⟩ := fun q => B.iter prog w _ _ ⟨hp, g, d, tk, os⟩ _ h1 q
    wp_walk using q1
    refine wpAny_stack_any fun st => wpAny_pure ?_
    split
    · rename_i c _ _ _ _ _
      cases (c == Value.type "enumerate") <;> (wp_walk using q1; exact ⟨_, rfl, h⟩)
    · wp_walk using q1
      exact ⟨_, rfl, h⟩
section
variable {prog : Program} {w : World} {A : Around} {E : Value → Shared → Prop} {s : Shared}
theorem enum1_begins {v : Value} {o : Obj} {Z : Heap → Prop} {Q : Value → Shared → Prop} (B : Begins v o Z) (h1 : Z s.heap)
    (h : ∀ h', IsEnum h' (s.heap.objs.size + 1) s.heap.objs.size 0 .none → h'.get? s.heap.objs.size = some o → h'.objs.size = s.heap.objs.size + 2 →
      (∀ b o, s.heap.get? b = some o → h'.get? b = some o) → Q (.ref (s.heap.objs.size + 1)) { s with heap := h' }) :
    wpAny (model prog w) A (call (.type "enumerate") [v]) Q E s := by
  refine callType_new F.called_enumerate (by decide) (F.typeCall_enumerate_1 _) (F.newCall_enumerate_1 _) (fun obj => F.args_object_init_2 obj _) F.entry_enumerate_new (meets_enum1 B) ⟨h1, ?_⟩
  have hz : (s.heap.push o).objs.size = s.heap.objs.size + 1 := Heap.size_push ..
  have he0 := Heap.get?_push_size (s.heap.push o) (o := { cls := .type "enumerate", data := .fields #[.none, .bool false, .ref s.heap.objs.size, rawInt 0, .none, .none] }) rfl
  show _ ∧ _
  rw [hz] at he0 ⊢
  exact ⟨⟨_, he0, rfl⟩, h _ he0 (Heap.get?_push_of_some _ (Heap.get?_push_size _ B.free)) (by rw [Heap.size_push, hz]) fun b o x => Heap.get?_push_of_some _ (Heap.get?_push_of_some _ x)⟩
end
def IteX (k : Bool) (K : PySem.W.Frag) (a : Addr) : It where
  go := fun i H => ∃ (xs : List V) (x : V), SqX k K H a xs ∧ xs[i]? = some x
  yld := fun i H v H' => ∃ T x, v = .ref T ∧ H T = none ∧ H' = upd H T (.tup [.int (i : Nat), x]) ∧ ∀ xs, SqX k K H a xs → xs[i]? = some x
  stop := fun i H => ∃ xs : List V, SqX k K H a xs ∧ i = xs.length
theorem turn_enumX {P : Program} {w : World} {K : PySem.W.Frag} {elts : List Expr} {kk : Nat} {tpos : Pos} {k : Bool} (a e it : Addr) (hae : a ≠ it) (hea : e ≠ a) :
    Turn P w K (.Tuple elts kk tpos) (IteX k K a) [e, it] e (fun i h => (∃ old, IsEnum h e it ((i : Nat) : Int) old) ∧ HIt k h it a i ∧ e ≠ it) where
  mem := by simp
  obj := fun i h st b hb => by
    obtain ⟨⟨old, he⟩, hi, _⟩ := st
    have e' : b = e ∨ b = it := by simpa using hb
    rcases e' with rfl | rfl
    · exact ⟨_, he, fun v q => nomatch q⟩
    · exact hi.obj
  keep := fun i h h' st f => by
    obtain ⟨⟨old, he⟩, hi, hne⟩ := st
    exact ⟨⟨old, f e (by simp) _ he⟩, hi.at fun o q => f it (by simp) o q, hne⟩
  item := by
    intro X hP hw hK hc i pins s σ H E I hf st hg
    subst hP hw hK
    obtain ⟨⟨old, he⟩, hit, hne⟩ := st
    obtain ⟨xs, x, hq, hx⟩ := hg
    obtain ⟨its, rv, p, _⟩ := sqx_inv I hq
    obtain ⟨u, hu, ru⟩ := rv.get hx
    have hel : e < s.heap.objs.size := Heap.lt_size he
    have hil : it < s.heap.objs.size := by obtain ⟨_, q, _⟩ := hit.obj; exact Heap.lt_size q
    have l1 : i < its.toArray.size := by rw [List.size_toArray]; exact (List.getElem?_eq_some_iff.mp hu).1
    have d1 := drawsX (prog := X.prog) (w := X.w) (A := X.A.in1) k (I.ok.hd hc) it a hae its.toArray
    refine wpAny_pyNext_enum_itemD d1 he ⟨hit, p⟩ l1 hne (by simp [hne, hea]) fun x1 h' tk y1 ho st' hT hsz hk => ?_
    obtain rfl : u = x1 := Option.some.inj ((show its[i]? = some u from hu).symm.trans (by simpa using y1))
    refine ⟨_, rfl, wpAny_letOwnedTupleGo_enum (s := { s with heap := h', toks := tk + 1 }) ho fun h'' he' sb => ?_⟩
    have hT2 : h''.get? s.heap.objs.size = some { cls := .type "tuple", data := .seq #[.int i tk, u] } := (sb.2 _ (Nat.ne_of_gt hel)).trans hT
    have new : ObjOk X.prog X.w (upd H s.heap.objs.size (.tup [.int (i : Nat), x])) h'' s.heap.objs.size (.tup [.int (i : Nat), x]) :=
      ⟨by show 2 ≤ sizeLine; decide, [.int i tk, u], .cons ⟨_, rfl⟩ (.cons ru .nil), ⟨_, hT2, rfl, _, rfl⟩⟩
    have I1 : Inv X pins σ (upd H s.heap.objs.size (.tup [.int (i : Nat), x])) { s with heap := h'', toks := tk + 1 } :=
      I.turnedNew (ch := [e, it]) (fun b ob hb q => (sb.2 b (fun z => hb (by simp [z]))).trans (hk b ob (fun z => hb (by simp [z])) (fun z => hb (by simp [z])) q)) hf (Nat.le_refl _) new
    refine ⟨.ref s.heap.objs.size, _, I1, rfl, ⟨_, x, rfl, I.hok.fresh (Nat.le_refl _), rfl, fun ys hy => by rw [sqx_inj I hy hq]; exact hx⟩, ⟨⟨u, ?_⟩, st'.1.at fun o q => (sb.2 it (Ne.symm hne)).trans q, hne⟩, fun b hb => ?_⟩
    · rw [show ((i + 1 : Nat) : Int) = (i : Int) + 1 by omega]
      exact he'
    · have e' : b = e ∨ b = it := by simpa using hb
      have hb' : b < s.heap.objs.size := by rcases e' with rfl | rfl <;> assumption
      rw [upd_ne (Nat.ne_of_lt hb')]
      exact (hf b hb).1
  done := by
    intro X hP hw hK hc i pins s σ H E I hf st hg
    subst hP hw hK
    obtain ⟨⟨old, he⟩, hit, hne⟩ := st
    obtain ⟨xs, hq, hx⟩ := hg
    obtain ⟨its, rv, p, _⟩ := sqx_inv I hq
    obtain ⟨f0, f1, f2, f3, f4, f5⟩ := hf it (by simp)
    have hl := rv.length
    have d1 := drawsX (prog := X.prog) (w := X.w) (A := X.A.in1) k (I.ok.hd hc) it a hae its.toArray
    have hi : i = its.toArray.size := by rw [List.size_toArray]; omega
    refine wpAny_pyNext_enum_endD d1 he (by rw [← hi]; exact ⟨hit, p⟩) fun h' eb => ⟨rfl, I.turned (t' := s.toks) (fun b o hb q => eb b o hb q) f0 f1 f3 f4 f5⟩
  self := fun A i s Q E st h => let ⟨⟨_, he⟩, _⟩ := st; wpAny_pyIter_enum he h
def iEnumX (k : Bool) (K : PySem.W.Frag) (ta : TA) : TI := fun σ H R => ta σ H fun vs H1 => ∃ a xs, vs = [.ref a] ∧ SqX k K H1 a xs ∧ R (IteX k K a) H1
theorem pi_enumX {X : Cx} {e : Expr} {ta : TA} {p pos tpos : Pos} {elts : List Expr} {kk : Nat} (k : Bool) (hg : Gl X "enumerate") (hm : X.mg "enumerate" = none) (ha : PA X [e] ta) (hs : starEach [e] X.env = [(false, eval e X.env)] := by rfl) :
    PI X (.Tuple elts kk tpos) (.Call (.Name "enumerate" p) [e] [] pos) (iEnumX k X.K ta) := by
  constructor
  intro pins s σ H R I h
  refine Call_ (ld_blt I hg hm boot_enumerate (PyProof.Rows.callWith_type1 (thn (ha.run pos pins s σ H _ I h) ?_) hs rfl))
  rintro us s1 ⟨vs, H1, I1, r1, a, xs, rfl, hq, q⟩
  obtain ⟨u, rfl, ru⟩ := r1.one
  cases ru
  obtain ⟨its, rv, p', la⟩ := sqx_inv I1 hq
  refine enum1_begins (beginsX k a its.toArray) p' fun h' he g1 hsz hk => wpAny_pyIter_enum he ?_
  have I2 : Inv X pins σ H1 { s1 with heap := h' } := I1.kept (t' := s1.toks) hk
  refine ⟨s1.heap.objs.size + 1, [s1.heap.objs.size + 1, s1.heap.objs.size], _, _, H1, rfl, I2, turn_enumX a (s1.heap.objs.size + 1) s1.heap.objs.size (Nat.ne_of_lt la) (Nat.ne_of_gt (Nat.lt_succ_of_lt la)), ⟨⟨.none, he⟩, hit_new g1, Nat.succ_ne_self _⟩, fun b hb => ?_, q⟩
  have hle : s1.heap.objs.size ≤ b := by
    have e' : b = s1.heap.objs.size + 1 ∨ b = s1.heap.objs.size := by simpa using hb
    rcases e' with z | z <;> rw [z] <;> first | exact Nat.le_add_right _ _ | exact Nat.le_refl _
  exact I1.fpOk hle (I1.hok.fresh hle)
theorem walkE {K : PySem.W.Frag} {k : Bool} {a : Addr} {n : Nat} : Walk (IteX k K a) n (fun H => ∃ vs, SqX k K H a vs ∧ vs.length = n)
    (fun i H v H' => ∃ T x, v = .ref T ∧ H T = none ∧ H' = upd H T (.tup [.int (i : Nat), x]) ∧ ∀ xs, SqX k K H a xs → xs[i]? = some x) :=
  ⟨fun i _ hi ⟨vs, q, hl⟩ => ⟨vs, vs[i]'(by omega), q, by simp [hl, hi]⟩, fun _ ⟨vs, q, hl⟩ => ⟨vs, q, hl.symm⟩, fun _ _ _ _ _ _ y => y⟩
section
variable {X : Cx} {Er : ER} {K : PySem.W.Frag} {H H1 : Hp} {ρ ρ1 : List Addr} {σ : Sg} {S S1 : Bxs} {τ : L2.St}
/-- pairs of a place and an item -/
def placed (xs : List Dt) : List (Dt × Dt) := (List.range xs.length).zipWith (fun (i : Nat) x => (Dt.int (i : Int), x)) xs
theorem placed_length (xs : List Dt) : (placed xs).length = xs.length := by
  unfold placed
  rw [List.length_zipWith, List.length_range, Nat.min_self]
theorem placed_get {xs : List Dt} {i : Nat} {p : Dt × Dt} (h : (placed xs)[i]? = some p) : ∃ x, xs[i]? = some x ∧ p = (.int (i : Int), x) := by
  unfold placed at h
  rw [List.getElem?_zipWith_eq_some] at h
  obtain ⟨j, x, h1, h2, rfl⟩ := h
  have hj : i < xs.length := (List.getElem?_eq_some_iff.mp h2).1
  rw [List.getElem?_range hj] at h1
  cases h1
  exact ⟨x, h2, rfl⟩
def srcEnum (f : FA) : Src (Dt × Dt) := fun σ S => (f σ S).bind fun ds S1 => match ds with
  | [d] => match seqOf S1 d with
    | some xs => .ok (placed xs, fun S' => seqOf S' d = some xs) S1
    | none => .no
  | _ => .no
theorem PI.or2 {tg iter : Expr} {w : Bool → TI} (h : ∀ a, PI X tg iter (w a)) : PI X tg iter (fun σ H R => ∃ a, w a σ H R) :=
  ⟨fun pins s σ H R I ⟨a, q⟩ => (h a).run pins s σ H R I q⟩
theorem si_enum {elts : List Expr} {kk : Nat} {tpos : Pos} {a : Expr} {fa : FA} {p pos : Pos} (hg : Gl X "enumerate") (hm : X.mg "enumerate" = none) (ha : SA X Er [a] fa) (hs : starEach [a] X.env = [(false, eval a X.env)] := by rfl) :
    SI X Er itP (.Tuple elts kk tpos) (.Call (.Name "enumerate" p) [a] [] pos) (srcEnum fa) := by
  obtain ⟨ta, pa, qa⟩ := ha.ex
  refine ⟨_, PI.or2 fun k => pi_enumX k hg hm pa hs, fun τ H ρ σ S R T h => ?_⟩
  have h := link h
  cases e : fa σ S with
  | no => rw [e] at h; exact h.elim
  | ex c ds s' =>
    rw [e] at h
    exact ⟨true, qa τ H ρ σ S _ T (by rw [e]; exact h)⟩
  | ok ds S1 =>
    rw [e] at h
    rcases ds with _ | ⟨d, _ | ⟨d2, dr⟩⟩
    · exact h.elim
    · cases e1 : seqOf S1 d with
      | none => simp only [Rs.Sat, e1] at h
      | some xs =>
        have h : KI X.K H ρ itP R (placed xs, fun S' => seqOf S' d = some xs) S1 := by simpa only [Rs.Sat, e1] using h
        refine ⟨d.isT, qa τ H ρ σ S _ T ?_⟩
        rw [e]
        intro vs H1 ρ1 t1 hr1 dvs
        obtain ⟨v, rfl, dv⟩ := dvs1 dvs
        obtain ⟨a, us, rfl, hs1, hd1⟩ := sqx_of hr1 dv e1
        refine ⟨a, us, rfl, hs1, h H1 ρ1 _ _ _ t1 hr1 (by rw [placed_length]; exact walkE (n := xs.length)) (fun H' ρ' S' t hr' st => ?_) fun i x y H' H'' ρ' S' t hr' st hi hy => ?_⟩
        · obtain ⟨a', us', ea, q1, q2⟩ := sqx_of hr' (dv.to t) st
          cases ea
          exact ⟨us', q1, q2.length.symm⟩
        · obtain ⟨U, x1, h1, h2, h3, h4⟩ := hy
          obtain ⟨a', us', ea, q1, q2⟩ := sqx_of hr' (dv.to t) st
          cases ea
          obtain ⟨z, hz, rfl⟩ := placed_get hi
          obtain ⟨v1, g1, g2⟩ := q2.get hz
          rw [h4 us' q1] at g1
          cases g1
          exact ⟨U, _, _, h1, h2, h3, .int _, g2⟩
    · exact h.elim
/-! ### a < b < c -/
end
end Mn
set_option Elab.async false
set_option linter.all false
set_option maxRecDepth 100000
set_option maxHeartbeats 4000000
/-! MnL: sorted by a def's keys. -/
namespace Mn
open PySem PySem.Spec PyProof.Rows L2
section
variable {X : Cx} {Er : ER} {K : PySem.W.Frag} {H H1 : Hp} {ρ ρ1 : List Addr} {σ : Sg} {S S1 : Bxs} {τ : L2.St}
/-! ### the heap's side -/
theorem sat_ok {α : Type} {r : Rs α} {P : α → Bxs → Prop} (h : r.Sat P noX) : ∃ a s, r = .ok a s ∧ P a s := by
  cases r with
  | ok a s => exact ⟨a, s, rfl, h⟩
  | ex c ds s => exact h.elim
  | no => exact h.elim
end
end Mn
set_option Elab.async false
set_option linter.all false
set_option maxRecDepth 100000
set_option maxHeartbeats 4000000
/-! MnM: min; xs.extend(ys). -/
namespace Mn
open PySem PySem.Spec PyProof.Rows L2
end Mn
set_option Elab.async false
set_option linter.all false
set_option maxRecDepth 100000
set_option maxHeartbeats 4000000
/-! MnN: isinstance with a built-in type by its name. -/
namespace Mn
open PySem PySem.Spec PyProof.Rows L2
section
variable {X : Cx} {Er : ER} {K : PySem.W.Frag} {H H1 : Hp} {ρ ρ1 : List Addr} {σ : Sg} {S S1 : Bxs} {τ : L2.St}
def tyN (S : Bxs) : Dt → Option String
  | .non => some "NoneType"
  | .bl _ => some "bool"
  | .int _ => some "int"
  | .str _ => some "str"
  | .tup _ => some "tuple"
  | .box n => if (S.seq n).isSome = true then some "list" else if (S.dk n).isSome = true then some "dict" else none
theorem ty_of {d : Dt} {v : V} {t : String} (hr : HR K H ρ S) (dv : DV K H ρ d v) (h : tyN S d = some t) : TyX K H v (.type t) := by
  cases dv with
  | non => cases h; exact .base .non
  | bl b => cases h; exact .base (.bl b)
  | int i => cases h; exact .base (.int i)
  | str x => cases h; exact .base (.str x)
  | tup ht hd =>
    cases h
    rcases ht with ⟨o, h1, _⟩ | ⟨o, its, n, h1, p, _⟩
    · exact .fTuple h1
    · exact .kTuple h1 p.1
  | @box n a ha =>
    have h : (if (S.seq n).isSome = true then some "list" else if (S.dk n).isSome = true then some "dict" else none) = some t := h
    cases e : S.seq n with
    | none =>
      rw [e] at h
      cases e2 : S.dk n with
      | none => rw [e2] at h; cases h
      | some kvs =>
        rw [e2] at h
        cases h
        obtain ⟨a', ws, h1, h2, _⟩ := hr.dk _ _ (dk_get e2)
        rw [ha] at h1; cases h1
        exact .base (.dK h2)
    | some xs =>
      rw [e] at h
      cases h
      obtain ⟨vs, h1, _⟩ := hr.rd ha e
      rcases h1 with h1 | ⟨o, its, k, h1, c, _⟩
      · rcases h1 with h1 | ⟨o, h1⟩
        · exact .base (.lst h1)
        · exact .base (.frz h1)
      · exact .kList h1 c
/-- an exception as a value -/
def isX (S : Bxs) : Dt → Bool
  | .box n => match S[n]? with
    | some .exn => true
    | _ => false
  | _ => false
/-- {None: None} -/
def isNd (S : Bxs) : Dt → Bool
  | .box n => match S[n]? with
    | some .nd => true
    | _ => false
  | _ => false
def isiD (T : String) (S : Bxs) (d : Dt) : Option Bool := match tyN S d with
  | some t => kitB t T
  | none => if isX S d = true ∧ T ∈ tysX then some false else if isNd S d = true then kitB "dict" T else none
def rIsX (K : PySem.W.Frag) : List V → Hp → VK → Prop := fun xs H Q => ∃ (a C : Addr) (T : String), xs = [.ref a, .ty T] ∧ H a = some (ExO (.ref C) a) ∧ ExcC K C ∧ PySem.W.kitOne K (.ref C) (.type T) = some false ∧ Q (.bl false) H
def rIsN : List V → Hp → VK → Prop := fun xs H Q => ∃ (a : Addr) (T : String) (b : Bool), xs = [.ref a, .ty T] ∧ H a = some (NdO a) ∧ kitB "dict" T = some b ∧ Q (.bl b) H
theorem call_isX {X : Cx} : CallR X (.builtin "isinstance") (fun xs H Q => rIsi X.K xs H Q ∨ rIsX X.K xs H Q ∨ rIsN xs H Q) := by
  intro pins s σ H xs us Q I r h
  rcases h with h | h | h
  · exact call_isi pins s σ H xs us Q I r h
  rotate_left
  · obtain ⟨a, T, b, rfl, ha, e, q⟩ := h
    obtain ⟨u1, u2, rfl, r1, r2⟩ := vals2 r
    cases (show u1 = Value.ref a from r1)
    have e2 := (ClsV.ty T).eq r2
    subst e2
    obtain ⟨⟨_, d⟩, _, _⟩ := (show ObjOk X.prog X.w H s.heap a (NdO a) from I.hok a _ ha)
    obtain ⟨o, es, ep, h1, h2, _⟩ := d X.prog X.w
    exact PySem.W.kia_one PySem.W.kitx_dict I.kIn ⟨o, h1, h2.1⟩ (kit_ty e) (fun z => nomatch z) fun tk => ⟨.bl b, H, I.tok tk, rfl, q⟩
  · obtain ⟨a, C, T, rfl, ha, c, e, q⟩ := h
    obtain ⟨u1, u2, rfl, r1, r2⟩ := vals2 r
    cases (show u1 = Value.ref a from r1)
    have e2 := (ClsV.ty T).eq r2
    subst e2
    obtain ⟨⟨oe, vs, h1, h2, h3, _⟩, _, _⟩ := (show ObjOk X.prog X.w H s.heap a (ExO (.ref C) a) from I.hok a _ ha)
    have J : PySem.W.InstAt s.heap a oe C none := by
      obtain ⟨oc, od, oda, osl⟩ := oe
      obtain ⟨z1, z2⟩ := h2
      dsimp only at z1 z2 h3
      subst z1 z2 h3
      exact ⟨h1, rfl, rfl, trivial⟩
    exact PySem.W.kia_one (PySem.W.handS_kitx_exc c.hg c.hk c.hs c.hd c.ha c.hn c.ht c.hm) I.kIn J e (fun z => nomatch z) fun tk => ⟨.bl false, H, I.tok tk, rfl, q⟩
def dIsi (T : String) (f : FE) : FE := fun σ S => (f σ S).bind fun d S1 => match isiD T S1 d with
  | some b => .ok (.bl b) S1
  | none => .no
theorem se_isi {e : Expr} {fa : FE} {x : Str} {T : String} {p q pos : Pos} (hg : Gl X "isinstance") (hm : X.mg "isinstance" = none) (hgx : Gl X x) (hmx : X.mg x = none) (hv : bootBuiltins x = some (.type T)) (ha : SE X Er e fa) (hn : x ≠ "__name__" := by decide) (hd : (x == ("__debug__" : Str)) = false := by decide)
    (he : starEach (e :: [.Name x q]) X.env = (false, eval e X.env) :: starEach [.Name x q] X.env := by rfl) (hs : starEach [.Name x q] X.env = (false, eval (.Name x q) X.env) :: starEach [] X.env := by rfl) (hpl : (backTo pos (starEach [.Name x q] X.env)).any (·.1) = false := by rfl) :
    SE X Er (.Call (.Name "isinstance" p) [e, .Name x q] [] pos) (dIsi T fa) := by
  obtain ⟨te, pe, qe⟩ := ha.ex
  refine ⟨_, pe_callB call_isX hg hm (by decide +kernel) (pa_cons pe (pa_cons (pe_bltn hgx hmx hv (v := .ty T) rfl hn hd) pa_nil hs) he) (by decide) (by decide) he hpl, fun τ H ρ σ S Q T0 h => qe τ H ρ σ S _ T0 ((link h).mono (fun d S1 h1 => ?_) fun _ _ _ q => q)⟩
  intro v H1 ρ1 t1 hr1 dv
  show rIsi X.K [v, .ty T] H1 Q ∨ rIsX X.K [v, .ty T] H1 Q ∨ rIsN [v, .ty T] H1 Q
  unfold isiD at h1
  cases e1 : tyN S1 d with
  | none =>
    rw [e1] at h1
    simp only at h1
    by_cases c : isX S1 d = true ∧ T ∈ tysX
    · rw [if_pos c] at h1
      cases dv with
      | @box n a ha =>
        have c1 := c.1
        unfold isX at c1
        simp only at c1
        split at c1
        · rename_i en
          obtain ⟨a', g1, C, g2, g3⟩ := hr1.at_ _ _ en
          rw [ha] at g1; cases g1
          exact .inr (.inl ⟨a, C, T, rfl, g2, g3.ec, g3.no T c.2, h1 _ H1 ρ1 t1 hr1 (.bl false)⟩)
        · cases c1
      | _ => exact (Bool.false_ne_true c.1).elim
    · rw [if_neg c] at h1
      by_cases c2 : isNd S1 d = true
      · rw [if_pos c2] at h1
        cases e2 : kitB "dict" T with
        | none => rw [e2] at h1; exact h1.elim
        | some b =>
          rw [e2] at h1
          cases dv with
          | @box n a ha =>
            have c1 := c2
            unfold isNd at c1
            simp only at c1
            split at c1
            · rename_i en
              obtain ⟨a', g1, g2⟩ := hr1.at_ _ _ en
              rw [ha] at g1; cases g1
              exact .inr (.inr ⟨a, T, b, rfl, g2, e2, h1 _ H1 ρ1 t1 hr1 (.bl b)⟩)
            · cases c1
          | _ => exact (Bool.false_ne_true c2).elim
      · rw [if_neg c2] at h1
        exact h1.elim
  | some t =>
    rw [e1] at h1
    simp only at h1
    cases e2 : kitB t T with
    | none => rw [e2] at h1; exact h1.elim
    | some b =>
      rw [e2] at h1
      exact .inl ⟨v, .ty T, _, _, b, rfl, .ty T, ty_of hr1 dv e1, kit_ty e2, h1 _ H1 ρ1 t1 hr1 (.bl b)⟩
end
end Mn
set_option Elab.async false
set_option linter.all false
set_option maxRecDepth 100000
set_option maxHeartbeats 4000000
/-! MnS: list(zip(xs, ys)) of two lists; list(range(..)). -/
namespace Mn
open PySem PySem.Spec PyProof.Rows L2
/-- new pairs are tracked -/
inductive PrsAt (H : Hp) : List Addr → List V → List V → Prop
  | nil : PrsAt H [] [] []
  | snoc {ts : List Addr} {xs ys : List V} {T : Addr} {o : Obj} {x y : V} : PrsAt H ts xs ys → H T = some (.frz o (.tup [x, y])) → PT0 o → PrsAt H (ts ++ [T]) (xs ++ [x]) (ys ++ [y])
theorem PrsAt.mono {H H' : Hp} (k : ∀ a o u, H a = some (.frz o u) → H' a = some (.frz o u)) {ts : List Addr} {xs ys : List V} (h : PrsAt H ts xs ys) : PrsAt H' ts xs ys := by
  induction h with
  | nil => exact .nil
  | snoc _ a b ih => exact .snoc ih (k _ _ _ a) b
theorem PrsAt.len {H : Hp} {ts : List Addr} {xs ys : List V} (h : PrsAt H ts xs ys) : ts.length = xs.length := by
  induction h with
  | nil => rfl
  | snoc _ _ _ ih => simp [ih]
/-! ### the rules -/
end Mn
set_option Elab.async false
set_option linter.all false
set_option maxRecDepth 100000
set_option maxHeartbeats 4000000
/-! MnX: raise, try, on plain data. -/
namespace Mn
open PySem PySem.Spec PyProof.Rows L2
/-! ### the classes; an exception's fields -/
/-- the classes by number: where each stands, its fields -/
abbrev CT := Nat → Option (Addr × List Str)
/-- a method of a class's text -/
def methS (st : Stmt) (j : Nat) : Stmt := match st with
  | .ClassDef _ _ _ b _ _ _ _ _ _ _ => b.getD j (.Pass ⟨0, 0, 0, 0⟩)
  | _ => .Pass ⟨0, 0, 0, 0⟩
section
variable {X : Cx} {ct : CT} {E : XK} {H H1 : Hp} {ρ ρ1 : List Addr} {σ : Sg} {S S1 : Bxs} {τ : L2.St}
/-! ### calls -/
def quietF (F : FN) : FN := fun ds S => (F ds S).quiet
theorem FnD.quiet {P : Program} {w : World} {K : PySem.W.Frag} {mg : Str → Option Value} {base : Heap} {CX : CXT} {eo : XK → ER} {k : Nat} {f : Addr} {fd : FuncData} {ps : List Str} {F : FN} (Er : ER) (h : FnD P w K mg base CX eo k f fd ps F) :
    FnD P w K mg base CX (fun _ => Er) k f fd ps (quietF F) := ⟨fun A outer s H args us vs ρ S ds Q E hg hr e0 b r hl hR dvs hs => h.run A outer s H args us vs ρ S ds Q E hg hr e0 b r hl hR dvs (quiet_sat hs)⟩
/-! ### a try -/
def canSs (K : PySem.W.Frag) (Er : ER) (f : FS) : TS := fun D τ H => ∃ ρ σ S, Ty K H ρ σ S τ ∧ (f σ S).Sat (KF K H ρ D) (KX Er H ρ)
theorem SSs.can {Er : ER} {st : List Stmt} {f : FS} (h : SSs X Er st f) : PSs X st (canSs X.K Er f) := by
  obtain ⟨t, p, q⟩ := h.ex
  exact ⟨fun pins s τ H D I ⟨ρ, σ, S, T, w⟩ => p.run pins s τ H D I (q τ H ρ σ S D T w)⟩
end
/-! ### is True, is not True -/
/-! ### the table -/
/-! ### tuple(range(n)) -/
/-! ### texts walked, compared -/
section
variable {X : Cx} {Er : ER} {K : PySem.W.Frag}
def sgn (c : Nat) : Dt := .str ⟨#[c]⟩
end
/-! ### truth of values -/
def truD (S : Bxs) : Dt → Option Bool
  | .non => some false
  | .bl b => some b
  | .int i => some (i != 0)
  | d => (seqOf S d).map fun xs => !xs.isEmpty
section
variable {X : Cx} {Er : ER} {K : PySem.W.Frag} {H : Hp} {ρ : List Addr} {S : Bxs}
theorem tru_of {d : Dt} {v : V} {b : Bool} (hr : HR K H ρ S) (dv : DV K H ρ d v) (h : truD S d = some b) : TruV K v H b := by
  cases dv with
  | non => cases h; rfl
  | bl c => cases h; rfl
  | int i => cases h; rfl
  | str x => cases h
  | @tup a ds vs ht hd =>
    obtain ⟨xs, e1, e2⟩ := Option.map_eq_some_iff.mp (show (seqOf S (.tup ds)).map (fun xs => !xs.isEmpty) = some b from h)
    obtain ⟨a', ws, ea, hs, hd'⟩ := seq_of hr (.tup ht hd) e1
    cases ea
    have hl := hd'.length
    have : b = !ws.isEmpty := by
      rw [← e2]
      cases xs <;> cases ws <;> first | rfl | cases hl
    rcases hs with hs | hs
    · exact .inl ⟨ws, hs, this⟩
    · exact .inr (.inl ⟨ws, hs, this⟩)
  | @box n a ha =>
    obtain ⟨xs, e1, e2⟩ := Option.map_eq_some_iff.mp (show (seqOf S (.box n)).map (fun xs => !xs.isEmpty) = some b from h)
    obtain ⟨a', ws, ea, hs, hd'⟩ := seq_of hr (.box ha) e1
    cases ea
    have hl := hd'.length
    have : b = !ws.isEmpty := by
      rw [← e2]
      cases xs <;> cases ws <;> first | rfl | cases hl
    rcases hs with hs | hs
    · exact .inl ⟨ws, hs, this⟩
    · exact .inr (.inl ⟨ws, hs, this⟩)
def dTru (f : FE) : FB := fun σ S => (f σ S).bind fun d S1 => match truD S1 d with
  | some b => .ok b S1
  | none => .no
theorem st_truth {e : Expr} {f : FE} (h : SE X Er e f) (he : ∀ whole, isTrue e X.env whole = (do let v ← whole; standAt e.pos; holding [v] (truthy v)) := by intro _; rfl) : ST X Er e (dTru f) := by
  obtain ⟨te, p, q⟩ := h.ex
  refine ⟨_, pt_truth p he, fun τ H ρ σ S Q T h => q τ H ρ σ S _ T ((link h).mono (fun d S1 h1 => ?_) fun _ _ _ q => q)⟩
  intro v H' ρ' t hr dv
  cases e1 : truD S1 d with
  | none => rw [e1] at h1; exact h1.elim
  | some b => rw [e1] at h1; exact ⟨b, tru_of hr dv e1, h1 H' ρ' t hr⟩
end
end Mn
set_option Elab.async false
set_option linter.all false
set_option maxRecDepth 100000
set_option maxHeartbeats 4000000
/-! Mn3: zip of three lists or tuples. -/
namespace Mn
open PySem PySem.Spec PyProof.Rows L2
end Mn
set_option Elab.async false
set_option linter.all false
set_option maxRecDepth 100000
set_option maxHeartbeats 4000000
/-! Mn4: xs.extend(list or tuple), xs.count(int), t[::-1]. -/
namespace Mn
open PySem PySem.Spec PyProof.Rows L2
/-! ### t[::-1] -/
/-! ### a call of a def that may raise, where it does not -/
end Mn
set_option Elab.async false
set_option linter.all false
set_option maxRecDepth 100000
set_option maxHeartbeats 4000000
/-! MnP: reasoning on the plain programs: rules of weakest premises. -/
namespace Mn
open PySem PySem.Spec PyProof.Rows L2
/-- Sat, closed up -/
structure Rs.Wp {α : Type} (r : Rs α) (P : α → Bxs → Prop) (E : Nat → List Dt → Bxs → Prop) : Prop where
  sat : r.Sat P E
theorem Rs.Wp.mono {α : Type} {r : Rs α} {P P' : α → Bxs → Prop} {E E' : Nat → List Dt → Bxs → Prop} (h : r.Wp P E) (hp : ∀ a s, P a s → P' a s) (he : ∀ c ds s, E c ds s → E' c ds s) : r.Wp P' E' := ⟨h.sat.mono hp he⟩
theorem sat_mk {α : Type} {a : α} {s : Bxs} {P : α → Bxs → Prop} {E : Nat → List Dt → Bxs → Prop} (h : P a s) : (Rs.ok a s).Wp P E := ⟨h⟩
section
variable {α β : Type} {σ : Sg} {S : Bxs} {E : Nat → List Dt → Bxs → Prop}
theorem w_bind {r : Rs α} {k : α → Bxs → Rs β} {P : β → Bxs → Prop} (h : r.Wp (fun a s => (k a s).Wp P E) E) : (r.bind k).Wp P E := ⟨Rs.sat_bind.mpr (h.sat.mono (fun _ _ q => q.sat) fun _ _ _ q => q)⟩
theorem w_bindP {r : Rs α} {k : α → Bxs → Rs β} {P : β → Bxs → Prop} (h : r.Wp (fun a s => (k a s).Sat P E) E) : (r.bind k).Wp P E := ⟨Rs.sat_bind.mpr h.sat⟩
theorem w_var {i : Nat} {d : Dt} {P : Dt → Bxs → Prop} (e : σ[i]? = some (some d)) (h : P d S) : (dVar i σ S).Wp P E := by unfold dVar; rw [e]; exact ⟨h⟩
theorem w_c {d : Dt} {P : Dt → Bxs → Prop} (h : P d S) : (dC d σ S).Wp P E := ⟨h⟩
theorem w_bin {g : G2} {a b : FE} {P : Dt → Bxs → Prop} (h : (a σ S).Wp (fun x S1 => (b σ S1).Wp (fun y S2 => (g x y S2).Wp P E) E) E) : (dBin g a b σ S).Wp P E := w_bind (h.mono (fun _ _ q => w_bind q) fun _ _ _ q => q)
theorem w_true {f : FE} {P : Bool → Bxs → Prop} (h : (f σ S).Wp (fun d S1 => ∃ b, d = .bl b ∧ P b S1) E) : (dTrue f σ S).Wp P E := w_bind (h.mono (fun d S1 ⟨b, e, q⟩ => by subst e; exact ⟨q⟩) fun _ _ _ q => q)
theorem w_isN {a : FE} {P : Dt → Bxs → Prop} (h : (a σ S).Wp (fun d S1 => P (.bl d.isN) S1) E) : (dIsN a σ S).Wp P E := w_bindP h
theorem w_notN {a : FE} {P : Dt → Bxs → Prop} (h : (a σ S).Wp (fun d S1 => P (.bl (!d.isN)) S1) E) : (dNotN a σ S).Wp P E := w_bindP h
theorem w_cond {c : Bool} {a b : Rs α} {P : α → Bxs → Prop} (h1 : c = true → a.Wp P E) (h2 : c = false → b.Wp P E) : (if c = true then a else b).Wp P E := by
  cases c with
  | true => rw [if_pos rfl]; exact h1 rfl
  | false => rw [if_neg Bool.false_ne_true]; exact h2 rfl
theorem w_and {a b : FB} {P : Bool → Bxs → Prop} (h : (a σ S).Wp (fun c S1 => (c = true → (b σ S1).Wp P E) ∧ (c = false → P false S1)) E) : (dAnd a b σ S).Wp P E := w_bind (h.mono (fun c S1 q => w_cond q.1 (fun z => ⟨q.2 z⟩)) fun _ _ _ q => q)
theorem w_or {a b : FB} {P : Bool → Bxs → Prop} (h : (a σ S).Wp (fun c S1 => (c = true → P true S1) ∧ (c = false → (b σ S1).Wp P E)) E) : (dOr a b σ S).Wp P E := w_bind (h.mono (fun c S1 q => w_cond (fun z => ⟨q.1 z⟩) q.2) fun _ _ _ q => q)
theorem w_not {a : FB} {P : Bool → Bxs → Prop} (h : (a σ S).Wp (fun c S1 => P (!c) S1) E) : (dNot a σ S).Wp P E := w_bindP h
theorem w_andV {a b : FE} {P : Dt → Bxs → Prop} (h : (a σ S).Wp (fun d S1 => ∃ c, d = .bl c ∧ (c = true → (b σ S1).Wp P E) ∧ (c = false → P (.bl false) S1)) E) : (dAndV a b σ S).Wp P E :=
  w_bind (h.mono (fun d S1 ⟨c, e, q1, q2⟩ => by subst e; cases c <;> first | exact q1 rfl | exact ⟨q2 rfl⟩) fun _ _ _ q => q)
theorem w_ifE {c : FB} {a b : FE} {P : Dt → Bxs → Prop} (h : (c σ S).Wp (fun k S1 => (k = true → (a σ S1).Wp P E) ∧ (k = false → (b σ S1).Wp P E)) E) : (dIf c a b σ S).Wp P E := w_bind (h.mono (fun c S1 q => w_cond q.1 q.2) fun _ _ _ q => q)
theorem w_neg {a : FE} {P : Dt → Bxs → Prop} (h : (a σ S).Wp (fun d S1 => ∃ i, d = .int i ∧ P (.int (-i)) S1) E) : (dNeg a σ S).Wp P E := w_bind (h.mono (fun d S1 ⟨b, e, q⟩ => by subst e; exact ⟨q⟩) fun _ _ _ q => q)
theorem w_nil {P : List Dt → Bxs → Prop} (h : P [] S) : (aNil σ S).Wp P E := ⟨h⟩
theorem w_consA {a : FE} {r : FA} {P : List Dt → Bxs → Prop} (h : (a σ S).Wp (fun d S1 => (r σ S1).Wp (fun ds S2 => P (d :: ds) S2) E) E) : (aCons a r σ S).Wp P E := w_bind (h.mono (fun _ _ q => w_bindP q) fun _ _ _ q => q)
theorem w_tup {a : FA} {P : Dt → Bxs → Prop} (h : (a σ S).Wp (fun ds S1 => ds.length ≤ LIM ∧ P (.tup ds) S1) E) : (dTup a σ S).Wp P E := w_bind (h.mono (fun _ _ q => by rw [if_pos q.1]; exact ⟨q.2⟩) fun _ _ _ q => q)
theorem w_newL {ds : List Dt} {P : Dt → Bxs → Prop} (hl : ds.length ≤ LIM) (h : P (.box S.length) (S ++ [.lst ds])) : (newL ds S).Wp P E := by unfold newL; rw [if_pos hl]; exact ⟨h⟩
theorem w_lst {a : FA} {P : Dt → Bxs → Prop} (h : (a σ S).Wp (fun ds S1 => (newL ds S1).Wp P E) E) : (dLst a σ S).Wp P E := w_bind h
theorem w_call {g : GC} {a : FA} {P : Dt → Bxs → Prop} (h : (a σ S).Wp (fun ds S1 => (g ds S1).Wp P E) E) : (dCall g a σ S).Wp P E := w_bind h
theorem w_sl {f : FE} {lo hi : FO} {P : Dt → Bxs → Prop} (h : (f σ S).Wp (fun d S1 => (lo σ S1).Wp (fun l S2 => (hi σ S2).Wp (fun u S3 => (slG l u d S3).Wp P E) E) E) E) : (dSl f lo hi σ S).Wp P E :=
  w_bind (h.mono (fun _ _ q => w_bind (q.mono (fun _ _ q => w_bind q) fun _ _ _ q => q)) fun _ _ _ q => q)
theorem w_oN {P : Option Int → Bxs → Prop} (h : P none S) : (oNone σ S).Wp P E := ⟨h⟩
theorem w_oS {f : FE} {P : Option Int → Bxs → Prop} (h : (f σ S).Wp (fun d S1 => ∃ i, d = .int i ∧ P (some i) S1) E) : (oSome f σ S).Wp P E := w_bind (h.mono (fun d S1 ⟨b, e, q⟩ => by subst e; exact ⟨q⟩) fun _ _ _ q => q)
theorem w_meth {T : String} {g : GM} {o : FE} {a : FA} {P : Dt → Bxs → Prop} (h : (o σ S).Wp (fun d S1 => tyD T d S1 ∧ (a σ S1).Wp (fun ds S2 => (g d ds S2).Wp P E) E) E) : (dMeth T g o a σ S).Wp P E :=
  w_bind (h.mono (fun d S1 q => by rw [if_pos q.1]; exact w_bind q.2) fun _ _ _ q => q)
/-! statements -/
theorem w_sNil {P : Fl × Sg → Bxs → Prop} (h : P (.nx, σ) S) : (sNil σ S).Wp P E := ⟨h⟩
theorem w_cons {f g : FS} {P : Fl × Sg → Bxs → Prop} (h : (f σ S).Wp (fun r S1 => (r.1 = .nx → (g r.2 S1).Wp P E) ∧ (r.1 ≠ .nx → P r S1)) E) : (sCons f g σ S).Wp P E :=
  w_bind (h.mono (fun r S1 q => by
    obtain ⟨fl, σ1⟩ := r
    cases fl <;> first | exact q.1 rfl | exact ⟨q.2 (fun z => nomatch z)⟩) fun _ _ _ q => q)
theorem w_set {i : Nat} {f : FE} {P : Fl × Sg → Bxs → Prop} (h : (f σ S).Wp (fun d S1 => P (.nx, σ.set i (some d)) S1) E) : (sSet i f σ S).Wp P E := w_bindP h
theorem w_asg {f : FE} {g : FT} {P : Fl × Sg → Bxs → Prop} (h : (f σ S).Wp (fun d S1 => (g d σ S1).Wp (fun σ1 S2 => P (.nx, σ1) S2) E) E) : (sAsg f g σ S).Wp P E := w_bind (h.mono (fun _ _ q => w_bindP q) fun _ _ _ q => q)
theorem w_par2 {i j : Nat} {a : FA} {P : Fl × Sg → Bxs → Prop} (h : (a σ S).Wp (fun ds S1 => ∃ d e, ds = [d, e] ∧ P (.nx, (σ.set i (some d)).set j (some e)) S1) E) : (sPar2 i j a σ S).Wp P E := w_bind (h.mono (fun _ _ ⟨d, e, z, q⟩ => by subst z; exact ⟨q⟩) fun _ _ _ q => q)
theorem w_par3 {i j l : Nat} {a : FA} {P : Fl × Sg → Bxs → Prop} (h : (a σ S).Wp (fun ds S1 => ∃ d e f, ds = [d, e, f] ∧ P (.nx, ((σ.set i (some d)).set j (some e)).set l (some f)) S1) E) : (sPar3 i j l a σ S).Wp P E := w_bind (h.mono (fun _ _ ⟨d, e, f, z, q⟩ => by subst z; exact ⟨q⟩) fun _ _ _ q => q)
theorem w_if {c : FB} {a b : FS} {P : Fl × Sg → Bxs → Prop} (h : (c σ S).Wp (fun k S1 => (k = true → (a σ S1).Wp P E) ∧ (k = false → (b σ S1).Wp P E)) E) : (sIf c a b σ S).Wp P E := w_bind (h.mono (fun c S1 q => w_cond q.1 q.2) fun _ _ _ q => q)
theorem w_ret {f : FE} {P : Fl × Sg → Bxs → Prop} (h : (f σ S).Wp (fun d S1 => P (.rt d, σ) S1) E) : (sRet f σ S).Wp P E := w_bindP h
theorem w_expr {f : FE} {P : Fl × Sg → Bxs → Prop} (h : (f σ S).Wp (fun _ S1 => P (.nx, σ) S1) E) : (sExpr f σ S).Wp P E := w_bindP h
theorem w_augS {o i f : FE} {g : G2} {P : Fl × Sg → Bxs → Prop} (h : (o σ S).Wp (fun a S1 => (i σ S1).Wp (fun b S2 => (getG a b S2).Wp (fun d S3 => (f σ S3).Wp (fun e S4 => (g d e S4).Wp (fun z S5 => (setG a b z S5).Wp (fun _ S6 => P (.nx, σ) S6) E) E) E) E) E) E) : (sAugS o i g f σ S).Wp P E :=
  w_bind (h.mono (fun _ _ q => w_bind (q.mono (fun _ _ q => w_bind (q.mono (fun _ _ q => w_bind (q.mono (fun _ _ q => w_bind (q.mono (fun _ _ q => w_bindP q) fun _ _ _ q => q)) fun _ _ _ q => q)) fun _ _ _ q => q)) fun _ _ _ q => q)) fun _ _ _ q => q)
theorem w_tName {i : Nat} {d : Dt} {P : Sg → Bxs → Prop} (h : P (σ.set i (some d)) S) : (tName i d σ S).Wp P E := ⟨h⟩
theorem w_tSub {o i : FE} {d : Dt} {P : Sg → Bxs → Prop} (h : (o σ S).Wp (fun a S1 => (i σ S1).Wp (fun b S2 => (setG a b d S2).Wp (fun _ S3 => P σ S3) E) E) E) : (tSubG o i d σ S).Wp P E :=
  w_bind (h.mono (fun _ _ q => w_bind (q.mono (fun _ _ q => w_bindP q) fun _ _ _ q => q)) fun _ _ _ q => q)
theorem w_body {n : Nat} {f : FS} {ds : List Dt} {P : Dt → Bxs → Prop} (h : (f (startD n ds) S).Wp (fun r S1 => (∃ d, r.1 = .rt d ∧ P d S1) ∨ (r.1 = .nx ∧ P .non S1)) E) : (bodyF n f ds S).Wp P E :=
  w_bind (h.mono (fun r S1 q => by
    obtain ⟨fl, σ1⟩ := r
    rcases q with ⟨d, e, q⟩ | ⟨e, q⟩
    · cases e; exact ⟨q⟩
    · cases e; exact ⟨q⟩) fun _ _ _ q => q)
/-! leaves -/
theorem w_add {i j : Int} {P : Dt → Bxs → Prop} (h : P (.int (i + j)) S) : (addG (.int i) (.int j) S).Wp P E := ⟨h⟩
theorem w_sub {i j : Int} {P : Dt → Bxs → Prop} (h : P (.int (i - j)) S) : (subG (.int i) (.int j) S).Wp P E := ⟨h⟩
theorem w_addI {i j : Int} {P : Dt → Bxs → Prop} (h : P (.int (i + j)) S) : (addI (.int i) (.int j) S).Wp P E := ⟨h⟩
theorem w_subI {i j : Int} {P : Dt → Bxs → Prop} (h : P (.int (i - j)) S) : (subI (.int i) (.int j) S).Wp P E := ⟨h⟩
theorem w_mul {i j : Int} {P : Dt → Bxs → Prop} (c : mulOk i j) (h : P (.int (i * j)) S) : (mulG (.int i) (.int j) S).Wp P E := by
  show (if mulOk i j then Rs.ok (Dt.int (i * j)) S else .no).Wp P E
  rw [if_pos c]; exact ⟨h⟩
theorem w_fdiv {i j : Int} {P : Dt → Bxs → Prop} (c : divOk j) (h : P (.int (i / j)) S) : (fdivG (.int i) (.int j) S).Wp P E := by
  show (if divOk j then Rs.ok (Dt.int (i / j)) S else .no).Wp P E
  rw [if_pos c]; exact ⟨h⟩
theorem w_mod {i j : Int} {P : Dt → Bxs → Prop} (c : 0 < j) (h : P (.int (i % j)) S) : (modG (.int i) (.int j) S).Wp P E := by
  show (if 0 < j then Rs.ok (Dt.int (i % j)) S else .no).Wp P E
  rw [if_pos c]; exact ⟨h⟩
theorem w_pow {i j : Int} {P : Dt → Bxs → Prop} (c : powOk i j) (h : P (.int (i ^ j.toNat)) S) : (powG (.int i) (.int j) S).Wp P E := by
  show (if powOk i j then Rs.ok (Dt.int (i ^ j.toNat)) S else .no).Wp P E
  rw [if_pos c]; exact ⟨h⟩
theorem w_cmp {p : Int → Int → Bool} {i j : Int} {P : Dt → Bxs → Prop} (h : P (.bl (p i j)) S) : (cmpG p (.int i) (.int j) S).Wp P E := ⟨h⟩
theorem w_int {i : Int} {P : Dt → Bxs → Prop} (h : P (.int i) S) : (intG [.int i] S).Wp P E := ⟨h⟩
theorem w_abs {i : Int} {P : Dt → Bxs → Prop} (h : P (.int (if i < 0 then -i else i)) S) : (absG [.int i] S).Wp P E := ⟨h⟩
theorem w_max2 {i j : Int} {P : Dt → Bxs → Prop} (h : P (.int (if j > i then j else i)) S) : (maxG [.int i, .int j] S).Wp P E := ⟨h⟩
theorem w_eqI {i j : Int} {P : Dt → Bxs → Prop} (h : P (.bl (decide (i = j))) S) : (eqG false (.int i) (.int j) S).Wp P E := by
  have e : eqG false (.int i) (.int j) S = .ok (.bl (decide (i = j))) S := by
    unfold eqG pdo DEEP pd
    simp only [PyData.eqv, SeqAt.shaped]
    rfl
  rw [e]; exact ⟨h⟩
theorem seq_lst {n : Nat} {xs : List Dt} (e : S[n]? = some (.lst xs)) : S.seq n = some xs := by unfold Bxs.seq; rw [e]
theorem lst_of {n : Nat} {xs : List Dt} (e : S[n]? = some (.lst xs)) : S.lst n = some xs := by unfold Bxs.lst; rw [e]
theorem dk_seq {n : Nat} {xs : List Dt} (e : S.seq n = some xs) : dkO S (.box n) = none := by
  unfold Bxs.seq at e
  show S.dkR n = none
  unfold Bxs.dkR
  cases q : S[n]? with
  | none => rfl
  | some b =>
    rw [q] at e
    cases b <;> first | rfl | cases e
theorem dkw_seq {n : Nat} {xs : List Dt} (e : S.seq n = some xs) : dkW S (.box n) = none := by
  unfold Bxs.seq at e
  show S.dk n = none
  unfold Bxs.dk
  cases q : S[n]? with
  | none => rfl
  | some b =>
    rw [q] at e
    cases b <;> first | rfl | cases e
theorem w_ixB {n : Nat} {xs : List Dt} {i : Int} {d : Dt} {P : Dt → Bxs → Prop} (e : S.seq n = some xs) (a : atI xs i = some d) (h : P d S) : (ixG (.box n) (.int i) S).Wp P E := by
  have z : ixG (.box n) (.int i) S = .ok d S := by
    show ixG0 (.box n) (.int i) S = .ok d S
    unfold ixG0
    rw [dk_seq e]
    show (match seqOf S (.box n) with
      | some xs => match atI xs i with
        | some d => Rs.ok d S
        | none => .no
      | none => .no) = _
    rw [show seqOf S (.box n) = some xs from e]
    show (match atI xs i with
        | some d => Rs.ok d S
        | none => .no) = _
    rw [a]
  rw [z]; exact ⟨h⟩
theorem w_ixT {xs : List Dt} {i : Int} {d : Dt} {P : Dt → Bxs → Prop} (a : atI xs i = some d) (h : P d S) : (ixG (.tup xs) (.int i) S).Wp P E := by
  have z : ixG (.tup xs) (.int i) S = .ok d S := by
    show (match atI xs i with
        | some d => Rs.ok d S
        | none => .no) = _
    rw [a]
  rw [z]; exact ⟨h⟩
theorem w_slB {n : Nat} {lo hi : Option Int} {xs : List Dt} {P : Dt → Bxs → Prop} (e : S.seq n = some xs) (h : (newL (cutD xs lo hi) S).Wp P E) : (slG lo hi (.box n) S).Wp P E := by
  show (match S.seq n with
    | some xs => newL (cutD xs lo hi) S
    | none => .no).Wp P E
  rw [e]; exact h
theorem w_slT {lo hi : Option Int} {xs : List Dt} {P : Dt → Bxs → Prop} (h : P (.tup (cutD xs lo hi)) S) : (slG lo hi (.tup xs) S).Wp P E := ⟨h⟩
theorem w_addL {m n : Nat} {xs ys : List Dt} {P : Dt → Bxs → Prop} (e1 : S.lst m = some xs) (e2 : S.lst n = some ys) (h : (newL (xs ++ ys) S).Wp P E) : (addG (.box m) (.box n) S).Wp P E := by
  show (match S.lst m, S.lst n with
    | some xs, some ys => newL (xs ++ ys) S
    | _, _ => .no).Wp P E
  rw [e1, e2]; exact h
theorem w_mulL {n : Nat} {k : Int} {xs : List Dt} {P : Dt → Bxs → Prop} (e : S.lst n = some xs) (c : -1000 ≤ k ∧ k ≤ 1000 ∧ xs.length ≤ 100) (h : (newL (List.replicate k.toNat xs).flatten S).Wp P E) : (mulG (.box n) (.int k) S).Wp P E := by
  show (match S.lst n with
    | some xs => if -1000 ≤ k ∧ k ≤ 1000 ∧ xs.length ≤ 100 then newL (List.replicate k.toNat xs).flatten S else .no
    | none => .no).Wp P E
  rw [e]
  show (if -1000 ≤ k ∧ k ≤ 1000 ∧ xs.length ≤ 100 then newL (List.replicate k.toNat xs).flatten S else .no).Wp P E
  rw [if_pos c]; exact h
theorem seq_of_lst {n : Nat} {xs : List Dt} (e : S.lst n = some xs) : S.seq n = some xs := by
  have := lst_get e
  unfold Bxs.seq; rw [this]
theorem w_setG {n : Nat} {k : Int} {j : Nat} {xs : List Dt} {d : Dt} {P : Unit → Bxs → Prop} (e : S.lst n = some xs) (c : ixN xs.length k = some j) (h : P () (S.set n (.lst (xs.set j d)))) : (setG (.box n) (.int k) d S).Wp P E := by
  show (setG0 (.box n) (.int k) d S).Wp P E
  unfold setG0
  rw [dkw_seq (seq_of_lst e)]
  show (match S.lst n with
    | some xs => match ixN xs.length k with
      | some j => Rs.ok () (S.set n (.lst (xs.set j d)))
      | none => .no
    | none => .no).Wp P E
  rw [e]
  show (match ixN xs.length k with
      | some j => Rs.ok () (S.set n (.lst (xs.set j d)))
      | none => .no).Wp P E
  rw [c]; exact ⟨h⟩
theorem w_getG {n : Nat} {k : Int} {xs : List Dt} {d : Dt} {P : Dt → Bxs → Prop} (e : S.lst n = some xs) (c : 0 ≤ k ∧ k < 2 ^ 63) (a : xs[k.toNat]? = some d) (h : P d S) : (getG (.box n) (.int k) S).Wp P E := by
  show (getG0 (.box n) (.int k) S).Wp P E
  unfold getG0
  rw [dk_seq (seq_of_lst e)]
  show (match S.lst n with
    | some xs => if 0 ≤ k ∧ k < 2 ^ 63 then match xs[k.toNat]? with
      | some d => Rs.ok d S
      | none => .no else .no
    | none => .no).Wp P E
  rw [e]
  show (if 0 ≤ k ∧ k < 2 ^ 63 then match xs[k.toNat]? with
      | some d => Rs.ok d S
      | none => .no else .no).Wp P E
  rw [if_pos c, a]; exact ⟨h⟩
theorem w_lenB {n : Nat} {xs : List Dt} {P : Dt → Bxs → Prop} (e : S.seq n = some xs) (h : P (.int (xs.length : Int)) S) : (lenG [.box n] S).Wp P E := by
  show (match S.seq n with
    | some xs => Rs.ok (Dt.int (xs.length : Int)) S
    | none => .no).Wp P E
  rw [e]; exact ⟨h⟩
theorem w_lenT {xs : List Dt} {P : Dt → Bxs → Prop} (h : P (.int (xs.length : Int)) S) : (lenG [.tup xs] S).Wp P E := ⟨h⟩
theorem w_append {n : Nat} {xs : List Dt} {d : Dt} {P : Dt → Bxs → Prop} (e : S.lst n = some xs) (c : xs.length < LIM) (h : P .non (S.set n (.lst (xs ++ [d])))) : (appendG (.box n) [d] S).Wp P E := by
  show (match S.lst n with
    | some xs => if xs.length < LIM then Rs.ok Dt.non (S.set n (.lst (xs ++ [d]))) else .no
    | none => .no).Wp P E
  rw [e]
  show (if xs.length < LIM then Rs.ok Dt.non (S.set n (.lst (xs ++ [d]))) else .no).Wp P E
  rw [if_pos c]; exact ⟨h⟩
end
theorem divOk_small {j : Int} (h : 0 < j) (h1 : j < 2 ^ 64) : divOk j := ⟨h, by
  have : j.natAbs < 2 ^ 64 := by omega
  have h2 : j.natAbs.log2 < 64 := (Nat.log2_lt (by omega)).mpr this
  omega⟩
structure BagAt (S : Bxs) (b c : Nat) (h x i : Int) (ns : List Int) : Prop where
  at_ : S[b]? = some (.lst [.int h, .int x, .int i, .box c])
  cells : S[c]? = some (.lst (ns.map Dt.int))
  ne : c ≠ b
  h0 : 0 ≤ h
  x0 : 0 ≤ x
  x1 : x < 2147483647
  i0 : 0 ≤ i
  pos : ∀ n ∈ ns, 0 ≤ n
  len : ns.length ≤ 63
def Bag (S : Bxs) (b c : Nat) : Prop := ∃ h x i ns, BagAt S b c h x i ns
theorem get_pre {S S' : Bxs} (p : S <+: S') {n : Nat} {x : MBox} (h : S[n]? = some x) : S'[n]? = some x := pre_get p h
theorem BagAt.pre {S S' : Bxs} {b c : Nat} {h x i : Int} {ns : List Int} (B : BagAt S b c h x i ns) (p : S <+: S') : BagAt S' b c h x i ns := ⟨get_pre p B.at_, get_pre p B.cells, B.ne, B.h0, B.x0, B.x1, B.i0, B.pos, B.len⟩
theorem get_lt {S : Bxs} {n : Nat} {x : MBox} (h : S[n]? = some x) : n < S.length := (List.getElem?_eq_some_iff.mp h).1
theorem BagAt.set {S : Bxs} {b c : Nat} {h x i h' x' i' : Int} {ns : List Int} (B : BagAt S b c h x i ns) (h0 : 0 ≤ h') (x0 : 0 ≤ x') (x1 : x' < 2147483647) (i0 : 0 ≤ i') : BagAt (S.set b (.lst [.int h', .int x', .int i', .box c])) b c h' x' i' ns :=
  ⟨by rw [List.getElem?_set_self (get_lt B.at_)], by rw [List.getElem?_set_ne B.ne.symm]; exact B.cells, B.ne, h0, x0, x1, i0, B.pos, B.len⟩
/-- all but the bag stays -/
structure Fr (b : Nat) (S S' : Bxs) : Prop where
  len : S.length ≤ S'.length
  get : ∀ n, n < S.length → n ≠ b → S'[n]? = S[n]?
theorem Fr.refl (b : Nat) (S : Bxs) : Fr b S S := ⟨Nat.le_refl _, fun _ _ _ => rfl⟩
theorem Fr.trans {b : Nat} {S S1 S2 : Bxs} (h : Fr b S S1) (k : Fr b S1 S2) : Fr b S S2 := ⟨Nat.le_trans h.len k.len, fun n hn hb => (k.get n (Nat.lt_of_lt_of_le hn h.len) hb).trans (h.get n hn hb)⟩
theorem Fr.pre {b : Nat} {S S' : Bxs} (p : S <+: S') : Fr b S S' := by
  obtain ⟨t, rfl⟩ := p
  exact ⟨by simp, fun n hn _ => List.getElem?_append_left hn⟩
theorem Fr.set {b : Nat} {S : Bxs} {x : MBox} : Fr b S (S.set b x) := ⟨by simp, fun n _ hb => List.getElem?_set_ne hb.symm⟩
/-- a box of one's own is changed -/
theorem Fr.own {b n : Nat} {S S1 : Bxs} {x : MBox} (h : Fr b S S1) (hn : S.length ≤ n) : Fr b S (S1.set n x) := ⟨by rw [List.length_set]; exact h.len, fun k hk hb => by rw [List.getElem?_set_ne (Nat.ne_of_gt (Nat.lt_of_lt_of_le hk hn))]; exact h.get k hk hb⟩
theorem Fr.at_ {b n : Nat} {S S' : Bxs} {x : MBox} (h : Fr b S S') (e : S[n]? = some x) (hb : n ≠ b) : S'[n]? = some x := (h.get n (get_lt e) hb).trans e
theorem get_last {S : Bxs} {x : MBox} : (S ++ [x])[S.length]? = some x := by simp
theorem Rs.Wp.ok {α : Type} {r : Rs α} {P : α → Bxs → Prop} (h : r.Wp P noX) : ∃ a s, r = .ok a s ∧ P a s := sat_ok h.sat
theorem Rs.Wp.of {α : Type} {r : Rs α} {a : α} {s : Bxs} {P : α → Bxs → Prop} {E : Nat → List Dt → Bxs → Prop} (e : r = .ok a s) (h : P a s) : r.Wp P E := by rw [e]; exact ⟨h⟩
section
variable {α : Type} {σ : Sg} {S : Bxs} {E : Nat → List Dt → Bxs → Prop}
theorem w_loop {st : Bxs → Prop} {g : α → Sg → Bxs → Rs Sg} {body : FS} {P : Fl × Sg → Bxs → Prop} (I : Nat → Sg → Bxs → Prop) {xs : List α} (hst : ∀ i σ S, I i σ S → st S)
    (step : ∀ i x σ S, xs[i]? = some x → I i σ S → (g x σ S).Wp (fun σ1 S1 => (body σ1 S1).Wp (fun r S2 => (r.1 = .nx ∧ I (i + 1) r.2 S2) ∨ ∃ d, r.1 = .rt d ∧ P (.rt d, r.2) S2) E) E)
    (fin : ∀ σ S, I xs.length σ S → P (.nx, σ) S) (h0 : I 0 σ S) : (loopF st g body xs σ S).Wp P E := by
  have go : ∀ (k : Nat) (ys : List α) (σ : Sg) (S : Bxs), k + ys.length = xs.length → ys = xs.drop k → I k σ S → (loopF st g body ys σ S).Wp P E := by
    intro k ys
    induction ys generalizing k with
    | nil =>
      intro σ S hk he hI
      unfold loopF
      rw [if_pos (hst _ _ _ hI)]
      have : k = xs.length := by simpa using hk
      subst this
      exact ⟨fin _ _ hI⟩
    | cons y ys ih =>
      intro σ S hk he hI
      unfold loopF
      rw [if_pos (hst _ _ _ hI)]
      have hkl : k < xs.length := by rw [List.length_cons] at hk; omega
      have hd := List.drop_eq_getElem_cons hkl
      rw [← he] at hd
      injection hd with e1 e2
      have hx : xs[k]? = some y := by rw [List.getElem?_eq_getElem hkl, e1]
      refine w_bind ((step k y σ S hx hI).mono (fun σ1 S1 h1 => w_bind (h1.mono (fun r S2 h2 => ?_) fun _ _ _ q => q)) fun _ _ _ q => q)
      obtain ⟨fl, σ2⟩ := r
      rcases h2 with ⟨e, hI2⟩ | ⟨d, e, hP⟩
      · cases e
        exact ih (k + 1) σ2 S2 (by rw [List.length_cons] at hk; omega) e2 hI2
      · cases e
        exact ⟨hP⟩
  exact go 0 xs σ S (by simp) rfl h0
theorem w_for {src : Src α} {g : α → Sg → Bxs → Rs Sg} {body : FS} {P : Fl × Sg → Bxs → Prop} (h : (src σ S).Wp (fun r S1 => (loopF r.2 g body r.1 σ S1).Wp P E) E) : (sFor src g body σ S).Wp P E := w_bind h
theorem w_srcSeq {f : FE} {P : List Dt × (Bxs → Prop) → Bxs → Prop} (h : (f σ S).Wp (fun d S1 => ∃ xs, seqOf S1 d = some xs ∧ P (xs, fun S' => seqOf S' d = some xs) S1) E) : (srcSeq f σ S).Wp P E :=
  w_bind (h.mono (fun d S1 ⟨xs, e, q⟩ => by rw [e]; exact ⟨q⟩) fun _ _ _ q => q)
theorem w_srcR1 {f : FA} {P : List Dt × (Bxs → Prop) → Bxs → Prop} (h : (f σ S).Wp (fun ds S1 => ∃ j, ds = [.int j] ∧ inR j ∧ P (rgD 0 j.toNat, fun _ => True) S1) E) : (srcR1 f σ S).Wp P E :=
  w_bind (h.mono (fun d S1 ⟨j, e, c, q⟩ => by subst e; show (if inR j then Rs.ok (rgD 0 j.toNat, fun _ => True) S1 else .no).Wp P E; rw [if_pos c]; exact ⟨q⟩) fun _ _ _ q => q)
theorem w_srcZip {f : FA} {P : List (Dt × Dt) × (Bxs → Prop) → Bxs → Prop} (h : (f σ S).Wp (fun ds S1 => ∃ d e xs ys, ds = [d, e] ∧ seqOf S1 d = some xs ∧ seqOf S1 e = some ys ∧ P (xs.zip ys, fun S' => seqOf S' d = some xs ∧ seqOf S' e = some ys) S1) E) : (srcZip f σ S).Wp P E :=
  w_bind (h.mono (fun ds S1 ⟨d, e, xs, ys, z, e1, e2, q⟩ => by
    subst z
    show (match seqOf S1 d, seqOf S1 e with
    | some xs, some ys => Rs.ok (xs.zip ys, fun S' => seqOf S' d = some xs ∧ seqOf S' e = some ys) S1
    | _, _ => .no).Wp P E
    rw [e1, e2]; exact ⟨q⟩) fun _ _ _ q => q)
theorem quiet_of {r : Rs α} {P : α → Bxs → Prop} (h : r.Wp P noX) : r.quiet.Wp P E := by
  cases r with
  | ok a s => exact ⟨h.sat⟩
  | ex c ds s => exact h.sat.elim
  | no => exact h.sat.elim
theorem w_lc {src : Src α} {g : α → Sg → Bxs → Rs Sg} {tt : FB} {te : FE} {vs : List Nat} {P : Dt → Bxs → Prop}
    (h : (src σ S).Wp (fun r S1 => ∃ I : Nat → List Dt → Bxs → Prop, (∀ i acc S, I i acc S → r.2 S) ∧
      (∀ i x acc S, r.1[i]? = some x → S[S1.length]? = some (.lst acc) → I i acc S → (g x (wipeD σ vs) S).Wp (fun σ1 S2 => (tt σ1 S2).Wp (fun b S3 => (b = true → (te σ1 S3).Wp (fun d S4 => S4[S1.length]? = some (.lst acc) ∧ acc.length < LIM ∧ I (i + 1) (acc ++ [d]) (S4.set S1.length (.lst (acc ++ [d])))) noX) ∧
        (b = false → S3[S1.length]? = some (.lst acc) ∧ I (i + 1) acc S3)) noX) noX) ∧
      I 0 [] (S1 ++ [.lst []]) ∧ ∀ acc S, S[S1.length]? = some (.lst acc) → I r.1.length acc S → P (.box S1.length) S) E) : (dLc src g tt te vs σ S).Wp P E := by
  refine w_bind (h.mono (fun r S1 h1 => ?_) fun _ _ _ q => q)
  obtain ⟨xs, st⟩ := r
  obtain ⟨I, hst, step, h0, fin⟩ := h1
  refine w_bind (quiet_of ?_)
  have go : ∀ (k : Nat) (ys : List α) (acc : List Dt) (S : Bxs), k + ys.length = xs.length → ys = xs.drop k → S[S1.length]? = some (.lst acc) → I k acc S → (lcF st g tt te (wipeD σ vs) S1.length ys S).Wp (fun _ S2 => P (.box S1.length) S2) noX := by
    intro k ys
    induction ys generalizing k with
    | nil =>
      intro acc S hk he hn hI
      unfold lcF
      rw [if_pos (hst _ _ _ hI)]
      have : k = xs.length := by simpa using hk
      subst this
      exact ⟨fin _ _ hn hI⟩
    | cons y ys ih =>
      intro acc S hk he hn hI
      unfold lcF
      rw [if_pos (hst _ _ _ hI)]
      have hkl : k < xs.length := by rw [List.length_cons] at hk; omega
      have hd := List.drop_eq_getElem_cons hkl
      rw [← he] at hd
      injection hd with e1 e2
      have hx : xs[k]? = some y := by rw [List.getElem?_eq_getElem hkl, e1]
      refine w_bind ((step k y acc S hx hn hI).mono (fun σ1 S2 h1 => w_bind (h1.mono (fun b S3 h2 => w_cond (fun hb => w_bind ((h2.1 hb).mono (fun d S4 h3 => ?_) fun _ _ _ q => q)) fun hb => ?_) fun _ _ _ q => q)) fun _ _ _ q => q)
      · obtain ⟨hn4, hl, hI2⟩ := h3
        rw [lst_of hn4]
        show (if acc.length < LIM then lcF st g tt te (wipeD σ vs) S1.length ys (S4.set S1.length (.lst (acc ++ [d]))) else .no).Wp _ _
        rw [if_pos hl]
        exact ih (k + 1) _ _ (by rw [List.length_cons] at hk; omega) e2 (List.getElem?_set_self (get_lt hn4)) hI2
      · obtain ⟨hn3, hI2⟩ := h2.2 hb
        exact ih (k + 1) acc S3 (by rw [List.length_cons] at hk; omega) e2 hn3 hI2
  exact (go 0 xs [] _ (by simp) rfl get_last h0).mono (fun _ _ q => ⟨q⟩) fun _ _ _ q => q
/-- items that change nothing -/
theorem w_lcMap {src : Src α} {g : α → Sg → Bxs → Rs Sg} {te : FE} {vs : List Nat} {P : Dt → Bxs → Prop}
    (h : (src σ S).Wp (fun r S1 => ∃ f : α → Dt, r.1.length < LIM ∧ (∀ acc, r.2 (S1 ++ [.lst acc])) ∧
      (∀ x acc, x ∈ r.1 → (g x (wipeD σ vs) (S1 ++ [.lst acc])).Wp (fun σ1 S2 => S2 = S1 ++ [.lst acc] ∧ (te σ1 (S1 ++ [.lst acc])).Wp (fun d S4 => d = f x ∧ S4 = S1 ++ [.lst acc]) noX) noX) ∧
      P (.box S1.length) (S1 ++ [.lst (r.1.map f)])) E) : (dLc src g bYes te vs σ S).Wp P E := by
  refine w_lc (h.mono (fun r S1 ⟨f, hl, hst, step, fin⟩ => ?_) fun _ _ _ q => q)
  refine ⟨fun i acc S => acc = (r.1.take i).map f ∧ S = S1 ++ [.lst acc], fun i acc S ⟨_, e⟩ => by rw [e]; exact hst _, fun i x acc S hx hn ⟨ea, eS⟩ => ?_, ⟨by simp, rfl⟩, fun acc S hn ⟨ea, eS⟩ => ?_⟩
  · subst eS
    refine (step x acc (List.mem_of_getElem? hx)).mono (fun σ1 S2 ⟨e2, q⟩ => ?_) fun _ _ _ q => q
    subst e2
    refine ⟨fun _ => q.mono (fun d S4 ⟨ed, e4⟩ => ?_) fun _ _ _ q => q, fun z => nomatch z⟩
    subst e4
    have hil : i < r.1.length := (List.getElem?_eq_some_iff.mp hx).1
    refine ⟨get_last, ?_, ?_, ?_⟩
    · rw [ea, List.length_map, List.length_take]; omega
    · rw [ed, ea, List.take_add_one, hx]; simp
    · rw [List.set_append_right _ _ (Nat.le_refl _)]; simp
  · rw [List.take_length] at ea
    rw [eS, ea]; exact fin
end
theorem Bag.lt {S : Bxs} {b c : Nat} (B : Bag S b c) : b < S.length ∧ c < S.length := let ⟨_, _, _, _, B⟩ := B; ⟨get_lt B.at_, get_lt B.cells⟩
theorem Bag.pre {S S' : Bxs} {b c : Nat} (B : Bag S b c) (p : S <+: S') : Bag S' b c := let ⟨h, x, i, ns, B⟩ := B; ⟨h, x, i, ns, B.pre p⟩
theorem Bag.own {S : Bxs} {b c n : Nat} {x : MBox} (B : Bag S b c) (hb : n ≠ b) (hc : n ≠ c) : Bag (S.set n x) b c := by
  obtain ⟨h, y, i, ns, B⟩ := B
  exact ⟨h, y, i, ns, by rw [List.getElem?_set_ne hb]; exact B.at_, by rw [List.getElem?_set_ne hc]; exact B.cells, B.ne, B.h0, B.x0, B.x1, B.i0, B.pos, B.len⟩
theorem Bag.app {S : Bxs} {b c : Nat} {x : MBox} (B : Bag S b c) : Bag (S ++ [x]) b c := B.pre (List.prefix_append _ _)
theorem Fr.app {b : Nat} {S S1 : Bxs} {x : MBox} (h : Fr b S S1) : Fr b S (S1 ++ [x]) := h.trans (Fr.pre (List.prefix_append _ _))
theorem Fr.seq {b n : Nat} {S S' : Bxs} {xs : List Dt} (h : Fr b S S') (e : S.seq n = some xs) (hb : n ≠ b) : S'.seq n = some xs := by
  have hl : n < S.length := by
    unfold Bxs.seq at e
    cases z : S[n]? with
    | none => rw [z] at e; cases e
    | some x => exact get_lt z
  unfold Bxs.seq at e ⊢
  rw [h.get n hl hb]; exact e
theorem seq_lt {n : Nat} {S : Bxs} {xs : List Dt} (e : S.seq n = some xs) : n < S.length := by
  unfold Bxs.seq at e
  cases z : S[n]? with
  | none => rw [z] at e; cases e
  | some x => exact get_lt z
theorem ixN_mk {n : Nat} {i : Int} (h0 : 0 ≤ i) (h1 : i < n) : ixN n i = some i.toNat := by unfold ixN; rw [if_pos h0, if_pos h1]
theorem w_idx {S : Bxs} {E : Nat → List Dt → Bxs → Prop} {n : Nat} {xs : List Dt} {i : Int} {P : Dt → Bxs → Prop} (e : S.seq n = some xs) (h0 : 0 ≤ i) (h1 : i < xs.length) (h : ∀ d, xs[i.toNat]? = some d → P d S) : (ixG (.box n) (.int i) S).Wp P E := by
  have hl : i.toNat < xs.length := by omega
  have e2 : xs[i.toNat]? = some xs[i.toNat] := List.getElem?_eq_getElem hl
  refine w_ixB e (d := xs[i.toNat]) ?_ (h _ e2)
  unfold atI; rw [ixN_mk h0 h1]; exact e2
theorem ty_list {S : Bxs} {n : Nat} {xs : List Dt} (e : S[n]? = some (.lst xs)) : tyD "list" (.box n) S := .inl ⟨rfl, by rw [seq_lst e]; rfl⟩
section
variable {S : Bxs} {E : Nat → List Dt → Bxs → Prop}
theorem w_listT {xs : List Dt} {P : Dt → Bxs → Prop} (h : (newL xs S).Wp P E) : (listG [.tup xs] S).Wp P E := h
theorem w_seqB {n : Nat} {xs : List Dt} (e : S[n]? = some (.lst xs)) : seqOf S (.box n) = some xs := seq_lst e
end
theorem zeros (k : Nat) : (List.replicate k [Dt.int 0]).flatten = (List.replicate k (0 : Int)).map Dt.int := by
  induction k with
  | zero => rfl
  | succ k ih => rw [List.replicate_succ, List.flatten_cons, ih, List.replicate_succ]; rfl
section
variable {S : Bxs} {E : Nat → List Dt → Bxs → Prop}
theorem w_tupB {n : Nat} {xs : List Dt} {P : Dt → Bxs → Prop} (e : S.seq n = some xs) (h : P (.tup xs) S) : (tupleG [.box n] S).Wp P E := by
  show (match S.seq n with
    | some xs => Rs.ok (Dt.tup xs) S
    | none => .no).Wp P E
  rw [e]; exact ⟨h⟩
end
/-- a list of ints in a box -/
def IL (S : Bxs) (n : Nat) (is : List Int) : Prop := S[n]? = some (.lst (is.map Dt.int))
theorem IL.seq {S : Bxs} {n : Nat} {is : List Int} (h : IL S n is) : S.seq n = some (is.map Dt.int) := seq_lst h
theorem IL.fr {S S' : Bxs} {b n : Nat} {is : List Int} (h : IL S n is) (F : Fr b S S') (hb : n ≠ b) : IL S' n is := F.at_ h hb
theorem IL.set {S : Bxs} {n : Nat} {is js : List Int} {xs : List Dt} (h : IL S n js) (e : xs = is.map Dt.int) : IL (S.set n (.lst xs)) n is := by
  subst e; exact List.getElem?_set_self (get_lt h)
theorem IL.pre {S S' : Bxs} {n : Nat} {is : List Int} (h : IL S n is) (p : S <+: S') : IL S' n is := get_pre p h
section
variable {σ : Sg} {S : Bxs} {E : Nat → List Dt → Bxs → Prop}
theorem w_pair {g : FTs} {a : Dt × Dt} {P : Sg → Bxs → Prop} (h : (g [a.1, a.2] σ S).Wp P E) : (tPairG g a σ S).Wp P E := h
theorem w_tNil {P : Sg → Bxs → Prop} (h : P σ S) : (tNilG [] σ S).Wp P E := ⟨h⟩
theorem w_tCons {g : FT} {r : FTs} {d : Dt} {ds : List Dt} {P : Sg → Bxs → Prop} (h : (g d σ S).Wp (fun σ1 S1 => (r ds σ1 S1).Wp P E) E) : (tConsG g r (d :: ds) σ S).Wp P E := w_bind h
theorem w_tTup {g : FTs} {n : Nat} {ds : List Dt} {P : Sg → Bxs → Prop} (hn : ds.length = n) (h : (g ds σ S).Wp P E) : (tTupG n g (.tup ds) σ S).Wp P E := by
  show (if ds.length = n then g ds σ S else .no).Wp P E
  rw [if_pos hn]; exact h
end
theorem c_nx {σ : Sg} {A B : Prop} (h : A) : ((Fl.nx, σ).1 = Fl.nx → A) ∧ ((Fl.nx, σ).1 ≠ Fl.nx → B) := ⟨fun _ => h, fun z => absurd rfl z⟩
theorem c_rt {d : Dt} {σ : Sg} {A B : Prop} (h : B) : ((Fl.rt d, σ).1 = Fl.nx → A) ∧ ((Fl.rt d, σ).1 ≠ Fl.nx → B) := ⟨(fun z => nomatch z), fun _ => h⟩
end Mn
local macro_rules | `(tactic| and_intros) => `(tactic| repeat (first | (first
  | with_reducible refine Mn.w_cons ?_ | with_reducible refine Mn.w_set ?_ | with_reducible refine Mn.w_asg ?_ | with_reducible refine Mn.w_par2 ?_ | with_reducible refine Mn.w_par3 ?_ | with_reducible refine Mn.w_if ?_ | with_reducible refine Mn.w_ret ?_ | with_reducible refine Mn.w_expr ?_ | with_reducible refine Mn.w_augS ?_ | with_reducible refine Mn.w_sNil ?_
  | with_reducible refine Mn.w_bin ?_ | (with_reducible refine Mn.w_var (by with_unfolding_all rfl) ?_) | with_reducible refine Mn.w_c ?_ | with_reducible refine Mn.w_true ?_ | with_reducible refine Mn.w_isN ?_ | with_reducible refine Mn.w_notN ?_ | with_reducible refine Mn.w_and ?_ | with_reducible refine Mn.w_or ?_ | with_reducible refine Mn.w_not ?_ | with_reducible refine Mn.w_andV ?_ | with_reducible refine Mn.w_ifE ?_ | with_reducible refine Mn.w_neg ?_
  | with_reducible refine Mn.w_nil ?_ | with_reducible refine Mn.w_consA ?_ | with_reducible refine Mn.w_tup ?_ | with_reducible refine Mn.w_lst ?_ | with_reducible refine Mn.w_call ?_ | with_reducible refine Mn.w_sl ?_ | with_reducible refine Mn.w_oN ?_ | with_reducible refine Mn.w_oS ?_ | with_reducible refine Mn.w_meth ?_ | with_reducible refine Mn.w_tName ?_ | with_reducible refine Mn.w_tSub ?_ | with_reducible refine Mn.w_for ?_ | with_reducible refine Mn.w_pair ?_ | with_reducible refine Mn.w_tNil ?_ | with_reducible refine Mn.w_tCons ?_ | ((with_reducible refine Mn.w_tTup ?_ ?_); rfl) | with_reducible refine Mn.w_srcSeq ?_ | with_reducible refine Mn.w_srcR1 ?_ | with_reducible refine Mn.w_srcZip ?_
  | with_reducible refine Mn.w_add ?_ | with_reducible refine Mn.w_sub ?_ | with_reducible refine Mn.w_addI ?_ | with_reducible refine Mn.w_subI ?_ | with_reducible refine Mn.w_cmp ?_ | with_reducible refine Mn.w_int ?_ | with_reducible refine Mn.w_abs ?_ | with_reducible refine Mn.w_max2 ?_ | with_reducible refine Mn.w_eqI ?_ | with_reducible refine Mn.w_slT ?_ | with_reducible refine Mn.w_lenT ?_
  | ((with_reducible refine Mn.w_mul ?_ ?_); first | exact Mn.mulOk.small2 (by decide) (by decide) | exact Mn.mulOk.small (by decide) (by decide))
  | ((with_reducible refine Mn.w_mod ?_ ?_); first | decide | assumption | omega)
  | ((with_reducible refine Mn.w_pow ?_ ?_); exact ⟨by decide, by decide, by decide⟩)
  | ((with_reducible refine Mn.w_fdiv ?_ ?_); exact Mn.divOk_small (by first | decide | assumption | omega) (by first | decide | assumption | omega))
  | (with_reducible refine Mn.w_ixB (Mn.seq_lst (by assumption)) (by with_unfolding_all rfl) ?_)
  | ((with_reducible refine Mn.w_newL ?_ ?_); exact Nat.le_of_ble_eq_true (by rfl))
  | (with_reducible refine Mn.w_ixT (by with_unfolding_all rfl) ?_)) | with_reducible refine Exists.intro _ (And.intro rfl ?_) | with_reducible refine Exists.intro _ (Exists.intro _ (And.intro rfl ?_)) | with_reducible refine Exists.intro _ (Exists.intro _ (Exists.intro _ (And.intro rfl ?_))) | ((with_reducible refine Mn.c_nx ?_); try simp only [List.set_cons_zero, List.set_cons_succ]) | ((with_reducible refine Mn.c_rt ?_); try simp only [List.set_cons_zero, List.set_cons_succ])))
set_option Elab.async false
set_option linter.all false
set_option maxRecDepth 100000
set_option maxHeartbeats 4000000
/-! MnQ: plain data: what it reads as, how long its text is. -/
namespace Mn
open PySem PySem.Spec PyProof.Rows L2
theorem ok_string (s : String) : PyData.strOk (Str.ofString s) = true := by
  unfold PyData.strOk
  rw [Str.ofString_eq_toList]
  rw [Array.all_eq_true]
  intro i hi
  simp at hi ⊢
  have := (s.toList[i]).valid
  have h2 : s.toList[i].toNat < 0x110000 := by
    have h3 : s.toList[i].toNat.isValidChar := this
    rcases h3 with h3 | h3
    · omega
    · exact h3.2
  exact h2
theorem ok_app {x y : Str} (hx : PyData.strOk x = true) (hy : PyData.strOk y = true) : PyData.strOk (x ++ y) = true := by
  show (x.cps ++ y.cps).all (· < 0x110000) = true
  rw [Array.all_append]
  unfold PyData.strOk at hx hy
  rw [hx, hy]; rfl
theorem ok_from : ∀ (ts : List Str) (k : Nat) (acc : Str), PyData.strOk acc = true → (∀ t ∈ ts, PyData.strOk t = true) → PyData.strOk (textFrom k acc ts) = true
  | [], _, _, h, _ => h
  | t :: ts, k, acc, h, ht => ok_from ts (k + 1) _ (ok_app (ok_app h (ok_string _)) (ht t List.mem_cons_self)) fun u hu => ht u (List.mem_cons_of_mem _ hu)
theorem ok_join (sep : Str) (hs : PyData.strOk sep = true) : ∀ (ts : List Str), (∀ t ∈ ts, PyData.strOk t = true) → PyData.strOk (Str.join sep ts) = true
  | [], _ => by unfold Str.join Str.empty PyData.strOk; simp
  | [t], h => h t List.mem_cons_self
  | t :: u :: ts, h => ok_app (ok_app (h t List.mem_cons_self) hs) (ok_join sep hs (u :: ts) fun v hv => h v (List.mem_cons_of_mem _ hv))
theorem ok_list {ts : List Str} (h : ∀ t ∈ ts, PyData.strOk t = true) : PyData.strOk (listText ts) = true := ok_app (ok_from ts 0 _ (ok_string _) h) (ok_string _)
theorem ok_tuple {ts : List Str} (h : ∀ t ∈ ts, PyData.strOk t = true) : PyData.strOk (tupleText ts) = true := ok_app (ok_app (ok_string _) (ok_join _ (ok_string _) ts h)) (ok_string _)
mutual
inductive Pl (S : Bxs) : Nat → Dt → PyData → Nat → Prop
  | non {n w : Nat} : 4 ≤ w → Pl S (n + 1) .non .none w
  | bl {n w : Nat} (b : Bool) : 5 ≤ w → Pl S (n + 1) (.bl b) (.bool b) w
  | int {n w : Nat} {i : Int} : i.natAbs.log2 < 1920 → (PyData.shown (.int i)).length ≤ w → Pl S (n + 1) (.int i) (.int i) w
  | str {n w : Nat} {x : Str} : PyData.strOk x = true → PyData.strOk (PyData.shown (.str x)) = true → (PyData.shown (.str x)).length ≤ w → Pl S (n + 1) (.str x) (.str x) w
  | tup {n w w' : Nat} {xs : List Dt} {ps : List PyData} : Pls S n xs ps w → w + 3 ≤ w' → Pl S (n + 1) (.tup xs) (.tuple ps) w'
  | box {n w w' m : Nat} {xs : List Dt} {ps : List PyData} : S.seq m = some xs → Pls S n xs ps w → w + 3 ≤ w' → Pl S (n + 1) (.box m) (.list ps) w'
inductive Pls (S : Bxs) : Nat → List Dt → List PyData → Nat → Prop
  | nil {n : Nat} : Pls S n [] [] 0
  | cons {n w w' : Nat} {d : Dt} {p : PyData} {ds : List Dt} {ps : List PyData} : Pl S n d p w → Pls S n ds ps w' → Pls S n (d :: ds) (p :: ps) (w + 2 + w')
end
structure PF (p : PyData) (n w : Nat) : Prop where
  lay : p.canLay0 = true
  show_ : p.showable = true
  dict : p.hasDict = false
  deep : p.depth ≤ n
  len : p.shown.length ≤ w
  eqv : p.eqv p = true
  ok : PyData.strOk p.shown = true
structure PFs (ps : List PyData) (n w : Nat) : Prop where
  lay : PyData.canLayAll0 ps = true
  show_ : PyData.showableAll ps = true
  dict : PyData.hasDictAll ps = false
  deep : PyData.depthAll ps ≤ n
  len : ((PyData.shownAll ps).map (·.length)).sum + 2 * (PyData.shownAll ps).length ≤ w
  eqv : PyData.eqvAll ps ps = true
  ok : ∀ t ∈ PyData.shownAll ps, PyData.strOk t = true
mutual
theorem Pl.pd {S : Bxs} : ∀ {n w : Nat} {d : Dt} {p : PyData}, Pl S n d p w → pd S n d = some p
  | _, _, _, _, .non _ => rfl
  | _, _, _, _, .bl b _ => rfl
  | _, _, _, _, .int _ _ => rfl
  | _, _, _, _, .str _ _ _ => rfl
  | _, _, _, _, .tup h _ => by unfold Mn.pd; rw [Pls.pd h]; rfl
  | _, _, _, _, .box e h _ => by unfold Mn.pd; rw [e]; show (optAll _).map _ = _; rw [Pls.pd h]; rfl
theorem Pls.pd {S : Bxs} : ∀ {n w : Nat} {d : List Dt} {p : List PyData}, Pls S n d p w → optAll (d.map (Mn.pd S n)) = some p
  | _, _, _, _, .nil => rfl
  | _, _, _, _, .cons h t => by rw [List.map_cons, Pl.pd h]; unfold optAll; rw [Pls.pd t]; rfl
end
mutual
theorem Pl.pf {S : Bxs} : ∀ {n w : Nat} {d : Dt} {p : PyData}, Pl S n d p w → PF p n w
  | _, _, _, _, .non hw => ⟨by simp [PyData.canLay0], by simp [PyData.showable], by simp [PyData.hasDict], by simp [PyData.depth], by simp only [PyData.shown]; exact Nat.le_trans (by decide) hw, by simp [PyData.eqv], by simp only [PyData.shown]; exact ok_string _⟩
  | _, _, _, _, .bl b hw => ⟨by simp [PyData.canLay0], by simp [PyData.showable], by simp [PyData.hasDict], by simp [PyData.depth], by simp only [PyData.shown]; cases b <;> exact Nat.le_trans (by decide) hw, by simp [PyData.eqv], by simp only [PyData.shown]; cases b <;> exact ok_string _⟩
  | _, _, _, _, .int a b => ⟨by simp [PyData.canLay0], by simp [PyData.showable]; exact a, by simp [PyData.hasDict], by simp [PyData.depth], b, by simp [PyData.eqv], by simp only [PyData.shown]; exact ok_string _⟩
  | _, _, _, _, .str a b c => ⟨by simp [PyData.canLay0]; exact a, by simp [PyData.showable], by simp [PyData.hasDict], by simp [PyData.depth], c, by simp [PyData.eqv], b⟩
  | _, _, _, _, .tup h hw => by
    have q := Pls.pf h
    refine ⟨by simp only [PyData.canLay0]; exact q.lay, by simp only [PyData.showable]; exact q.show_, by simp only [PyData.hasDict]; exact q.dict, by simp only [PyData.depth]; exact Nat.succ_le_succ q.deep, ?_, by simp only [PyData.eqv]; exact q.eqv, by simp only [PyData.shown]; exact ok_tuple q.ok⟩
    simp only [PyData.shown]
    refine Nat.le_trans (tupleText_len_le _) ?_
    have := q.len
    omega
  | _, _, _, _, .box _ h hw => by
    have q := Pls.pf h
    refine ⟨by simp only [PyData.canLay0]; exact q.lay, by simp only [PyData.showable]; exact q.show_, by simp only [PyData.hasDict]; exact q.dict, by simp only [PyData.depth]; exact Nat.succ_le_succ q.deep, ?_, by simp only [PyData.eqv]; exact q.eqv, by simp only [PyData.shown]; exact ok_list q.ok⟩
    simp only [PyData.shown]
    refine Nat.le_trans (listText_len_le _) ?_
    have := q.len
    omega
theorem Pls.pf {S : Bxs} : ∀ {n w : Nat} {d : List Dt} {p : List PyData}, Pls S n d p w → PFs p n w
  | _, _, _, _, .nil => ⟨by simp [PyData.canLayAll0], by simp [PyData.showableAll], by simp [PyData.hasDictAll], by simp [PyData.depthAll], by simp [PyData.shownAll], by simp [PyData.eqvAll], by simp [PyData.shownAll]⟩
  | _, _, _, _, .cons h t => by
    have a := Pl.pf h
    have q := Pls.pf t
    refine ⟨by simp only [PyData.canLayAll0, a.lay, q.lay]; rfl, by simp only [PyData.showableAll, a.show_, q.show_]; rfl, by simp only [PyData.hasDictAll, a.dict, q.dict]; rfl, ?_, ?_, by simp only [PyData.eqvAll, a.eqv, q.eqv]; rfl, fun u hu => ?_⟩
    · simp only [PyData.depthAll]
      have := a.deep
      have := q.deep
      omega
    · simp only [PyData.shownAll, List.map_cons, List.sum_cons, List.length_cons]
      have := a.len
      have := q.len
      omega
    · simp only [PyData.shownAll, List.mem_cons] at hu
      rcases hu with rfl | hu
      · exact a.ok
      · exact q.ok u hu
end
theorem Pl.mono {S : Bxs} {n w w' : Nat} {d : Dt} {p : PyData} (h : Pl S n d p w) (hw : w ≤ w') : Pl S n d p w' := by
  cases h with
  | non h => exact .non (Nat.le_trans h hw)
  | bl b h => exact .bl b (Nat.le_trans h hw)
  | int a b => exact .int a (Nat.le_trans b hw)
  | str a b c => exact .str a b (Nat.le_trans c hw)
  | tup h k => exact .tup h (Nat.le_trans k hw)
  | box e h k => exact .box e h (Nat.le_trans k hw)
/-- the text of an int -/
theorem int_len {i : Int} (k : Nat) (hk : 1 ≤ k) (h : i.natAbs < 10 ^ k) : (PyData.shown (.int i)).length ≤ k + 1 := by
  simp only [PyData.shown]
  have go : ∀ m : Nat, m < 10 ^ k → (Str.ofString (toString m)).length ≤ k := fun m hm => by
    rw [ofString_len]
    show (Nat.repr m).length ≤ k
    have := digitsCore_len_pow 10 (by decide) k (m + 1) m [] hk hm
    have e : (Nat.repr m).length = (Nat.toDigits 10 m).length := by unfold Nat.repr; simp
    rw [e]
    unfold Nat.toDigits
    simpa using this
  cases i with
  | ofNat m =>
    have := go m h
    exact Nat.le_trans this (Nat.le_succ _)
  | negSucc m =>
    have hz : Int.negSucc m < 0 := Int.negSucc_lt_zero m
    show (Str.ofString (toString (Int.negSucc m))).length ≤ _
    rw [len_text_neg hz]
    have e : (0 : Int) - Int.negSucc m = Int.ofNat (m + 1) := by
      rw [Int.negSucc_eq]; show _ = ((m + 1 : Nat) : Int); omega
    rw [e]
    have := go (m + 1) h
    show 1 + (Str.ofString (toString (m + 1))).length ≤ _
    omega
theorem Pl.mkInt {S : Bxs} {n : Nat} {i : Int} (k : Nat) (hk : 1 ≤ k) (hk2 : k ≤ 500) (h : i.natAbs < 10 ^ k) : Pl S (n + 1) (.int i) (.int i) (k + 1) := by
  refine .int ?_ (int_len k hk h)
  by_cases h0 : i.natAbs = 0
  · rw [h0]; decide
  · refine (Nat.log2_lt h0).mpr ?_
    refine Nat.lt_of_lt_of_le h ?_
    refine Nat.le_trans (Nat.pow_le_pow_right (by decide) hk2) ?_
    decide +kernel
section
variable {S : Bxs} {E : Nat → List Dt → Bxs → Prop}
theorem w_repr {d : Dt} {p : PyData} {w : Nat} {P : Dt → Bxs → Prop} (h : Pl S 60 d p w) (hw : w ≤ 1000000) (q : P (.str p.shown) S) : (reprG [d] S).Wp P E := by
  have e : reprG [d] S = .ok (.str p.shown) S := by
    show (match pdo S d with
    | some p => if showOk p = true then Rs.ok (Dt.str p.shown) S else .no
    | none => .no) = _
    have e1 : pdo S d = some p := h.pd
    rw [e1]
    have f := h.pf
    have hs : showOk p = true := by
      unfold showOk
      rw [f.show_, f.dict]
      have := f.deep
      have := f.len
      have l : strLim = 1000000 := rfl
      simp
      exact ⟨by omega, by omega⟩
    show (if showOk p = true then Rs.ok (Dt.str p.shown) S else .no) = _
    rw [if_pos hs]
  rw [e]; exact sat_mk q
theorem shaped_pl {d : Dt} {p : PyData} {w : Nat} (h : Pl S 60 d p w) : SeqAt.shaped p = true := by
  have f := h.pf
  unfold SeqAt.shaped
  rw [f.lay]
  have := f.deep
  simp
  omega
theorem w_eq {neg : Bool} {x y : Dt} {p q : PyData} {w w' : Nat} {P : Dt → Bxs → Prop} (hx : Pl S 60 x p w) (hy : Pl S 60 y q w') (h : P (.bl (if neg then !PyData.eqv p q else PyData.eqv p q)) S) : (eqG neg x y S).Wp P E := by
  have e : eqG neg x y S = .ok (.bl (if neg then !PyData.eqv p q else PyData.eqv p q)) S := by
    have e1 : pdo S x = some p := hx.pd
    have e2 : pdo S y = some q := hy.pd
    unfold eqG
    rw [e1, e2]
    show (if SeqAt.shaped p = true ∧ SeqAt.shaped q = true then _ else _) = _
    rw [if_pos ⟨shaped_pl hx, shaped_pl hy⟩]
  rw [e]; exact sat_mk h
end
mutual
theorem Pl.pre {S S' : Bxs} (q : S <+: S') : ∀ {n w : Nat} {d : Dt} {p : PyData}, Pl S n d p w → Pl S' n d p w
  | _, _, _, _, .non h => .non h
  | _, _, _, _, .bl b h => .bl b h
  | _, _, _, _, .int a b => .int a b
  | _, _, _, _, .str a b c => .str a b c
  | _, _, _, _, .tup h k => .tup (Pls.pre q h) k
  | _, _, _, _, .box (m := m) e h k => .box (by
      obtain ⟨t, rfl⟩ := q
      have hl := seq_lt e
      unfold Bxs.seq at e ⊢
      rw [List.getElem?_append_left hl]; exact e) (Pls.pre q h) k
theorem Pls.pre {S S' : Bxs} (q : S <+: S') : ∀ {n w : Nat} {d : List Dt} {p : List PyData}, Pls S n d p w → Pls S' n d p w
  | _, _, _, _, .nil => .nil
  | _, _, _, _, .cons h t => .cons (Pl.pre q h) (Pls.pre q t)
end
end Mn
set_option Elab.async false
set_option linter.all false
set_option maxRecDepth 100000
set_option maxHeartbeats 4000000
/-! MnY: rules of weakest premises for what raises. -/
namespace Mn
open PySem PySem.Spec PyProof.Rows L2
end Mn
set_option Elab.async false
set_option linter.all false
set_option maxRecDepth 100000
set_option maxHeartbeats 4000000
/-! MnU: while; methods without arguments, pop; sorted of data; displays and comprehensions of dicts; get. -/
namespace Mn
open PySem PySem.Spec PyProof.Rows L2
section
variable {X : Cx} {Er : ER} {K : PySem.W.Frag} {H H1 : Hp} {ρ ρ1 : List Addr} {σ : Sg} {S S1 : Bxs} {τ : L2.St}
/-! ### while -/
def wlN (c : FB) (b : FS) : Nat → FS
  | 0 => fun _ _ => .no
  | n + 1 => fun σ S => (c σ S).bind fun k S1 => if k = true then (b σ S1).bind fun r S2 => match r.1 with
      | .nx => wlN c b n r.2 S2
      | .ct => wlN c b n r.2 S2
      | .bk => .ok (.nx, r.2) S2
      | .rt d => .ok (.rt d, r.2) S2
    else .ok (.nx, σ) S1
open Classical in
noncomputable def sWhile (c : FB) (b : FS) : FS := fun σ S => if h : ∃ n, wlN c b n σ S ≠ .no then wlN c b h.choose σ S else .no
theorem while_some {c : FB} {b : FS} {P : Fl × Sg → Bxs → Prop} {E : Nat → List Dt → Bxs → Prop} (h : (sWhile c b σ S).Sat P E) : ∃ n, (wlN c b n σ S).Sat P E := by
  unfold sWhile at h
  split at h
  · exact ⟨_, h⟩
  · exact h.elim
theorem ss_while {c : Expr} {body : List Stmt} {fc : FB} {fb : FS} {pos : Pos} (hp : PassesOwn (model X.prog X.w) X.A X.env X.xe) (hc : ST X Er c fc) (hb : SSs X Er body fb) : SS X Er (.While c body [] pos) (sWhile fc fb) := by
  obtain ⟨tc, pc, qc⟩ := hc.ex
  obtain ⟨tb, pb, qb⟩ := hb.ex
  refine ⟨_, ps_while hp pc pb, fun τ H ρ σ S D T h => ?_⟩
  obtain ⟨n, h⟩ := while_some h
  refine ⟨fun m τ' H' => ∃ ρ' σ' S', To H H' ρ ρ' ∧ Ty X.K H' ρ' σ' S' τ' ∧ (wlN fc fb m σ' S').Sat (KF X.K H' ρ' D) (KX Er H' ρ'), ⟨n, ρ, σ, S, To.refl _ _, T, h⟩, ?_⟩
  rintro m τ1 H1 ⟨ρ1, σ1, S1, t1, T1, h1⟩
  cases m with
  | zero => exact h1.elim
  | succ m =>
    refine qc τ1 H1 ρ1 σ1 S1 _ T1 ((link h1).mono (fun k S2 h2 => ?_) fun _ _ _ q => q)
    intro H2 ρ2 t2 hr2
    cases k with
    | false =>
      rw [if_neg Bool.false_ne_true] at h2
      show if false = true then _ else _
      rw [if_neg Bool.false_ne_true]
      exact h2 τ1 H2 ρ2 t2 (T1.to t2 hr2)
    | true =>
      rw [if_pos rfl] at h2
      show if true = true then _ else _
      rw [if_pos rfl]
      refine ⟨fun τ' H' => ∃ ρ' σ' S', To H H' ρ ρ' ∧ Ty X.K H' ρ' σ' S' τ' ∧ (wlN fc fb m σ' S').Sat (KF X.K H' ρ' D) (KX Er H' ρ'), fun τ' H' q => ⟨m, Nat.lt_succ_self m, q⟩, ?_⟩
      refine qb τ1 H2 ρ2 σ1 S2 _ (T1.to t2 hr2) ((link (Rs.Sat.toF t2 h2)).mono (fun r S3 h3 => ?_) fun _ _ _ q => q)
      obtain ⟨fl, σ3⟩ := r
      cases fl with
      | nx =>
        intro τ3 H3 ρ3 t3 T3
        exact ⟨ρ3, σ3, S3, (t1.trans t2).trans t3, T3, Rs.Sat.toF t3 h3⟩
      | ct =>
        intro τ3 H3 ρ3 t3 T3
        exact ⟨ρ3, σ3, S3, (t1.trans t2).trans t3, T3, Rs.Sat.toF t3 h3⟩
      | bk =>
        intro τ3 H3 ρ3 t3 T3
        exact h3 τ3 H3 ρ3 t3 T3
      | rt d =>
        intro v H3 ρ3 t3 hr3 dv
        exact h3 v H3 ρ3 t3 hr3 dv
/-! ### methods without arguments -/
/-! ### sorted -/
end
end Mn
set_option Elab.async false
set_option linter.all false
set_option maxRecDepth 100000
set_option maxHeartbeats 4000000
/-! MnV: sorted at the data; sorted(dict); displays and comprehensions of dicts; get. -/
namespace Mn
open PySem PySem.Spec PyProof.Rows L2
end Mn
set_option Elab.async false
set_option linter.all false
set_option maxRecDepth 100000
set_option maxHeartbeats 4000000
/-! MnW: or, and by truth; repr of an empty dict. -/
namespace Mn
open PySem PySem.Spec PyProof.Rows L2
end Mn
set_option Elab.async false
set_option linter.all false
set_option maxRecDepth 100000
set_option maxHeartbeats 4000000
/-! MnR: gcd; get; walks over a dict. -/
namespace Mn
open PySem PySem.Spec PyProof.Rows L2
section
variable {X : Cx} {Er : ER} {K : PySem.W.Frag} {H H1 : Hp} {ρ ρ1 : List Addr} {σ : Sg} {S S1 : Bxs} {τ : L2.St}
/-! ### a module's name for a built-in -/
theorem se_callF {x : Str} {p pos : Pos} {e : Expr} {es : List Expr} {id : String} {r : List V → Hp → VK → Prop} {g : GC} {fa : FA} (hc : CallR X (.builtin id) r) (hr : RCo X.K r g) (hcalm : CalmC g) (hg : Gl X x) (hm : X.mg x = some (.builtin id))
    (ha : SA X Er (e :: es) fa) (hdb : (x == ("__debug__" : Str)) = false := by decide)
    (he : starEach (e :: es) X.env = (false, eval e X.env) :: starEach es X.env := by rfl) (hpl : (backTo pos (starEach es X.env)).any (·.1) = false := by rfl) : SE X Er (.Call (.Name x p) (e :: es) [] pos) (dCall g fa) := by
  obtain ⟨ta, pa, qa⟩ := ha.ex
  exact ⟨_, pe_callBfun hc hg hm pa hdb he hpl, fun τ H ρ σ S Q T h => call_sat qa hr hcalm T h⟩
def gcdG : GC := fun ds S => match ds with
  | [.int a, .int b] => .ok (.int ((Nat.gcd a.natAbs b.natAbs : Nat) : Int)) S
  | _ => .no
theorem gcdG_calm : CalmC gcdG := by
  intro ds S c es S'
  unfold gcdG
  split
  · exact calm_ok _ _ _ _ _
  · exact calm_no _ _ _
theorem rc_gcd : RCo K rGcd gcdG := by
  intro H ρ S ds vs Q hr dvs h
  unfold gcdG at h
  split at h
  · obtain ⟨v, w, rfl, d1, d2⟩ := dvs2 dvs
    cases d1
    cases d2
    exact ⟨_, _, rfl, ko_here hr h (.int _)⟩
  · exact h.elim
/-! ### get -/
/-! ### a dict is walked -/
end
end Mn
set_option Elab.async false
set_option linter.all false
set_option maxRecDepth 100000
set_option maxHeartbeats 4000000
/-! MnO: len(set(xs)); xs.index(x), whole numbers; min of a dict. -/
namespace Mn
open PySem PySem.Spec PyProof.Rows L2
end Mn
set_option Elab.async false
set_option linter.all false
set_option maxRecDepth 100000
set_option maxHeartbeats 4000000
/-! MnO2: dict(list of pairs). -/
namespace Mn
open PySem PySem.Spec PyProof.Rows L2
end Mn
set_option Elab.async false
set_option linter.all false
set_option maxRecDepth 100000
set_option maxHeartbeats 4000000
/-! MnZr: list(zip(range(n), xs)). -/
namespace Mn
open PySem PySem.Spec PyProof.Rows L2
/-! ### the rule -/
end Mn
set_option Elab.async false
set_option linter.all false
set_option maxRecDepth 100000
set_option maxHeartbeats 4000000
/-! MnLam: g(lambda: ..), where g is: try: return (z, a()) and clauses. -/
namespace Mn
open PySem PySem.Spec PyProof.Rows L2
open LamX (CodeO TabS Tabs ExtN TabB LamS lamCx lamEnv lam_start2 lam_make2 run_ofS lamS_by)
/-! ### the tables -/
/-! ### the call -/
/-! ### the law's own call, tables beside the script -/
end Mn
set_option Elab.async false
set_option linter.all false
set_option maxRecDepth 100000
set_option maxHeartbeats 4000000
/-! MnLc2: comprehensions of two walks, x *= y, divmod, reversed(list). -/
namespace Mn
open PySem PySem.Spec PyProof.Rows L2
section
variable {X : Cx} {Er : ER} {K : PySem.W.Frag} {H H1 : Hp} {ρ ρ1 : List Addr} {σ : Sg} {S S1 : Bxs} {τ : L2.St}
/-! x *= y -/
instance (i j : Int) : Decidable (CMul i j) := by unfold CMul; infer_instance
/-! divmod -/
instance (i j : Int) : Decidable (CDiv i j) := by unfold CDiv; infer_instance
/-! reversed(list) -/
/-! two walks -/
def canI {α : Type} (K : PySem.W.Frag) (Er : ER) (it : IRel α) (src : Src α) : TI := fun τ H R => ∃ ρ σ S, Ty K H ρ σ S τ ∧ (src σ S).Sat (KI K H ρ it R) (KX Er H ρ)
theorem SI.can {α : Type} {it : IRel α} {tg iter : Expr} {src : Src α} (h : SI X Er it tg iter src) : PI X tg iter (canI X.K Er it src) := by
  obtain ⟨wi, p, q⟩ := h.ex
  exact ⟨fun pins s σ H R I ⟨ρ, σ', S, T, hs⟩ => p.run pins s σ H R I (q _ _ _ _ _ _ T hs)⟩
end
end Mn
set_option Elab.async false
set_option linter.all false
set_option maxRecDepth 100000
set_option maxHeartbeats 4000000
/-! MnDl: len of a dict with tuples of ints as keys. -/
namespace Mn
open PySem PySem.Spec PyProof.Rows L2
end Mn
set_option Elab.async false
set_option linter.all false
set_option maxRecDepth 100000
set_option maxHeartbeats 4000000
/-! MnEq: x == y for lists and tuples whose parts are the same boxes. -/
namespace Mn
open PySem PySem.Spec PyProof.Rows L2
section
variable {X : Cx} {Er : ER} {K : PySem.W.Frag} {H H1 : Hp} {ρ ρ1 : List Addr} {σ : Sg} {S S1 : Bxs} {τ : L2.St}
def sameL : Dt → Dt → Bool
  | .non, .non => true
  | .bl a, .bl b => a == b
  | .int a, .int b => a == b
  | .str a, .str b => a == b
  | .box i, .box j => i == j
  | _, _ => false
def kidsD (S : Bxs) : Dt → Dt → Option (List Dt × List Dt × Bool)
  | .tup xs, .tup ys => some (xs, ys, true)
  | .box i, .box j => match S.seq i, S.seq j with
    | some xs, some ys => some (xs, ys, false)
    | _, _ => none
  | _, _ => none
def sameD (S : Bxs) : Nat → Dt → Dt → Bool
  | 0, x, y => sameL x y
  | n + 1, x, y => sameL x y || (match kidsD S x y with
    | some (xs, ys, _) => xs.length == ys.length && (xs.zip ys).all fun p => sameD S n p.1 p.2
    | none => false)
/-- x == y: data, else two lists that hold the same things -/
def eqE : G2 := fun x y S => match eqG false x y S with
  | .ok d S' => .ok d S'
  | _ => match x, y with
    | .box i, .box j => match S.seq i, S.seq j with
      | some xs, some ys => if xs.length = ys.length ∧ ((xs.zip ys).all fun p => sameD S 50 p.1 p.2) = true then .ok (.bl true) S else .no
      | _, _ => .no
    | _, _ => .no
end
end Mn
set_option Elab.async false
set_option linter.all false
set_option maxRecDepth 100000
set_option maxHeartbeats 4000000
/-! MnRe: repr of lists and tuples with an empty dict within. -/
namespace Mn
open PySem PySem.Spec PyProof.Rows L2
end Mn
set_option Elab.async false
set_option linter.all false
set_option maxRecDepth 100000
set_option maxHeartbeats 4000000
/-! MnDs: a text is no dict. -/
namespace Mn
open PySem PySem.Spec PyProof.Rows L2
end Mn
set_option Elab.async false
set_option linter.all false
set_option maxRecDepth 100000
set_option maxHeartbeats 4000000
/-! MnMs: 'z' * 7. -/
namespace Mn
open PySem PySem.Spec PyProof.Rows L2
section
variable {X : Cx} {Er : ER} {K : PySem.W.Frag} {H H1 : Hp} {ρ ρ1 : List Addr} {σ : Sg} {S S1 : Bxs} {τ : L2.St}
def smallMul (z : Str) (n : Int) : Prop := z.length ≤ 100 ∧ 1 ≤ n ∧ n ≤ 100
instance (z : Str) (n : Int) : Decidable (smallMul z n) := by unfold smallMul; infer_instance
theorem smallMul.ok {z : Str} {n : Int} (h : smallMul z n) : PySem.MulOk z n := by
  obtain ⟨h1, h2, h3⟩ := h
  refine ⟨?_, fun _ _ hh => ?_, fun _ _ => ?_⟩
  · simp; omega
  · have : (1000 : Int) ≤ (2 ^ 63 - 1) / n := Int.le_ediv_of_mul_le (by omega) (by omega)
    omega
  · have h4 : n.toNat ≤ 100 := by omega
    have h5 : z.length * n.toNat ≤ 100 * 100 := Nat.mul_le_mul h1 h4
    unfold PySem.Builtin.Str.tooLong
    simp
    have : 10000 ≤ PySem.sizeLine := by rw [sizeLine_eq]; decide
    omega
end
end Mn
set_option Elab.async false
set_option linter.all false
set_option maxRecDepth 100000
set_option maxHeartbeats 4000000
/-! MnFn: defs as values, a handler that compares the field of what was raised. -/
namespace Mn
open PySem PySem.Spec PyProof.Rows L2
end Mn
set_option Elab.async false
set_option linter.all false
set_option maxRecDepth 100000
set_option maxHeartbeats 4000000
/-! MnFo: dicts as odd values: ==, repr, not in; {None: None}. -/
namespace Mn
open PySem PySem.Spec PyProof.Rows L2
section
variable {X : Cx} {Er : ER} {K : PySem.W.Frag} {H H1 : Hp} {ρ ρ1 : List Addr} {σ : Sg} {S S1 : Bxs} {τ : L2.St} {pins : List (Addr × Obj)} {s : Shared}
/-! ### {None: None} -/
theorem HR.nd {n : Nat} (h : HR K H ρ S) (e : S[n]? = some MBox.nd) : ∃ a, ρ[n]? = some a ∧ H a = some (NdO a) := h.at_ n _ e
/-! ### a text and a dict, a dict and itself -/
def dcB (S : Bxs) (n : Nat) : Bool := match S[n]? with
  | some (.dk _) => true
  | some .nd => true
  | _ => false
/-- x == y: else a text and a dict, a dict and itself -/
def eqF : G2 := fun x y S => match eqE x y S with
  | .ok d S' => .ok d S'
  | _ => match x, y with
    | .str _, .box n => if dcB S n = true then .ok (.bl false) S else .no
    | .box m, .box n => if m = n ∧ dcB S n = true then .ok (.bl true) S else .no
    | _, _ => .no
/-! ### not in -/
/-! ### repr of a dict -/
end
end Mn
set_option Elab.async false
set_option linter.all false
set_option maxRecDepth 100000
set_option maxHeartbeats 4000000
/-! MnFp: defs as values: the boxes at the law's own call. -/
namespace Mn
open PySem PySem.Spec PyProof.Rows L2
end Mn
set_option Elab.async false
set_option linter.all false
set_option maxRecDepth 100000
set_option maxHeartbeats 4000000
/-! MnFq: a text in a text; len(set(..)) of texts that differ. -/
namespace Mn
open PySem PySem.Spec PyProof.Rows L2
/-! ### a set of texts -/
end Mn
set_option Elab.async false
set_option linter.all false
set_option maxRecDepth 100000
set_option maxHeartbeats 4000000
/-! MnFr: len(set(..)) of a tuple of texts that differ, as a program. -/
namespace Mn
open PySem PySem.Spec PyProof.Rows L2
end Mn
set_option Elab.async false
set_option linter.all false
set_option maxRecDepth 100000
set_option maxHeartbeats 4000000
/-! MnFs: d.setdefault(k, v); xs.reverse(); xs += ys. -/
namespace Mn
open PySem PySem.Spec PyProof.Rows L2
end Mn
set_option Elab.async false
set_option linter.all false
set_option maxRecDepth 100000
set_option maxHeartbeats 4000000
/-! MnOb: instances of own classes: fields read and set, methods, C(..). -/
namespace Mn
open PySem PySem.Spec PyProof.Rows L2
/-- the class named x stands at C -/
structure ClsD (K : PySem.W.Frag) (x : Str) (C : Addr) : Prop where
  ns : PySem.W.nsIn K mainGlobals x = some (some (.ref C))
  cl : Cls K C
def putO (f : Str) (d : Dt) : List (Str × Dt) → List (Str × Dt)
  | [] => [(f, d)]
  | (g, x) :: r => if g = f then (g, d) :: r else (g, x) :: putO f d r
theorem dps_look {K : PySem.W.Frag} {H : Hp} {ρ : List Addr} {f : Str} : ∀ {fs : List (Str × Dt)} {ws : List (Str × V)}, DPs K H ρ fs ws → (∀ d, fs.lookup f = some d → ∃ v, ws.lookup f = some v ∧ DV K H ρ d v) ∧ (fs.lookup f = none → ws.lookup f = none)
  | _, _, .nil => ⟨(fun d h => nomatch h), (fun _ => rfl)⟩
  | _, _, .cons (k := k) (d := d) (v := v) (ds := ds) (vs := vs) h t => by
    obtain ⟨h1, h2⟩ := dps_look (f := f) t
    by_cases e : f = k
    · subst e
      refine ⟨fun d' hd => ?_, fun hd => ?_⟩
      · rw [List.lookup_cons_self] at hd
        cases hd
        exact ⟨v, List.lookup_cons_self, h⟩
      · rw [List.lookup_cons_self] at hd
        cases hd
    · have b : (f == k) = false := beq_eq_false_iff_ne.mpr e
      refine ⟨fun d' hd => ?_, fun hd => ?_⟩
      · rw [List.lookup_cons, b] at hd
        rw [List.lookup_cons, b]
        exact h1 d' hd
      · rw [List.lookup_cons, b] at hd
        rw [List.lookup_cons, b]
        exact h2 hd
theorem dps_putO {K : PySem.W.Frag} {H : Hp} {ρ : List Addr} {f : Str} {d : Dt} {v : V} (hd : DV K H ρ d v) : ∀ {fs : List (Str × Dt)} {ws : List (Str × V)}, DPs K H ρ fs ws → DPs K H ρ (putO f d fs) (putF f v ws)
  | _, _, .nil => .cons hd .nil
  | _, _, .cons (k := k) (d := d') (v := v') (ds := ds) (vs := vs) h t => by
    show DPs K H ρ (if k = f then (k, d) :: ds else (k, d') :: putO f d ds) (if k = f then (k, v) :: vs else (k, v') :: putF f v vs)
    split
    · exact .cons hd t
    · exact .cons h (dps_putO hd t)
/-- the instance in a box -/
def obO (S : Bxs) (x : Str) : Dt → Option (Nat × List (Str × Dt))
  | .box n => match S[n]? with
    | some (.obj y fs) => if y = x then some (n, fs) else none
    | _ => none
  | _ => none
section
variable {X : Cx} {Er : ER} {K : PySem.W.Frag} {H H1 : Hp} {ρ ρ1 : List Addr} {σ : Sg} {S S1 : Bxs} {τ : L2.St}
theorem obO_at {x : Str} {C : Addr} {d : Dt} {v : V} {n : Nat} {fs : List (Str × Dt)} (c : ClsD K x C) (hr : HR K H ρ S) (dv : DV K H ρ d v) (e : obO S x d = some (n, fs)) :
    d = .box n ∧ S[n]? = some (.obj x fs) ∧ ∃ a dx ws, v = .ref a ∧ ρ[n]? = some a ∧ H a = some (.ins C dx ws) ∧ DPs K H ρ fs ws := by
  unfold obO at e
  cases dv with
  | @box m a ha =>
    simp only at e
    split at e
    · rename_i y gs hy
      split at e
      · rename_i hyx
        subst hyx
        cases e
        obtain ⟨a', h1, C', dx, ws, h2, h3, h4⟩ := hr.at_ _ _ hy
        rw [ha] at h1
        cases h1
        rw [c.ns] at h4
        cases h4
        exact ⟨rfl, hy, a, dx, ws, rfl, ha, h2, h3⟩
      · cases e
    · cases e
  | _ => cases e
/-! ### o.f -/
def dFld (x : Str) (o : FE) (f : Str) : FE := fun σ S => (o σ S).bind fun d S1 => match obO S1 x d with
  | some (_, fs) => match fs.lookup f with
    | some v => .ok v S1
    | none => .no
  | none => .no
theorem se_fld {x f : Str} {C : Addr} {o : Expr} {fo : FE} {pos : Pos} (ho : SE X Er o fo) (c : ClsD X.K x C) (na : NoAttr X.K C f) (hb : attributeBase o f X.env (eval o X.env) = eval o X.env := by rfl) : SE X Er (.Attribute o f pos) (dFld x fo f) := by
  obtain ⟨to, po, qo⟩ := ho.ex
  refine ⟨_, pe_fld po hb, fun τ H ρ σ S Q T h => qo τ H ρ σ S _ T ((link h).mono (fun d S1 h1 => ?_) fun _ _ _ q => q)⟩
  intro v H1 ρ1 t1 hr1 dv
  split at h1
  · rename_i n fs e
    obtain ⟨_, _, a, dx, ws, e1, e2, e3, e4⟩ := obO_at c hr1 dv e
    split at h1
    · rename_i d2 e5
      obtain ⟨w, g1, g2⟩ := (dps_look e4).1 d2 e5
      exact ⟨a, C, dx, ws, w, e1, e3, c.cl, na, g1, h1 w H1 ρ1 t1 hr1 g2⟩
    · exact h1.elim
  · exact h1.elim
/-! ### o.f = e -/
def sFldD (x : Str) (o e : FE) (f : Str) : FS := fun σ S => (e σ S).bind fun y S1 => (o σ S1).bind fun d S2 => match obO S2 x d with
  | some (n, fs) => if fs.length < 1000 then .ok (.nx, σ) (S2.set n (.obj x (putO f y fs))) else .no
  | none => .no
theorem HR.setO {n : Nat} {a C dx : Addr} {x : Str} {fs gs : List (Str × Dt)} {ws us : List (Str × V)} (h : HR K H ρ S) (hn : S[n]? = some (.obj x fs)) (ha : ρ[n]? = some a) (hH : H a = some (.ins C dx us)) (hd : DPs K H ρ gs ws) (c : PySem.W.nsIn K mainGlobals x = some (some (.ref C))) :
    HR K (upd H a (.ins C dx ws)) ρ (S.set n (.obj x gs)) ∧ Ext H (upd H a (.ins C dx ws)) := by
  have ex : Ext H (upd H a (.ins C dx ws)) := .upd_of hH (fun _ z => nomatch z) (fun _ _ z => nomatch z) fun _ _ => codeO_is fun _ z => nomatch z
  exact ⟨h.setB hn rfl rfl ha ex ⟨C, dx, ws, upd_same, hd.mono ex (List.prefix_refl _), c⟩, ex⟩
theorem ss_fld {x f : Str} {C : Addr} {o e : Expr} {fo fe : FE} {pos pos' : Pos} (ho : SE X Er o fo) (he : SE X Er e fe) (c : ClsD X.K x C) (na : NoAttr X.K C f) (hs : swapsWith e (some (.Attribute o f pos')) pos.line X.env = pure false := by rfl) : SS X Er (.Assign [.Attribute o f pos'] e pos) (sFldD x fo fe f) := by
  obtain ⟨to, po, qo⟩ := ho.ex
  obtain ⟨te, pe, qe⟩ := he.ex
  refine ⟨_, ps_fld po pe hs, fun τ H ρ σ S D T h => qe τ H ρ σ S _ T ((link h).mono (fun y S1 h1 => ?_) fun _ _ _ q => q)⟩
  intro yv H1 ρ1 t1 hr1 dy
  refine qo τ H1 ρ1 σ S1 _ (T.to t1 hr1) ((link (Rs.Sat.toF t1 h1)).mono (fun d S2 h2 => ?_) fun _ _ _ q => q)
  intro v H2 ρ2 t2 hr2 dv
  split at h2
  · rename_i n fs e2
    obtain ⟨ed, en, a, dx, ws, e1, ea, e3, e4⟩ := obO_at c hr2 dv e2
    obtain ⟨cl, h2⟩ := ite_sat h2
    obtain ⟨hr3, ex⟩ := hr2.setO en ea e3 (dps_putO (f := f) (dy.to t2) e4) c.ns
    have t3 : To H2 (upd H2 a (.ins C dx (putF f yv ws))) ρ2 ρ2 := ⟨ex, List.prefix_refl _⟩
    refine ⟨a, C, dx, ws, e1, e3, c.cl, na, by rw [← e4.length]; exact cl, ?_⟩
    exact h2 _ _ ρ2 (t2.trans t3) ⟨hr3, (T.sl.to t1).to (t2.trans t3)⟩
  · exact h2.elim
/-! ### o.m(e, ..) -/
def dMethC (x m : Str) (F : FN) (o : FE) (a : FA) : FE := fun σ S => (o σ S).bind fun d S1 => match obO S1 x d with
  | some (_, fs) => match fs.lookup m with
    | none => (a σ S1).bind fun ds S2 => F (d :: ds) S2
    | some _ => .no
  | none => .no
theorem se_methC {CX : CXT} {eo : XK → ER} {E : XK} {k : Nat} {f C : Addr} {fd : FuncData} {ps : List Str} {F : FN} {x m : Str} {o : Expr} {fo : FE} {apos pos : Pos} {e : Expr} {es : List Expr} {fa : FA} {pl : Sem Bool} (n : Nat) (ho : SE X Er o fo) (c : ClsD X.K x C) (hm : Meth X.K C m f)
    (FD : FnD X.prog X.w X.K X.mg X.base CX eo k f fd ps F) (hgd : X.A.guards = some []) (hr : Room k X.A) (hb : Binds X.K fd ps []) (hx : Passes CX X E) (hE : ∀ c ds S H ρ, Er c ds S H ρ → eo E c ds S H ρ) (ha : SA X Er (e :: es) fa) (hn : ∀ σ S ds S', fa σ S = .ok ds S' → ds.length = n) (hps : ps.length = n + 1)
    (hst : starEach (e :: es) X.env = (false, eval e X.env) :: starEach es X.env := by rfl) (hpl : (backTo pos (starEach es X.env)).any (·.1) = false := by rfl)
    (ht : eval (.Call (.Attribute o m apos) (e :: es) [] pos) X.env = (do
      let ov ← eval o X.env
      standAt apos.atName
      let (f, first) ← holding [ov] (getMethod ov m pl)
      callWith pos f first (backTo pos (starEach (e :: es) X.env)) (backToKw pos (keywordEach [] X.env))) := by rfl) :
    SE X Er (.Call (.Attribute o m apos) (e :: es) [] pos) (dMethC x m F fo fa) := by
  obtain ⟨to, po, qo⟩ := ho.ex
  obtain ⟨ta, pa, qa⟩ := ha.ex
  refine SE.ofCan ⟨fun pins s τ H Q I ⟨ρ, σ, S, T, h⟩ => ?_⟩
  refine PySem.W.methodCall_KW (pl := pl) (thn (po.run pins s τ H (fun v H1 => ∃ ρ1 S1 d a dx ws, To H H1 ρ ρ1 ∧ HR X.K H1 ρ1 S1 ∧ DV X.K H1 ρ1 d v ∧ v = .ref a ∧ H1 a = some (.ins C dx ws) ∧ ws.lookup m = none ∧ ((fa σ S1).bind fun ds S2 => F (d :: ds) S2).Sat (KO X.K H ρ Q) (KX Er H ρ)) I ?_) ?_) ht
  · refine qo τ H ρ σ S _ T ((link h).mono (fun d S1 h1 => ?_) fun _ _ _ q => q)
    intro v H1 ρ1 t1 hr1 dv
    split at h1
    · rename_i n1 fs e1
      obtain ⟨ed, en, a, dx, ws, e2, ea, e3, e4⟩ := obO_at c hr1 dv e1
      split at h1
      · rename_i e5
        exact ⟨ρ1, S1, d, a, dx, ws, t1, hr1, dv, e2, e3, (dps_look e4).2 e5, h1⟩
      · exact h1.elim
    · exact h1.elim
  · rintro u s1 ⟨v, H1, I1, rv, ρ1, S1, d, a, dx, ws, t1, hr1, dv, ev, e3, e5, h1⟩
    subst ev
    obtain rfl : u = Value.ref a := rv
    refine getmeth_ok I1 e3 c.cl hm e5 ?_
    have h2 := Rs.Sat.toO t1 h1
    have h3 := link h2
    have h' : (fa σ S1).Sat (fun ds S2 => ds.length = n ∧ (F (d :: ds) S2).Sat (KO X.K H1 ρ1 Q) (KX Er H1 ρ1)) (KX Er H1 ρ1) := by
      cases e0 : fa σ S1 with
      | ok ds S2 => rw [e0] at h3; exact ⟨hn σ S1 ds S2 e0, h3⟩
      | ex c ds S2 => rw [e0] at h3; exact h3
      | no => rw [e0] at h3; exact h3
    refine PySem.W.callWith_K (first := [.ref a]) (h₀ := X.base) I1.ok.mod.kin hm.kp (thn (pa.run pos pins s1 τ H1 (fun vs H2 => ∃ ρ2 S2 ds, To H1 H2 ρ1 ρ2 ∧ HR X.K H2 ρ2 S2 ∧ DVs X.K H2 ρ2 ds vs ∧ ds.length = n ∧ (F (d :: ds) S2).Sat (KO X.K H1 ρ1 Q) (KX Er H1 ρ1)) I1 ?_) ?_) hst hpl
    · exact qa τ H1 ρ1 σ S1 _ (T.to t1 hr1) (h'.mono (fun ds S2 q vs H2 ρ2 t2 hr2 dvs => ⟨ρ2, S2, ds, t2, hr2, dvs, q.1, q.2⟩) fun _ _ _ q => q)
    · rintro us s2 ⟨vs, H2, I2, r, ρ2, S2, ds, t2, hr2, dvs, hl, q⟩
      refine ⟨I2.kIn, ?_⟩
      have hlu : ((Value.ref a :: us) ++ []).length = ps.length := by rw [List.append_nil, List.length_cons, ← r.length, ← dvs.length, hl, hps]
      have hq := (Rs.Sat.toO t2 q).mono (fun _ _ z => z) (fun c es S' (z : KX Er H2 ρ2 c es S') => (fun H' ρ' t' => hE _ _ _ _ _ (z H' ρ' t') : KX (eo E) H2 ρ2 c es S'))
      refine wpAny_call (codeAny_mono (FD.run X.A X.stack s2 H2 ⟨.ref a :: us, []⟩ ((.ref a :: us) ++ []) (.ref a :: vs) ρ2 S2 (d :: ds) Q E hgd hr I2.env0 (hb s2 (.ref a :: us) I2.kIn hlu) (by rw [List.append_nil]; exact .cons rfl r) (by rw [List.length_cons, hl, hps]) hr2 (.cons (dv.to t2) dvs) hq) fun rr s' hq => ?_)
      cases rr with
      | error e => exact hx pins τ H2 s2 e s' I2 hq
      | ok fl =>
        cases fl with
        | ret u => exact I2.after hq
        | next => exact False.elim hq
        | brk => exact False.elim hq
        | cont => exact False.elim hq
theorem se_methC0 {CX : CXT} {eo : XK → ER} {E : XK} {k : Nat} {f C : Addr} {fd : FuncData} {ps : List Str} {F : FN} {x m : Str} {o : Expr} {fo : FE} {apos pos : Pos} {pl : Sem Bool} (ho : SE X Er o fo) (c : ClsD X.K x C) (hm : Meth X.K C m f)
    (FD : FnD X.prog X.w X.K X.mg X.base CX eo k f fd ps F) (hgd : X.A.guards = some []) (hr : Room k X.A) (hb : Binds X.K fd ps []) (hx : Passes CX X E) (hE : ∀ c ds S H ρ, Er c ds S H ρ → eo E c ds S H ρ) (hps : ps.length = 1)
    (ht : eval (.Call (.Attribute o m apos) [] [] pos) X.env = (do
      let ov ← eval o X.env
      standAt apos.atName
      let (f, first) ← holding [ov] (getMethod ov m pl)
      callWith pos f first (backTo pos (starEach [] X.env)) (backToKw pos (keywordEach [] X.env))) := by rfl) :
    SE X Er (.Call (.Attribute o m apos) [] [] pos) (dMethC x m F fo aNil) := by
  obtain ⟨to, po, qo⟩ := ho.ex
  refine SE.ofCan ⟨fun pins s τ H Q I ⟨ρ, σ, S, T, h⟩ => ?_⟩
  refine PySem.W.methodCall_KW (pl := pl) (thn (po.run pins s τ H (fun v H1 => ∃ ρ1 S1 d a dx ws, To H H1 ρ ρ1 ∧ HR X.K H1 ρ1 S1 ∧ DV X.K H1 ρ1 d v ∧ v = .ref a ∧ H1 a = some (.ins C dx ws) ∧ ws.lookup m = none ∧ (F [d] S1).Sat (KO X.K H ρ Q) (KX Er H ρ)) I ?_) ?_) ht
  · refine qo τ H ρ σ S _ T ((link h).mono (fun d S1 h1 => ?_) fun _ _ _ q => q)
    intro v H1 ρ1 t1 hr1 dv
    split at h1
    · rename_i n1 fs e1
      obtain ⟨ed, en, a, dx, ws, e2, ea, e3, e4⟩ := obO_at c hr1 dv e1
      split at h1
      · rename_i e5
        exact ⟨ρ1, S1, d, a, dx, ws, t1, hr1, dv, e2, e3, (dps_look e4).2 e5, h1⟩
      · exact h1.elim
    · exact h1.elim
  · rintro u s1 ⟨v, H1, I1, rv, ρ1, S1, d, a, dx, ws, t1, hr1, dv, ev, e3, e5, h1⟩
    subst ev
    obtain rfl : u = Value.ref a := rv
    refine getmeth_ok I1 e3 c.cl hm e5 ?_
    refine PySem.W.callWith_K0 (first := [.ref a]) I1.kIn hm.kp ?_
    have hq := (Rs.Sat.toO t1 h1).mono (fun _ _ z => z) (fun c es S' (z : KX Er H1 ρ1 c es S') => (fun H' ρ' t' => hE _ _ _ _ _ (z H' ρ' t') : KX (eo E) H1 ρ1 c es S'))
    refine wpAny_call (codeAny_mono (FD.run X.A X.stack s1 H1 ⟨[.ref a], []⟩ ([.ref a] ++ []) [.ref a] ρ1 S1 [d] Q E hgd hr I1.env0 (hb s1 [.ref a] I1.kIn (by rw [List.append_nil, hps]; rfl)) (by rw [List.append_nil]; exact .cons rfl .nil) (by rw [hps]; rfl) hr1 (.cons dv .nil) hq) fun rr s' hq => ?_)
    cases rr with
    | error e => exact hx pins τ H1 s1 e s' I1 hq
    | ok fl =>
      cases fl with
      | ret u => exact I1.after hq
      | next => exact False.elim hq
      | brk => exact False.elim hq
      | cont => exact False.elim hq
/-! ### C(e, ..) -/
def noneR (n : Nat) (r : Rs Dt) : Rs Dt := r.bind fun d S2 => match d with
  | .non => .ok (.box n) S2
  | _ => .no
def dMakeC (x : Str) (F : FN) (a : FA) : FE := fun σ S => (a σ S).bind fun ds S1 => noneR S1.length (F (.box S1.length :: ds) (S1 ++ [.obj x []]))
theorem run_mk {CX : CXT} {eo : XK → ER} {E : XK} {k : Nat} {f C : Addr} {fd : FuncData} {ps : List Str} {F : FN} {x : Str} {pins : List (Addr × Obj)} {s : Shared} {Q : VK} {us : List Value} {vs : List V} {ds : List Dt} {n : Nat} (ns : PySem.W.nsIn X.K mainGlobals x = some (some (.ref C))) (M : Mk X.K C f)
    (FD : FnD X.prog X.w X.K X.mg X.base CX eo k f fd ps F) (hgd : X.A.guards = some []) (hr : Room (k + 1) X.A) (hb : Binds X.K fd ps []) (hx : Passes CX X E) (hE : ∀ c ds S H ρ, Er c ds S H ρ → eo E c ds S H ρ) (hps : ps.length = n + 1) (hl : ds.length = n)
    (I : Inv X pins τ H s) (r : Vals vs us) (hr1 : HR X.K H ρ S) (dvs : DVs X.K H ρ ds vs) (h : (noneR S.length (F (.box S.length :: ds) (S ++ [.obj x []]))).Sat (KO X.K H ρ Q) (KX Er H ρ)) :
    wpAny (model X.prog X.w) X.A (call (.ref C) us) (EP X pins τ Q) X.xe s := by
  have I2 := Inv.made (C := C) I
  have n1 : H (s.heap.objs.size + 1) = none := I.hok.fresh (Nat.le_succ _)
  have n2 : H s.heap.objs.size = none := I.hok.fresh (Nat.le_refl _)
  have n12 : s.heap.objs.size + 1 ≠ s.heap.objs.size := Nat.succ_ne_self _
  have keep : ∀ a u, H a = some u → (upd (upd H s.heap.objs.size (.own (s.heap.objs.size + 1))) (s.heap.objs.size + 1) (.ins C s.heap.objs.size [])) a = some u := fun a u e => by
    rw [upd_ne (ne_of_none e n1), upd_ne (ne_of_none e n2)]
    exact e
  have hr2 := hr1.grown (b := .obj x []) keep n1 ⟨C, s.heap.objs.size, [], upd_same, .nil, ns⟩
  have t1 : To H (upd (upd H s.heap.objs.size (.own (s.heap.objs.size + 1))) (s.heap.objs.size + 1) (.ins C s.heap.objs.size [])) ρ (ρ ++ [s.heap.objs.size + 1]) := ⟨.of keep, List.prefix_append _ _⟩
  have hbox : (ρ ++ [s.heap.objs.size + 1])[S.length]? = some (s.heap.objs.size + 1) := by rw [← hr1.len]; simp
  have h' := link h
  have hq := (Rs.Sat.mono (P' := KO X.K (upd (upd H s.heap.objs.size (.own (s.heap.objs.size + 1))) (s.heap.objs.size + 1) (.ins C s.heap.objs.size [])) (ρ ++ [s.heap.objs.size + 1]) (fun v H2 => v = .non ∧ Q (.ref (s.heap.objs.size + 1)) H2)) (E' := KX (eo E) (upd (upd H s.heap.objs.size (.own (s.heap.objs.size + 1))) (s.heap.objs.size + 1) (.ins C s.heap.objs.size [])) (ρ ++ [s.heap.objs.size + 1])) h' (fun d S2 h2 => by
    intro v H2 ρ2 t2 hr3 dv
    cases d with
    | non =>
      cases dv
      exact ⟨rfl, h2 (.ref (s.heap.objs.size + 1)) H2 ρ2 (t1.trans t2) hr3 (.box (pre_get t2.pre hbox))⟩
    | _ => exact (show False from h2).elim) (fun c es S' z H' ρ' t' => hE _ _ _ _ _ (z H' ρ' (t1.trans t'))))
  have hlu : ((Value.ref (s.heap.objs.size + 1) :: us) ++ []).length = ps.length := by rw [List.append_nil, List.length_cons, ← r.length, ← dvs.length, hl, hps]
  refine wpAny_call (make_map (f := f) I.kIn M.makes M.init (beq_iff_eq.mp M.fn) (codeAny_mono (FD.run _ X.stack _ _ ⟨Value.ref (s.heap.objs.size + 1) :: us, []⟩ ((Value.ref (s.heap.objs.size + 1) :: us) ++ []) (.ref (s.heap.objs.size + 1) :: vs) (ρ ++ [s.heap.objs.size + 1]) (S ++ [.obj x []]) (.box S.length :: ds) _ E hgd (hr.make C us [])
    (I2.env0.make C us []) (hb _ (Value.ref (s.heap.objs.size + 1) :: us) I2.kIn hlu) (by rw [List.append_nil]; exact .cons rfl r) (by rw [List.length_cons, hl, hps]) hr2 (.cons (.box hbox) (dvs.to t1)) hq) fun rr s' hq' => ?_))
  cases rr with
  | error e => exact hx pins τ _ _ e s' I2 hq'
  | ok fl =>
    cases fl with
    | ret u =>
      obtain ⟨v, H', I3, rv, ev, q3⟩ := I2.after hq'
      subst ev
      exact ⟨rv, ⟨V.ref (s.heap.objs.size + 1), H', I3, rfl, q3⟩⟩
    | next => exact False.elim hq'
    | brk => exact False.elim hq'
    | cont => exact False.elim hq'
theorem se_make {CX : CXT} {eo : XK → ER} {E : XK} {k : Nat} {f C : Addr} {fd : FuncData} {ps : List Str} {F : FN} {x : Str} {p pos : Pos} {e : Expr} {es : List Expr} {fa : FA} (n : Nat) (ns : PySem.W.nsIn X.K mainGlobals x = some (some (.ref C))) (M : Mk X.K C f)
    (FD : FnD X.prog X.w X.K X.mg X.base CX eo k f fd ps F) (hgd : X.A.guards = some []) (hr : Room (k + 1) X.A) (hg : Gl X x) (hm : X.mg x = some (.ref C)) (hb : Binds X.K fd ps []) (hx : Passes CX X E) (hE : ∀ c ds S H ρ, Er c ds S H ρ → eo E c ds S H ρ) (ha : SA X Er (e :: es) fa) (hn : ∀ σ S ds S', fa σ S = .ok ds S' → ds.length = n) (hps : ps.length = n + 1)
    (hdb : (x == ("__debug__" : Str)) = false := by decide) (he : starEach (e :: es) X.env = (false, eval e X.env) :: starEach es X.env := by rfl) (hpl : (backTo pos (starEach es X.env)).any (·.1) = false := by rfl) :
    SE X Er (.Call (.Name x p) (e :: es) [] pos) (dMakeC x F fa) := by
  obtain ⟨ta, pa, qa⟩ := ha.ex
  refine SE.ofCan ⟨fun pins s τ H Q I ⟨ρ, σ, S, T, h⟩ => ?_⟩
  refine wpAny_Call_Name_kw (ld_glob I hg hm ?_ hdb)
  have h := link h
  have h' : (fa σ S).Sat (fun ds S1 => ds.length = n ∧ (noneR S1.length (F (.box S1.length :: ds) (S1 ++ [.obj x []]))).Sat (KO X.K H ρ Q) (KX Er H ρ)) (KX Er H ρ) := by
    cases e0 : fa σ S with
    | ok ds S1 => rw [e0] at h; exact ⟨hn σ S ds S1 e0, h⟩
    | ex c ds S1 => rw [e0] at h; exact h
    | no => rw [e0] at h; exact h
  refine PySem.W.callWith_K (h₀ := X.base) I.ok.mod.kin M.kp (thn (pa.run pos pins s τ H (fun vs H1 => ∃ ρ1 S1 ds, To H H1 ρ ρ1 ∧ HR X.K H1 ρ1 S1 ∧ DVs X.K H1 ρ1 ds vs ∧ ds.length = n ∧ (noneR S1.length (F (.box S1.length :: ds) (S1 ++ [.obj x []]))).Sat (KO X.K H ρ Q) (KX Er H ρ)) I ?_) ?_) he hpl
  · exact qa τ H ρ σ S _ T (h'.mono (fun ds S1 q vs H1 ρ1 t1 hr1 dvs => ⟨ρ1, S1, ds, t1, hr1, dvs, q.1, q.2⟩) fun _ _ _ q => q)
  · rintro us s1 ⟨vs, H1, I1, r, ρ1, S1, ds, t1, hr1, dvs, hl, q⟩
    exact ⟨I1.kIn, run_mk ns M FD hgd hr hb hx hE hps hl I1 r hr1 dvs (Rs.Sat.toO t1 q)⟩
/-! ### the rules -/
theorem obO_box {x : Str} {n : Nat} {fs : List (Str × Dt)} (e : S[n]? = some (.obj x fs)) : obO S x (.box n) = some (n, fs) := by
  unfold obO
  simp [e]
theorem w_fld {E : Nat → List Dt → Bxs → Prop} {x f : Str} {o : FE} {P : Dt → Bxs → Prop} (h : (o σ S).Wp (fun d S1 => ∃ n fs v, d = .box n ∧ S1[n]? = some (.obj x fs) ∧ fs.lookup f = some v ∧ P v S1) E) : (dFld x o f σ S).Wp P E :=
  w_bind (h.mono (fun d S1 ⟨n, fs, v, ed, e, l, q⟩ => by
    subst ed
    rw [obO_box e]
    show (match fs.lookup f with
      | some v => Rs.ok v S1
      | none => .no).Wp P E
    rw [l]
    exact ⟨q⟩) fun _ _ _ q => q)
theorem w_sfld {E : Nat → List Dt → Bxs → Prop} {x f : Str} {o e : FE} {P : Fl × Sg → Bxs → Prop} (h : (e σ S).Wp (fun y S1 => (o σ S1).Wp (fun d S2 => ∃ n fs, d = .box n ∧ S2[n]? = some (.obj x fs) ∧ fs.length < 1000 ∧ P (.nx, σ) (S2.set n (.obj x (putO f y fs)))) E) E) : (sFldD x o e f σ S).Wp P E :=
  w_bind (h.mono (fun y S1 h1 => w_bind (h1.mono (fun d S2 ⟨n, fs, ed, en, c, q⟩ => by
    subst ed
    rw [obO_box en]
    show (if fs.length < 1000 then Rs.ok (Fl.nx, σ) (S2.set n (.obj x (putO f y fs))) else .no).Wp P E
    rw [if_pos c]
    exact ⟨q⟩) fun _ _ _ q => q)) fun _ _ _ q => q)
theorem w_methC {E : Nat → List Dt → Bxs → Prop} {x m : Str} {F : FN} {o : FE} {a : FA} {P : Dt → Bxs → Prop} (h : (o σ S).Wp (fun d S1 => ∃ n fs, d = .box n ∧ S1[n]? = some (.obj x fs) ∧ fs.lookup m = none ∧ (a σ S1).Wp (fun ds S2 => (F (.box n :: ds) S2).Wp P E) E) E) : (dMethC x m F o a σ S).Wp P E :=
  w_bind (h.mono (fun d S1 ⟨n, fs, ed, e, l, q⟩ => by
    subst ed
    rw [obO_box e]
    show (match fs.lookup m with
      | none => (a σ S1).bind fun ds S2 => F (.box n :: ds) S2
      | some _ => .no).Wp P E
    rw [l]
    exact w_bind q) fun _ _ _ q => q)
theorem w_makeC {E : Nat → List Dt → Bxs → Prop} {x : Str} {F : FN} {a : FA} {P : Dt → Bxs → Prop} (h : (a σ S).Wp (fun ds S1 => (F (.box S1.length :: ds) (S1 ++ [.obj x []])).Wp (fun d S2 => d = .non ∧ P (.box S1.length) S2) E) E) : (dMakeC x F a σ S).Wp P E :=
  w_bind (h.mono (fun ds S1 h1 => w_bind (h1.mono (fun d S2 ⟨ed, q⟩ => by subst ed; exact ⟨q⟩) fun _ _ _ q => q)) fun _ _ _ q => q)
end
end Mn
set_option Elab.async false
set_option linter.all false
set_option maxRecDepth 100000
set_option maxHeartbeats 4000000
/-! MnZt: list(zip(a, b)) of lists and tuples. -/
namespace Mn
open PySem PySem.Spec PyProof.Rows L2
end Mn
set_option Elab.async false
set_option linter.all false
set_option maxRecDepth 100000
set_option maxHeartbeats 4000000
/-! MnXo: exceptions without fields; methods in a try; xs[:j] = ys. -/
namespace Mn
open PySem PySem.Spec PyProof.Rows L2
/-! ### xs[:c] = ys -/
end Mn
set_option Elab.async false
set_option linter.all false
set_option maxRecDepth 100000
set_option maxHeartbeats 4000000
/-! MnXq: an empty tuple repeated. -/
namespace L2
open PySem PySem.Spec PyProof.Rows
end L2
namespace Mn
open PySem PySem.Spec PyProof.Rows L2
end Mn
set_option Elab.async false
set_option linter.all false
set_option maxRecDepth 100000
set_option maxHeartbeats 4000000
/-! MnNo: what is never reached; xs[::-1] of a list; isinstance with a tuple of types; str of an int. -/
namespace Mn
open PySem PySem.Spec PyProof.Rows L2
section
variable {X : Cx} {Er : ER} {K : PySem.W.Frag} {H H1 : Hp} {ρ ρ1 : List Addr} {σ : Sg} {S S1 : Bxs} {τ : L2.St}
/-! ### what is never reached -/
/-! ### xs[::-1] -/
/-! ### isinstance(x, (int, ..)) -/
def isiTs (t : String) : List String → Option Bool
  | [] => some false
  | T :: Ts => match kitB t T with
    | some true => some true
    | some false => isiTs t Ts
    | none => none
def dIsiT (Ts : List String) (f : FE) : FE := fun σ S => (f σ S).bind fun d S1 => match tyN S1 d with
  | some t => match isiTs t Ts with
    | some b => .ok (.bl b) S1
    | none => .no
  | none => .no
theorem w_isiT {E : Nat → List Dt → Bxs → Prop} {Ts : List String} {f : FE} {P : Dt → Bxs → Prop} (h : (f σ S).Wp (fun d S1 => ∃ t b, tyN S1 d = some t ∧ isiTs t Ts = some b ∧ P (.bl b) S1) E) : (dIsiT Ts f σ S).Wp P E :=
  w_bind (h.mono (fun d S1 ⟨t, b, e1, e2, q⟩ => by simp only [e1, e2]; exact ⟨q⟩) fun _ _ _ q => q)
/-! ### str(i) -/
end
end Mn
set_option Elab.async false
set_option linter.all false
set_option maxRecDepth 100000
set_option maxHeartbeats 4000000
/-! MnSt: sorted(t) of a tuple. -/
namespace Mn
open PySem PySem.Spec PyProof.Rows L2
end Mn
set_option Elab.async false
set_option linter.all false
set_option maxRecDepth 100000
set_option maxHeartbeats 4000000
/-! MnLc: math.lcm, math.comb; xs.pop(0). -/
namespace Mn
open PySem PySem.Spec PyProof.Rows L2
end Mn
set_option Elab.async false
set_option linter.all false
set_option maxRecDepth 100000
set_option maxHeartbeats 4000000
/-! MnSr: a, *b = t, of a tuple. -/
namespace Mn
open PySem PySem.Spec PyProof.Rows L2 PySem.W
open Sem (wp)
section
variable {prog : Program} {w : World} {A : Around} {E : Value → Shared → Prop} {s : Shared}
theorem starT {l : Addr} {items : Array Value} {Q : List Value → Shared → Prop} (hl : IsTup s.heap l items) (hh : A.handled = none) (hn : 1 ≤ items.size) (hz : items.size ≤ 16384)
    (h : ∀ h' tk, Heap.ExtBut s.heap.objs.size s.heap h' → wpAny (model prog w) A (newList (items.toList.drop 1)) (fun d s' => Q (items.toList.take 1 ++ [d]) s') E { s with heap := h', toks := tk }) : wpAny (model prog w) A (unpackItems (.ref l) 2 (some 1)) Q E s := by
  have hlt : l ≠ s.heap.objs.size := by obtain ⟨o, ho, _⟩ := hl; exact Nat.ne_of_lt (Heap.lt_size ho)
  have hll : l < s.heap.objs.size := by obtain ⟨o, ho, _⟩ := hl; exact Heap.lt_size ho
  unfold unpackItems
  refine wpAny_bind ?_
  unfold notIterableAtAll
  refine wpAny_bind (wpAny_specialOf hl.typeIs slot_tuple_iter.lookup ?_)
  refine wpAny_pure ?_
  simp only [Bool.false_eq_true, if_false]
  refine wpAny_bind (wpAny_holding (iter_tuple hl ?_))
  refine wpAny_bind (wpAny_holding (draw_tuple hlt 1 0 _ _ ⟨_, Heap.get?_push_size _ rfl, rfl, rfl⟩ (hl.push _) (by omega) fun h₁ hit₁ hs₁ => ?_))
  have hl₁ : IsTup h₁ l items := (hl.push _).extBut hs₁.extBut hlt
  rw [Nat.zero_add] at hit₁
  have hit₁' := hit₁
  obtain ⟨oi, hoi, _⟩ := hit₁'
  have hl₁' := hl₁
  obtain ⟨ol, hol, _⟩ := hl₁'
  rw [List.drop_zero]
  have hfl : (items.toList.take 1).length = 1 := by rw [List.length_take, Array.length_toList]; omega
  rw [if_neg (show ¬ ((items.toList.take 1).length < 1) by rw [hfl]; omega)]
  refine wpAny_bind (wpAny_holding (kun_collect (s := { s with heap := h₁ }) (T := "tuple_iterator") (.inr (.inr (.inr rfl))) (Walks.tuple (A := A.in1) hh s.heap.objs.size l hlt items) (fun j u st => st.1.typeIs) (k := 1) (by omega) ⟨hit₁, hl₁⟩ (Heap.lt_size hoi) (Heap.lt_size hol) (fun h₂ tk hk => ?_) (by rw [sizeLine_eq]; omega)))
  have hrl : (items.toList.drop 1).length = items.size - 1 := by rw [List.length_drop, Array.length_toList]
  show wpAny _ _ (if (items.toList.drop 1).length < 2 - 1 - 1 then _ else _) _ _ _
  rw [if_neg (by rw [hrl]; omega)]
  show wpAny _ _ (newList ((items.toList.drop 1).take ((items.toList.drop 1).length - (2 - 1 - 1))) >>= fun d => pure (items.toList.take 1 ++ [d] ++ (items.toList.drop 1).drop ((items.toList.drop 1).length - (2 - 1 - 1)))) _ _ _
  have e1 : (items.toList.drop 1).take ((items.toList.drop 1).length - (2 - 1 - 1)) = items.toList.drop 1 := List.take_of_length_le (by omega)
  have e2 : (items.toList.drop 1).drop ((items.toList.drop 1).length - (2 - 1 - 1)) = [] := List.drop_of_length_le (by omega)
  rw [e1, e2]
  have he : Heap.ExtBut s.heap.objs.size s.heap h₂ := fun b o hb e => hk b o hb (hs₁.extBut b o hb (Heap.get?_push_of_some _ e))
  refine wpAny_bind (thn (h h₂ tk he) fun d s' q => wpAny_pure ?_)
  rw [List.append_nil]; exact q
end
section
variable {X : Cx} {Er : ER} {K : PySem.W.Frag} {H H1 : Hp} {ρ ρ1 : List Addr} {σ : Sg} {S S1 : Bxs} {τ : L2.St}
/-- a, *b = a tuple -/
def gStar (K : PySem.W.Frag) (t : TGs) : TG := fun v σ H Q => ∃ (a : Addr) (x : V) (xs : List V), v = .ref a ∧ SqT K H a (x :: xs) ∧ xs.length ≤ 1000 ∧ ∀ p, H p = none → t [x, .ref p] σ (upd H p (.lst xs)) Q
theorem pg_star {x y : Str} {px py sp pos : Pos} {k : Nat} {t : TGs} (hc : X.calm = true) (h0 : PGs X [.Name x px, .Name y py] t) : PG X (.Tuple [.Name x px, .Starred (.Name y py) sp] k pos) (gStar X.K t) := by
  refine ⟨fun pins s σ H v uv Q I r hw => ?_⟩
  obtain ⟨a, x0, xs, e1, hq, hl, hw⟩ := hw
  subst e1
  cases r
  obtain ⟨its, rv, ht, hz⟩ := I.tuple hq
  cases rv with
  | cons r0 rr =>
    rename_i u0 us
    have hls := rr.length
    rw [assign_Tuple]
    refine wpAny_bind (wpAny_standAt ?_)
    unfold unpack
    show wpAny _ _ (holding [_] (unpackItems _ 2 (some 1)) >>= fun r => assignInOrder [assign (.Name x px) X.env, assign (.Name y py) X.env] r) _ _ _
    refine wpAny_bind (wpAny_holding (starT ht (I.ok.hd hc) (by simp) (by simp; omega) fun h' tk he => ?_))
    have I1 : Inv X pins σ H { s with heap := h', toks := tk } := I.kept fun b o e => he b o (Nat.ne_of_lt (Heap.lt_size e)) e
    refine wpAny_newList ?_
    have hn : H h'.objs.size = none := I1.hok.fresh (Nat.le_refl _)
    have e2 : (u0 :: us).toArray.toList.drop 1 = us := rfl
    have new : ObjOk X.prog X.w (upd H h'.objs.size (.lst xs)) (h'.push { cls := .type "list", data := .seq ((u0 :: us).toArray.toList.drop 1).toArray }) h'.objs.size (.lst xs) := ⟨Nat.le_trans hl (by rw [sizeLine_eq]; decide), us, 0, rr, Heap.get?_push_size _ rfl⟩
    have I2 := I1.laid (t' := tk) (fun b u e => Heap.get?_push_of_some _ e) (Nat.le_refl _) new
    exact h0.run pins _ σ _ [x0, .ref h'.objs.size] [u0, .ref h'.objs.size] Q I2 (.cons r0 (.cons rfl .nil)) (hw _ hn)
def tStarG (g : FTs) : FT := fun d σ S => match d with
  | .tup (x :: xs) => if xs.length ≤ 1000 then g [x, .box S.length] σ (S ++ [.lst xs]) else .no
  | _ => .no
theorem sg_star {x y : Str} {px py sp pos : Pos} {k : Nat} {g : FTs} (hc : X.calm = true) (h : SGs X Er [.Name x px, .Name y py] g) : SG X Er (.Tuple [.Name x px, .Starred (.Name y py) sp] k pos) (tStarG g) := by
  obtain ⟨t, p, q⟩ := h.ex
  refine ⟨_, pg_star hc p, fun v d τ H ρ σ S Q T dv h => ?_⟩
  unfold tStarG at h
  split at h
  · rename_i d0 ds
    obtain ⟨c, h⟩ := ite_sat h
    cases dv with
    | tup ht hd =>
      cases hd with
      | cons hx hxs =>
        rename_i x0 vs
        refine ⟨_, x0, vs, rfl, ht.sqt, by rw [← hxs.length]; exact c, fun a ha => ?_⟩
        have t1 : To H (upd H a (.lst vs)) ρ (ρ ++ [a]) := ⟨Ext.new ha, List.prefix_append _ _⟩
        have hr1 := T.hr.new (xs := ds) ha hxs
        refine q _ _ τ _ (ρ ++ [a]) σ _ Q ⟨hr1, T.sl.to t1⟩ (.cons (hx.to t1) (.cons (.box (by rw [← T.hr.len, List.getElem?_append_right (Nat.le_refl _), Nat.sub_self]; rfl)) .nil)) (Rs.Sat.toS t1 h)
  · exact h.elim
theorem w_star {E : Nat → List Dt → Bxs → Prop} {g : FTs} {x : Dt} {xs : List Dt} {P : Sg → Bxs → Prop} (hl : xs.length ≤ 1000) (h : (g [x, .box S.length] σ (S ++ [.lst xs])).Wp P E) : (tStarG g (.tup (x :: xs)) σ S).Wp P E := by
  have e : tStarG g (.tup (x :: xs)) σ S = g [x, .box S.length] σ (S ++ [.lst xs]) := if_pos hl
  rw [e]; exact h
end
end Mn
set_option Elab.async false
set_option linter.all false
set_option maxRecDepth 100000
set_option maxHeartbeats 4000000
namespace Lw
open PySem PySem.Spec PyProof.Rows L2 Mn
noncomputable def B__law_bag : FS :=
  sRet (dLst (aCons (dC (.int 0)) (aCons (dC (.int 1234567891)) (aCons (dC (.int 0)) (aCons (dLc (srcSeq (dSl (dVar 0) (oNone) (oSome (dC (.int 63))))) (tName 1) (bYes) (dCall absG (aCons (dVar 1) (aNil))) [1]) (aNil))))))
noncomputable def F__law_bag : FN := bodyF 2 B__law_bag
noncomputable def B__law_take : FS :=
  sCons (sIf (dTrue (dBin (eqG false) (dBin ixG (dVar 0) (dC (.int 0))) (dC (.int 0)))) (sCons (sSet 2 (dBin ixG (dBin addG (dSl (dBin ixG (dVar 0) (dC (.int 3))) (oSome (dBin ixG (dVar 0) (dC (.int 2)))) (oNone)) (dLst (aCons (dC (.int 0)) (aNil)))) (dC (.int 0)))) (sCons (sAugS (dVar 0) (dC (.int 2)) addI (dC (.int 1))) (sCons (sIf (dTrue (dBin geG (dVar 2) (dBin powG (dC (.int 10)) (dC (.int 18))))) (sAsg (dVar 2) (tSubG (dVar 0) (dC (.int 0)))) (sNil)) (sCons (sSet 3 (dBin addG (dBin addG (dBin mulG (dBin ixG (dVar 0) (dC (.int 1))) (dC (.int 48271))) (dBin modG (dCall intG (aCons (dVar 2) (aNil))) (dC (.int 2147483647)))) (dBin mulG (dC (.int 7919)) (dBin ixG (dVar 0) (dC (.int 2)))))) (sAsg (dBin modG (dCall intG (aCons (dVar 3) (aNil))) (dC (.int 2147483647))) (tSubG (dVar 0) (dC (.int 1)))))))) (sNil)) (sCons (sIf (dTrue (dBin gtG (dBin ixG (dVar 0) (dC (.int 0))) (dC (.int 0)))) (sCons (sSet 4 (dBin modG (dCall intG (aCons (dBin ixG (dVar 0) (dC (.int 0))) (aNil))) (dVar 1))) (sCons (sAsg (dBin fdivG (dCall intG (aCons (dBin ixG (dVar 0) (dC (.int 0))) (aNil))) (dVar 1)) (tSubG (dVar 0) (dC (.int 0)))) (sRet (dVar 4)))) (sNil)) (sCons (sSet 5 (dBin modG (dCall intG (aCons (dBin mulG (dBin addG (dBin ixG (dVar 0) (dC (.int 1))) (dC (.int 1))) (dC (.int 39373))) (aNil))) (dC (.int 1000000007)))) (sCons (sSet 6 (dBin modG (dCall intG (aCons (dBin mulG (dBin modG (dCall intG (aCons (dBin mulG (dVar 5) (dVar 5)) (aNil))) (dC (.int 998244353))) (dC (.int 30011))) (aNil))) (dC (.int 998244353)))) (sRet (dBin modG (dCall intG (aCons (dBin fdivG (dVar 6) (dC (.int 7))) (aNil))) (dVar 1))))))
noncomputable def F__law_take : FN := bodyF 7 B__law_take
noncomputable def B__law_one : FS :=
  sRet (dBin ixG (dVar 1) (dCall F__law_take (aCons (dVar 0) (aCons (dCall lenG (aCons (dVar 1) (aNil))) (aNil)))))
noncomputable def F__law_one : FN := bodyF 2 B__law_one
noncomputable def B__law_alike : FS :=
  sRet (dAndV (dBin (eqG false) (dVar 0) (dVar 1)) (dBin (eqG false) (dCall reprG (aCons (dVar 0) (aNil))) (dCall reprG (aCons (dVar 1) (aNil)))))
noncomputable def F__law_alike : FN := bodyF 2 B__law_alike
noncomputable def B__law_gcd : FS :=
  sCons (sPar2 0 1 (aCons (dCall absG (aCons (dVar 0) (aNil))) (aCons (dCall absG (aCons (dVar 1) (aNil))) (aNil)))) (sCons (sWhile (dTrue (dBin gtG (dVar 1) (dC (.int 0)))) (sPar2 0 1 (aCons (dVar 1) (aCons (dBin subG (dVar 0) (dBin mulG (dBin fdivG (dVar 0) (dVar 1)) (dVar 1))) (aNil))))) (sRet (dVar 0)))
noncomputable def F__law_gcd : FN := bodyF 2 B__law_gcd
noncomputable def B_lowest_terms : FS :=
  sCons (sSet 2 (dCall gcdG (aCons (dVar 0) (aCons (dVar 1) (aNil))))) (sRet (dTup (aCons (dBin fdivG (dVar 0) (dVar 2)) (aCons (dBin fdivG (dVar 1) (dVar 2)) (aNil)))))
noncomputable def F_lowest_terms : FN := bodyF 3 B_lowest_terms
noncomputable def B_unit_row : FS :=
  sRet (dCall tupleG (aCons (dLc (srcR1 (aCons (dVar 0) (aNil))) (tName 2) (bYes) (dIf (dTrue (dBin (eqG false) (dVar 2) (dVar 1))) (dC (.int 1)) (dC (.int 0))) [2]) (aNil)))
noncomputable def F_unit_row : FN := bodyF 3 B_unit_row
noncomputable def B__law_any_row : FS :=
  sCons (sSet 2 (dCall F__law_one (aCons (dVar 0) (aCons (dLst (aCons (dLst (aCons (dC (.int 0)) (aCons (dC (.int 1)) (aCons (dNeg (dC (.int 1))) (aNil))))) (aCons (dLst (aCons (dC (.int 0)) (aCons (dC (.int 0)) (aCons (dC (.int 1)) (aCons (dNeg (dC (.int 1))) (aCons (dC (.int 2)) (aCons (dNeg (dC (.int 2))) (aNil)))))))) (aCons (dLst (aCons (dC (.int 0)) (aCons (dC (.int 1)) (aCons (dC (.int 2)) (aCons (dC (.int 3)) (aNil)))))) (aCons (dLst (aCons (dNeg (dC (.int 9))) (aCons (dNeg (dC (.int 4))) (aCons (dNeg (dC (.int 1))) (aCons (dC (.int 0)) (aCons (dC (.int 1)) (aCons (dC (.int 5)) (aCons (dC (.int 7)) (aNil))))))))) (aCons (dLst (aCons (dC (.int 0)) (aCons (dBin powG (dC (.int 10)) (dC (.int 6))) (aCons (dBin subG (dNeg (dBin powG (dC (.int 10)) (dC (.int 6)))) (dC (.int 1))) (aCons (dC (.int 3)) (aNil)))))) (aNil))))))) (aNil))))) (sRet (dCall tupleG (aCons (dLc (srcR1 (aCons (dVar 1) (aNil))) (tName 3) (bYes) (dCall F__law_one (aCons (dVar 0) (aCons (dVar 2) (aNil)))) [3]) (aNil))))
noncomputable def F__law_any_row : FN := bodyF 4 B__law_any_row
noncomputable def B_Equations___init__ : FS :=
  sCons (sFldD "Equations" (dVar 0) (dCall lenG (aCons (dVar 1) (aNil))) "_many") (sCons (sFldD "Equations" (dVar 0) (dCall lenG (aCons (dVar 2) (aNil))) "_size") (sCons (sFldD "Equations" (dVar 0) (dC (.int 1)) "_divisor") (sCons (sFldD "Equations" (dVar 0) (dLc (srcSeq (dVar 2)) (tName 9) (bYes) (dIf (dTrue (dBin ltG (dVar 9) (dC (.int 0)))) (dNeg (dC (.int 1))) (dC (.int 1))) [9]) "_signs") (sCons (sFldD "Equations" (dVar 0) (dLc (srcR1 (aCons (dFld "Equations" (dVar 0) "_size") (aNil))) (tName 4) (bYes) (dBin addG (dFld "Equations" (dVar 0) "_many") (dVar 4)) [4]) "_told") (sCons (sFldD "Equations" (dVar 0) (dLst (aNil)) "_rows") (sCons (sFor (srcEnum (aCons (dFld "Equations" (dVar 0) "_signs") (aNil))) (tPairG (tConsG (tName 4) (tConsG (tName 5) (tNilG)))) (sCons (sSet 6 (dCall listG (aCons (dCall F_unit_row (aCons (dFld "Equations" (dVar 0) "_size") (aCons (dVar 4) (aNil)))) (aNil)))) (sExpr (dMeth "list" appendG (dFld "Equations" (dVar 0) "_rows") (aCons (dBin addG (dBin addG (dLc (srcSeq (dVar 1)) (tName 10) (bYes) (dBin mulG (dVar 5) (dBin ixG (dVar 10) (dVar 4))) [10]) (dVar 6)) (dLst (aCons (dBin mulG (dVar 5) (dBin ixG (dVar 2) (dVar 4))) (aNil)))) (aNil)))))) (sCons (sSet 7 (dLc (srcR1 (aCons (dFld "Equations" (dVar 0) "_many") (aNil))) (tName 4) (bYes) (dNeg (dCall sumG (aCons (dLc (srcSeq (dFld "Equations" (dVar 0) "_rows")) (tName 11) (bYes) (dBin ixG (dVar 11) (dVar 4)) [11]) (aNil)))) [4])) (sCons (sSet 8 (dNeg (dCall sumG (aCons (dLc (srcSeq (dFld "Equations" (dVar 0) "_rows")) (tName 11) (bYes) (dBin ixG (dVar 11) (dNeg (dC (.int 1)))) [11]) (aNil))))) (sCons (sExpr (dMeth "list" appendG (dFld "Equations" (dVar 0) "_rows") (aCons (dBin addG (dCall listG (aCons (dVar 3) (aNil))) (dBin mulG (dLst (aCons (dC (.int 0)) (aNil))) (dBin addG (dFld "Equations" (dVar 0) "_size") (dC (.int 1))))) (aNil)))) (sExpr (dMeth "list" appendG (dFld "Equations" (dVar 0) "_rows") (aCons (dBin addG (dBin addG (dVar 7) (dBin mulG (dLst (aCons (dC (.int 0)) (aNil))) (dFld "Equations" (dVar 0) "_size"))) (dLst (aCons (dVar 8) (aNil)))) (aNil)))))))))))))
noncomputable def F_Equations___init__ : FN := bodyF 12 B_Equations___init__
noncomputable def B_negated : FS :=
  sRet (dCall tupleG (aCons (dLc (srcSeq (dVar 0)) (tName 1) (bYes) (dNeg (dVar 1)) [1]) (aNil)))
noncomputable def F_negated : FN := bodyF 2 B_negated
noncomputable def B_Equations__pivot : FS :=
  sCons (sSet 3 (dBin ixG (dFld "Equations" (dVar 0) "_rows") (dVar 1))) (sCons (sIf (dTrue (dBin ltG (dBin ixG (dVar 3) (dVar 2)) (dC (.int 0)))) (sSet 3 (dCall F_negated (aCons (dVar 3) (aNil)))) (sNil)) (sCons (sSet 4 (dBin ixG (dVar 3) (dVar 2))) (sCons (sSet 5 (dLst (aNil))) (sCons (sFor (srcSeq (dFld "Equations" (dVar 0) "_rows")) (tName 6) (sCons (sSet 7 (dBin ixG (dVar 6) (dVar 2))) (sExpr (dMeth "list" appendG (dVar 5) (aCons (dLc (srcZip (aCons (dVar 6) (aCons (dVar 3) (aNil)))) (tPairG (tConsG (tName 8) (tConsG (tName 9) (tNilG)))) (bYes) (dBin fdivG (dBin subG (dBin mulG (dVar 8) (dVar 4)) (dBin mulG (dVar 7) (dVar 9))) (dFld "Equations" (dVar 0) "_divisor")) [8, 9]) (aNil)))))) (sCons (sAsg (dVar 3) (tSubG (dVar 5) (dVar 1))) (sCons (sFldD "Equations" (dVar 0) (dVar 5) "_rows") (sCons (sFldD "Equations" (dVar 0) (dVar 4) "_divisor") (sAsg (dVar 2) (tSubG (dFld "Equations" (dVar 0) "_told") (dVar 1))))))))))
noncomputable def F_Equations__pivot : FN := bodyF 10 B_Equations__pivot
noncomputable def B_Equations__take_marks_out : FS :=
  sFor (srcR1 (aCons (dFld "Equations" (dVar 0) "_size") (aNil))) (tName 1) (sCons (sSet 2 (dLc (srcR1 (aCons (dFld "Equations" (dVar 0) "_many") (aNil))) (tName 3) (dTrue (dBin (eqG true) (dBin ixG (dBin ixG (dFld "Equations" (dVar 0) "_rows") (dVar 1)) (dVar 3)) (dC (.int 0)))) (dVar 3) [3])) (sIf (dAnd (dTrue (dBin geG (dBin ixG (dFld "Equations" (dVar 0) "_told") (dVar 1)) (dFld "Equations" (dVar 0) "_many"))) (dTru (dVar 2))) (sExpr (dMethC "Equations" "_pivot" F_Equations__pivot (dVar 0) (aCons (dVar 1) (aCons (dBin ixG (dVar 2) (dC (.int 0))) (aNil))))) (sNil)))
noncomputable def F_Equations__take_marks_out : FN := bodyF 4 B_Equations__take_marks_out
noncomputable def B_Equations__entering : FS :=
  sCons (sFor (srcR1 (aCons (dFld "Equations" (dVar 0) "_many") (aNil))) (tName 2) (sIf (dTrue (dBin ltG (dBin ixG (dBin ixG (dFld "Equations" (dVar 0) "_rows") (dVar 1)) (dVar 2)) (dC (.int 0)))) (sRet (dVar 2)) (sNil))) (sRet (dC .non))
noncomputable def F_Equations__entering : FN := bodyF 3 B_Equations__entering
noncomputable def B_Equations__is_sooner : FS :=
  sCons (sSet 4 (dBin mulG (dBin ixG (dBin ixG (dFld "Equations" (dVar 0) "_rows") (dVar 1)) (dNeg (dC (.int 1)))) (dBin ixG (dBin ixG (dFld "Equations" (dVar 0) "_rows") (dVar 2)) (dVar 3)))) (sCons (sSet 5 (dBin mulG (dBin ixG (dBin ixG (dFld "Equations" (dVar 0) "_rows") (dVar 2)) (dNeg (dC (.int 1)))) (dBin ixG (dBin ixG (dFld "Equations" (dVar 0) "_rows") (dVar 1)) (dVar 3)))) (sCons (sIf (dTrue (dBin (eqG false) (dVar 4) (dVar 5))) (sRet (dBin ltG (dBin ixG (dFld "Equations" (dVar 0) "_told") (dVar 1)) (dBin ixG (dFld "Equations" (dVar 0) "_told") (dVar 2)))) (sNil)) (sRet (dBin ltG (dVar 4) (dVar 5)))))
noncomputable def F_Equations__is_sooner : FN := bodyF 6 B_Equations__is_sooner
noncomputable def B_Equations__leaving : FS :=
  sCons (sSet 2 (dC .non)) (sCons (sFor (srcR1 (aCons (dFld "Equations" (dVar 0) "_size") (aNil))) (tName 3) (sIf (dAnd (dTrue (dBin gtG (dBin ixG (dBin ixG (dFld "Equations" (dVar 0) "_rows") (dVar 3)) (dVar 1)) (dC (.int 0)))) (dOr (dTrue (dIsN (dVar 2))) (dTrue (dMethC "Equations" "_is_sooner" F_Equations__is_sooner (dVar 0) (aCons (dVar 3) (aCons (dVar 2) (aCons (dVar 1) (aNil)))))))) (sSet 2 (dVar 3)) (sNil))) (sRet (dVar 2)))
noncomputable def F_Equations__leaving : FN := bodyF 4 B_Equations__leaving
noncomputable def B_Equations__lower : FS :=
  sCons (sSet 2 (dMethC "Equations" "_entering" F_Equations__entering (dVar 0) (aCons (dVar 1) (aNil)))) (sWhile (dTrue (dNotN (dVar 2))) (sCons (sExpr (dMethC "Equations" "_pivot" F_Equations__pivot (dVar 0) (aCons (dMethC "Equations" "_leaving" F_Equations__leaving (dVar 0) (aCons (dVar 2) (aNil))) (aCons (dVar 2) (aNil))))) (sSet 2 (dMethC "Equations" "_entering" F_Equations__entering (dVar 0) (aCons (dVar 1) (aNil))))))
noncomputable def F_Equations__lower : FN := bodyF 3 B_Equations__lower
noncomputable def B_Equations_cheapen : FS :=
  sCons (sExpr (dMethC "Equations" "_take_marks_out" F_Equations__take_marks_out (dVar 0) aNil)) (sExpr (dMethC "Equations" "_lower" F_Equations__lower (dVar 0) (aCons (dFld "Equations" (dVar 0) "_size") (aNil))))
noncomputable def F_Equations_cheapen : FN := bodyF 1 B_Equations_cheapen
noncomputable def B_Equations_reach : FS :=
  sCons (sExpr (dMethC "Equations" "_lower" F_Equations__lower (dVar 0) (aCons (dBin addG (dFld "Equations" (dVar 0) "_size") (dC (.int 1))) (aNil)))) (sRet (dBin (eqG false) (dBin ixG (dBin ixG (dFld "Equations" (dVar 0) "_rows") (dNeg (dC (.int 1)))) (dNeg (dC (.int 1)))) (dC (.int 0))))
noncomputable def F_Equations_reach : FN := bodyF 1 B_Equations_reach
noncomputable def B__cheapest : FS :=
  sCons (sSet 3 (dMakeC "Equations" F_Equations___init__ (aCons (dVar 0) (aCons (dVar 1) (aCons (dVar 2) (aNil)))))) (sCons (sIf (dNot (dTrue (dMethC "Equations" "reach" F_Equations_reach (dVar 3) aNil))) (sRet (dC .non)) (sNil)) (sCons (sExpr (dMethC "Equations" "cheapen" F_Equations_cheapen (dVar 3) aNil)) (sRet (dVar 3))))
noncomputable def F__cheapest : FN := bodyF 4 B__cheapest
noncomputable def B_Equations_shares : FS :=
  sCons (sSet 1 (dBin mulG (dLst (aCons (dTup (aCons (dC (.int 0)) (aCons (dC (.int 1)) (aNil)))) (aNil))) (dFld "Equations" (dVar 0) "_many"))) (sCons (sFor (srcZip (aCons (dFld "Equations" (dVar 0) "_rows") (aCons (dFld "Equations" (dVar 0) "_told") (aNil)))) (tPairG (tConsG (tName 2) (tConsG (tName 3) (tNilG)))) (sIf (dTrue (dBin ltG (dVar 3) (dFld "Equations" (dVar 0) "_many"))) (sAsg (dCall F_lowest_terms (aCons (dBin ixG (dVar 2) (dNeg (dC (.int 1)))) (aCons (dFld "Equations" (dVar 0) "_divisor") (aNil)))) (tSubG (dVar 1) (dVar 3))) (sNil))) (sRet (dCall tupleG (aCons (dVar 1) (aNil)))))
noncomputable def F_Equations_shares : FN := bodyF 4 B_Equations_shares
noncomputable def B_least_shares : FS :=
  sCons (sSet 3 (dCall F__cheapest (aCons (dVar 0) (aCons (dVar 1) (aCons (dVar 2) (aNil)))))) (sCons (sIf (dTrue (dIsN (dVar 3))) (sRet (dC .non)) (sNil)) (sRet (dMethC "Equations" "shares" F_Equations_shares (dVar 3) aNil)))
noncomputable def F_least_shares : FN := bodyF 4 B_least_shares
noncomputable def B_common_divisor : FS :=
  sCons (sSet 1 (dC (.int 0))) (sCons (sFor (srcSeq (dVar 0)) (tName 2) (sSet 1 (dCall gcdG (aCons (dVar 1) (aCons (dVar 2) (aNil)))))) (sRet (dVar 1)))
noncomputable def F_common_divisor : FN := bodyF 3 B_common_divisor
noncomputable def B_prime_row : FS :=
  sCons (sSet 1 (dCall F_common_divisor (aCons (dVar 0) (aNil)))) (sRet (dCall tupleG (aCons (dLc (srcSeq (dVar 0)) (tName 2) (bYes) (dBin fdivG (dVar 2) (dVar 1)) [2]) (aNil))))
noncomputable def F_prime_row : FN := bodyF 3 B_prime_row
noncomputable def B_Equations_row_against : FS :=
  sCons (sSet 1 (dSl (dBin ixG (dFld "Equations" (dVar 0) "_rows") (dNeg (dC (.int 1)))) (oSome (dFld "Equations" (dVar 0) "_many")) (oSome (dNeg (dC (.int 1)))))) (sRet (dCall F_prime_row (aCons (dLc (srcZip (aCons (dFld "Equations" (dVar 0) "_signs") (aCons (dVar 1) (aNil)))) (tPairG (tConsG (tName 2) (tConsG (tName 3) (tNilG)))) (bYes) (dBin mulG (dVar 2) (dBin subG (dFld "Equations" (dVar 0) "_divisor") (dVar 3))) [2, 3]) (aNil))))
noncomputable def F_Equations_row_against : FN := bodyF 4 B_Equations_row_against
noncomputable def B_row_against : FS :=
  sCons (sSet 2 (dMakeC "Equations" F_Equations___init__ (aCons (dVar 0) (aCons (dVar 1) (aCons (dBin mulG (dTup (aCons (dC (.int 0)) (aNil))) (dCall lenG (aCons (dVar 0) (aNil)))) (aNil)))))) (sCons (sIf (dTrue (dMethC "Equations" "reach" F_Equations_reach (dVar 2) aNil)) (sRet (dC .non)) (sNil)) (sRet (dMethC "Equations" "row_against" F_Equations_row_against (dVar 2) aNil)))
noncomputable def F_row_against : FN := bodyF 3 B_row_against
noncomputable def B__law_product : FS :=
  sRet (dCall sumG (aCons (dLc (srcZip (aCons (dVar 0) (aCons (dVar 1) (aNil)))) (tPairG (tConsG (tName 2) (tConsG (tName 3) (tNilG)))) (bYes) (dBin mulG (dVar 2) (dVar 3)) [2, 3]) (aNil)))
noncomputable def F__law_product : FN := bodyF 4 B__law_product
noncomputable def B__law_is_whole : FS :=
  sRet (dAndV (dIsi "int" (dVar 0)) (dNotV (dIsi "bool" (dVar 0))))
noncomputable def F__law_is_whole : FN := bodyF 1 B__law_is_whole
noncomputable def B__law_is_row : FS :=
  sRet (dAndV (dIsi "tuple" (dVar 0)) (dAndV (dBin (eqG false) (dCall lenG (aCons (dVar 0) (aNil))) (dVar 1)) (dBin (eqG false) (dLc (srcSeq (dVar 0)) (tName 2) (dNot (dTrue (dCall F__law_is_whole (aCons (dVar 2) (aNil))))) (dVar 2) [2]) (dLst (aNil)))))
noncomputable def F__law_is_row : FN := bodyF 3 B__law_is_row
noncomputable def B__law_bars : FS :=
  sCons (sIf (dOr (dNot (dTrue (dCall F__law_is_row (aCons (dVar 2) (aCons (dCall lenG (aCons (dVar 1) (aNil))) (aNil)))))) (dTrue (dBin (eqG true) (dLc (srcSeq (dVar 0)) (tName 3) (dTrue (dBin gtG (dCall F__law_product (aCons (dVar 3) (aCons (dVar 2) (aNil)))) (dC (.int 0)))) (dVar 3) [3]) (dLst (aNil))))) (sRet (dC (.bl false))) (sNil)) (sRet (dBin gtG (dCall F__law_product (aCons (dVar 1) (aCons (dVar 2) (aNil)))) (dC (.int 0))))
noncomputable def F__law_bars : FN := bodyF 4 B__law_bars
noncomputable def B__law_den_of : FS :=
  sCons (sSet 1 (dC (.int 1))) (sCons (sFor (srcSeq (dVar 0)) (tName 2) (sSet 1 (dBin mulG (dVar 1) (dBin fdivG (dBin ixG (dVar 2) (dC (.int 1))) (dCall F__law_gcd (aCons (dVar 1) (aCons (dBin ixG (dVar 2) (dC (.int 1))) (aNil)))))))) (sRet (dVar 1)))
noncomputable def F__law_den_of : FN := bodyF 3 B__law_den_of
noncomputable def B__law_are_shares : FS :=
  sCons (sIf (dOr (dNot (dTrue (dIsi "tuple" (dVar 0)))) (dTrue (dBin (eqG true) (dCall lenG (aCons (dVar 0) (aNil))) (dVar 1)))) (sRet (dC (.bl false))) (sNil)) (sCons (sFor (srcSeq (dVar 0)) (tName 2) (sIf (dOr (dNot (dTrue (dCall F__law_is_row (aCons (dVar 2) (aCons (dC (.int 2)) (aNil)))))) (dOr (dTrue (dBin ltG (dBin ixG (dVar 2) (dC (.int 0))) (dC (.int 0)))) (dOr (dTrue (dBin ltG (dBin ixG (dVar 2) (dC (.int 1))) (dC (.int 1)))) (dTrue (dBin (eqG true) (dCall F__law_gcd (aCons (dBin ixG (dVar 2) (dC (.int 0))) (aCons (dBin ixG (dVar 2) (dC (.int 1))) (aNil)))) (dC (.int 1))))))) (sRet (dC (.bl false))) (sNil))) (sRet (dC (.bl true))))
noncomputable def F__law_are_shares : FN := bodyF 3 B__law_are_shares
noncomputable def B__law_is_shared : FS :=
  sCons (sIf (dNot (dTrue (dCall F__law_are_shares (aCons (dVar 2) (aCons (dCall lenG (aCons (dVar 0) (aNil))) (aNil)))))) (sRet (dC (.bl false))) (sNil)) (sCons (sSet 3 (dCall F__law_den_of (aCons (dVar 2) (aNil)))) (sCons (sSet 4 (dLc (srcSeq (dVar 2)) (tName 5) (bYes) (dBin mulG (dBin ixG (dVar 5) (dC (.int 0))) (dBin fdivG (dVar 3) (dBin ixG (dVar 5) (dC (.int 1))))) [5])) (sRet (dBin (eqG false) (dLc (srcR1 (aCons (dCall lenG (aCons (dVar 1) (aNil))) (aNil))) (tName 6) (dTrue (dBin (eqG true) (dCall sumG (aCons (dLc (srcZip (aCons (dVar 4) (aCons (dVar 0) (aNil)))) (tPairG (tConsG (tName 7) (tConsG (tName 8) (tNilG)))) (bYes) (dBin mulG (dVar 7) (dBin ixG (dVar 8) (dVar 6))) [7, 8]) (aNil))) (dBin mulG (dVar 3) (dBin ixG (dVar 1) (dVar 6))))) (dVar 6) [6]) (dLst (aNil))))))
noncomputable def F__law_is_shared : FN := bodyF 9 B__law_is_shared
noncomputable def B_Equations_dearest_row : FS :=
  sCons (sSet 1 (dSl (dBin ixG (dFld "Equations" (dVar 0) "_rows") (dFld "Equations" (dVar 0) "_size")) (oSome (dFld "Equations" (dVar 0) "_many")) (oSome (dNeg (dC (.int 1)))))) (sCons (sSet 2 (dLc (srcZip (aCons (dFld "Equations" (dVar 0) "_signs") (aCons (dVar 1) (aNil)))) (tPairG (tConsG (tName 5) (tConsG (tName 6) (tNilG)))) (bYes) (dBin mulG (dNeg (dVar 5)) (dVar 6)) [5, 6])) (sCons (sAsg (dCall F_prime_row (aCons (dBin addG (dLst (aCons (dFld "Equations" (dVar 0) "_divisor") (aNil))) (dVar 2)) (aNil))) (tStarG (tConsG (tName 3) (tConsG (tName 4) (tNilG))))) (sRet (dTup (aCons (dVar 3) (aCons (dCall tupleG (aCons (dVar 4) (aNil))) (aNil)))))))
noncomputable def F_Equations_dearest_row : FN := bodyF 7 B_Equations_dearest_row
noncomputable def B_dearest_row : FS :=
  sCons (sSet 3 (dCall F__cheapest (aCons (dVar 0) (aCons (dVar 1) (aCons (dVar 2) (aNil)))))) (sCons (sIf (dTrue (dIsN (dVar 3))) (sRet (dC .non)) (sNil)) (sRet (dMethC "Equations" "dearest_row" F_Equations_dearest_row (dVar 3) aNil)))
noncomputable def F_dearest_row : FN := bodyF 4 B_dearest_row
noncomputable def B__law_made_goal : FS :=
  sCons (sIf (dOr (dTrue (dBin (eqG false) (dVar 1) (dTup (aNil)))) (dTrue (dBin (eqG false) (dCall F__law_take (aCons (dVar 0) (aCons (dC (.int 5)) (aNil)))) (dC (.int 0))))) (sRet (dCall F__law_any_row (aCons (dVar 0) (aCons (dVar 2) (aNil))))) (sNil)) (sCons (sSet 3 (dLc (srcSeq (dVar 1)) (tName 4) (bYes) (dCall F__law_one (aCons (dVar 0) (aCons (dLst (aCons (dC (.int 0)) (aCons (dC (.int 1)) (aCons (dC (.int 0)) (aCons (dC (.int 2)) (aCons (dC (.int 3)) (aNil))))))) (aNil)))) [4])) (sRet (dCall tupleG (aCons (dLc (srcR1 (aCons (dVar 2) (aNil))) (tName 5) (bYes) (dCall sumG (aCons (dLc (srcZip (aCons (dVar 3) (aCons (dVar 1) (aNil)))) (tPairG (tConsG (tName 6) (tConsG (tName 4) (tNilG)))) (bYes) (dBin mulG (dVar 6) (dBin ixG (dVar 4) (dVar 5))) [6, 4]) (aNil))) [5]) (aNil)))))
noncomputable def F__law_made_goal : FN := bodyF 7 B__law_made_goal
noncomputable def B__law_is_least : FS :=
  sCons (sIf (dNot (dTrue (dCall F__law_is_shared (aCons (dVar 0) (aCons (dVar 1) (aCons (dVar 3) (aNil))))))) (sRet (dC (.bl false))) (sNil)) (sCons (sIf (dOr (dNot (dTrue (dIsi "tuple" (dVar 4)))) (dOr (dTrue (dBin (eqG true) (dCall lenG (aCons (dVar 4) (aNil))) (dC (.int 2)))) (dOr (dNot (dTrue (dCall F__law_is_whole (aCons (dBin ixG (dVar 4) (dC (.int 0))) (aNil))))) (dTrue (dBin ltG (dBin ixG (dVar 4) (dC (.int 0))) (dC (.int 1))))))) (sRet (dC (.bl false))) (sNil)) (sCons (sAsg (dVar 4) (tTupG 2 (tConsG (tName 5) (tConsG (tName 6) (tNilG))))) (sCons (sIf (dNot (dTrue (dCall F__law_is_row (aCons (dVar 6) (aCons (dCall lenG (aCons (dVar 1) (aNil))) (aNil)))))) (sRet (dC (.bl false))) (sNil)) (sCons (sIf (dTrue (dBin (eqG true) (dLc (srcZip (aCons (dVar 0) (aCons (dVar 2) (aNil)))) (tPairG (tConsG (tName 9) (tConsG (tName 10) (tNilG)))) (dTrue (dBin gtG (dCall F__law_product (aCons (dVar 9) (aCons (dVar 6) (aNil)))) (dBin mulG (dVar 5) (dVar 10)))) (dVar 10) [9, 10]) (dLst (aNil)))) (sRet (dC (.bl false))) (sNil)) (sCons (sSet 7 (dCall F__law_den_of (aCons (dVar 3) (aNil)))) (sCons (sSet 8 (dCall sumG (aCons (dLc (srcZip (aCons (dVar 3) (aCons (dVar 2) (aNil)))) (tPairG (tConsG (tName 11) (tConsG (tName 10) (tNilG)))) (bYes) (dBin mulG (dBin mulG (dBin ixG (dVar 11) (dC (.int 0))) (dBin fdivG (dVar 7) (dBin ixG (dVar 11) (dC (.int 1))))) (dVar 10)) [11, 10]) (aNil)))) (sRet (dBin (eqG false) (dBin mulG (dCall F__law_product (aCons (dVar 6) (aCons (dVar 1) (aNil)))) (dVar 7)) (dBin mulG (dVar 5) (dVar 8))))))))))
noncomputable def F__law_is_least : FN := bodyF 12 B__law_is_least
noncomputable def B_law_v20 : FS :=
  sCons (sAsg (dTup (aCons (dCall F__law_bag (aCons (dVar 0) (aNil))) (aCons (dLst (aNil)) (aNil)))) (tTupG 2 (tConsG (tName 1) (tConsG (tName 2) (tNilG))))) (sCons (sFor (srcR1 (aCons (dC (.int 6)) (aNil))) (tName 3) (sCons (sSet 4 (dCall F__law_one (aCons (dVar 1) (aCons (dLst (aCons (dC (.int 2)) (aCons (dC (.int 3)) (aCons (dC (.int 1)) (aCons (dC (.int 4)) (aCons (dC (.int 5)) (aCons (dC (.int 9)) (aNil)))))))) (aNil))))) (sCons (sSet 5 (dCall tupleG (aCons (dLc (srcR1 (aCons (dCall F__law_one (aCons (dVar 1) (aCons (dLst (aCons (dC (.int 3)) (aCons (dC (.int 5)) (aCons (dC (.int 1)) (aCons (dC (.int 0)) (aCons (dC (.int 8)) (aCons (dC (.int 20)) (aNil)))))))) (aNil)))) (aNil))) (tName 13) (bYes) (dCall F__law_any_row (aCons (dVar 1) (aCons (dVar 4) (aNil)))) [13]) (aNil)))) (sCons (sSet 6 (dCall F__law_one (aCons (dVar 1) (aCons (dLst (aCons (dLst (aCons (dC (.int 0)) (aCons (dC (.int 1)) (aCons (dC (.int 2)) (aCons (dC (.int 5)) (aNil)))))) (aCons (dLst (aCons (dC (.int 1)) (aNil))) (aCons (dLst (aCons (dC (.int 0)) (aNil))) (aCons (dLst (aCons (dC (.int 3)) (aCons (dC (.int 7)) (aCons (dBin powG (dC (.int 10)) (dC (.int 6))) (aNil))))) (aNil)))))) (aNil))))) (sExpr (dMeth "list" appendG (dVar 2) (aCons (dTup (aCons (dVar 5) (aCons (dCall F__law_made_goal (aCons (dVar 1) (aCons (dVar 5) (aCons (dVar 4) (aNil))))) (aCons (dCall tupleG (aCons (dLc (srcSeq (dVar 5)) (tName 14) (bYes) (dCall F__law_one (aCons (dVar 1) (aCons (dVar 6) (aNil)))) [14]) (aNil))) (aNil))))) (aNil)))))))) (sCons (sFor (srcSeq (dBin addG (dVar 2) (dSl (dVar 2) (oNone) (oSome (dC (.int 1)))))) (tTupG 3 (tConsG (tName 5) (tConsG (tName 7) (tConsG (tName 8) (tNilG))))) (sCons (sSet 9 (dCall reprG (aCons (dLst (aCons (dVar 5) (aCons (dVar 7) (aCons (dVar 8) (aNil))))) (aNil)))) (sCons (sPar2 10 11 (aCons (dCall F_least_shares (aCons (dVar 5) (aCons (dVar 7) (aCons (dVar 8) (aNil))))) (aCons (dCall F_dearest_row (aCons (dVar 5) (aCons (dVar 7) (aCons (dVar 8) (aNil))))) (aNil)))) (sCons (sIf (dOr (dTrue (dIsN (dVar 10))) (dTrue (dIsN (dVar 11)))) (sIf (dOr (dTrue (dNotN (dVar 10))) (dOr (dTrue (dNotN (dVar 11))) (dNot (dTrue (dCall F__law_bars (aCons (dVar 5) (aCons (dVar 7) (aCons (dCall F_row_against (aCons (dVar 5) (aCons (dVar 7) (aNil)))) (aNil))))))))) (sRet (dC (.bl false))) (sNil)) (sIf (dNot (dTrue (dCall F__law_is_least (aCons (dVar 5) (aCons (dVar 7) (aCons (dVar 8) (aCons (dVar 10) (aCons (dVar 11) (aNil))))))))) (sRet (dC (.bl false))) (sNil))) (sCons (sSet 12 (dLst (aCons (dCall F_least_shares (aCons (dVar 5) (aCons (dVar 7) (aCons (dVar 8) (aNil))))) (aCons (dCall F_dearest_row (aCons (dVar 5) (aCons (dVar 7) (aCons (dVar 8) (aNil))))) (aNil))))) (sIf (dOr (dNot (dTrue (dCall F__law_alike (aCons (dVar 12) (aCons (dLst (aCons (dVar 10) (aCons (dVar 11) (aNil)))) (aNil)))))) (dTrue (dBin (eqG true) (dCall reprG (aCons (dLst (aCons (dVar 5) (aCons (dVar 7) (aCons (dVar 8) (aNil))))) (aNil))) (dVar 9)))) (sRet (dC (.bl false))) (sNil))))))) (sRet (dC (.bl true)))))
noncomputable def F_law_v20 : FN := bodyF 15 B_law_v20
end Lw
set_option Elab.async false
set_option linter.all false
set_option maxRecDepth 100000
set_option maxHeartbeats 4000000
/-! Ea: sums, determinants of whole numbers (Laplace), their linearity, alternation and size. -/
namespace Lx
def su : Nat → (Nat → Int) → Int
  | 0, _ => 0
  | m + 1, f => su m f + f m
theorem su_congr {f g : Nat → Int} : ∀ {m : Nat}, (∀ k, k < m → f k = g k) → su m f = su m g
  | 0, _ => rfl
  | m + 1, h => by
    show su m f + f m = su m g + g m
    rw [su_congr fun k hk => h k (Nat.lt_succ_of_lt hk), h m (Nat.lt_succ_self m)]
theorem su_zero {f : Nat → Int} : ∀ {m : Nat}, (∀ k, k < m → f k = 0) → su m f = 0
  | 0, _ => rfl
  | m + 1, h => by
    show su m f + f m = 0
    rw [su_zero fun k hk => h k (Nat.lt_succ_of_lt hk), h m (Nat.lt_succ_self m)]; rfl
theorem su_add (f g : Nat → Int) : ∀ m : Nat, su m (fun k => f k + g k) = su m f + su m g
  | 0 => rfl
  | m + 1 => by
    show su m (fun k => f k + g k) + (f m + g m) = (su m f + f m) + (su m g + g m)
    rw [su_add f g m]; omega
theorem su_mul (c : Int) (f : Nat → Int) : ∀ m : Nat, su m (fun k => c * f k) = c * su m f
  | 0 => (Int.mul_zero c).symm
  | m + 1 => by
    show su m (fun k => c * f k) + c * f m = c * (su m f + f m)
    rw [su_mul c f m, Int.mul_add]
theorem su_neg (f : Nat → Int) (m : Nat) : su m (fun k => - f k) = - su m f := by
  have := su_mul (-1) f m
  rw [Int.neg_one_mul] at this
  rw [← this]
  exact su_congr fun k _ => by rw [Int.neg_one_mul]
theorem su_sub (f g : Nat → Int) (m : Nat) : su m (fun k => f k - g k) = su m f - su m g := by
  rw [Int.sub_eq_add_neg, ← su_neg g m, ← su_add f _ m]
  exact su_congr fun k _ => Int.sub_eq_add_neg
/-- all but one are nothing -/
theorem su_one {f : Nat → Int} {i : Nat} : ∀ {m : Nat}, i < m → (∀ k, k < m → k ≠ i → f k = 0) → su m f = f i
  | 0, h, _ => absurd h (Nat.not_lt_zero _)
  | m + 1, h, z => by
    show su m f + f m = f i
    by_cases e : i = m
    · subst e
      rw [su_zero fun k hk => z k (Nat.lt_succ_of_lt hk) (Nat.ne_of_lt hk), Int.zero_add]
    · rw [su_one (by omega) fun k hk hn => z k (Nat.lt_succ_of_lt hk) hn, z m (Nat.lt_succ_self m) fun q => e q.symm, Int.add_zero]
/-- all but two are nothing -/
theorem su_two {f : Nat → Int} {i j : Nat} (hij : i < j) : ∀ {m : Nat}, j < m → (∀ k, k < m → k ≠ i → k ≠ j → f k = 0) → su m f = f i + f j
  | 0, h, _ => absurd h (Nat.not_lt_zero _)
  | m + 1, h, z => by
    show su m f + f m = f i + f j
    by_cases e : j = m
    · subst e
      rw [su_one hij fun k hk hn => z k (Nat.lt_succ_of_lt hk) hn (Nat.ne_of_lt hk)]
    · rw [su_two hij (by omega) fun k hk hn hn2 => z k (Nat.lt_succ_of_lt hk) hn hn2, z m (Nat.lt_succ_self m) (by omega) (by omega), Int.add_zero]
theorem su_swap (f : Nat → Nat → Int) (n : Nat) : ∀ m : Nat, su m (fun k => su n (f k)) = su n (fun j => su m (fun k => f k j))
  | 0 => (su_zero fun _ _ => rfl).symm
  | m + 1 => by
    show su m (fun k => su n (f k)) + su n (f m) = su n (fun j => su m (fun k => f k j) + f m j)
    rw [su_swap f n m, su_add]
/-- one among them, taken out -/
theorem su_out {f : Nat → Int} {i m : Nat} (h : i < m) : su m f = f i + su m (fun k => if k = i then 0 else f k) := by
  have e : su m f = su m (fun k => (if k = i then f k else 0) + (if k = i then 0 else f k)) := su_congr fun k _ => by
    by_cases q : k = i
    · rw [if_pos q, if_pos q, Int.add_zero]
    · rw [if_neg q, if_neg q, Int.zero_add]
  rw [e, su_add, su_one (i := i) h fun k _ hn => by rw [if_neg hn]]
  rw [if_pos rfl]
theorem su_nonneg {f : Nat → Int} : ∀ {m : Nat}, (∀ k, k < m → 0 ≤ f k) → 0 ≤ su m f
  | 0, _ => Int.le_refl 0
  | m + 1, h => Int.add_nonneg (su_nonneg fun k hk => h k (Nat.lt_succ_of_lt hk)) (h m (Nat.lt_succ_self m))
/-- a positive sum has a positive part -/
theorem su_pos {f : Nat → Int} : ∀ {m : Nat}, 0 < su m f → ∃ k, k < m ∧ 0 < f k
  | 0, h => absurd h (Int.lt_irrefl 0)
  | m + 1, h => by
    have h' : 0 < su m f + f m := h
    by_cases q : 0 < f m
    · exact ⟨m, Nat.lt_succ_self m, q⟩
    · obtain ⟨k, hk, e⟩ := su_pos (f := f) (m := m) (by omega)
      exact ⟨k, Nat.lt_succ_of_lt hk, e⟩
/-- a sum of nothing below nothing that is nothing -/
theorem su_all0 {f : Nat → Int} : ∀ {m : Nat}, (∀ k, k < m → 0 ≤ f k) → su m f = 0 → ∀ k, k < m → f k = 0
  | 0, _, _, k, hk => absurd hk (Nat.not_lt_zero _)
  | m + 1, h, e, k, hk => by
    have e' : su m f + f m = 0 := e
    have h1 := su_nonneg (f := f) (m := m) fun k hk => h k (Nat.lt_succ_of_lt hk)
    have h2 := h m (Nat.lt_succ_self m)
    by_cases q : k = m
    · subst q; omega
    · exact su_all0 (fun k hk => h k (Nat.lt_succ_of_lt hk)) (by omega) k (by omega)
/-! ### determinants -/
def upd (v : Nat → Nat → Int) (i : Nat) (x : Nat → Int) : Nat → Nat → Int := fun a => if a = i then x else v a
theorem upd_same {v : Nat → Nat → Int} {i : Nat} {x : Nat → Int} : upd v i x i = x := if_pos rfl
theorem upd_ne {v : Nat → Nat → Int} {i a : Nat} {x : Nat → Int} (h : a ≠ i) : upd v i x a = v a := if_neg h
theorem upd_self {v : Nat → Nat → Int} {i : Nat} : upd v i (v i) = v := by
  funext a
  by_cases h : a = i
  · subst h; exact upd_same
  · exact upd_ne h
theorem upd_upd {v : Nat → Nat → Int} {i : Nat} {x y : Nat → Int} : upd (upd v i x) i y = upd v i y := by
  funext a
  by_cases h : a = i
  · subst h; rw [upd_same, upd_same]
  · rw [upd_ne h, upd_ne h, upd_ne h]
theorem upd_comm {v : Nat → Nat → Int} {i j : Nat} {x y : Nat → Int} (h : i ≠ j) : upd (upd v i x) j y = upd (upd v j y) i x := by
  funext a
  by_cases h1 : a = i
  · subst h1; rw [upd_ne h, upd_same, upd_same]
  · by_cases h2 : a = j
    · subst h2; rw [upd_same, upd_ne h1, upd_same]
    · rw [upd_ne h2, upd_ne h1, upd_ne h1, upd_ne h2]
def skip (k a : Nat) : Nat := if a < k then a else a + 1
def det : Nat → (Nat → Nat → Int) → Int
  | 0, _ => 1
  | m + 1, v => su (m + 1) fun k => (-1) ^ k * (v k 0 * det m (fun a b => v (skip k a) (b + 1)))
theorem det_succ (m : Nat) (v : Nat → Nat → Int) : det (m + 1) v = su (m + 1) fun k => (-1) ^ k * (v k 0 * det m (fun a b => v (skip k a) (b + 1))) := rfl
def uns (k i : Nat) : Nat := if i < k then i else i - 1
theorem skip_eq {k i a : Nat} (h : k ≠ i) : skip k a = i ↔ a = uns k i := by
  unfold skip uns
  split <;> split <;> omega
theorem skip_ne {k a : Nat} : skip k a ≠ k := by
  unfold skip
  split <;> omega
theorem minor_upd {v : Nat → Nat → Int} {i k : Nat} {x : Nat → Int} (h : k ≠ i) : (fun a b => upd v i x (skip k a) (b + 1)) = upd (fun a b => v (skip k a) (b + 1)) (uns k i) (fun b => x (b + 1)) := by
  funext a b
  by_cases q : skip k a = i
  · rw [(skip_eq h).mp q, upd_same, ← (skip_eq h).mp q, q, upd_same]
  · rw [upd_ne q, upd_ne fun e => q ((skip_eq h).mpr e)]
theorem minor_own {v : Nat → Nat → Int} {i : Nat} {x : Nat → Int} : (fun a b => upd v i x (skip i a) (b + 1)) = (fun a b => v (skip i a) (b + 1)) := by
  funext a b
  rw [upd_ne skip_ne]
theorem det_lin (c d : Int) (x y : Nat → Int) : ∀ (m : Nat) (v : Nat → Nat → Int) (i : Nat), i < m → det m (upd v i (fun b => c * x b + d * y b)) = c * det m (upd v i x) + d * det m (upd v i y)
  | 0, _, _, h => absurd h (Nat.not_lt_zero _)
  | m + 1, v, i, h => by
    rw [det_succ, det_succ, det_succ, ← su_mul, ← su_mul, ← su_add]
    refine su_congr fun k hk => ?_
    by_cases q : k = i
    · subst q
      rw [minor_own, minor_own, minor_own, upd_same, upd_same, upd_same]
      generalize det m _ = E
      generalize ((-1 : Int)) ^ k = s
      rw [Int.add_mul, Int.mul_add, Int.mul_assoc, Int.mul_left_comm s, Int.mul_assoc, Int.mul_left_comm s d]
    · rw [minor_upd q, minor_upd q, minor_upd q, upd_ne q, upd_ne q, upd_ne q]
      have hu : uns k i < m := by unfold uns; split <;> omega
      have ih := det_lin c d (fun b => x (b + 1)) (fun b => y (b + 1)) m (fun a b => v (skip k a) (b + 1)) (uns k i) hu
      rw [ih]
      generalize det m _ = E
      generalize det m _ = F
      generalize ((-1 : Int)) ^ k = s
      generalize v k 0 = u
      rw [Int.mul_add, Int.mul_add, Int.mul_left_comm u c, Int.mul_left_comm s c, Int.mul_left_comm u d, Int.mul_left_comm s d]
theorem det_add {m : Nat} {v : Nat → Nat → Int} {i : Nat} (h : i < m) (x y : Nat → Int) : det m (upd v i (fun b => x b + y b)) = det m (upd v i x) + det m (upd v i y) := by
  have := det_lin 1 1 x y m v i h
  simpa using this
theorem det_smul {m : Nat} {v : Nat → Nat → Int} {i : Nat} (h : i < m) (c : Int) (x : Nat → Int) : det m (upd v i (fun b => c * x b)) = c * det m (upd v i x) := by
  have := det_lin c 0 x x m v i h
  simpa using this
theorem det_zero {m : Nat} {v : Nat → Nat → Int} {i : Nat} (h : i < m) : det m (upd v i (fun _ => 0)) = 0 := by
  have := det_lin 0 0 (fun _ => 0) (fun _ => 0) m v i h
  simpa using this
theorem det_su {m : Nat} {v : Nat → Nat → Int} {i : Nat} (h : i < m) (c : Nat → Int) (x : Nat → Nat → Int) : ∀ n : Nat, det m (upd v i (fun b => su n fun k => c k * x k b)) = su n fun k => c k * det m (upd v i (x k))
  | 0 => det_zero h
  | n + 1 => by
    show det m (upd v i (fun b => (su n fun k => c k * x k b) + c n * x n b)) = (su n fun k => c k * det m (upd v i (x k))) + c n * det m (upd v i (x n))
    rw [det_add h, det_su h c x n, det_smul h]
theorem det_adj : ∀ (m : Nat) (v : Nat → Nat → Int) (i : Nat), i + 1 < m → v i = v (i + 1) → det m v = 0
  | 0, _, _, h, _ => absurd h (Nat.not_lt_zero _)
  | m + 1, v, i, h, e => by
    rw [det_succ, su_two (i := i) (j := i + 1) (Nat.lt_succ_self i) h fun k hk h1 h2 => ?_]
    · have hm : (fun a b => v (skip i a) (b + 1)) = (fun a b => v (skip (i + 1) a) (b + 1)) := by
        funext a b
        by_cases q : a = i
        · subst q
          have e1 : skip a a = a + 1 := by unfold skip; rw [if_neg (Nat.lt_irrefl a)]
          have e2 : skip (a + 1) a = a := by unfold skip; rw [if_pos (Nat.lt_succ_self a)]
          rw [e1, e2, e]
        · have e1 : skip i a = skip (i + 1) a := by unfold skip; split <;> split <;> omega
          rw [e1]
      rw [hm, ← e, Int.pow_succ]
      generalize v i 0 * _ = E
      generalize ((-1 : Int)) ^ i = s
      rw [Int.mul_neg, Int.mul_one, Int.neg_mul, Int.add_right_neg]
    · have z : det m (fun a b => v (skip k a) (b + 1)) = 0 := by
        refine det_adj m _ (uns k i) (by unfold uns; split <;> omega) ?_
        have e1 : skip k (uns k i) = i := (skip_eq h1).mpr rfl
        have e2 : skip k (uns k i + 1) = i + 1 := by unfold skip uns; split <;> split <;> omega
        funext b
        rw [e1, e2, e]
      rw [z, Int.mul_zero, Int.mul_zero]
theorem det_swp {m : Nat} {v : Nat → Nat → Int} {i : Nat} (h : i + 1 < m) (x y : Nat → Int) : det m (upd (upd v i x) (i + 1) y) = - det m (upd (upd v i y) (i + 1) x) := by
  have hi : i < m := Nat.lt_of_succ_lt h
  have ne : i ≠ i + 1 := Nat.ne_of_lt (Nat.lt_succ_self i)
  have z := det_adj m (upd (upd v i (fun b => x b + y b)) (i + 1) (fun b => x b + y b)) i h (by rw [upd_ne ne, upd_same, upd_same])
  rw [det_add h, upd_comm ne, upd_comm ne, det_add hi, det_add hi] at z
  have z1 := det_adj m (upd (upd v (i + 1) x) i x) i h (by rw [upd_same, upd_ne ne.symm, upd_same])
  have z2 := det_adj m (upd (upd v (i + 1) y) i y) i h (by rw [upd_same, upd_ne ne.symm, upd_same])
  rw [upd_comm ne, upd_comm (i := i) ne]
  omega
/-- two alike columns -/
theorem det_eq : ∀ (d m : Nat) (v : Nat → Nat → Int) (i : Nat), i + d + 1 < m → v i = v (i + d + 1) → det m v = 0
  | 0, m, v, i, h, e => det_adj m v i h e
  | d + 1, m, v, i, h, e => by
    have h' : i + d + 1 < m := Nat.lt_of_succ_lt h
    have e1 : v = upd (upd v (i + d + 1) (v (i + d + 1))) (i + d + 1 + 1) (v (i + d + 1 + 1)) := by rw [upd_self, upd_self]
    rw [e1, det_swp (i := i + d + 1) h]
    rw [det_eq d m _ i h' ?_]; · rfl
    rw [upd_ne (by omega), upd_ne (by omega), upd_ne (by omega), upd_same]
    exact e
theorem det_same {m : Nat} {v : Nat → Nat → Int} {i j : Nat} (hi : i < m) (hj : j < m) (ne : i ≠ j) (e : v i = v j) : det m v = 0 := by
  rcases Nat.lt_or_gt_of_ne ne with h | h
  · obtain ⟨d, rfl⟩ : ∃ d, j = i + d + 1 := ⟨j - i - 1, by omega⟩
    exact det_eq d m v i hj e
  · obtain ⟨d, rfl⟩ : ∃ d, i = j + d + 1 := ⟨i - j - 1, by omega⟩
    exact det_eq d m v j hi e.symm
/-- two columns exchanged -/
theorem det_swap {m : Nat} {v : Nat → Nat → Int} {i j : Nat} (hi : i < m) (hj : j < m) (ne : i ≠ j) (x y : Nat → Int) : det m (upd (upd v i x) j y) = - det m (upd (upd v i y) j x) := by
  have z := det_same (v := upd (upd v i (fun b => x b + y b)) j (fun b => x b + y b)) hi hj ne (by rw [upd_ne ne, upd_same, upd_same])
  rw [det_add hj, upd_comm ne, upd_comm ne, det_add hi, det_add hi] at z
  have z1 := det_same (v := upd (upd v j x) i x) hi hj ne (by rw [upd_same, upd_ne ne.symm, upd_same])
  have z2 := det_same (v := upd (upd v j y) i y) hi hj ne (by rw [upd_same, upd_ne ne.symm, upd_same])
  rw [upd_comm ne, upd_comm (i := i) ne]
  omega
def one (k b : Nat) : Int := if b = k then 1 else 0
theorem det_congr : ∀ {m : Nat} {v w : Nat → Nat → Int}, (∀ a b, a < m → b < m → v a b = w a b) → det m v = det m w
  | 0, _, _, _ => rfl
  | m + 1, v, w, h => by
    rw [det_succ, det_succ]
    refine su_congr fun k hk => ?_
    rw [h k 0 hk (Nat.succ_pos m), det_congr fun a b ha hb => h (skip k a) (b + 1) (by unfold skip; split <;> omega) (by omega)]
theorem det_unit : ∀ {m : Nat} {v : Nat → Nat → Int}, (∀ a b, a < m → b < m → v a b = one a b) → det m v = 1
  | 0, _, _ => rfl
  | m + 1, v, h => by
    rw [det_succ, su_one (i := 0) (Nat.succ_pos m) fun k hk hn => ?_]
    · rw [h 0 0 (Nat.succ_pos m) (Nat.succ_pos m), det_unit (m := m) fun a b ha hb => ?_]
      · rfl
      · have e : skip 0 a = a + 1 := rfl
        rw [e, h (a + 1) (b + 1) (by omega) (by omega)]
        unfold one
        by_cases q : b = a
        · rw [if_pos (by omega), if_pos q]
        · rw [if_neg (by omega), if_neg q]
    · rw [h k 0 hk (Nat.succ_pos m)]
      unfold one
      rw [if_neg (fun e => hn e.symm), Int.zero_mul, Int.mul_zero]
def bdN (M : Nat) : Nat → Nat
  | 0 => 1
  | m + 1 => (m + 1) * (M * bdN M m)
theorem su_bd {f : Nat → Int} {C : Nat} : ∀ {m : Nat}, (∀ k, k < m → (f k).natAbs ≤ C) → (su m f).natAbs ≤ m * C
  | 0, _ => Nat.zero_le _
  | m + 1, h => by
    have h1 := su_bd (f := f) (C := C) (m := m) fun k hk => h k (Nat.lt_succ_of_lt hk)
    have h2 := h m (Nat.lt_succ_self m)
    have e : (su (m + 1) f).natAbs ≤ (su m f).natAbs + (f m).natAbs := Int.natAbs_add_le _ _
    rw [Nat.succ_mul]; omega
theorem pow_abs : ∀ k : Nat, ((-1 : Int) ^ k).natAbs = 1
  | 0 => rfl
  | k + 1 => by rw [Int.pow_succ, Int.natAbs_mul, pow_abs k]; rfl
theorem det_bd {M : Nat} : ∀ {m : Nat} {v : Nat → Nat → Int}, (∀ a b, a < m → b < m → (v a b).natAbs ≤ M) → (det m v).natAbs ≤ bdN M m
  | 0, _, _ => Nat.le_refl 1
  | m + 1, v, h => by
    rw [det_succ]
    refine su_bd (C := M * bdN M m) fun k hk => ?_
    rw [Int.natAbs_mul, pow_abs, Nat.one_mul, Int.natAbs_mul]
    exact Nat.mul_le_mul (h k 0 hk (Nat.succ_pos m)) (det_bd fun a b ha hb => h (skip k a) (b + 1) (by unfold skip; split <;> omega) (by omega))
end Lx
set_option Elab.async false
set_option linter.all false
set_option maxRecDepth 100000
set_option maxHeartbeats 4000000
/-! Eb: tableaux of whole numbers: what a basis tells of a vector, what an exchange makes of it. -/
namespace Lx
def Bs (a : Nat → Nat → Int) (told : Nat → Nat) : Nat → Nat → Int := fun i => a (told i)
def Rv (M : Nat) (a : Nat → Nat → Int) (told : Nat → Nat) (σ : Int) (i : Nat) (v : Nat → Int) : Int := σ * det M (upd (Bs a told) i v)
structure Tab (M : Nat) (a : Nat → Nat → Int) (told : Nat → Nat) (σ D : Int) : Prop where
  sg : σ = 1 ∨ σ = -1
  eD : D = σ * det M (Bs a told)
  pos : 0 < D
  ex : ∀ (v : Nat → Int) (b : Nat), b < M → D * v b = su M fun i => Rv M a told σ i v * a (told i) b
section
variable {M : Nat} {a : Nat → Nat → Int} {told : Nat → Nat} {σ D : Int}
theorem upd_congr {v : Nat → Nat → Int} {i : Nat} {x y : Nat → Int} {M : Nat} (h : ∀ b, b < M → x b = y b) : det M (upd v i x) = det M (upd v i y) :=
  det_congr fun k b _ hb => by
    by_cases q : k = i
    · subst q; rw [upd_same, upd_same]; exact h b hb
    · rw [upd_ne q, upd_ne q]
theorem Rv_congr {i : Nat} {x y : Nat → Int} (h : ∀ b, b < M → x b = y b) : Rv M a told σ i x = Rv M a told σ i y := congrArg (σ * ·) (upd_congr h)
theorem Rv_su {i : Nat} (h : i < M) (c : Nat → Int) (x : Nat → Nat → Int) (n : Nat) : Rv M a told σ i (fun b => su n fun k => c k * x k b) = su n fun k => c k * Rv M a told σ i (x k) := by
  unfold Rv
  rw [det_su h, ← su_mul]
  exact su_congr fun k _ => Int.mul_left_comm ..
theorem Rv_smul {i : Nat} (h : i < M) (c : Int) (x : Nat → Int) : Rv M a told σ i (fun b => c * x b) = c * Rv M a told σ i x := by
  unfold Rv
  rw [det_smul h, Int.mul_left_comm]
theorem Tab.at_ (t : Tab M a told σ D) {i k : Nat} (hi : i < M) (hk : k < M) : Rv M a told σ i (a (told k)) = if k = i then D else 0 := by
  by_cases e : k = i
  · subst e
    rw [if_pos rfl, t.eD]
    unfold Rv
    have : upd (Bs a told) k (a (told k)) = Bs a told := upd_self (v := Bs a told)
    rw [this]
  · rw [if_neg e]
    unfold Rv
    rw [det_same (i := i) (j := k) hi hk (fun q => e q.symm) (by rw [upd_same, upd_ne e]; rfl), Int.mul_zero]
theorem Tab.own (t : Tab M a told σ D) {i : Nat} (hi : i < M) : Rv M a told σ i (a (told i)) = D := by rw [t.at_ hi hi, if_pos rfl]
theorem Tab.oth (t : Tab M a told σ D) {i k : Nat} (hi : i < M) (hk : k < M) (h : k ≠ i) : Rv M a told σ i (a (told k)) = 0 := by rw [t.at_ hi hk, if_neg h]
theorem Tab.one (t : Tab M a told σ D) {i k : Nat} (hi : i < M) (hk : k < M) (h : told k = told i) : k = i := by
  rcases Decidable.em (k = i) with e | e
  · exact e
  · have h1 := t.oth hi hk e
    rw [h, t.own hi] at h1
    exact absurd t.pos (by omega)
def put (told : Nat → Nat) (r c : Nat) : Nat → Nat := fun i => if i = r then c else told i
theorem put_same {r c : Nat} : put told r c r = c := if_pos rfl
theorem put_ne {r c i : Nat} (h : i ≠ r) : put told r c i = told i := if_neg h
theorem Bs_put {r c : Nat} : Bs a (put told r c) = upd (Bs a told) r (a c) := by
  funext i
  by_cases h : i = r
  · subst h; rw [upd_same]; show a (put told i c i) = _; rw [put_same]
  · rw [upd_ne h]; show a (put told r c i) = _; rw [put_ne h]; rfl
theorem Rv_row {r c : Nat} {s : Int} {v : Nat → Int} : Rv M a (put told r c) (s * σ) r v = s * Rv M a told σ r v := by
  unfold Rv
  rw [Bs_put, upd_upd, Int.mul_assoc]
theorem Tab.rv (t : Tab M a told σ D) {r c i : Nat} (hr : r < M) (hi : i < M) (ne : i ≠ r) (s : Int) (v : Nat → Int) :
    D * Rv M a (put told r c) (s * σ) i v = s * (Rv M a told σ i v * Rv M a told σ r (a c) - Rv M a told σ i (a c) * Rv M a told σ r v) := by
  have key : D * det M (upd (Bs a (put told r c)) i v) = Rv M a told σ i v * det M (Bs a (put told r c)) - Rv M a told σ r v * det M (upd (Bs a told) i (a c)) := by
    rw [← det_smul hi, upd_congr (t.ex v), det_su hi]
    have f0 : ∀ k, k < M → k ≠ i → k ≠ r → Rv M a told σ k v * det M (upd (Bs a (put told r c)) i (a (told k))) = 0 := fun k hk h1 h2 => by
      rw [det_same (i := i) (j := k) hi hk (fun q => h1 q.symm) (by rw [upd_same, upd_ne h1]; show _ = a (put told r c k); rw [put_ne h2]), Int.mul_zero]
    have fi : det M (upd (Bs a (put told r c)) i (a (told i))) = det M (Bs a (put told r c)) := by
      have : a (told i) = Bs a (put told r c) i := by show _ = a (put told r c i); rw [put_ne ne]
      rw [this, upd_self]
    have fr : det M (upd (Bs a (put told r c)) i (a (told r))) = - det M (upd (Bs a told) i (a c)) := by
      rw [Bs_put, det_swap hr hi fun q => ne q.symm]
      have : upd (Bs a told) r (a (told r)) = Bs a told := upd_self (v := Bs a told)
      rw [this]
    rcases Nat.lt_or_gt_of_ne ne with h | h
    · rw [su_two h hr fun k hk h1 h2 => f0 k hk h1 h2, fi, fr, Int.mul_neg, Int.sub_eq_add_neg]
    · rw [su_two h hi fun k hk h1 h2 => f0 k hk h2 h1, fi, fr, Int.mul_neg, Int.add_comm, Int.sub_eq_add_neg]
  unfold Rv at key ⊢
  rw [← Bs_put]
  have e : D * (s * σ * det M (upd (Bs a (put told r c)) i v)) = s * σ * (D * det M (upd (Bs a (put told r c)) i v)) := Int.mul_left_comm ..
  rw [e, key, Int.mul_sub, Int.mul_sub]
  generalize det M (Bs a (put told r c)) = E
  generalize det M _ = F
  generalize det M _ = G
  generalize det M _ = H
  congr 1
  · simp only [Int.mul_assoc, Int.mul_left_comm, Int.mul_comm]
  · simp only [Int.mul_assoc, Int.mul_left_comm, Int.mul_comm]
theorem Tab.piv (t : Tab M a told σ D) {r c : Nat} (hr : r < M) {s : Int} (hs : s = 1 ∨ s = -1) (hf : 0 < s * Rv M a told σ r (a c)) : Tab M a (put told r c) (s * σ) (s * Rv M a told σ r (a c)) where
  sg := by rcases hs with rfl | rfl <;> rcases t.sg with rfl | rfl <;> simp
  eD := by unfold Rv; rw [Bs_put, Int.mul_assoc]
  pos := hf
  ex := fun v b hb => by
    have hD : D ≠ 0 := by have := t.pos; omega
    refine Int.eq_of_mul_eq_mul_left hD ?_
    rw [← su_mul, su_out hr, Rv_row, put_same]
    have e1 : (su M fun k => if k = r then 0 else D * (Rv M a (put told r c) (s * σ) k v * a (put told r c k) b)) = su M fun k => s * Rv M a told σ r (a c) * (Rv M a told σ k v * a (told k) b) - s * Rv M a told σ r v * (Rv M a told σ k (a c) * a (told k) b) := su_congr fun k hk => by
      by_cases h : k = r
      · subst h
        rw [if_pos rfl]
        generalize Rv M a told σ k v = x
        generalize Rv M a told σ k (a c) = y
        have : s * y * (x * a (told k) b) = s * x * (y * a (told k) b) := by simp only [Int.mul_assoc, Int.mul_left_comm, Int.mul_comm]
        rw [this, Int.sub_self]
      · rw [if_neg h, ← Int.mul_assoc, t.rv hr hk h, put_ne h, Int.mul_sub, Int.sub_mul]
        congr 1
        · simp only [Int.mul_assoc, Int.mul_left_comm, Int.mul_comm]
        · simp only [Int.mul_assoc, Int.mul_left_comm, Int.mul_comm]
    rw [e1, su_sub, su_mul, su_mul, ← t.ex v b hb, ← t.ex (a c) b hb]
    generalize Rv M a told σ r v = x
    generalize Rv M a told σ r (a c) = y
    have e2 : D * (s * x * a c b) = s * x * (D * a c b) := Int.mul_left_comm ..
    have e3 : D * (s * y * v b) = s * y * (D * v b) := Int.mul_left_comm ..
    rw [e2, e3]; omega
theorem unit_det {B : Nat → Nat → Int} (h : ∀ i b, i < M → b < M → B i b = Lx.one i b) {i : Nat} (hi : i < M) (v : Nat → Int) : det M (upd B i v) = v i := by
  have e : det M (upd B i v) = det M (upd B i (fun b => su M fun k => v k * B k b)) := upd_congr fun b hb => by
    rw [su_one (i := b) hb fun k hk hn => ?_]
    · rw [h b b hb hb]; unfold Lx.one; rw [if_pos rfl, Int.mul_one]
    · rw [h k b hk hb]; unfold Lx.one; rw [if_neg (fun q => hn q.symm), Int.mul_zero]
  rw [e, det_su hi, su_one (i := i) hi fun k hk hn => ?_]
  · rw [upd_self, det_unit h, Int.mul_one]
  · rw [det_same (i := i) (j := k) hi hk (fun q => hn q.symm) (by rw [upd_same, upd_ne hn]), Int.mul_zero]
theorem Rv_unit (h : ∀ i b, i < M → b < M → a (told i) b = Lx.one i b) {i : Nat} (hi : i < M) (v : Nat → Int) : Rv M a told 1 i v = v i := by
  unfold Rv
  rw [unit_det (B := Bs a told) h hi, Int.one_mul]
theorem Tab.unit (h : ∀ i b, i < M → b < M → a (told i) b = Lx.one i b) : Tab M a told 1 1 where
  sg := .inl rfl
  eD := by rw [det_unit (v := Bs a told) h]; rfl
  pos := by decide
  ex := fun v b hb => by
    rw [su_one (i := b) hb fun k hk hn => ?_]
    · rw [Rv_unit h hb, h b b hb hb]; unfold Lx.one; rw [if_pos rfl, Int.one_mul, Int.mul_one]
    · rw [h k b hk hb]; unfold Lx.one; rw [if_neg (fun q => hn q.symm), Int.mul_zero]
theorem Tab.bd (t : Tab M a told σ D) {C : Nat} (h : ∀ i b, i < M → b < M → (a (told i) b).natAbs ≤ C) : D.natAbs ≤ bdN C M := by
  rw [t.eD, Int.natAbs_mul]
  have : σ.natAbs = 1 := by rcases t.sg with rfl | rfl <;> rfl
  rw [this, Nat.one_mul]
  exact det_bd h
theorem Tab.rbd (t : Tab M a told σ D) {C : Nat} (h : ∀ i b, i < M → b < M → (a (told i) b).natAbs ≤ C) {i : Nat} {v : Nat → Int} (hv : ∀ b, b < M → (v b).natAbs ≤ C) : (Rv M a told σ i v).natAbs ≤ bdN C M := by
  unfold Rv
  rw [Int.natAbs_mul]
  have : σ.natAbs = 1 := by rcases t.sg with rfl | rfl <;> rfl
  rw [this, Nat.one_mul]
  refine det_bd fun k b hk hb => ?_
  by_cases q : k = i
  · subst q; rw [upd_same]; exact hv b hb
  · rw [upd_ne q]; exact h k b hk hb
/-- bases of the same columns tell the same -/
theorem Tab.eq {told' : Nat → Nat} {D' : Int} (t : Tab M a told σ D) (t' : Tab M a told' σ D') (h : ∀ i, i < M → told i = told' i) : D = D' ∧ ∀ i v, Rv M a told σ i v = Rv M a told' σ i v := by
  refine ⟨?_, fun i v => ?_⟩
  · rw [t.eD, t'.eD, det_congr (v := Bs a told) (w := Bs a told') fun k b hk _ => by show a (told k) b = a (told' k) b; rw [h k hk]]
  · unfold Rv
    rw [det_congr (v := upd (Bs a told) i v) (w := upd (Bs a told') i v) fun k b hk _ => ?_]
    by_cases q : k = i
    · subst q; rw [upd_same, upd_same]
    · rw [upd_ne q, upd_ne q]; show a (told k) b = a (told' k) b; rw [h k hk]
end
end Lx
set_option Elab.async false
set_option linter.all false
set_option maxRecDepth 100000
set_option maxHeartbeats 4000000
/-! Ec: tableaux with two further rows (costs, distance): what the row of the distance tells. -/
namespace Lx
/-- columns 0 .. n-1, marks n .. n+m-1, the goal n+m, two units n+m+1, n+m+2; rows 0 .. m-1, the costs m, the distance m+1 -/
structure Sx (n m : Nat) (a : Nat → Nat → Int) : Prop where
  um : ∀ k b, k < m → b < m + 2 → a (n + k) b = one k b
  u1 : ∀ b, b < m + 2 → a (n + m + 1) b = one m b
  u2 : ∀ b, b < m + 2 → a (n + m + 2) b = one (m + 1) b
  dz : ∀ j, j < n ∨ j = n + m → a j (m + 1) = - su m (a j)
  gl : ∀ k, k < m → 0 ≤ a (n + m) k
structure Sp (n m : Nat) (a : Nat → Nat → Int) (told : Nat → Nat) (σ D : Int) : Prop where
  t : Tab (m + 2) a told σ D
  tm : told m = n + m + 1
  tz : told (m + 1) = n + m + 2
  tl : ∀ i, i < m → told i < n + m
  fe : ∀ i, i < m → 0 ≤ Rv (m + 2) a told σ i (a (n + m))
section
variable {n m : Nat} {a : Nat → Nat → Int} {told : Nat → Nat} {σ D : Int}
theorem su_two' (f : Nat → Int) : su (m + 2) f = su m f + f m + f (m + 1) := rfl
theorem su_unit {k : Nat} (h : k < m) : su m (one k) = 1 := by
  rw [su_one h fun b _ hn => by unfold one; rw [if_neg hn]]
  unfold one; rw [if_pos rfl]
theorem one_ne {k b : Nat} (h : b ≠ k) : one k b = 0 := by unfold one; rw [if_neg h]
theorem one_eq {k : Nat} : one k k = 1 := by unfold one; rw [if_pos rfl]
/-- the distance: what the marks still carry -/
theorem Sp.dist (X : Sx n m a) (p : Sp n m a told σ D) {v : Nat → Int} (hv : v (m + 1) = - su m v) :
    Rv (m + 2) a told σ (m + 1) v = - su m fun i => if n ≤ told i then Rv (m + 2) a told σ i v else 0 := by
  have e1 := p.t.ex v (m + 1) (by omega)
  rw [su_two', p.tm, p.tz, X.u1 _ (by omega), X.u2 _ (by omega), one_ne (by omega), one_eq, Int.mul_zero, Int.mul_one, Int.add_zero] at e1
  have e2 : D * su m v = su m fun i => Rv (m + 2) a told σ i v * su m (a (told i)) := by
    rw [← su_mul]
    have : (fun i => Rv (m + 2) a told σ i v * su m (a (told i))) = fun i => su m fun b => Rv (m + 2) a told σ i v * a (told i) b := funext fun i => (su_mul _ _ _).symm
    rw [this, su_swap]
    refine su_congr fun b hb => ?_
    have e := p.t.ex v b (by omega)
    rw [su_two', p.tm, p.tz, X.u1 _ (by omega), X.u2 _ (by omega), one_ne (by omega), one_ne (by omega), Int.mul_zero, Int.mul_zero, Int.add_zero, Int.add_zero] at e
    exact e
  rw [hv, Int.mul_neg, e2] at e1
  have e3 : (su m fun i => if n ≤ told i then Rv (m + 2) a told σ i v else 0) = su m fun i => Rv (m + 2) a told σ i v * a (told i) (m + 1) + Rv (m + 2) a told σ i v * su m (a (told i)) := su_congr fun i hi => by
    have hl := p.tl i hi
    by_cases q : n ≤ told i
    · obtain ⟨k, hk⟩ : ∃ k, told i = n + k := ⟨told i - n, by omega⟩
      have hkm : k < m := by omega
      rw [if_pos q, hk, X.um k _ hkm (by omega), one_ne (by omega), su_congr (g := one k) fun b hb => X.um k b hkm (by omega), su_unit hkm, Int.mul_zero, Int.zero_add, Int.mul_one]
    · rw [if_neg q, X.dz _ (.inl (by omega)), Int.mul_neg, Int.add_left_neg]
  rw [e3, su_add]; omega
/-- the row of the distance, by the marks' places -/
theorem Sp.zrow (X : Sx n m a) (p : Sp n m a told σ D) {v : Nat → Int} (hv : v (m + 1) = - su m v) :
    Rv (m + 2) a told σ (m + 1) v = - su m fun k => v k * (D - Rv (m + 2) a told σ (m + 1) (a (n + k))) := by
  have e : Rv (m + 2) a told σ (m + 1) v = Rv (m + 2) a told σ (m + 1) (fun b => su (m + 2) fun k => v k * (if k < m then a (n + k) else a (told k)) b) := Rv_congr fun b hb => by
    rw [su_one (i := b) hb fun k hk hn => ?_]
    · by_cases q : b < m
      · rw [if_pos q, X.um b b q hb, one_eq, Int.mul_one]
      · rw [if_neg q]
        have : b = m ∨ b = m + 1 := by omega
        rcases this with rfl | rfl
        · rw [p.tm, X.u1 _ hb, one_eq, Int.mul_one]
        · rw [p.tz, X.u2 _ hb, one_eq, Int.mul_one]
    · by_cases q : k < m
      · rw [if_pos q, X.um k b q hb, one_ne fun z => hn z.symm, Int.mul_zero]
      · rw [if_neg q]
        have : k = m ∨ k = m + 1 := by omega
        rcases this with rfl | rfl
        · rw [p.tm, X.u1 _ hb, one_ne fun z => hn z.symm, Int.mul_zero]
        · rw [p.tz, X.u2 _ hb, one_ne fun z => hn z.symm, Int.mul_zero]
  rw [e, Rv_su (by omega), su_two', if_neg (Nat.lt_irrefl m), if_neg (by omega), p.t.oth (by omega) (by omega) (by omega : m ≠ m + 1), p.t.own (by omega), hv, Int.mul_zero, Int.add_zero, Int.neg_mul, ← su_neg]
  have e2 : (su m fun k => v k * Rv (m + 2) a told σ (m + 1) (if k < m then a (n + k) else a (told k))) = su m fun k => v k * Rv (m + 2) a told σ (m + 1) (a (n + k)) := su_congr fun k hk => by rw [if_pos hk]
  rw [e2]
  have e3 : (su m fun k => - (v k * (D - Rv (m + 2) a told σ (m + 1) (a (n + k))))) = su m fun k => v k * Rv (m + 2) a told σ (m + 1) (a (n + k)) - D * v k := su_congr fun k _ => by
    rw [Int.mul_sub, Int.mul_comm D]; omega
  rw [e3, su_sub, su_mul, Int.mul_comm (su m v)]
  rfl
/-- the distance is never above nothing -/
theorem Sp.off (X : Sx n m a) (p : Sp n m a told σ D) : Rv (m + 2) a told σ (m + 1) (a (n + m)) ≤ 0 := by
  rw [p.dist X (X.dz _ (.inr rfl))]
  have := su_nonneg (f := fun i => if n ≤ told i then Rv (m + 2) a told σ i (a (n + m)) else 0) (m := m) fun k hk => by
    by_cases q : n ≤ told k
    · simp only [if_pos q]; exact p.fe k hk
    · simp only [if_neg q]; exact Int.le_refl 0
  omega
/-- at no distance no mark carries anything -/
theorem Sp.none (X : Sx n m a) (p : Sp n m a told σ D) (h : Rv (m + 2) a told σ (m + 1) (a (n + m)) = 0) : ∀ i, i < m → n ≤ told i → Rv (m + 2) a told σ i (a (n + m)) = 0 := fun i hi hq => by
  rw [p.dist X (X.dz _ (.inr rfl))] at h
  have := su_all0 (f := fun i => if n ≤ told i then Rv (m + 2) a told σ i (a (n + m)) else 0) (m := m) (fun k hk => by
    by_cases q : n ≤ told k
    · simp only [if_pos q]; exact p.fe k hk
    · simp only [if_neg q]; exact Int.le_refl 0) (by omega) i hi
  simpa only [if_pos hq] using this
/-- what lowers the distance has a row to leave -/
theorem Sp.some (X : Sx n m a) (p : Sp n m a told σ D) {c : Nat} (hc : c < n) (h : Rv (m + 2) a told σ (m + 1) (a c) < 0) : ∃ i, i < m ∧ 0 < Rv (m + 2) a told σ i (a c) := by
  rw [p.dist X (X.dz _ (.inl hc))] at h
  obtain ⟨k, hk, e⟩ := su_pos (f := fun i => if n ≤ told i then Rv (m + 2) a told σ i (a c) else 0) (m := m) (by omega)
  refine ⟨k, hk, ?_⟩
  by_cases q : n ≤ told k
  · simpa only [if_pos q] using e
  · simp only [if_neg q] at e; exact absurd e (Int.lt_irrefl 0)
/-- an exchange keeps all that holds -/
theorem Sp.piv (p : Sp n m a told σ D) {r c : Nat} (hr : r < m) (hc : c < n) {s : Int} (hs : s = 1 ∨ s = -1) (hf : 0 < s * Rv (m + 2) a told σ r (a c))
    (hfe : ∀ i, i < m → i ≠ r → 0 ≤ s * (Rv (m + 2) a told σ i (a (n + m)) * Rv (m + 2) a told σ r (a c) - Rv (m + 2) a told σ i (a c) * Rv (m + 2) a told σ r (a (n + m)))) (hr0 : 0 ≤ s * Rv (m + 2) a told σ r (a (n + m))) :
    Sp n m a (put told r c) (s * σ) (s * Rv (m + 2) a told σ r (a c)) where
  t := p.t.piv (by omega) hs hf
  tm := by rw [put_ne (by omega)]; exact p.tm
  tz := by rw [put_ne (by omega)]; exact p.tz
  tl := fun i hi => by
    by_cases q : i = r
    · subst q; rw [put_same]; omega
    · rw [put_ne q]; exact p.tl i hi
  fe := fun i hi => by
    by_cases q : i = r
    · subst q; rw [Rv_row]; exact hr0
    · have e := p.t.rv (r := r) (c := c) (i := i) (by omega) (by omega) q s (a (n + m))
      have h := hfe i hi q
      rw [← e] at h
      have hD := p.t.pos
      rcases Int.lt_or_le (Rv (m + 2) a (put told r c) (s * σ) i (a (n + m))) 0 with z | z
      · exact absurd h (Int.not_le.mpr (Int.mul_neg_of_pos_of_neg hD z))
      · exact z
/-- the least share leaves: what all others keep -/
theorem ratio {x y u w : Int} (hx : 0 ≤ x) (hy : 0 ≤ y) (hw : 0 < w) (h : 0 < u → y * u ≤ x * w) : 0 ≤ x * w - u * y := by
  rcases Int.lt_or_le 0 u with q | q
  · have := h q
    rw [Int.mul_comm u]; omega
  · have h1 := Int.mul_nonneg hx (Int.le_of_lt hw)
    have h2 := Int.mul_nonpos_of_nonpos_of_nonneg q hy
    omega
/-- the start -/
theorem Sx.start (X : Sx n m a) (told : Nat → Nat) (h : ∀ i, i < m → told i = n + i) (h1 : told m = n + m + 1) (h2 : told (m + 1) = n + m + 2) :
    Sp n m a told 1 1 ∧ ∀ i, i < m + 2 → ∀ v, Rv (m + 2) a told 1 i v = v i := by
  have hu : ∀ i b, i < m + 2 → b < m + 2 → a (told i) b = one i b := fun i b hi hb => by
    by_cases q : i < m
    · rw [h i q, X.um i b q hb]
    · have : i = m ∨ i = m + 1 := by omega
      rcases this with rfl | rfl
      · rw [h1, X.u1 b hb]
      · rw [h2, X.u2 b hb]
  have hR : ∀ i, i < m + 2 → ∀ v, Rv (m + 2) a told 1 i v = v i := fun i hi v => Rv_unit hu hi v
  exact ⟨⟨Tab.unit hu, h1, h2, fun i hi => by rw [h i hi]; omega, fun i hi => by rw [hR i (by omega)]; exact X.gl i hi⟩, hR⟩
end
end Lx
set_option Elab.async false
set_option linter.all false
set_option maxRecDepth 100000
set_option maxHeartbeats 4000000
/-! Ed: the first column that lowers, the least place that leaves (Bland's rule): no basis comes twice. -/
namespace Lx
/-- one exchange that lowers the row z -/
structure Stp (n m : Nat) (a : Nat → Nat → Int) (z : Nat) (told told' : Nat → Nat) (σ D' : Int) (r c : Nat) : Prop where
  hr : r < m
  hc : c < n
  et : told' = put told r c
  eD : D' = Rv (m + 2) a told σ r (a c)
  en : Rv (m + 2) a told σ z (a c) < 0
  lo : ∀ j, j < c → 0 ≤ Rv (m + 2) a told σ z (a j)
  po : 0 < Rv (m + 2) a told σ r (a c)
  lv : ∀ i, i < m → 0 < Rv (m + 2) a told σ i (a c) → Rv (m + 2) a told σ r (a (n + m)) * Rv (m + 2) a told σ i (a c) < Rv (m + 2) a told σ i (a (n + m)) * Rv (m + 2) a told σ r (a c) ∨
    (Rv (m + 2) a told σ r (a (n + m)) * Rv (m + 2) a told σ i (a c) = Rv (m + 2) a told σ i (a (n + m)) * Rv (m + 2) a told σ r (a c) ∧ told r ≤ told i)
structure Chn (n m : Nat) (a : Nat → Nat → Int) (z : Nat) (σ : Int) (tld : Nat → Nat → Nat) (dv : Nat → Int) (L : Nat) : Prop where
  hz : z = m ∨ z = m + 1
  sp : ∀ t, t ≤ L → Sp n m a (tld t) σ (dv t)
  st : ∀ t, t < L → ∃ r c, Stp n m a z (tld t) (tld (t + 1)) σ (dv (t + 1)) r c
section
variable {n m L z : Nat} {a : Nat → Nat → Int} {σ : Int} {tld : Nat → Nat → Nat} {dv : Nat → Int}
theorem Chn.shift (C : Chn n m a z σ tld dv L) {u v : Nat} (h : u + v ≤ L) : Chn n m a z σ (fun t => tld (u + t)) (fun t => dv (u + t)) v where
  hz := C.hz
  sp := fun t ht => C.sp (u + t) (by omega)
  st := fun t ht => C.st (u + t) (by omega)
theorem Stp.sp {told told' : Nat → Nat} {D' D : Int} {r c : Nat} (s : Stp n m a z told told' σ D' r c) (p : Sp n m a told σ D) : Sp n m a told' σ D' := by
  have h := p.piv s.hr s.hc (s := 1) (.inl rfl) (by rw [Int.one_mul]; exact s.po) (fun i hi hn => by
    rw [Int.one_mul]
    refine ratio (p.fe i hi) (p.fe r s.hr) s.po fun hu => ?_
    rcases s.lv i hi hu with h | h
    · exact Int.le_of_lt h
    · exact Int.le_of_eq h.1) (by rw [Int.one_mul]; exact p.fe r s.hr)
  rw [Int.one_mul, Int.one_mul] at h
  rw [s.et, s.eD]
  exact h
theorem Stp.rv {told told' : Nat → Nat} {D' D : Int} {r c : Nat} (s : Stp n m a z told told' σ D' r c) (p : Sp n m a told σ D) {i : Nat} (hi : i < m + 2) (ne : i ≠ r) (v : Nat → Int) :
    D * Rv (m + 2) a told' σ i v = Rv (m + 2) a told σ i v * D' - Rv (m + 2) a told σ i (a c) * Rv (m + 2) a told σ r v := by
  have h := p.t.rv (r := r) (c := c) (by have := s.hr; omega) hi ne 1 v
  rw [Int.one_mul, Int.one_mul] at h
  rw [s.et, s.eD]
  exact h
theorem Stp.row {told told' : Nat → Nat} {D' : Int} {r c : Nat} (s : Stp n m a z told told' σ D' r c) (v : Nat → Int) : Rv (m + 2) a told' σ r v = Rv (m + 2) a told σ r v := by
  have h := Rv_row (M := m + 2) (a := a) (told := told) (σ := σ) (r := r) (c := c) (s := 1) (v := v)
  rw [Int.one_mul, Int.one_mul] at h
  rw [s.et]
  exact h
/-- what stands in the basis is nothing in the row z -/
theorem Sp.basic {told : Nat → Nat} {D : Int} (p : Sp n m a told σ D) (hz : z = m ∨ z = m + 1) {i : Nat} (hi : i < m) : Rv (m + 2) a told σ z (a (told i)) = 0 :=
  p.t.oth (by omega) (by omega) (by omega)
/-- a chain's heights never fall; equal ends say that no share moved -/
theorem frac_le {N D N' D' N'' D'' : Int} (h : 0 < D) (h' : 0 < D') (h'' : 0 < D'') (e : N * D' ≤ N' * D) (e' : N' * D'' ≤ N'' * D') : N * D'' ≤ N'' * D := by
  have a1 := Int.mul_le_mul_of_nonneg_right e (Int.le_of_lt h'')
  have a2 := Int.mul_le_mul_of_nonneg_right e' (Int.le_of_lt h)
  have b1 : N * D' * D'' = D' * (N * D'') := by simp only [Int.mul_assoc, Int.mul_left_comm, Int.mul_comm]
  have b2 : N' * D * D'' = N' * D'' * D := by simp only [Int.mul_assoc, Int.mul_left_comm, Int.mul_comm]
  have b3 : N'' * D' * D = D' * (N'' * D) := by simp only [Int.mul_assoc, Int.mul_left_comm, Int.mul_comm]
  rw [b1, b2] at a1
  rw [b3] at a2
  exact Int.le_of_mul_le_mul_left (Int.le_trans a1 a2) h'
theorem frac_lt {N D N' D' N'' D'' : Int} (h : 0 < D) (h' : 0 < D') (h'' : 0 < D'') (e : N * D' ≤ N' * D) (e' : N' * D'' < N'' * D') : N * D'' < N'' * D := by
  have a1 := Int.mul_le_mul_of_nonneg_right e (Int.le_of_lt h'')
  have a2 := Int.mul_lt_mul_of_pos_right e' h
  have b1 : N * D' * D'' = D' * (N * D'') := by simp only [Int.mul_assoc, Int.mul_left_comm, Int.mul_comm]
  have b2 : N' * D * D'' = N' * D'' * D := by simp only [Int.mul_assoc, Int.mul_left_comm, Int.mul_comm]
  have b3 : N'' * D' * D = D' * (N'' * D) := by simp only [Int.mul_assoc, Int.mul_left_comm, Int.mul_comm]
  rw [b1, b2] at a1
  rw [b3] at a2
  exact Int.lt_of_mul_lt_mul_left (Int.lt_of_le_of_lt a1 a2) (Int.le_of_lt h')
def hgt (n m : Nat) (a : Nat → Nat → Int) (z : Nat) (σ : Int) (tld : Nat → Nat → Nat) (t : Nat) : Int := Rv (m + 2) a (tld t) σ z (a (n + m))
theorem Chn.step (C : Chn n m a z σ tld dv L) {t : Nat} (ht : t < L) {r c : Nat} (s : Stp n m a z (tld t) (tld (t + 1)) σ (dv (t + 1)) r c) :
    hgt n m a z σ tld t * dv (t + 1) ≤ hgt n m a z σ tld (t + 1) * dv t ∧ (Rv (m + 2) a (tld t) σ r (a (n + m)) ≠ 0 → hgt n m a z σ tld t * dv (t + 1) < hgt n m a z σ tld (t + 1) * dv t) := by
  have p := C.sp t (Nat.le_of_lt ht)
  have hz := C.hz
  have hr := s.hr
  have e := s.rv p (i := z) (by omega) (by omega) (a (n + m))
  have h0 := p.fe r s.hr
  have hn := s.en
  unfold hgt
  rw [Int.mul_comm (Rv (m + 2) a (tld (t + 1)) σ z (a (n + m))), e]
  have q := Int.mul_nonpos_of_nonpos_of_nonneg (Int.le_of_lt hn) h0
  refine ⟨by omega, fun h => ?_⟩
  have q' := Int.mul_neg_of_neg_of_pos hn (show 0 < Rv (m + 2) a (tld t) σ r (a (n + m)) by omega)
  omega
theorem Chn.mono (C : Chn n m a z σ tld dv L) {t : Nat} : ∀ {u : Nat}, t + u ≤ L → hgt n m a z σ tld t * dv (t + u) ≤ hgt n m a z σ tld (t + u) * dv t
  | 0, _ => Int.le_refl _
  | u + 1, h => by
    obtain ⟨r, c, s⟩ := C.st (t + u) (by omega)
    exact frac_le (C.sp t (by omega)).t.pos (C.sp (t + u) (by omega)).t.pos (C.sp (t + u + 1) (by omega)).t.pos (C.mono (u := u) (by omega)) (C.step (by omega) s).1
/-- a chain that comes back moves no share -/
theorem Chn.still (C : Chn n m a z σ tld dv L) (hb : ∀ i, i < m + 2 → tld 0 i = tld L i) {t : Nat} (ht : t < L) {r c : Nat} (s : Stp n m a z (tld t) (tld (t + 1)) σ (dv (t + 1)) r c) : Rv (m + 2) a (tld t) σ r (a (n + m)) = 0 := by
  rcases Decidable.em (Rv (m + 2) a (tld t) σ r (a (n + m)) = 0) with h | h
  · exact h
  · obtain ⟨eD, eR⟩ := (C.sp 0 (by omega)).t.eq (C.sp L (Nat.le_refl L)).t hb
    have h1 := C.mono (t := 0) (u := t) (by omega)
    have h2 := (C.step ht s).2 h
    obtain ⟨u, hu⟩ : ∃ u, t + 1 + u = L := ⟨L - (t + 1), by omega⟩
    have h3 := C.mono (t := t + 1) (u := u) (by omega)
    rw [Nat.zero_add] at h1
    rw [hu] at h3
    have p0 := (C.sp 0 (by omega)).t.pos
    have pt := (C.sp t (by omega)).t.pos
    have pt1 := (C.sp (t + 1) (by omega)).t.pos
    have pL := (C.sp L (Nat.le_refl L)).t.pos
    have h4 := frac_lt p0 pt pt1 h1 h2
    have e1 : hgt n m a z σ tld L = hgt n m a z σ tld 0 := (eR z (a (n + m))).symm
    rw [e1, ← eD] at h3
    omega
/-- a column's share is nothing -/
def Zr (n m : Nat) (a : Nat → Nat → Int) (σ : Int) (told : Nat → Nat) (j : Nat) : Prop := ∀ i, i < m → told i = j → Rv (m + 2) a told σ i (a (n + m)) = 0
theorem Chn.zr (C : Chn n m a z σ tld dv L) (hb : ∀ i, i < m + 2 → tld 0 i = tld L i) {j t : Nat} : ∀ {u : Nat}, t + u ≤ L → Zr n m a σ (tld t) j → Zr n m a σ (tld (t + u)) j
  | 0, _, h => h
  | u + 1, hL, h => by
    have ih := C.zr hb (u := u) (by omega) h
    obtain ⟨r, c, s⟩ := C.st (t + u) (by omega)
    have z0 := C.still hb (t := t + u) (by omega) s
    intro i hi e
    show Rv (m + 2) a (tld (t + u + 1)) σ i (a (n + m)) = 0
    have e' : tld (t + u + 1) i = j := e
    by_cases q : i = r
    · subst q; rw [s.row]; exact z0
    · have e2 := s.rv (C.sp (t + u) (by omega)) (i := i) (by omega) q (a (n + m))
      rw [s.et, put_ne q] at e'
      rw [ih i hi e', z0, Int.zero_mul, Int.mul_zero] at e2
      have hD := (C.sp (t + u) (by omega)).t.pos
      exact (Int.mul_eq_zero.mp e2).resolve_left (by omega)
def In (m : Nat) (told : Nat → Nat) (j : Nat) : Prop := ∃ i, i < m ∧ told i = j
theorem Chn.comes (C : Chn n m a z σ tld dv L) {j t : Nat} : ∀ {u : Nat}, t + u ≤ L → In m (tld (t + u)) j → ¬ In m (tld t) j → ∃ w, w < L ∧ ∃ r, Stp n m a z (tld w) (tld (w + 1)) σ (dv (w + 1)) r j
  | 0, _, h, k => absurd h k
  | u + 1, hL, ⟨i, hi, e⟩, k => by
    obtain ⟨r, c, s⟩ := C.st (t + u) (by omega)
    have e' : tld (t + u + 1) i = j := e
    by_cases q : i = r
    · subst q
      rw [s.et, put_same] at e'
      subst e'
      exact ⟨t + u, by omega, i, s⟩
    · rw [s.et, put_ne q] at e'
      exact C.comes (u := u) (by omega) ⟨i, hi, e'⟩ k
theorem Chn.goes (C : Chn n m a z σ tld dv L) {j t : Nat} : ∀ {u : Nat}, t + u ≤ L → In m (tld t) j → ¬ In m (tld (t + u)) j → ∃ w, w < L ∧ ∃ r c, Stp n m a z (tld w) (tld (w + 1)) σ (dv (w + 1)) r c ∧ tld w r = j
  | 0, _, h, k => absurd h k
  | u + 1, hL, h, k => by
    obtain ⟨r, c, s⟩ := C.st (t + u) (by omega)
    rcases Decidable.em (tld (t + u) r = j) with q | q
    · exact ⟨t + u, by omega, r, c, s, q⟩
    · refine C.goes (u := u) (by omega) h fun ⟨i, hi, e⟩ => k ⟨i, hi, ?_⟩
      show tld (t + u + 1) i = j
      have ne : i ≠ r := fun z => q (z ▸ e)
      rw [s.et, put_ne ne]; exact e
/-- the greatest column that comes in -/
theorem Chn.top (C : Chn n m a z σ tld dv L) (hL : 0 < L) : ∃ X r q, X < L ∧ Stp n m a z (tld X) (tld (X + 1)) σ (dv (X + 1)) r q ∧ ∀ t r' c, t < L → Stp n m a z (tld t) (tld (t + 1)) σ (dv (t + 1)) r' c → c ≤ q := by
  have key : ∀ k, (∃ X r q, X < L ∧ Stp n m a z (tld X) (tld (X + 1)) σ (dv (X + 1)) r q ∧ n - q ≤ k) → ∃ X r q, X < L ∧ Stp n m a z (tld X) (tld (X + 1)) σ (dv (X + 1)) r q ∧ ∀ t r' c, t < L → Stp n m a z (tld t) (tld (t + 1)) σ (dv (t + 1)) r' c → c ≤ q := by
    intro k
    induction k with
    | zero => intro ⟨X, r, q, h1, h2, h3⟩; have := h2.hc; omega
    | succ k ih =>
      intro ⟨X, r, q, h1, h2, h3⟩
      rcases Classical.em (∃ t r' c, t < L ∧ Stp n m a z (tld t) (tld (t + 1)) σ (dv (t + 1)) r' c ∧ q < c) with ⟨t, r', c, g1, g2, g3⟩ | h
      · exact ih ⟨t, r', c, g1, g2, by omega⟩
      · refine ⟨X, r, q, h1, h2, fun t r' c g1 g2 => ?_⟩
        rcases Nat.lt_or_ge q c with g | g
        · exact absurd ⟨t, r', c, g1, g2, g⟩ h
        · exact g
  obtain ⟨r, c, s⟩ := C.st 0 hL
  exact key n ⟨0, r, c, hL, s, Nat.sub_le ..⟩
/-- no chain comes back to where it began -/
theorem Chn.bland (C : Chn n m a z σ tld dv L) (hL : 0 < L) (hb : ∀ i, i < m + 2 → tld 0 i = tld L i) : False := by
  have hz := C.hz
  obtain ⟨X, rX, q, hX, sX, top⟩ := C.top hL
  have pX := C.sp X (Nat.le_of_lt hX)
  have inL : ∀ j, In m (tld 0) j ↔ In m (tld L) j := fun j => ⟨fun ⟨i, hi, e⟩ => ⟨i, hi, by rw [← hb i (by omega)]; exact e⟩, fun ⟨i, hi, e⟩ => ⟨i, hi, by rw [hb i (by omega)]; exact e⟩⟩
  have out : ∀ j, Rv (m + 2) a (tld X) σ z (a j) ≠ 0 → ¬ In m (tld X) j := fun j h ⟨i, hi, e⟩ => h (by rw [← e]; exact pX.basic hz hi)
  have nq : ¬ In m (tld X) q := out q (by have := sX.en; omega)
  have iq : In m (tld (X + 1)) q := ⟨rX, sX.hr, by rw [sX.et, put_same]⟩
  obtain ⟨u, hu⟩ : ∃ u, X + 1 + u = L := ⟨L - (X + 1), by omega⟩
  have gone : ∃ w, w < L ∧ ∃ r c, Stp n m a z (tld w) (tld (w + 1)) σ (dv (w + 1)) r c ∧ tld w r = q := by
    rcases Classical.em (In m (tld L) q) with h | h
    · have h0 := (inL q).mpr h
      exact C.goes (t := 0) (u := X) (by omega) h0 (by rw [Nat.zero_add]; exact nq)
    · exact C.goes (t := X + 1) (u := u) (by omega) iq (by rw [hu]; exact h)
  obtain ⟨Y, hY, r, s, sY, eq⟩ := gone
  have pY := C.sp Y (Nat.le_of_lt hY)
  have sn : s < q := by
    have h1 := top Y r s hY sY
    rcases Nat.lt_or_ge s q with h | h
    · exact h
    · have e : s = q := by omega
      have h2 := sY.en
      rw [e, ← eq, pY.basic hz sY.hr] at h2
      exact absurd h2 (Int.lt_irrefl 0)
  have hs0 := sX.lo s sn
  -- what X says of Y's column
  have id1 : dv Y * Rv (m + 2) a (tld X) σ z (a s) = su (m + 2) fun i => Rv (m + 2) a (tld Y) σ i (a s) * Rv (m + 2) a (tld X) σ z (a (tld Y i)) := by
    rw [← Rv_smul (by omega), Rv_congr (pY.t.ex (a s)), Rv_su (by omega)]
  have dX := pX.t.pos
  have dY := pY.t.pos
  have hm1 : su (m + 2) (fun i => Rv (m + 2) a (tld Y) σ i (a s) * Rv (m + 2) a (tld X) σ z (a (tld Y i))) = su m (fun i => Rv (m + 2) a (tld Y) σ i (a s) * Rv (m + 2) a (tld X) σ z (a (tld Y i))) + Rv (m + 2) a (tld Y) σ z (a s) * dv X := by
    rw [su_two', pY.tm, pY.tz]
    have eM : a (n + m + 1) = a (tld X m) := by rw [pX.tm]
    have eZ : a (n + m + 2) = a (tld X (m + 1)) := by rw [pX.tz]
    rw [eM, eZ]
    rcases hz with rfl | rfl
    · rw [pX.t.own (by omega), pX.t.oth (by omega) (by omega) (by omega), Int.mul_zero, Int.add_zero]
    · rw [pX.t.own (by omega), pX.t.oth (by omega) (by omega) (by omega), Int.mul_zero, Int.add_zero]
  rw [hm1] at id1
  have ng := Int.mul_neg_of_neg_of_pos sY.en dX
  have pl := Int.mul_nonneg (Int.le_of_lt dY) hs0
  obtain ⟨i, hi, pos⟩ := su_pos (f := fun i => Rv (m + 2) a (tld Y) σ i (a s) * Rv (m + 2) a (tld X) σ z (a (tld Y i))) (m := m) (by omega)
  have ne : Rv (m + 2) a (tld X) σ z (a (tld Y i)) ≠ 0 := fun e => by
    simp only [e, Int.mul_zero] at pos
    exact absurd pos (Int.lt_irrefl 0)
  have nj := out _ ne
  have jY : In m (tld Y) (tld Y i) := ⟨i, hi, rfl⟩
  have came : ∃ w, w < L ∧ ∃ r', Stp n m a z (tld w) (tld (w + 1)) σ (dv (w + 1)) r' (tld Y i) := by
    rcases Classical.em (In m (tld 0) (tld Y i)) with h | h
    · have h' := (inL _).mp h
      obtain ⟨v, hv⟩ : ∃ v, X + v = L := ⟨L - X, by omega⟩
      exact C.comes (t := X) (u := v) (by omega) (by rw [hv]; exact h') nj
    · exact C.comes (t := 0) (u := Y) (by omega) (by rw [Nat.zero_add]; exact jY) h
  obtain ⟨w, hw, r', sw⟩ := came
  have jq := top w r' _ hw sw
  rcases Nat.lt_or_ge (tld Y i) q with lt | ge
  · have h0 := sX.lo _ lt
    have pi : 0 < Rv (m + 2) a (tld Y) σ i (a s) := by
      rcases Int.lt_or_le 0 (Rv (m + 2) a (tld Y) σ i (a s)) with g | g
      · exact g
      · exact absurd pos (Int.not_lt.mpr (Int.mul_nonpos_of_nonpos_of_nonneg g h0))
    have zX : Zr n m a σ (tld X) (tld Y i) := fun k hk e => absurd ⟨k, hk, e⟩ nj
    obtain ⟨v, hv⟩ : ∃ v, X + v = L := ⟨L - X, by omega⟩
    have zL : Zr n m a σ (tld L) (tld Y i) := by
      have := C.zr hb (t := X) (u := v) (by omega) zX
      rw [hv] at this; exact this
    obtain ⟨eD, eR⟩ := (C.sp 0 (by omega)).t.eq (C.sp L (Nat.le_refl L)).t hb
    have z0 : Zr n m a σ (tld 0) (tld Y i) := fun k hk e => by
      rw [eR]; exact zL k hk (by rw [← hb k (by omega)]; exact e)
    have zY : Zr n m a σ (tld Y) (tld Y i) := by
      have := C.zr hb (t := 0) (u := Y) (by omega) z0
      rw [Nat.zero_add] at this; exact this
    have v1 := zY i hi rfl
    have v2 := C.still hb hY sY
    rcases sY.lv i hi pi with g | g
    · rw [v1, v2, Int.zero_mul, Int.zero_mul] at g
      exact absurd g (Int.lt_irrefl 0)
    · have g2 := g.2
      rw [eq] at g2
      omega
  · have e : tld Y i = q := by omega
    have ei : i = r := pY.t.one (by have := sY.hr; omega) (by omega) (by rw [e, eq])
    subst ei
    have h1 := sY.po
    have h2 := sX.en
    rw [e] at pos
    exact absurd pos (Int.not_lt.mpr (Int.mul_nonpos_of_nonneg_of_nonpos (Int.le_of_lt h1) (Int.le_of_lt h2)))
end
end Lx
set_option Elab.async false
set_option linter.all false
set_option maxRecDepth 100000
set_option maxHeartbeats 4000000
/-! Ee: how long a chain can be. -/
namespace Lx
theorem pigeon : ∀ (N t : Nat) (f : Nat → Nat), (∀ i, i ≤ t → f i < N) → (∀ i j, i < j → j ≤ t → f i ≠ f j) → t < N
  | 0, t, f, h, _ => absurd (h 0 (Nat.zero_le _)) (Nat.not_lt_zero _)
  | N + 1, 0, f, h, _ => Nat.succ_pos N
  | N + 1, t + 1, f, h, d => by
    -- the last is put in the place of N
    have h1 : ∀ i, i ≤ t → (if f i = N then f (t + 1) else f i) < N := fun i hi => by
      by_cases q : f i = N
      · rw [if_pos q]
        have a1 := h (t + 1) (Nat.le_refl _)
        have a2 := d i (t + 1) (by omega) (Nat.le_refl _)
        omega
      · rw [if_neg q]
        have a1 := h i (by omega)
        omega
    have := pigeon N t (fun i => if f i = N then f (t + 1) else f i) h1 fun i j hij hj => by
      have a1 := d i j hij (by omega)
      have a2 := d i (t + 1) (by omega) (Nat.le_refl _)
      have a3 := d j (t + 1) (by omega) (Nat.le_refl _)
      by_cases q : f i = N
      · by_cases q' : f j = N
        · exact absurd (q.trans q'.symm) a1
        · simp only [if_pos q, if_neg q']; exact fun z => a3 z.symm
      · by_cases q' : f j = N
        · simp only [if_neg q, if_pos q']; exact a2
        · simp only [if_neg q, if_neg q']; exact a1
    omega
def cod (b : Nat) (f : Nat → Nat) : Nat → Nat
  | 0 => 0
  | m + 1 => cod b f m * b + f m
theorem cod_lt {b : Nat} {f : Nat → Nat} : ∀ {m : Nat}, (∀ i, i < m → f i < b) → cod b f m < b ^ m
  | 0, _ => by show 0 < 1; decide
  | m + 1, h => by
    have h1 := cod_lt (b := b) (f := f) (m := m) fun i hi => h i (Nat.lt_succ_of_lt hi)
    have h2 := h m (Nat.lt_succ_self m)
    show cod b f m * b + f m < b ^ m * b
    have : (cod b f m + 1) * b ≤ b ^ m * b := Nat.mul_le_mul_right b h1
    rw [Nat.succ_mul] at this
    omega
theorem cod_inj {b : Nat} {f g : Nat → Nat} : ∀ {m : Nat}, (∀ i, i < m → f i < b) → (∀ i, i < m → g i < b) → cod b f m = cod b g m → ∀ i, i < m → f i = g i
  | 0, _, _, _, i, h => absurd h (Nat.not_lt_zero _)
  | m + 1, hf, hg, e, i, h => by
    have f1 := hf m (Nat.lt_succ_self m)
    have g1 := hg m (Nat.lt_succ_self m)
    have e' : cod b f m * b + f m = cod b g m * b + g m := e
    have e1 : f m = g m := by
      have := congrArg (· % b) e'
      simpa [Nat.add_mod, Nat.mul_mod_left, Nat.mod_eq_of_lt f1, Nat.mod_eq_of_lt g1] using this
    have e2 : cod b f m = cod b g m := by
      rw [e1] at e'
      have hb : 0 < b := by omega
      exact Nat.eq_of_mul_eq_mul_right hb (by omega)
    by_cases q : i = m
    · subst q; exact e1
    · exact cod_inj (fun k hk => hf k (Nat.lt_succ_of_lt hk)) (fun k hk => hg k (Nat.lt_succ_of_lt hk)) e2 i (by omega)
theorem Chn.short {n m L z : Nat} {a : Nat → Nat → Int} {σ : Int} {tld : Nat → Nat → Nat} {dv : Nat → Int} (C : Chn n m a z σ tld dv L) : L < (n + m) ^ m := by
  refine pigeon _ L (fun t => cod (n + m) (tld t) m) (fun t ht => cod_lt (C.sp t ht).tl) fun i j hij hj e => ?_
  have e1 := cod_inj (C.sp i (by omega)).tl (C.sp j hj).tl e
  obtain ⟨v, hv⟩ : ∃ v, i + v = j := ⟨j - i, by omega⟩
  refine (C.shift (u := i) (v := v) (by omega)).bland (by omega) fun k hk => ?_
  show tld (i + 0) k = tld (i + v) k
  rw [hv, Nat.add_zero]
  by_cases q : k < m
  · exact e1 k q
  · have p1 := C.sp i (by omega)
    have p2 := C.sp j hj
    have : k = m ∨ k = m + 1 := by omega
    rcases this with rfl | rfl
    · rw [p1.tm, p2.tm]
    · rw [p1.tz, p2.tz]
/-- a chain and one exchange more -/
theorem Chn.more {n m L z : Nat} {a : Nat → Nat → Int} {σ D' : Int} {tld : Nat → Nat → Nat} {dv : Nat → Int} {told' : Nat → Nat} {r c : Nat} (C : Chn n m a z σ tld dv L) (s : Stp n m a z (tld L) told' σ D' r c) :
    Chn n m a z σ (fun t => if t ≤ L then tld t else told') (fun t => if t ≤ L then dv t else D') (L + 1) where
  hz := C.hz
  sp := fun t ht => by
    by_cases q : t ≤ L
    · simp only [if_pos q]; exact C.sp t q
    · simp only [if_neg q]; exact s.sp (C.sp L (Nat.le_refl L))
  st := fun t ht => by
    by_cases q : t + 1 ≤ L
    · simp only [if_pos q, if_pos (Nat.le_of_succ_le q)]; exact C.st t q
    · have e : t = L := by omega
      subst e
      simp only [if_neg q, if_pos (Nat.le_refl t)]; exact ⟨r, c, s⟩
theorem Chn.nil {n m z : Nat} {a : Nat → Nat → Int} {σ D : Int} {told : Nat → Nat} (hz : z = m ∨ z = m + 1) (p : Sp n m a told σ D) : Chn n m a z σ (fun _ => told) (fun _ => D) 0 :=
  ⟨hz, fun _ _ => p, fun _ h => absurd h (Nat.not_lt_zero _)⟩
end Lx
set_option Elab.async false
set_option linter.all false
set_option maxRecDepth 100000
set_option maxHeartbeats 4000000
namespace Lw
open PySem PySem.Spec PyProof.Rows L2 Mn
theorem take_ok {S : Bxs} {b c : Nat} {m : Int} (B : Bag S b c) (h0 : 0 < m) (h1 : m < 2 ^ 60) : (F__law_take [.box b, .int m] S).Wp (fun d S' => ∃ i, d = .int i ∧ 0 ≤ i ∧ i < m ∧ Bag S' b c ∧ Fr b S S') noX := by
  obtain ⟨h, x, i, ns, B⟩ := B
  refine w_body ?_
  unfold B__law_take startD
  simp only [List.map_cons, List.map_nil, List.length_cons, List.length_nil, List.cons_append, List.nil_append, Nat.reduceAdd, Nat.reduceSub, List.replicate]
  refine w_cons (Rs.Wp.mono (P := fun r S1 => r.1 = .nx ∧ (∃ d2 d3, r.2 = [some (.box b), some (.int m), d2, d3, none, none, none]) ∧ Bag S1 b c ∧ Fr b S S1) ?a ?b fun _ _ _ q => q)
  case a =>
    have hb := B.at_
    and_intros
    refine ⟨fun _ => ?_, fun _ => ?_⟩
    · and_intros
      refine w_slB (seq_lst B.cells) ?_
      have hcl : (Mn.cutD (ns.map Dt.int) (some i) none).length ≤ 63 := Nat.le_trans (cutD_length _ _ _) (by rw [List.length_map]; exact B.len)
      have hcm : ∀ d ∈ Mn.cutD (ns.map Dt.int) (some i) none, ∃ k : Int, d = .int k ∧ 0 ≤ k := fun d hd => by
        unfold Mn.cutD at hd
        obtain ⟨k, hk, rfl⟩ := List.mem_map.mp (List.mem_of_mem_drop (List.mem_of_mem_take hd))
        exact ⟨k, rfl, B.pos k hk⟩
      generalize Mn.cutD (ns.map Dt.int) (some i) none = cs at hcl hcm
      refine w_newL (Nat.le_trans hcl (by decide)) ?_
      and_intros
      try refine w_newL (ds := [.int 0]) (by decide) ?_
      refine w_addL (xs := cs) (ys := [.int 0]) (lst_of (by simp)) (lst_of get_last) ?_
      refine w_newL (by rw [List.length_append]; exact Nat.le_trans (Nat.add_le_add_right hcl 1) (by decide)) ?_
      and_intros
      refine w_idx (seq_lst get_last) (Int.le_refl _) (by simp) fun d hd => ?_
      obtain ⟨k, rfl, hk⟩ : ∃ k : Int, d = .int k ∧ 0 ≤ k := by
        rcases List.mem_append.mp (List.mem_of_getElem? hd) with z | z
        · exact hcm d z
        · exact ⟨0, by simpa using z, Int.le_refl _⟩
      have p : S <+: ((S ++ [MBox.lst cs]) ++ [MBox.lst [Dt.int 0]]) ++ [MBox.lst (cs ++ [Dt.int 0])] := by rw [List.append_assoc, List.append_assoc]; exact List.prefix_append _ _
      have fin : ∀ {S3 : Bxs} {h3 : Int}, BagAt S3 b c h3 x (i + 1) ns → Fr b S S3 → (sCons (sSet 3 (dBin addG (dBin addG (dBin mulG (dBin ixG (dVar 0) (dC (.int 1))) (dC (.int 48271))) (dBin modG (dCall intG (aCons (dVar 2) (aNil))) (dC (.int 2147483647)))) (dBin mulG (dC (.int 7919)) (dBin ixG (dVar 0) (dC (.int 2)))))) (sAsg (dBin modG (dCall intG (aCons (dVar 3) (aNil))) (dC (.int 2147483647))) (tSubG (dVar 0) (dC (.int 1)))) [some (.box b), some (.int m), some (.int k), none, none, none, none] S3).Wp (fun r S1 => r.1 = .nx ∧ (∃ d2 d3, r.2 = [some (.box b), some (.int m), d2, d3, none, none, none]) ∧ Bag S1 b c ∧ Fr b S S1) noX := fun {S3 h3} B3 F3 => by
        have hb3 := B3.at_
        and_intros
        refine w_setG (j := 1) (lst_of B3.at_) (by rfl) ?_
        exact ⟨rfl, ⟨_, _, rfl⟩, ⟨h3, _, i + 1, ns, B3.set B3.h0 (Int.emod_nonneg _ (by decide)) (Int.emod_lt_of_pos _ (by decide)) B3.i0⟩, F3.trans Fr.set⟩
      have B1 := B.pre p
      have F1 := Fr.pre (b := b) p
      generalize ((S ++ [MBox.lst cs]) ++ [MBox.lst [Dt.int 0]]) ++ [MBox.lst (cs ++ [Dt.int 0])] = S1 at B1 F1
      and_intros
      refine w_getG (lst_of B1.at_) (by decide) rfl ?_
      and_intros
      refine w_setG (j := 2) (lst_of B1.at_) (by rfl) ?_
      have B2 := B1.set B1.h0 B1.x0 B1.x1 (show 0 ≤ i + 1 by have := B1.i0; omega)
      have F2 := F1.trans (Fr.set (x := .lst [.int h, .int x, .int (i + 1), .box c]))
      and_intros
      refine ⟨fun hk2 => ?_, fun _ => ?_⟩
      · and_intros
        refine w_setG (j := 0) (lst_of B2.at_) (by rfl) ?_
        have B3 := B2.set hk B2.x0 B2.x1 B2.i0
        have F3 := F2.trans (Fr.set (x := .lst [.int k, .int x, .int (i + 1), .box c]))
        exact ⟨fun _ => fin B3 F3, fun z => absurd rfl z⟩
      · refine w_sNil ?_
        exact ⟨fun _ => fin B2 F2, fun z => absurd rfl z⟩
    · and_intros
      exact ⟨rfl, ⟨_, _, rfl⟩, ⟨h, x, i, ns, B⟩, Fr.refl _ _⟩
  case b =>
    rintro ⟨fl, σ1⟩ S1 ⟨e, ⟨d2, d3, e2⟩, ⟨h, x, i, ns, B⟩, F⟩
    cases e
    cases e2
    have hb := B.at_
    and_intros
    refine ⟨fun hp => ?_, fun hp => ?_⟩
    · and_intros
      refine w_setG (j := 0) (lst_of B.at_) (by rfl) ?_
      and_intros
      exact .inl ⟨_, rfl, _, rfl, Int.emod_nonneg _ (by omega), Int.emod_lt_of_pos _ h0, ⟨_, x, i, ns, B.set (Int.ediv_nonneg B.h0 (by omega)) B.x0 B.x1 B.i0⟩, F.trans Fr.set⟩
    · and_intros
      refine w_mul (.small (by have := Int.emod_nonneg ((x + 1) * 39373) (show (1000000007 : Int) ≠ 0 by decide); omega) (by have := Int.emod_lt_of_pos ((x + 1) * 39373) (show (0 : Int) < 1000000007 by decide); omega)) ?_
      and_intros
      exact .inl ⟨_, rfl, _, rfl, Int.emod_nonneg _ (by omega), Int.emod_lt_of_pos _ h0, ⟨h, x, i, ns, B⟩, F⟩
theorem one_ok {S : Bxs} {b c t : Nat} {xs : List Dt} (B : Bag S b c) (e : S.seq t = some xs) (ht : t ≠ b) (hne : xs ≠ []) (hl : xs.length ≤ 100000) : (F__law_one [.box b, .box t] S).Wp (fun d S' => d ∈ xs ∧ Bag S' b c ∧ Fr b S S') noX := by
  refine w_body ?_
  unfold B__law_one
  simp only [startD, List.map_cons, List.map_nil, List.length_cons, List.length_nil, List.cons_append, List.nil_append, Nat.reduceAdd, Nat.reduceSub, List.replicate, List.replicate_succ, List.replicate_zero]
  and_intros
  refine w_lenB e ?_
  and_intros
  have h0 : 0 < xs.length := List.length_pos_iff.mpr hne
  refine (take_ok B (by omega) (by omega)).mono (fun d S1 ⟨i, e1, i0, i1, B1, F1⟩ => ?_) fun _ _ _ q => q
  subst e1
  refine w_idx (F1.seq e ht) i0 i1 fun d hd => ?_
  exact .inl ⟨_, rfl, List.mem_of_getElem? hd, B1, F1⟩
end Lw
set_option Elab.async false
set_option linter.all false
set_option maxRecDepth 100000
set_option maxHeartbeats 4000000
namespace Lw
open PySem PySem.Spec PyProof.Rows L2 Mn
theorem bag_ok {ns : List Int} (hl : ns.length ≤ 63) : (F__law_bag [.box 0] (script0 ns)).Wp (fun d S' => ∃ b c, d = .box b ∧ b ≠ 0 ∧ Bag S' b c) noX := by
  refine w_body ?_
  unfold B__law_bag
  simp only [startD, List.map_cons, List.map_nil, List.length_cons, List.length_nil, List.cons_append, List.nil_append, Nat.reduceAdd, Nat.reduceSub, List.replicate, List.replicate_succ, List.replicate_zero]
  and_intros
  refine w_lcMap ?_
  and_intros
  have h63 : Mn.cutD (ns.map Dt.int) none (some 63) = ns.map Dt.int := by
    refine cutD_whole ?_
    rw [List.length_map]
    unfold wholeCut
    simp [HT.sIx, Nat.min_eq_right hl]
  refine w_slB (xs := ns.map Dt.int) rfl ?_
  rw [h63]
  have hz : (ns.map Dt.int).length ≤ 63 := by rw [List.length_map]; exact hl
  refine w_newL (Nat.le_trans hz (by decide)) ?_
  refine ⟨_, w_seqB get_last, fun d => match d with | .int i => .int (if i < 0 then -i else i) | d => d, Nat.lt_of_le_of_lt hz (by decide), fun acc => ?_, fun x acc hx => ?_, ?_⟩
  · show seqOf _ (.box _) = some _
    exact w_seqB (get_pre (List.prefix_append _ _) get_last)
  · obtain ⟨i, hi, rfl⟩ := List.mem_map.mp hx
    and_intros
    refine ⟨rfl, ?_⟩
    and_intros
    exact ⟨rfl, rfl⟩
  · and_intros
    refine .inl ⟨_, rfl, _, 2, rfl, by simp [script0], ?_⟩
    refine ⟨0, 1234567891, 0, ns.map fun i => if i < 0 then -i else i, ?_⟩
    refine ⟨get_last, ?_, by simp [script0], by decide, by decide, by decide, by decide, fun n hn => ?_, by rw [List.length_map]; exact hl⟩
    · show some (MBox.lst _) = _
      rw [List.map_map, List.map_map]
      rfl
    · obtain ⟨i, _, rfl⟩ := List.mem_map.mp hn
      split <;> omega
def menuD : List Dt := [.str "a", .str "b", .str "c", .str "d", .str "ab", .str "to", .str "by", .str "with", .str "kinds", .str "hands", .str "recipe", .str "run", .str "places", .str "arrow", .str "gym", .str "jvl", .str "zzzzzz", .str "x", .str "fq", .str "h", .str "e"]
def AllB (is : List Int) : Prop := ∀ i ∈ is, 0 ≤ i ∧ i ≤ 5
theorem AllB.set {is : List Int} {j : Nat} {v : Int} (h : AllB is) (hv : 0 ≤ v ∧ v ≤ 5) : AllB (is.set j v) := fun i hi => by
  rcases List.mem_or_eq_of_mem_set hi with z | z
  · exact h i z
  · rw [z]; exact hv
/-- nothing behind l; nothing up to l -/
def ZT (l : Nat) (is : List Int) : Prop := ∀ (j : Nat) v, l < j → is[j]? = some v → v = 0
def ZU (l : Nat) (is : List Int) : Prop := ∀ (j : Nat) v, j ≤ l → is[j]? = some v → v = 0
theorem ZT.set {l i : Nat} {is : List Int} {v : Int} (h : ZT l is) (hi : i ≤ l) : ZT l (is.set i v) := fun j w hj e => by
  rw [List.getElem?_set_ne (by omega)] at e; exact h j w hj e
theorem ZU.set {l i : Nat} {is : List Int} {v : Int} (h : ZU l is) (hi : l < i) : ZU l (is.set i v) := fun j w hj e => by
  rw [List.getElem?_set_ne (by omega)] at e; exact h j w hj e
structure Recipe (size : Nat) (hs : List Dt) (d : Dt) (ts us : List Int) (h : Dt) : Prop where
  eq : d = .tup [.tup (ts.map Dt.int), .tup (us.map Dt.int), h]
  tl : ts.length = size
  ul : us.length = size
  tb : AllB ts
  ub : AllB us
  tp : ∃ i ∈ ts, 0 < i
  hh : h = .non ∨ h ∈ hs
  sb : ∃ l : Nat, (∃ v, ts[l]? = some v ∧ 0 < v) ∧ ZT l ts ∧ ZU l us
end Lw
set_option Elab.async false
set_option linter.all false
set_option maxRecDepth 100000
set_option maxHeartbeats 4000000
namespace Mn
open PySem PySem.Spec PyProof.Rows L2
theorem w_mulT {S : Bxs} {E : Nat → List Dt → Bxs → Prop} {xs : List Dt} {k : Int} {P : Dt → Bxs → Prop} (c : xs ≠ [] ∧ -1000 ≤ k ∧ k ≤ 1000 ∧ xs.length ≤ 100) (h : P (.tup (List.replicate k.toNat xs).flatten) S) : (mulG (.tup xs) (.int k) S).Wp P E := by
  show (if xs ≠ [] ∧ -1000 ≤ k ∧ k ≤ 1000 ∧ xs.length ≤ 100 then Rs.ok (Dt.tup (List.replicate k.toNat xs).flatten) S else .no).Wp P E
  rw [if_pos c]; exact sat_mk h
end Mn
namespace Lw
open PySem PySem.Spec PyProof.Rows L2 Mn
structure Works (d : Dt) (size : Nat) (ks hs rs : List Dt) : Prop where
  eq : d = .tup [.tup ks, .tup hs, .tup rs]
  kl : ks.length = size
  s0 : 1 ≤ size
  s1 : size ≤ 5
  hl : hs.length ≤ 3
  hn : hs.Nodup
  km : ∀ x ∈ ks, x ∈ menuD
  hm : ∀ x ∈ hs, x ∈ menuD
  rl : rs.length ≤ 8
  rr : ∀ r ∈ rs, ∃ ts us h, Recipe size hs r ts us h
  kn : ks.Nodup
  kh : ∀ x ∈ hs, x ∉ ks
/-- the recipes found so far -/
def FI (S : Bxs) (b c nb fb : Nat) (ys hs : List Dt) (size most : Nat) (S' : Bxs) : Prop := ∃ rs, S'[fb]? = some (.lst rs) ∧ rs.length ≤ most ∧ (∀ r ∈ rs, ∃ ts us h, Recipe size hs r ts us h) ∧ S'[nb]? = some (.lst ys) ∧ Bag S' b c ∧ Fr b S S'
theorem FI.fr {S S1 S2 : Bxs} {b c nb fb size most : Nat} {ys hs : List Dt} (h : FI S b c nb fb ys hs size most S1) (F : Fr b S1 S2) (B : Bag S2 b c) (h1 : fb ≠ b) (h2 : nb ≠ b) : FI S b c nb fb ys hs size most S2 := by
  obtain ⟨rs, e1, e2, e3, e4, e5, e6⟩ := h
  exact ⟨rs, F.at_ e1 h1, e2, e3, F.at_ e4 h2, B, e6.trans F⟩
theorem rgD_len {lo : Int} {n : Nat} : (rgD lo n).length = n := by unfold rgD; rw [List.length_map, List.length_range]
theorem cut_to {ys : List Dt} {i : Nat} : Mn.cutD ys none (some (i : Int)) = ys.take i := by
  unfold Mn.cutD
  rw [HT.sIx_none, HT.sIx_nat, List.drop_zero, Nat.sub_zero]
  by_cases h : i ≤ ys.length
  · rw [Nat.min_eq_left h]
  · rw [Nat.min_eq_right (by omega), List.take_of_length_le (Nat.le_refl _), List.take_of_length_le (by omega)]
end Lw
set_option Elab.async false
set_option linter.all false
set_option maxRecDepth 100000
set_option maxHeartbeats 4000000
namespace Mn
open PySem PySem.Spec PyProof.Rows L2
theorem intsOf_map : ∀ is : List Int, intsOf (is.map Dt.int) = some is
  | [] => rfl
  | i :: is => by rw [List.map_cons]; unfold intsOf; rw [intsOf_map is]; rfl
section
variable {S : Bxs} {E : Nat → List Dt → Bxs → Prop}
theorem w_sumB {n : Nat} {is : List Int} {P : Dt → Bxs → Prop} (e : S.seq n = some (is.map Dt.int)) (h : P (.int is.sum) S) : (sumG [.box n] S).Wp P E := by
  have z : sumG [.box n] S = .ok (.int is.sum) S := by
    show (match S.seq n with
    | some xs => match intsOf xs with
      | some ns => Rs.ok (Dt.int ns.sum) S
      | none => .no
    | none => .no) = _
    rw [e]
    show (match intsOf (is.map Dt.int) with
      | some ns => Rs.ok (Dt.int ns.sum) S
      | none => .no) = _
    rw [intsOf_map]
  rw [z]; exact sat_mk h
end
end Mn
set_option Elab.async false
set_option linter.all false
set_option maxRecDepth 100000
set_option maxHeartbeats 4000000
namespace Mn
open PySem PySem.Spec PyProof.Rows L2
theorem w_yes {σ : Sg} {S : Bxs} {E : Nat → List Dt → Bxs → Prop} {P : Bool → Bxs → Prop} (h : P true S) : (bYes σ S).Wp P E := sat_mk h
def Bd (M : Int) (is : List Int) : Prop := ∀ p ∈ is, -M ≤ p ∧ p ≤ M
theorem Bd.mono {M M' : Int} {is : List Int} (h : Bd M is) (hm : M ≤ M') : Bd M' is := fun p hp => by have := h p hp; omega
theorem Bd.set {M : Int} {is : List Int} {j : Nat} {v : Int} (h : Bd M is) (h1 : -M ≤ v) (h2 : v ≤ M) : Bd M (is.set j v) := fun p hp => by
  rcases List.mem_or_eq_of_mem_set hp with z | z
  · exact h p z
  · rw [z]; exact ⟨h1, h2⟩
end Mn
namespace Lw
open PySem PySem.Spec PyProof.Rows L2 Mn
theorem IL.app {S : Bxs} {n : Nat} {is : List Int} {x : MBox} (h : IL S n is) : IL (S ++ [x]) n is := h.pre (List.prefix_append _ _)
/-- the tariff under way -/
def FJ (S : Bxs) (b c pb wb : Nat) (size hl : Nat) (M : Int) (S' : Bxs) : Prop := ∃ ps ws, IL S' pb ps ∧ IL S' wb ws ∧ ps.length = size ∧ ws.length = hl ∧ Bd M ps ∧ Bd M ws ∧ Bag S' b c ∧ Fr b S S'
theorem FJ.pre {S S1 S2 : Bxs} {b c pb wb size hl : Nat} {M : Int} (h : FJ S b c pb wb size hl M S1) (p : S1 <+: S2) : FJ S b c pb wb size hl M S2 := by
  obtain ⟨ps, ws, i1, i2, i3, i4, i5, i6, B, F⟩ := h
  exact ⟨ps, ws, i1.pre p, i2.pre p, i3, i4, i5, i6, B.pre p, F.trans (Fr.pre p)⟩
end Lw
set_option Elab.async false
set_option linter.all false
set_option maxRecDepth 100000
set_option maxHeartbeats 4000000
set_option Elab.async false
set_option linter.all false
set_option maxRecDepth 100000
set_option maxHeartbeats 4000000
set_option Elab.async false
set_option linter.all false
set_option maxRecDepth 100000
set_option maxHeartbeats 4000000
namespace Mn
open PySem PySem.Spec PyProof.Rows L2
theorem pre_set {S S1 : Bxs} {n : Nat} {x : MBox} (p : S <+: S1) (h : S.length ≤ n) : S <+: S1.set n x := by
  obtain ⟨t, rfl⟩ := p
  rw [List.set_append_right _ _ h]
  exact List.prefix_append _ _
end Mn
namespace Lw
open PySem PySem.Spec PyProof.Rows L2 Mn
def intsD (a : List Dt) : List Int := (intsOf a).getD []
theorem intsD_map (is : List Int) : intsD (is.map Dt.int) = is := by unfold intsD; rw [intsOf_map]; rfl
end Lw
set_option Elab.async false
set_option linter.all false
set_option maxRecDepth 100000
set_option maxHeartbeats 4000000
/-! Ld: comprehensions by what their items are; ints in tuples; small texts. -/
namespace Mn
open PySem PySem.Spec PyProof.Rows L2
section
variable {α : Type} {σ : Sg} {S : Bxs} {E : Nat → List Dt → Bxs → Prop}
/-- the items d of the walked x, in order -/
inductive Each {α β : Type} (Q : α → β → Prop) : List α → List β → Prop
  | nil : Each Q [] []
  | cons {x : α} {d : β} {xs : List α} {ds : List β} : Q x d → Each Q xs ds → Each Q (x :: xs) (d :: ds)
theorem Each.length {α β : Type} {Q : α → β → Prop} : ∀ {xs : List α} {ds : List β}, Each Q xs ds → xs.length = ds.length
  | _, _, .nil => rfl
  | _, _, .cons _ t => congrArg (· + 1) (Each.length t)
theorem Each.snoc {α β : Type} {Q : α → β → Prop} {x : α} {d : β} (h : Q x d) : ∀ {xs : List α} {ds : List β}, Each Q xs ds → Each Q (xs ++ [x]) (ds ++ [d])
  | _, _, .nil => .cons h .nil
  | _, _, .cons a t => .cons a (Each.snoc h t)
theorem Each.all {α β : Type} {Q : α → β → Prop} {P : β → Prop} (h : ∀ x d, Q x d → P d) : ∀ {xs : List α} {ds : List β}, Each Q xs ds → ∀ d ∈ ds, P d
  | _, _, .cons a t, d, hd => by
    rcases List.mem_cons.mp hd with rfl | z
    · exact h _ _ a
    · exact Each.all h t d z
theorem Each.mono {α β : Type} {Q Q' : α → β → Prop} (h : ∀ x d, Q x d → Q' x d) : ∀ {xs : List α} {ds : List β}, Each Q xs ds → Each Q' xs ds
  | _, _, .nil => .nil
  | _, _, .cons a t => .cons (h _ _ a) (Each.mono h t)
theorem Each.map {α β : Type} {f : α → β} : ∀ {xs : List α} {ds : List β}, Each (fun x d => d = f x) xs ds → ds = xs.map f
  | _, _, .nil => rfl
  | _, _, .cons a t => by rw [List.map_cons, ← Each.map t, a]
theorem Each.ints {α : Type} {Q : α → Dt → Prop} {P : Int → Prop} (h : ∀ x d, Q x d → ∃ i, d = .int i ∧ P i) : ∀ {xs : List α} {ds : List Dt}, Each Q xs ds → ∃ is : List Int, ds = is.map Dt.int ∧ is.length = xs.length ∧ ∀ i ∈ is, P i
  | _, _, .nil => ⟨[], rfl, rfl, fun _ z => nomatch z⟩
  | _, _, .cons a t => by
    obtain ⟨is, e1, e2, e3⟩ := Each.ints h t
    obtain ⟨i, rfl, hi⟩ := h _ _ a
    refine ⟨i :: is, by rw [e1]; rfl, by simp [e2], fun j hj => ?_⟩
    rcases List.mem_cons.mp hj with rfl | z
    · exact hi
    · exact e3 j z
/-- a comprehension, J what stands all the while -/
theorem w_lcJ {src : Src α} {g : α → Sg → Bxs → Rs Sg} {tt : FB} {te : FE} {vs : List Nat} {P : Dt → Bxs → Prop}
    (h : (src σ S).Wp (fun r S1 => ∃ (p : α → Bool) (Q : α → Dt → Prop) (J : Bxs → Prop), r.1.length < LIM ∧ (∀ S', J S' → r.2 S') ∧ J (S1 ++ [.lst []]) ∧ (∀ S' ds, J S' → J (S'.set S1.length (.lst ds))) ∧
      (∀ x S', x ∈ r.1 → J S' → (g x (wipeD σ vs) S').Wp (fun σ1 S2 => (tt σ1 S2).Wp (fun bv S3 => bv = p x ∧ (bv = false → J S3 ∧ S3[S1.length]? = S'[S1.length]?) ∧
        (bv = true → (te σ1 S3).Wp (fun d S4 => Q x d ∧ J S4 ∧ S4[S1.length]? = S'[S1.length]?) noX)) noX) noX) ∧
      ∀ ds S', Each Q (r.1.filter p) ds → S'[S1.length]? = some (.lst ds) → J S' → P (.box S1.length) S') E) : (dLc src g tt te vs σ S).Wp P E := by
  refine w_lc (h.mono (fun r S1 ⟨p, Q, J, hl, hst, j0, js, step, fin⟩ => ?_) fun _ _ _ q => q)
  refine ⟨fun i acc S' => Each Q ((r.1.take i).filter p) acc ∧ J S', fun i acc S' h => hst _ h.2, fun i x acc S' hx hn ⟨he, hJ⟩ => ?_, ⟨by simp; exact .nil, j0⟩, fun acc S' hn ⟨he, hJ⟩ => ?_⟩
  · have hil : i < r.1.length := (List.getElem?_eq_some_iff.mp hx).1
    have hal : acc.length < LIM := by
      have := he.length
      have h2 := List.length_filter_le p (r.1.take i)
      rw [List.length_take] at h2
      omega
    refine (step x S' (List.mem_of_getElem? hx) hJ).mono (fun σ1 S2 q => q.mono (fun bv S3 ⟨eb, qf, qt⟩ => ⟨fun hb => (qt hb).mono (fun d S4 ⟨hq, hJ4, e4⟩ => ?_) fun _ _ _ q => q, fun hb => ?_⟩) fun _ _ _ q => q) fun _ _ _ q => q
    · refine ⟨e4.trans hn, hal, ?_, js _ _ hJ4⟩
      rw [List.take_add_one, hx, List.filter_append]
      have : [x].filter p = [x] := by rw [List.filter_cons_of_pos (by rw [← eb]; exact hb)]; rfl
      show Each Q (_ ++ [x].filter p) _
      rw [this]
      exact he.snoc hq
    · obtain ⟨hJ3, e3⟩ := qf hb
      refine ⟨e3.trans hn, ?_, hJ3⟩
      rw [List.take_add_one, hx, List.filter_append]
      have : [x].filter p = [] := by rw [List.filter_cons_of_neg (by rw [← eb, hb]; decide)]; rfl
      show Each Q (_ ++ [x].filter p) _
      rw [this, List.append_nil]
      exact he
  · rw [List.take_length] at he
    exact fin acc S' he hn hJ
theorem get_pre' {S S' : Bxs} (p : S <+: S') {n : Nat} (h : n < S.length) : S'[n]? = S[n]? := by
  obtain ⟨t, rfl⟩ := p
  exact List.getElem?_append_left h
/-- pure items -/
theorem w_lcP {src : Src α} {g : α → Sg → Bxs → Rs Sg} {tt : FB} {te : FE} {vs : List Nat} {P : Dt → Bxs → Prop}
    (h : (src σ S).Wp (fun r S1 => ∃ (p : α → Bool) (Q : α → Dt → Prop), r.1.length < LIM ∧ (∀ S', S1 <+: S' → r.2 S') ∧
      (∀ x S', x ∈ r.1 → S1 <+: S' → (g x (wipeD σ vs) S').Wp (fun σ1 S2 => (tt σ1 S2).Wp (fun bv S3 => bv = p x ∧ (bv = false → S' <+: S3) ∧
        (bv = true → (te σ1 S3).Wp (fun d S4 => Q x d ∧ S' <+: S4) noX)) noX) noX) ∧
      ∀ ds S', Each Q (r.1.filter p) ds → S'[S1.length]? = some (.lst ds) → S1 <+: S' → P (.box S1.length) S') E) : (dLc src g tt te vs σ S).Wp P E := by
  refine w_lcJ (h.mono (fun r S1 ⟨p, Q, hl, hst, step, fin⟩ => ?_) fun _ _ _ q => q)
  refine ⟨p, Q, fun S' => S1 <+: S' ∧ S1.length < S'.length, hl, fun S' h => hst S' h.1, ⟨List.prefix_append _ _, by simp⟩, fun S' ds h => ⟨pre_set h.1 (Nat.le_refl _), by rw [List.length_set]; exact h.2⟩, fun x S' hx ⟨hJ, hlt⟩ => ?_, fun ds S' h1 h2 h3 => fin ds S' h1 h2 h3.1⟩
  refine (step x S' hx hJ).mono (fun σ1 S2 q => q.mono (fun bv S3 ⟨eb, qf, qt⟩ => ⟨eb, fun hb => ?_, fun hb => (qt hb).mono (fun d S4 ⟨hq, p4⟩ => ?_) fun _ _ _ q => q⟩) fun _ _ _ q => q) fun _ _ _ q => q
  · have p3 := qf hb
    exact ⟨⟨hJ.trans p3, Nat.lt_of_lt_of_le hlt p3.length_le⟩, get_pre' p3 hlt⟩
  · exact ⟨hq, ⟨hJ.trans p4, Nat.lt_of_lt_of_le hlt p4.length_le⟩, get_pre' p4 hlt⟩
/-- items that draw -/
theorem w_lcB {b c : Nat} {src : Src α} {g : α → Sg → Bxs → Rs Sg} {tt : FB} {te : FE} {vs : List Nat} {P : Dt → Bxs → Prop}
    (h : (src σ S).Wp (fun r S1 => ∃ (p : α → Bool) (Q : α → Dt → Prop), r.1.length < LIM ∧ Bag S1 b c ∧ (∀ S', Fr b S1 S' → r.2 S') ∧
      (∀ x S', x ∈ r.1 → Bag S' b c → Fr b S1 S' → (g x (wipeD σ vs) S').Wp (fun σ1 S2 => (tt σ1 S2).Wp (fun bv S3 => bv = p x ∧ (bv = false → Bag S3 b c ∧ Fr b S' S3) ∧
        (bv = true → (te σ1 S3).Wp (fun d S4 => Q x d ∧ Bag S4 b c ∧ Fr b S' S4) noX)) noX) noX) ∧
      ∀ ds S', Each Q (r.1.filter p) ds → S'[S1.length]? = some (.lst ds) → Bag S' b c → Fr b S1 S' → P (.box S1.length) S') E) : (dLc src g tt te vs σ S).Wp P E := by
  refine w_lcJ (h.mono (fun r S1 ⟨p, Q, hl, B, hst, step, fin⟩ => ?_) fun _ _ _ q => q)
  have hb : S1.length ≠ b := Nat.ne_of_gt B.lt.1
  have hc : S1.length ≠ c := Nat.ne_of_gt B.lt.2
  refine ⟨p, Q, fun S' => Bag S' b c ∧ Fr b S1 S' ∧ S1.length < S'.length, hl, fun S' h => hst S' h.2.1, ⟨B.app, (Fr.refl b S1).app, by simp⟩, fun S' ds h => ⟨h.1.own hb hc, h.2.1.own (Nat.le_refl _), by rw [List.length_set]; exact h.2.2⟩, fun x S' hx ⟨hB, hF, hlt⟩ => ?_, fun ds S' h1 h2 h3 => fin ds S' h1 h2 h3.1 h3.2.1⟩
  refine (step x S' hx hB hF).mono (fun σ1 S2 q => q.mono (fun bv S3 ⟨eb, qf, qt⟩ => ⟨eb, fun hbv => ?_, fun hbv => (qt hbv).mono (fun d S4 ⟨hq, B4, F4⟩ => ?_) fun _ _ _ q => q⟩) fun _ _ _ q => q) fun _ _ _ q => q
  · obtain ⟨B3, F3⟩ := qf hbv
    exact ⟨⟨B3, hF.trans F3, Nat.lt_of_lt_of_le hlt F3.len⟩, F3.get _ hlt hb⟩
  · exact ⟨hq, ⟨B4, hF.trans F4, Nat.lt_of_lt_of_le hlt F4.len⟩, F4.get _ hlt hb⟩
/-- .. only what the items are, and how many at most -/
theorem w_lcJA {src : Src α} {g : α → Sg → Bxs → Rs Sg} {tt : FB} {te : FE} {vs : List Nat} {P : Dt → Bxs → Prop}
    (h : (src σ S).Wp (fun r S1 => ∃ (R : Dt → Prop) (J : Bxs → Prop), r.1.length < LIM ∧ (∀ S', J S' → r.2 S') ∧ J (S1 ++ [.lst []]) ∧ (∀ S' ds, J S' → J (S'.set S1.length (.lst ds))) ∧
      (∀ x S', x ∈ r.1 → J S' → (g x (wipeD σ vs) S').Wp (fun σ1 S2 => (tt σ1 S2).Wp (fun bv S3 => (bv = false → J S3 ∧ S3[S1.length]? = S'[S1.length]?) ∧
        (bv = true → (te σ1 S3).Wp (fun d S4 => R d ∧ J S4 ∧ S4[S1.length]? = S'[S1.length]?) noX)) noX) noX) ∧
      ∀ ds S', ds.length ≤ r.1.length → (∀ d ∈ ds, R d) → S'[S1.length]? = some (.lst ds) → J S' → P (.box S1.length) S') E) : (dLc src g tt te vs σ S).Wp P E := by
  refine w_lc (h.mono (fun r S1 ⟨R, J, hl, hst, j0, js, step, fin⟩ => ?_) fun _ _ _ q => q)
  refine ⟨fun i acc S' => acc.length ≤ i ∧ (∀ d ∈ acc, R d) ∧ J S', fun i acc S' h => hst _ h.2.2, fun i x acc S' hx hn ⟨h1, h2, hJ⟩ => ?_, ⟨Nat.le_refl _, (fun d hd => nomatch hd), j0⟩, fun acc S' hn ⟨h1, h2, hJ⟩ => fin acc S' h1 h2 hn hJ⟩
  have hil : i < r.1.length := (List.getElem?_eq_some_iff.mp hx).1
  refine (step x S' (List.mem_of_getElem? hx) hJ).mono (fun σ1 S2 q => q.mono (fun bv S3 ⟨qf, qt⟩ => ⟨fun hb => (qt hb).mono (fun d S4 ⟨hq, hJ4, e4⟩ => ?_) fun _ _ _ q => q, fun hb => ?_⟩) fun _ _ _ q => q) fun _ _ _ q => q
  · refine ⟨e4.trans hn, by omega, by rw [List.length_append]; exact Nat.add_le_add_right h1 1, fun e he => ?_, js _ _ hJ4⟩
    rcases List.mem_append.mp he with z | z
    · exact h2 e z
    · rw [List.mem_singleton.mp z]; exact hq
  · obtain ⟨hJ3, e3⟩ := qf hb
    exact ⟨e3.trans hn, Nat.le_succ_of_le h1, h2, hJ3⟩
theorem w_lcBA {b c : Nat} {src : Src α} {g : α → Sg → Bxs → Rs Sg} {tt : FB} {te : FE} {vs : List Nat} {P : Dt → Bxs → Prop}
    (h : (src σ S).Wp (fun r S1 => ∃ R : Dt → Prop, r.1.length < LIM ∧ Bag S1 b c ∧ (∀ S', Fr b S1 S' → r.2 S') ∧
      (∀ x S', x ∈ r.1 → Bag S' b c → Fr b S1 S' → (g x (wipeD σ vs) S').Wp (fun σ1 S2 => (tt σ1 S2).Wp (fun bv S3 => (bv = false → Bag S3 b c ∧ Fr b S' S3) ∧
        (bv = true → (te σ1 S3).Wp (fun d S4 => R d ∧ Bag S4 b c ∧ Fr b S' S4) noX)) noX) noX) ∧
      ∀ ds S', ds.length ≤ r.1.length → (∀ d ∈ ds, R d) → S'[S1.length]? = some (.lst ds) → Bag S' b c → Fr b S1 S' → P (.box S1.length) S') E) : (dLc src g tt te vs σ S).Wp P E := by
  refine w_lcJA (h.mono (fun r S1 ⟨R, hl, B, hst, step, fin⟩ => ?_) fun _ _ _ q => q)
  have hb : S1.length ≠ b := Nat.ne_of_gt B.lt.1
  have hc : S1.length ≠ c := Nat.ne_of_gt B.lt.2
  refine ⟨R, fun S' => Bag S' b c ∧ Fr b S1 S' ∧ S1.length < S'.length, hl, fun S' h => hst S' h.2.1, ⟨B.app, (Fr.refl b S1).app, by simp⟩, fun S' ds h => ⟨h.1.own hb hc, h.2.1.own (Nat.le_refl _), by rw [List.length_set]; exact h.2.2⟩, fun x S' hx ⟨hB, hF, hlt⟩ => ?_, fun ds S' h0 h1 h2 h3 => fin ds S' h0 h1 h2 h3.1 h3.2.1⟩
  refine (step x S' hx hB hF).mono (fun σ1 S2 q => q.mono (fun bv S3 ⟨qf, qt⟩ => ⟨fun hbv => ?_, fun hbv => (qt hbv).mono (fun d S4 ⟨hq, B4, F4⟩ => ?_) fun _ _ _ q => q⟩) fun _ _ _ q => q) fun _ _ _ q => q
  · obtain ⟨B3, F3⟩ := qf hbv
    exact ⟨⟨B3, hF.trans F3, Nat.lt_of_lt_of_le hlt F3.len⟩, F3.get _ hlt hb⟩
  · exact ⟨hq, ⟨B4, hF.trans F4, Nat.lt_of_lt_of_le hlt F4.len⟩, F4.get _ hlt hb⟩
theorem filter_yes (xs : List α) : xs.filter (fun _ => true) = xs := List.filter_eq_self.mpr fun _ _ => rfl
end
/-! ### ints -/
/-- all within -/
def In (lo hi : Int) (is : List Int) : Prop := ∀ i ∈ is, lo ≤ i ∧ i ≤ hi
theorem In.mono {lo hi lo' hi' : Int} {is : List Int} (h : In lo hi is) (h1 : lo' ≤ lo) (h2 : hi ≤ hi') : In lo' hi' is := fun i hi => by have := h i hi; omega
theorem In.set {lo hi : Int} {is : List Int} {j : Nat} {v : Int} (h : In lo hi is) (hv : lo ≤ v ∧ v ≤ hi) : In lo hi (is.set j v) := fun i hi => by
  rcases List.mem_or_eq_of_mem_set hi with z | z
  · exact h i z
  · rw [z]; exact hv
theorem In.rep {lo hi v : Int} (hv : lo ≤ v ∧ v ≤ hi) (n : Nat) : In lo hi (List.replicate n v) := fun i hi => by
  rw [List.eq_of_mem_replicate hi]; exact hv
theorem In.app {lo hi : Int} {is js : List Int} (h : In lo hi is) (k : In lo hi js) : In lo hi (is ++ js) := fun i hi => by
  rcases List.mem_append.mp hi with z | z
  · exact h i z
  · exact k i z
theorem In.get {lo hi : Int} {is : List Int} {j : Nat} {v : Int} (h : In lo hi is) (e : is[j]? = some v) : lo ≤ v ∧ v ≤ hi := h v (List.mem_of_getElem? e)
abbrev iv (is : List Int) : Dt := .tup (is.map Dt.int)
/-! ### texts of data without boxes -/
/-- data without boxes, so deep, its text at most so long -/
def Sm (n : Nat) (d : Dt) (w : Nat) : Prop := ∃ p, ∀ S, Pl S n d p w
theorem Sm.mono {n w w' : Nat} {d : Dt} (h : Sm n d w) (hw : w ≤ w') : Sm n d w' := let ⟨p, q⟩ := h; ⟨p, fun S => (q S).mono hw⟩
theorem Sm.int {n : Nat} {i : Int} (k : Nat) (hk : 1 ≤ k) (hk2 : k ≤ 500) (h : i.natAbs < 10 ^ k) : Sm (n + 1) (.int i) (k + 1) := ⟨_, fun S => Pl.mkInt k hk hk2 h⟩
theorem Sm.bl {n : Nat} (b : Bool) : Sm (n + 1) (.bl b) 5 := ⟨_, fun S => .bl b (Nat.le_refl _)⟩
theorem Sm.non {n : Nat} : Sm (n + 1) .non 4 := ⟨_, fun S => .non (Nat.le_refl _)⟩
theorem Sm.all {n w : Nat} : ∀ {ds : List Dt}, (∀ d ∈ ds, Sm n d w) → ∃ ps, ∀ S, Pls S n ds ps (ds.length * (w + 2))
  | [], _ => ⟨[], fun S => by rw [List.length_nil, Nat.zero_mul]; exact .nil⟩
  | d :: ds, h => by
    obtain ⟨p, hp⟩ := h d List.mem_cons_self
    obtain ⟨ps, hps⟩ := Sm.all fun e he => h e (List.mem_cons_of_mem _ he)
    refine ⟨p :: ps, fun S => ?_⟩
    have := Pls.cons (hp S) (hps S)
    rwa [show (d :: ds).length * (w + 2) = w + 2 + ds.length * (w + 2) by rw [List.length_cons, Nat.add_mul]; omega]
theorem Sm.tup {n w : Nat} {ds : List Dt} (h : ∀ d ∈ ds, Sm n d w) (m : Nat) (hm : ds.length * (w + 2) + 3 ≤ m) : Sm (n + 1) (.tup ds) m := by
  obtain ⟨ps, hps⟩ := Sm.all h
  exact ⟨_, fun S => .tup (hps S) hm⟩
theorem Sm.ints {n k : Nat} {is : List Int} (hk : 1 ≤ k) (hk2 : k ≤ 500) (h : ∀ i ∈ is, i.natAbs < 10 ^ k) (m : Nat) (hm : is.length * (k + 3) + 3 ≤ m) : Sm (n + 2) (iv is) m :=
  Sm.tup (w := k + 1) (fun d hd => by obtain ⟨i, hi, rfl⟩ := List.mem_map.mp hd; exact Sm.int k hk hk2 (h i hi)) m (by rw [List.length_map]; exact hm)
theorem Sm.t2 {n w : Nat} {a b : Dt} (ha : Sm n a w) (hb : Sm n b w) (m : Nat) (hm : 2 * (w + 2) + 3 ≤ m) : Sm (n + 1) (.tup [a, b]) m :=
  Sm.tup (w := w) (fun d hd => by simp at hd; rcases hd with rfl | rfl <;> assumption) m hm
theorem Sm.t4 {n w : Nat} {a b c e : Dt} (ha : Sm n a w) (hb : Sm n b w) (hc : Sm n c w) (he : Sm n e w) (m : Nat) (hm : 4 * (w + 2) + 3 ≤ m) : Sm (n + 1) (.tup [a, b, c, e]) m :=
  Sm.tup (w := w) (fun d hd => by simp at hd; rcases hd with rfl | rfl | rfl | rfl <;> assumption) m hm
section
variable {S : Bxs} {E : Nat → List Dt → Bxs → Prop}
/-- what repr tells -/
noncomputable def shD (d : Dt) : Str := match pdo [] d with
  | some p => p.shown
  | none => default
end
end Mn
set_option Elab.async false
set_option linter.all false
set_option maxRecDepth 100000
set_option maxHeartbeats 4000000
namespace Mn
open PySem PySem.Spec PyProof.Rows L2
section
variable {S : Bxs} {E : Nat → List Dt → Bxs → Prop}
/-- xs != [] -/
theorem w_neNil {n m w : Nat} {ds : List Dt} {neg : Bool} {P : Dt → Bxs → Prop} (e : S.seq n = some ds) (e2 : S.seq m = some []) (hs : ∀ d ∈ ds, Sm 59 d w) (q : P (.bl (if neg then !ds.isEmpty else ds.isEmpty)) S) : (eqG neg (.box n) (.box m) S).Wp P E := by
  obtain ⟨ps, hps⟩ := Sm.all hs
  refine w_eq (.box e (hps S) (Nat.le_refl _)) (.box e2 .nil (Nat.le_refl _)) ?_
  have : PyData.eqv (.list ps) (.list []) = ds.isEmpty := by
    have h := hps S
    generalize ds.length * (w + 2) = k at h
    cases h with
    | nil => simp [PyData.eqv, PyData.eqvAll]
    | cons _ _ => simp [PyData.eqv, PyData.eqvAll]
  rw [this]; exact q
/-- t != () -/
theorem w_neNilT {w : Nat} {ds : List Dt} {neg : Bool} {P : Dt → Bxs → Prop} (hs : ∀ d ∈ ds, Sm 59 d w) (q : P (.bl (if neg then !ds.isEmpty else ds.isEmpty)) S) : (eqG neg (.tup ds) (.tup []) S).Wp P E := by
  obtain ⟨ps, hps⟩ := Sm.all hs
  refine w_eq (.tup (hps S) (Nat.le_refl _)) (.tup .nil (Nat.le_refl _)) ?_
  have : PyData.eqv (.tuple ps) (.tuple []) = ds.isEmpty := by
    have h := hps S
    generalize ds.length * (w + 2) = k at h
    cases h with
    | nil => simp [PyData.eqv, PyData.eqvAll]
    | cons _ _ => simp [PyData.eqv, PyData.eqvAll]
  rw [this]; exact q
theorem w_mulT0 {n : Nat} {P : Dt → Bxs → Prop} (hn : n ≤ 1000) (h : P (iv (List.replicate n 0)) S) : (mulG (.tup [.int 0]) (.int (n : Int)) S).Wp P E := by
  refine w_mulT ⟨fun z => (nomatch z), by omega, by omega, by decide⟩ ?_
  rw [zeros]; exact h
end
end Mn
set_option Elab.async false
set_option linter.all false
set_option maxRecDepth 100000
set_option maxHeartbeats 4000000
namespace Lw
open PySem PySem.Spec PyProof.Rows L2 Mn
def Pos (is : List Int) : Prop := ∀ i ∈ is, 0 ≤ i
theorem Pos.set {is : List Int} {j : Nat} {v : Int} (h : Pos is) (hv : 0 ≤ v) : Pos (is.set j v) := fun i hi => by
  rcases List.mem_or_eq_of_mem_set hi with z | z
  · exact h i z
  · rw [z]; exact hv
end Lw
set_option Elab.async false
set_option linter.all false
set_option maxRecDepth 100000
set_option maxHeartbeats 4000000
namespace Lw
open PySem PySem.Spec PyProof.Rows L2 Mn
/-- the counts, drawn -/
def CI (S : Bxs) (b c many n : Nat) (cs : List Int) (S' : Bxs) : Prop := IL S' n cs ∧ cs.length = many ∧ Pos cs ∧ Bag S' b c ∧ Fr b S S' ∧ S.length ≤ n
theorem CI.step {S S1 S2 : Bxs} {b c many n : Nat} {cs : List Int} (h : CI S b c many n cs S1) (B : Bag S2 b c) (F : Fr b S1 S2) (hb : n ≠ b) : CI S b c many n cs S2 := ⟨h.1.fr F hb, h.2.1, h.2.2.1, B, h.2.2.2.2.1.trans F, h.2.2.2.2.2⟩
end Lw
set_option Elab.async false
set_option linter.all false
set_option maxRecDepth 100000
set_option maxHeartbeats 4000000
namespace Mn
open PySem PySem.Spec PyProof.Rows L2
section
variable {σ : Sg} {S : Bxs} {E : Nat → List Dt → Bxs → Prop}
theorem at_nat {xs : List Dt} {j : Nat} {d : Dt} (h : xs[j]? = some d) : atI xs (j : Int) = some d := by
  have hl : j < xs.length := (List.getElem?_eq_some_iff.mp h).1
  unfold atI
  rw [ixN_mk (by omega) (by omega)]
  show xs[(j : Int).toNat]? = _
  rw [Int.toNat_natCast, h]
theorem at_int {xs : List Dt} {i : Int} {d : Dt} (h0 : 0 ≤ i) (h : xs[i.toNat]? = some d) : atI xs i = some d := by
  have := at_nat h
  rwa [Int.toNat_of_nonneg h0] at this
end
end Mn
set_option Elab.async false
set_option linter.all false
set_option maxRecDepth 100000
set_option maxHeartbeats 4000000
namespace Mn
open PySem PySem.Spec PyProof.Rows L2
/-- from 0 on, at most so much, item by item -/
structure Le (xs ys : List Int) : Prop where
  len : xs.length = ys.length
  get : ∀ (i : Nat) x y, xs[i]? = some x → ys[i]? = some y → 0 ≤ x ∧ x ≤ y
theorem Le.at_ {xs ys : List Int} (h : Le xs ys) {i : Nat} {x : Int} (e : xs[i]? = some x) : ∃ y, ys[i]? = some y ∧ 0 ≤ x ∧ x ≤ y := by
  have hl := (List.getElem?_eq_some_iff.mp e).1
  have hl' : i < ys.length := by rw [← h.len]; exact hl
  exact ⟨ys[i], List.getElem?_eq_getElem hl', h.get i x _ e (List.getElem?_eq_getElem hl')⟩
end Mn
namespace Lw
open PySem PySem.Spec PyProof.Rows L2 Mn
structure Arw (pl : Int) (size hl : Nat) (d : Dt) (s t : Int) (lot crew : List Int) : Prop where
  eq : d = .tup [.int s, .int t, iv lot, iv crew]
  s0 : 0 ≤ s
  s1 : s < pl
  t0 : 0 ≤ t
  t1 : t < pl
  ll : lot.length = size
  cl : crew.length = hl
  lb : Mn.In 0 9 lot
  cb : Mn.In 0 9 crew
structure Snd (size hl : Nat) (d : Dt) (pl : Int) (as : List Dt) : Prop where
  eq : d = .tup [.int pl, .tup as]
  p0 : 1 ≤ pl
  p1 : pl ≤ 10
  al : as.length ≤ 40
  ar : ∀ a ∈ as, ∃ s t lot crew, Arw pl size hl a s t lot crew
/-- a place's mark -/
def Mk (tl tc : List Int) (d : Dt) : Prop := ∃ l c : List Int, d = .tup [iv l, iv c] ∧ Le l tl ∧ Le c tc
theorem Works.ne {d : Dt} {size : Nat} {ks hs rs : List Dt} (W : Works d size ks hs rs) {tl : List Int} (h : tl.length = size) : tl ≠ [] := fun z => by
  have := W.s0
  rw [z] at h; simp at h; omega
end Lw
set_option Elab.async false
set_option linter.all false
set_option maxRecDepth 100000
set_option maxHeartbeats 4000000
namespace Mn
open PySem PySem.Spec PyProof.Rows L2
theorem sm_small {is : List Int} {n : Nat} (h : Mn.In 0 9 is) (hl : is.length ≤ 10) : Sm (n + 2) (iv is) 53 := Sm.ints (k := 2) (by decide) (by decide) (fun i hi => by have := h i hi; omega) 53 (by omega)
end Mn
namespace Lw
open PySem PySem.Spec PyProof.Rows L2 Mn
theorem sm_arw {pl : Int} {size hl : Nat} {d : Dt} {s t : Int} {lot crew : List Int} {n : Nat} (A : Arw pl size hl d s t lot crew) (p1 : pl ≤ 10) (h1 : size ≤ 10) (h2 : hl ≤ 10) : Sm (n + 3) d 230 := by
  have := A.s0
  have := A.s1
  have := A.t0
  have := A.t1
  have := A.ll
  have := A.cl
  rw [A.eq]
  exact Sm.t4 (w := 53) ((Sm.int 2 (by decide) (by decide) (by omega)).mono (by decide)) ((Sm.int 2 (by decide) (by decide) (by omega)).mono (by decide)) (sm_small A.lb (by omega)) (sm_small A.cb (by omega)) 230 (by decide)
theorem Snd.sm {size hl : Nat} {d : Dt} {pl : Int} {as : List Dt} (A : Snd size hl d pl as) (h1 : size ≤ 10) (h2 : hl ≤ 10) {n : Nat} : Sm (n + 5) d 20000 := by
  have := A.p0
  have := A.p1
  rw [A.eq]
  refine Sm.t2 (w := 9990) ((Sm.int 2 (by decide) (by decide) (by omega)).mono (by decide)) ?_ 20000 (by decide)
  exact Sm.tup (w := 230) (fun a ha => by obtain ⟨s, t, lot, crew, R⟩ := A.ar a ha; exact sm_arw R A.p1 h1 h2) 9990 (by have := A.al; omega)
end Lw
set_option Elab.async false
set_option linter.all false
set_option maxRecDepth 100000
set_option maxHeartbeats 4000000
namespace Mn
open PySem PySem.Spec PyProof.Rows L2
section
variable {S : Bxs} {E : Nat → List Dt → Bxs → Prop}
theorem dk_of {n : Nat} {kvs : List (Key × Dt)} (e : S[n]? = some (.dk kvs)) : S.dk n = some kvs := by unfold Bxs.dk; rw [e]
end
theorem w_neI {S : Bxs} {E : Nat → List Dt → Bxs → Prop} {i j : Int} {P : Dt → Bxs → Prop} (h : P (.bl (!decide (i = j))) S) : (eqG true (.int i) (.int j) S).Wp P E := by
  have e : eqG true (.int i) (.int j) S = .ok (.bl (!decide (i = j))) S := by
    unfold eqG pdo DEEP pd
    simp only [PyData.eqv, SeqAt.shaped]
    rfl
  rw [e]; exact ⟨h⟩
end Mn
namespace Lw
open PySem PySem.Spec PyProof.Rows L2 Mn
/-- where an arrow begins, ends -/
def arrS : Dt → Int
  | .tup [.int s, .int _, _, _] => s
  | _ => -1
def arrT : Dt → Int
  | .tup [.int _, .int t, _, _] => t
  | _ => -1
theorem Arw.src {pl : Int} {size hl : Nat} {d : Dt} {s t : Int} {lot crew : List Int} (A : Arw pl size hl d s t lot crew) : arrS d = s := by rw [A.eq]; rfl
theorem Arw.tgt {pl : Int} {size hl : Nat} {d : Dt} {s t : Int} {lot crew : List Int} (A : Arw pl size hl d s t lot crew) : arrT d = t := by rw [A.eq]; rfl
/-- the indexes lead on from p to q -/
def Goes (as : List Dt) : Int → List Int → Int → Prop
  | p, [], q => p = q
  | p, i :: r, q => ∃ a, 0 ≤ i ∧ as[i.toNat]? = some a ∧ arrS a = p ∧ Goes as (arrT a) r q
theorem Goes.snoc {as : List Dt} {q i : Int} {a : Dt} (h0 : 0 ≤ i) (ha : as[i.toNat]? = some a) (hs : arrS a = q) : ∀ {is : List Int} {p : Int}, Goes as p is q → Goes as p (is ++ [i]) (arrT a)
  | [], p, h => by
    have h : p = q := h
    exact ⟨a, h0, ha, by rw [h]; exact hs, rfl⟩
  | j :: r, p, ⟨b, b0, hb, hbs, h⟩ => ⟨b, b0, hb, hbs, Goes.snoc h0 ha hs h⟩
theorem Snd.at_ {size hl : Nat} {d : Dt} {pl : Int} {as : List Dt} (A : Snd size hl d pl as) {i : Int} (h0 : 0 ≤ i) (h1 : i < as.length) : ∃ a s t lot crew, as[i.toNat]? = some a ∧ atI as i = some a ∧ Arw pl size hl a s t lot crew := by
  have hi : i.toNat < as.length := by omega
  have e := List.getElem?_eq_getElem hi
  obtain ⟨s, t, lot, crew, R⟩ := A.ar _ (List.getElem_mem hi)
  exact ⟨_, s, t, lot, crew, e, at_int h0 e, R⟩
end Lw
set_option Elab.async false
set_option linter.all false
set_option maxRecDepth 100000
set_option maxHeartbeats 4000000
/-! Lm: a world; sums and gains of arrows; likeness of small data. -/
namespace Lw
open PySem PySem.Spec PyProof.Rows L2 Mn
def Ixs (n : Nat) (is : List Int) : Prop := ∀ i ∈ is, 0 ≤ i ∧ i < n
def lotA : Dt → List Int
  | .tup [_, _, .tup l, _] => intsD l
  | _ => []
def crewA : Dt → List Int
  | .tup [_, _, _, .tup l] => intsD l
  | _ => []
theorem Arw.lot {pl : Int} {size hl : Nat} {d : Dt} {s t : Int} {lot crew : List Int} (A : Arw pl size hl d s t lot crew) : lotA d = lot := by rw [A.eq]; exact intsD_map lot
theorem Arw.crew {pl : Int} {size hl : Nat} {d : Dt} {s t : Int} {lot crew : List Int} (A : Arw pl size hl d s t lot crew) : crewA d = crew := by rw [A.eq]; exact intsD_map crew
theorem Ixs.take {n : Nat} {is : List Int} (h : Ixs n is) (k : Nat) : Ixs n (is.take k) := fun i hi => h i (List.mem_of_mem_take hi)
end Lw
set_option Elab.async false
set_option linter.all false
set_option maxRecDepth 100000
set_option maxHeartbeats 4000000
/-! Ra: names and works of the later laws (k82). -/
set_option Elab.async false
set_option linter.all false
set_option maxRecDepth 100000
set_option maxHeartbeats 4000000
/-! Sa: rows of choices, mixed radix. -/
namespace Mn
open PySem PySem.Spec PyProof.Rows L2
section
variable {α : Type} {σ : Sg} {S : Bxs} {E : Nat → List Dt → Bxs → Prop}
/-- items told by a function, what is new behind -/
theorem w_lcD {src : Src α} {g : α → Sg → Bxs → Rs Sg} {te : FE} {vs : List Nat} {P : Dt → Bxs → Prop}
    (h : (src σ S).Wp (fun r S1 => ∃ f : α → Dt, r.1.length < LIM ∧ (∀ S', S1 <+: S' → r.2 S') ∧
      (∀ x S', x ∈ r.1 → S1 <+: S' → (g x (wipeD σ vs) S').Wp (fun σ1 S2 => (te σ1 S2).Wp (fun d S4 => d = f x ∧ S' <+: S4) noX) noX) ∧
      ∀ S', S'[S1.length]? = some (.lst (r.1.map f)) → S1 <+: S' → P (.box S1.length) S') E) : (dLc src g bYes te vs σ S).Wp P E := by
  refine w_lcP (h.mono (fun r S1 ⟨f, hl, hst, step, fin⟩ => ⟨fun _ => true, fun x d => d = f x, hl, hst, fun x S' hx p => (step x S' hx p).mono (fun σ1 S2 q => w_yes ⟨rfl, (fun z => (nomatch z)), (fun _ => q)⟩) fun _ _ _ q => q, fun ds S' he hn p => ?_⟩) fun _ _ _ q => q)
  rw [filter_yes] at he
  exact fin S' (by rw [← Each.map he]; exact hn) p
end
/-! rows: one of each -/
/-- choices that are there -/
def Fit : List Nat → List Nat → Prop
  | [], [] => True
  | p :: ps, s :: ss => p < s ∧ Fit ps ss
  | _, _ => False
theorem Fit.len : ∀ {ps ss : List Nat}, Fit ps ss → ps.length = ss.length
  | [], [], _ => rfl
  | p :: ps, s :: ss, h => congrArg (· + 1) (Fit.len h.2)
  | [], _ :: _, h => h.elim
  | _ :: _, [], h => h.elim
end Mn
set_option Elab.async false
set_option linter.all false
set_option maxRecDepth 100000
set_option maxHeartbeats 4000000
/-! Lo: forms: names, amounts, recipes, works. -/
namespace Mn
open PySem PySem.Spec PyProof.Rows L2
section
variable {α : Type} {σ : Sg} {S : Bxs} {E : Nat → List Dt → Bxs → Prop}
theorem w_isi {T : String} {f : FE} {P : Dt → Bxs → Prop} (h : (f σ S).Wp (fun d S1 => ∃ b, isiD T S1 d = some b ∧ P (.bl b) S1) E) : (dIsi T f σ S).Wp P E := by
  refine w_bind (h.mono (fun d S1 ⟨b, e, q⟩ => ?_) fun _ _ _ q => q)
  rw [e]; exact ⟨q⟩
theorem w_notV {a : FE} {P : Dt → Bxs → Prop} (h : (a σ S).Wp (fun d S1 => ∃ c, d = .bl c ∧ P (.bl (!c)) S1) E) : (dNotV a σ S).Wp P E := by
  refine w_bind (h.mono (fun d S1 ⟨c, e, q⟩ => ?_) fun _ _ _ q => q)
  subst e; exact ⟨q⟩
theorem w_tru {f : FE} {P : Bool → Bxs → Prop} (h : (f σ S).Wp (fun d S1 => ∃ b, truD S1 d = some b ∧ P b S1) E) : (dTru f σ S).Wp P E := by
  refine w_bind (h.mono (fun d S1 ⟨b, e, q⟩ => ?_) fun _ _ _ q => q)
  rw [e]; exact ⟨q⟩
theorem tru_box {n : Nat} {xs : List Dt} (e : S.seq n = some xs) : truD S (.box n) = some (!xs.isEmpty) := by
  show (seqOf S (.box n)).map (fun xs => !xs.isEmpty) = _
  rw [show seqOf S (.box n) = some xs from e]; rfl
end
end Mn
set_option Elab.async false
set_option linter.all false
set_option maxRecDepth 100000
set_option maxHeartbeats 4000000
/-! Lp: recipes, names, works by form. -/
namespace Lw
open PySem PySem.Spec PyProof.Rows L2 Mn
theorem AllB.pos {is : List Int} (h : AllB is) : Pos is := fun i hi => (h i hi).1
/-! names -/
end Lw
set_option Elab.async false
set_option linter.all false
set_option maxRecDepth 100000
set_option maxHeartbeats 4000000
/-! Lq: works by form; recipes put in, taken out. -/
set_option Elab.async false
set_option linter.all false
set_option maxRecDepth 100000
set_option maxHeartbeats 4000000
/-! Ta: k82: bare senders, unit rows, places by names. -/
namespace Mn
open PySem PySem.Spec PyProof.Rows L2
end Mn
namespace Lw
open PySem PySem.Spec PyProof.Rows L2 Mn
section
variable {S : Bxs} {size hl : Nat} {d : Dt} {pl : Int} {as : List Dt}
def bareA (g : Bool) (size hl : Nat) (a : Dt) : Dt := .tup [.int (arrS a), .int (arrT a), if g then iv (lotA a) else iv (List.replicate size 0), if g then iv (List.replicate hl 0) else iv (crewA a)]
theorem zeros_in {n : Nat} : In 0 9 (List.replicate n (0 : Int)) := fun i hi => by rw [(List.mem_replicate.mp hi).2]; decide
theorem Arw.bare {a : Dt} {s t : Int} {lot crew : List Int} (A : Arw pl size hl a s t lot crew) (g : Bool) : Arw pl size hl (bareA g size hl a) s t (if g then lot else List.replicate size 0) (if g then List.replicate hl 0 else crew) := by
  cases g with
  | true => exact ⟨by unfold bareA; rw [A.src, A.tgt, A.lot]; rfl, A.s0, A.s1, A.t0, A.t1, A.ll, List.length_replicate, A.lb, zeros_in⟩
  | false => exact ⟨by unfold bareA; rw [A.src, A.tgt, A.crew]; rfl, A.s0, A.s1, A.t0, A.t1, List.length_replicate, A.cl, zeros_in, A.cb⟩
theorem Snd.bare (A : Snd size hl d pl as) (g : Bool) : Snd size hl (.tup [.int pl, .tup (as.map (bareA g size hl))]) pl (as.map (bareA g size hl)) :=
  ⟨rfl, A.p0, A.p1, by rw [List.length_map]; exact A.al, fun a ha => by obtain ⟨b, hb, rfl⟩ := List.mem_map.mp ha; obtain ⟨s, t, lot, crew, R⟩ := A.ar b hb; exact ⟨s, t, _, _, R.bare g⟩⟩
/-- 1 at a place, 0 elsewhere -/
def unitL (n k : Nat) : List Int := (List.range n).map fun i => if i = k then 1 else 0
theorem unitL_len (n k : Nat) : (unitL n k).length = n := by unfold unitL; rw [List.length_map, List.length_range]
theorem unit_ok {n k : Nat} (hn : n ≤ 1000) : (F_unit_row [.int (n : Int), .int (k : Int)] S).Wp (fun r S' => r = iv (unitL n k) ∧ S <+: S') noX := by
  refine w_body ?_
  unfold B_unit_row
  simp only [startD, List.map_cons, List.map_nil, List.length_cons, List.length_nil, List.cons_append, List.nil_append, Nat.reduceAdd, Nat.reduceSub, List.replicate, List.replicate_succ, List.replicate_zero]
  and_intros
  refine w_lcD ?_
  and_intros
  refine ⟨⟨by show -(2 ^ 62) ≤ (n : Int); omega, by show (n : Int) < 2 ^ 62; omega⟩, fun (d : Dt) => match d with | .int i => if i = (k : Int) then Dt.int 1 else .int 0 | d => d, by rw [rgD_len]; exact Nat.lt_of_le_of_lt (show ((n : Int)).toNat ≤ 1000 by omega) (by decide), fun _ _ => trivial, fun x S' hx p => ?_, fun S' hn p => ?_⟩
  · obtain ⟨j, hj⟩ := List.mem_iff_getElem?.mp hx
    have e := rgD_get hj
    subst e
    and_intros
    refine ⟨fun z => ?_, fun z => ?_⟩
    · have e := of_decide_eq_true z
      and_intros
      exact ⟨show Dt.int 1 = (if 0 + (j : Int) = (k : Int) then Dt.int 1 else .int 0) by rw [if_pos e], List.prefix_refl _⟩
    · have e := of_decide_eq_false z
      and_intros
      exact ⟨show Dt.int 0 = (if 0 + (j : Int) = (k : Int) then Dt.int 1 else .int 0) by rw [if_neg e], List.prefix_refl _⟩
  · and_intros
    refine w_tupB (seq_lst hn) ?_
    refine .inl ⟨_, rfl, ?_, p⟩
    unfold unitL rgD
    show Dt.tup _ = Dt.tup (((List.range n).map fun i => if i = k then (1 : Int) else 0).map Dt.int)
    rw [List.map_map, List.map_map, Int.toNat_natCast]
    congr 1
    refine List.map_congr_left fun i _ => ?_
    show (if 0 + (i : Int) = (k : Int) then Dt.int 1 else .int 0) = Dt.int (if i = k then 1 else 0)
    by_cases e : i = k
    · rw [if_pos e, if_pos (by omega)]
    · rw [if_neg e, if_neg (by omega)]
end
end Lw
set_option Elab.async false
set_option linter.all false
set_option maxRecDepth 100000
set_option maxHeartbeats 4000000
/-! Oa: rules: while, pop, sorted, dicts shown and made by a walk, or by truth. -/
namespace Mn
open PySem PySem.Spec PyProof.Rows L2
section
variable {α : Type} {σ : Sg} {S : Bxs} {E : Nat → List Dt → Bxs → Prop}
theorem wl_more {c : FB} {b : FS} : ∀ {n : Nat} {σ : Sg} {S : Bxs}, wlN c b n σ S ≠ .no → ∀ k, wlN c b (n + k) σ S = wlN c b n σ S
  | 0, _, _, h, _ => absurd rfl h
  | n + 1, σ, S, h, k => by
    have hk : n + 1 + k = (n + k) + 1 := by omega
    rw [hk]
    unfold wlN at h ⊢
    cases e : c σ S with
    | no => rfl
    | ex c ds s => rfl
    | ok v S1 =>
      rw [e] at h
      simp only [Rs.bind_ok] at h ⊢
      cases v with
      | false => rfl
      | true =>
        simp only [if_true] at h ⊢
        cases e2 : b σ S1 with
        | no => rfl
        | ex c ds s => rfl
        | ok r S2 =>
          rw [e2] at h
          simp only [Rs.bind_ok] at h ⊢
          obtain ⟨fl, σ2⟩ := r
          cases fl with
          | nx => exact wl_more h k
          | ct => exact wl_more h k
          | bk => rfl
          | rt d => rfl
theorem wp_ne {r : Rs α} {P : α → Bxs → Prop} (h : r.Wp P E) : r ≠ .no := fun z => by rw [z] at h; exact h.sat
theorem w_whileN {c : FB} {b : FS} {P : Fl × Sg → Bxs → Prop} (n : Nat) (h : (wlN c b n σ S).Wp P E) : (sWhile c b σ S).Wp P E := by
  have hex : ∃ n, wlN c b n σ S ≠ .no := ⟨n, wp_ne h⟩
  have e1 := wl_more hex.choose_spec n
  have e2 := wl_more (wp_ne h) hex.choose
  have : wlN c b hex.choose σ S = wlN c b n σ S := by rw [← e1, ← e2, Nat.add_comm]
  unfold sWhile
  rw [dif_pos hex, this]
  exact h
/-- while, by a statement with a measure -/
theorem w_while {c : FB} {b : FS} {P : Fl × Sg → Bxs → Prop} (I : Nat → Sg → Bxs → Prop)
    (step : ∀ m σ S, I m σ S → (c σ S).Wp (fun k S1 => (k = true → (b σ S1).Wp (fun r S2 => (r.1 = .nx ∧ ∃ m', m' < m ∧ I m' r.2 S2) ∨ (∃ d, r.1 = .rt d ∧ P (.rt d, r.2) S2)) E) ∧ (k = false → P (.nx, σ) S1)) E)
    (m : Nat) (h0 : I m σ S) : (sWhile c b σ S).Wp P E := by
  have go : ∀ (m : Nat) (σ : Sg) (S : Bxs), I m σ S → ∃ n, (wlN c b n σ S).Wp P E := by
    intro m
    induction m using Nat.strongRecOn with
    | _ m ih =>
      intro σ S hI
      have hs := step m σ S hI
      cases e : c σ S with
      | no => rw [e] at hs; exact hs.sat.elim
      | ex c' ds s => exact ⟨1, by unfold wlN; rw [e]; rw [e] at hs; exact ⟨hs.sat⟩⟩
      | ok k S1 =>
        rw [e] at hs
        have hs := hs.sat
        cases k with
        | false => exact ⟨1, by unfold wlN; rw [e]; exact ⟨hs.2 rfl⟩⟩
        | true =>
          have hb := hs.1 rfl
          cases e2 : b σ S1 with
          | no => rw [e2] at hb; exact hb.sat.elim
          | ex c' ds s => exact ⟨1, by unfold wlN; rw [e, Rs.bind_ok, if_pos rfl, e2]; rw [e2] at hb; exact ⟨hb.sat⟩⟩
          | ok r S2 =>
            rw [e2] at hb
            obtain ⟨fl, σ2⟩ := r
            rcases hb.sat with ⟨e3, m', hm, hI'⟩ | ⟨d, e3, q⟩
            · cases e3
              obtain ⟨n, hn⟩ := ih m' hm σ2 S2 hI'
              exact ⟨n + 1, by unfold wlN; rw [e, Rs.bind_ok, if_pos rfl, e2]; exact hn⟩
            · cases e3
              exact ⟨1, by unfold wlN; rw [e, Rs.bind_ok, if_pos rfl, e2]; exact ⟨q⟩⟩
  obtain ⟨n, hn⟩ := go m σ S h0
  exact w_whileN n hn
/-! ### sorted -/
/-! tuples of ints -/
/-! ### dicts -/
end
/-! ### two sorted lists of the same ints -/
end Mn
set_option Elab.async false
set_option linter.all false
set_option maxRecDepth 100000
set_option maxHeartbeats 4000000
/-! Ef: class Equations: what stands in it, the column that enters, the row that leaves. -/
namespace Lw
open PySem PySem.Spec PyProof.Rows L2 Mn Lx
section
variable {S : Bxs} {σ0 : Sg} {E : Nat → List Dt → Bxs → Prop}
theorem w_ixQ {d x : Dt} {xs : List Dt} {i : Int} {P : Dt → Bxs → Prop} (e : seqOf S d = some xs) (a : atI xs i = some x) (h : P x S) : (ixG d (.int i) S).Wp P E := by
  cases d <;> first | (cases e; done) | skip
  · cases e; exact w_ixT a h
  · exact w_ixB e a h
theorem atI_nn {xs : List Dt} {i : Int} {k : Nat} {d : Dt} (e : xs[k]? = some d) (h : i = (k : Int)) : atI xs i = some d := by
  subst h
  have hl := (List.getElem?_eq_some_iff.mp e).1
  unfold atI; rw [ixN_mk (by omega) (by omega)]; exact e
theorem seqOf_stay {S S' : Bxs} {d : Dt} {xs : List Dt} (h : ∀ k, d = .box k → S'[k]? = S[k]?) (e : seqOf S d = some xs) : seqOf S' d = some xs := by
  cases d <;> first | (cases e; done) | skip
  · exact e
  · rename_i n
    have e' : S.seq n = some xs := e
    show S'.seq n = some xs
    unfold Bxs.seq at e' ⊢
    rw [h n rfl]; exact e'
theorem seqOf_lt {d : Dt} {k : Nat} {xs : List Dt} (e : seqOf S d = some xs) (h : d = .box k) : k < S.length := by
  subst h
  have e' : S.seq k = some xs := e
  unfold Bxs.seq at e'
  cases q : S[k]? with
  | none => rw [q] at e'; cases e'
  | some b => exact get_lt q
def BIG : Nat := (10 ^ 100) ^ 4
theorem log_lt {i : Int} (h : i.natAbs < BIG) : i.natAbs.log2 < 2000 := by
  by_cases z : i.natAbs = 0
  · rw [z]; decide
  · rcases Nat.lt_or_ge i.natAbs.log2 2000 with q | q
    · exact q
    · have h1 : 2 ^ i.natAbs.log2 ≤ i.natAbs := Nat.log2_self_le z
      have h2 : (2 ^ 200) ^ 10 ≤ 2 ^ i.natAbs.log2 := by rw [← Nat.pow_mul]; exact Nat.pow_le_pow_right (by decide) q
      have h3 : BIG < (2 ^ 200) ^ 10 := by unfold BIG; decide
      omega
theorem mul_big {i j : Int} (h1 : i.natAbs < BIG) (h2 : j.natAbs < BIG) : mulOk i j := .inr (by
  have a := log_lt h1
  have b := log_lt h2
  unfold CMulW; omega)
theorem div_big {j : Int} (h0 : 0 < j) (h1 : j.natAbs < BIG) : divOk j := ⟨h0, by have := log_lt h1; omega⟩
/-- what is asked of a system -/
structure Okx (n m : Nat) (a : Nat → Nat → Int) : Prop where
  X : Sx n m a
  hn : n ≤ 100
  hm : m ≤ 50
  bd : ∃ C, (∀ j b, j ≤ n + m + 2 → b < m + 2 → (a j b).natAbs ≤ C) ∧ 2 * bdN C (m + 2) < BIG
def eqF (n m : Nat) (D : Int) (sb tb rb : Nat) : List (Str × Dt) := [("_many", .int (n : Int)), ("_size", .int (m : Int)), ("_divisor", .int D), ("_signs", .box sb), ("_told", .box tb), ("_rows", .box rb)]
def rowZ (n m : Nat) (a : Nat → Nat → Int) (told : Nat → Nat) (σ : Int) (i : Nat) : List Int := (List.range (n + m + 1)).map fun j => Rv (m + 2) a told σ i (a j)
def tolZ (m : Nat) (told : Nat → Nat) : List Dt := (List.range m).map fun i => .int (told i : Int)
structure Eqn (S : Bxs) (nb rb tb sb : Nat) (n m : Nat) (a : Nat → Nat → Int) (told : Nat → Nat) (σ D : Int) (sg : List Int) : Prop where
  eo : S[nb]? = some (.obj "Equations" (eqF n m D sb tb rb))
  et : S[tb]? = some (.lst (tolZ m told))
  es : S[sb]? = some (.lst (sg.map Dt.int))
  er : ∃ ds, S[rb]? = some (.lst ds) ∧ ds.length = m + 2 ∧ ∀ i d, ds[i]? = some d → seqOf S d = some ((rowZ n m a told σ i).map Dt.int) ∧ d ≠ .box tb
  ne : sb ≠ tb ∧ rb ≠ tb
variable {nb rb tb sb n m : Nat} {a : Nat → Nat → Int} {told : Nat → Nat} {σ D : Int} {sg : List Int}
theorem rowZ_get {i j : Nat} (h : j ≤ n + m) : (rowZ n m a told σ i)[j]? = some (Rv (m + 2) a told σ i (a j)) := by
  unfold rowZ
  rw [List.getElem?_map, List.getElem?_range (by omega)]; rfl
theorem rowZ_len {i : Nat} : (rowZ n m a told σ i).length = n + m + 1 := by unfold rowZ; rw [List.length_map, List.length_range]
theorem rowZ_end {i : Nat} : atI ((rowZ n m a told σ i).map Dt.int) (-1) = some (.int (Rv (m + 2) a told σ i (a (n + m)))) := by
  have e : (rowZ n m a told σ i).map Dt.int = ((List.range (n + m)).map fun j => Dt.int (Rv (m + 2) a told σ i (a j))) ++ [.int (Rv (m + 2) a told σ i (a (n + m)))] := by
    unfold rowZ
    rw [List.range_succ, List.map_append, List.map_append, List.map_map]; rfl
  rw [e]
  unfold atI ixN
  rw [if_neg (by omega), if_pos (by rw [List.length_append, List.length_map, List.length_range, List.length_singleton]; omega)]
  rw [List.length_append]
  show (_ ++ [_])[((((List.range (n + m)).map fun j => Dt.int (Rv (m + 2) a told σ i (a j))).length + 1 : Nat) + (-1 : Int)).toNat]? = _
  rw [List.getElem?_append_right (by omega)]
  have : ((((List.range (n + m)).map fun j => Dt.int (Rv (m + 2) a told σ i (a j))).length + 1 : Nat) + (-1 : Int)).toNat - ((List.range (n + m)).map fun j => Dt.int (Rv (m + 2) a told σ i (a j))).length = 0 := by omega
  rw [this]; rfl
theorem Eqn.keep {S' : Bxs} (h : Eqn S nb rb tb sb n m a told σ D sg) (k : ∀ k, k < S.length → S'[k]? = S[k]?) : Eqn S' nb rb tb sb n m a told σ D sg where
  eo := by rw [k _ (get_lt h.eo)]; exact h.eo
  et := by rw [k _ (get_lt h.et)]; exact h.et
  es := by rw [k _ (get_lt h.es)]; exact h.es
  er := by
    obtain ⟨ds, e, l, r⟩ := h.er
    exact ⟨ds, by rw [k _ (get_lt e)]; exact e, l, fun i d hd => ⟨seqOf_stay (fun q hq => k q (seqOf_lt (r i d hd).1 hq)) (r i d hd).1, (r i d hd).2⟩⟩
  ne := h.ne
theorem Eqn.pre {S' : Bxs} (h : Eqn S nb rb tb sb n m a told σ D sg) (p : S <+: S') : Eqn S' nb rb tb sb n m a told σ D sg := h.keep fun k hk => get_pre' p hk
/-- a row of it -/
theorem Eqn.row (h : Eqn S nb rb tb sb n m a told σ D sg) {i : Nat} (hi : i < m + 2) : ∃ ds d, S[rb]? = some (.lst ds) ∧ ds.length = m + 2 ∧ ds[i]? = some d ∧ seqOf S d = some ((rowZ n m a told σ i).map Dt.int) := by
  obtain ⟨ds, e, l, r⟩ := h.er
  obtain ⟨d, hd⟩ : ∃ d, ds[i]? = some d := ⟨ds[i]'(by omega), List.getElem?_eq_getElem (by omega)⟩
  exact ⟨ds, d, e, l, hd, (r i d hd).1⟩
theorem tolZ_get {i : Nat} (h : i < m) : (tolZ m told)[i]? = some (.int (told i : Int)) := by
  unfold tolZ
  rw [List.getElem?_map, List.getElem?_range h]; rfl
/-- numbers are not great -/
theorem Okx.big2 (O : Okx n m a) (t : Tab (m + 2) a told σ D) (hl : ∀ i, i < m + 2 → told i ≤ n + m + 2) : 2 * D.natAbs < BIG ∧ ∀ i j, j ≤ n + m + 2 → 2 * (Rv (m + 2) a told σ i (a j)).natAbs < BIG := by
  obtain ⟨C, h1, h2⟩ := O.bd
  have hb : ∀ i b, i < m + 2 → b < m + 2 → (a (told i) b).natAbs ≤ C := fun i b hi hb => h1 _ b (hl i hi) hb
  exact ⟨Nat.lt_of_le_of_lt (Nat.mul_le_mul_left 2 (t.bd hb)) h2, fun i j hj => Nat.lt_of_le_of_lt (Nat.mul_le_mul_left 2 (t.rbd hb fun b hb => h1 j b hj hb)) h2⟩
theorem Okx.big (O : Okx n m a) (t : Tab (m + 2) a told σ D) (hl : ∀ i, i < m + 2 → told i ≤ n + m + 2) : D.natAbs < BIG ∧ ∀ i j, j ≤ n + m + 2 → (Rv (m + 2) a told σ i (a j)).natAbs < BIG := by
  obtain ⟨h1, h2⟩ := O.big2 t hl
  exact ⟨by omega, fun i j hj => by have := h2 i j hj; omega⟩
theorem _root_.Lx.Sp.tle (p : Sp n m a told σ D) : ∀ i, i < m + 2 → told i ≤ n + m + 2 := fun i hi => by
  by_cases q : i < m
  · have := p.tl i q; omega
  · have : i = m ∨ i = m + 1 := by omega
    rcases this with rfl | rfl
    · rw [p.tm]; omega
    · rw [p.tz]; omega
/-- the first column below nothing in the row z -/
theorem entering_ok (h : Eqn S nb rb tb sb n m a told σ D sg) (hn : n ≤ 100) {z : Nat} (hz : z < m + 2) {zi : Int} (ez : zi = (z : Int)) :
    (F_Equations__entering [.box nb, .int zi] S).Wp (fun d S' => S' = S ∧ ((∃ c : Nat, d = .int (c : Int) ∧ c < n ∧ Rv (m + 2) a told σ z (a c) < 0 ∧ ∀ j, j < c → 0 ≤ Rv (m + 2) a told σ z (a j)) ∨
      (d = .non ∧ ∀ j, j < n → 0 ≤ Rv (m + 2) a told σ z (a j)))) noX := by
  subst ez
  obtain ⟨ds, dz, e1, e2, e3, e4⟩ := h.row hz
  refine w_body ?_
  unfold B_Equations__entering
  simp only [startD, List.map_cons, List.map_nil, List.length_cons, List.length_nil, List.cons_append, List.nil_append, Nat.reduceAdd, Nat.reduceSub, List.replicate, List.replicate_succ, List.replicate_zero]
  and_intros
  refine w_fld (w_var rfl ⟨nb, _, _, rfl, h.eo, rfl, ?_⟩)
  and_intros
  refine ⟨⟨by show -(2 ^ 62) ≤ (n : Int); omega, by show (n : Int) < 2 ^ 62; omega⟩, ?_⟩
  refine w_loop (st := fun _ => True) (fun i σ' S' => S' = S ∧ (∃ d2, σ' = [some (.box nb), some (.int (z : Int)), d2]) ∧ ∀ j, j < i → 0 ≤ Rv (m + 2) a told σ z (a j)) (fun _ _ _ _ => trivial) (fun i x σ' S' hx hI => ?_) (fun σ' S' hI => ?_) ⟨rfl, ⟨none, rfl⟩, fun j hj => absurd hj (Nat.not_lt_zero _)⟩
  · obtain ⟨rfl, ⟨d2, rfl⟩, hj⟩ := hI
    have hl := (List.getElem?_eq_some_iff.mp hx).1
    rw [rgD_len] at hl
    have hin : i < n := by omega
    rw [rgD_get hx]
    and_intros
    refine w_fld (w_var rfl ⟨nb, _, _, rfl, h.eo, rfl, ?_⟩)
    and_intros
    refine w_ixB (seq_lst e1) (atI_nn e3 rfl) ?_
    and_intros
    refine w_ixQ e4 (x := .int (Rv (m + 2) a told σ z (a i))) (atI_nn (k := i) (by rw [List.getElem?_map, rowZ_get (by omega)]; rfl) (by omega)) ?_
    and_intros
    refine ⟨fun q => ?_, fun q => ?_⟩
    · have q := of_decide_eq_true q
      and_intros
      refine .inr ⟨_, rfl, c_rt (.inl ⟨_, rfl, rfl, .inl ⟨i, by rw [Int.zero_add], hin, q, hj⟩⟩)⟩
    · have q := of_decide_eq_false q
      and_intros
      refine .inl ⟨rfl, rfl, ⟨_, rfl⟩, fun j h' => ?_⟩
      by_cases e : j = i
      · subst e; omega
      · exact hj j (by omega)
  · obtain ⟨rfl, ⟨d2, rfl⟩, hj⟩ := hI
    refine c_nx ?_
    and_intros
    rw [rgD_len] at hj
    exact .inl ⟨_, rfl, rfl, .inr ⟨rfl, fun j h' => hj j (by omega)⟩⟩
theorem sooner_ok (h : Eqn S nb rb tb sb n m a told σ D sg) (O : Okx n m a) (p : Sp n m a told σ D) {i k c : Nat} (hi : i < m) (hk : k < m) (hc : c < n) :
    (F_Equations__is_sooner [.box nb, .int (i : Int), .int (k : Int), .int (c : Int)] S).Wp (fun d S' => S' = S ∧ ∃ b : Bool, d = .bl b ∧
      (b = true → Rv (m + 2) a told σ i (a (n + m)) * Rv (m + 2) a told σ k (a c) < Rv (m + 2) a told σ k (a (n + m)) * Rv (m + 2) a told σ i (a c) ∨ (Rv (m + 2) a told σ i (a (n + m)) * Rv (m + 2) a told σ k (a c) = Rv (m + 2) a told σ k (a (n + m)) * Rv (m + 2) a told σ i (a c) ∧ told i ≤ told k)) ∧
      (b = false → Rv (m + 2) a told σ k (a (n + m)) * Rv (m + 2) a told σ i (a c) < Rv (m + 2) a told σ i (a (n + m)) * Rv (m + 2) a told σ k (a c) ∨ (Rv (m + 2) a told σ k (a (n + m)) * Rv (m + 2) a told σ i (a c) = Rv (m + 2) a told σ i (a (n + m)) * Rv (m + 2) a told σ k (a c) ∧ told k ≤ told i))) noX := by
  obtain ⟨ds, di, e1, e2, e3, e4⟩ := h.row (show i < m + 2 by omega)
  obtain ⟨ds', dk, e1', e2', e3', e4'⟩ := h.row (show k < m + 2 by omega)
  rw [e1] at e1'; cases e1'
  obtain ⟨bD, bR⟩ := O.big p.t p.tle
  refine w_body ?_
  unfold B_Equations__is_sooner
  simp only [startD, List.map_cons, List.map_nil, List.length_cons, List.length_nil, List.cons_append, List.nil_append, Nat.reduceAdd, Nat.reduceSub, List.replicate, List.replicate_succ, List.replicate_zero]
  and_intros
  refine w_fld (w_var rfl ⟨nb, _, _, rfl, h.eo, rfl, ?_⟩)
  and_intros
  refine w_ixB (seq_lst e1) (atI_nn e3 rfl) ?_
  and_intros
  refine w_ixQ e4 rowZ_end ?_
  and_intros
  refine w_fld (w_var rfl ⟨nb, _, _, rfl, h.eo, rfl, ?_⟩)
  and_intros
  refine w_ixB (seq_lst e1) (atI_nn e3' rfl) ?_
  and_intros
  refine w_ixQ e4' (x := .int (Rv (m + 2) a told σ k (a c))) (atI_nn (k := c) (by rw [List.getElem?_map, rowZ_get (by omega)]; rfl) rfl) ?_
  refine w_mul (mul_big (bR _ _ (by omega)) (bR _ _ (by omega))) ?_
  and_intros
  refine w_fld (w_var rfl ⟨nb, _, _, rfl, h.eo, rfl, ?_⟩)
  and_intros
  refine w_ixB (seq_lst e1) (atI_nn e3' rfl) ?_
  and_intros
  refine w_ixQ e4' rowZ_end ?_
  and_intros
  refine w_fld (w_var rfl ⟨nb, _, _, rfl, h.eo, rfl, ?_⟩)
  and_intros
  refine w_ixB (seq_lst e1) (atI_nn e3 rfl) ?_
  and_intros
  refine w_ixQ e4 (x := .int (Rv (m + 2) a told σ i (a c))) (atI_nn (k := c) (by rw [List.getElem?_map, rowZ_get (by omega)]; rfl) rfl) ?_
  refine w_mul (mul_big (bR _ _ (by omega)) (bR _ _ (by omega))) ?_
  and_intros
  generalize Rv (m + 2) a told σ i (a (n + m)) * Rv (m + 2) a told σ k (a c) = x
  generalize Rv (m + 2) a told σ k (a (n + m)) * Rv (m + 2) a told σ i (a c) = y
  refine ⟨fun q => ?_, fun q => ?_⟩
  · have q := of_decide_eq_true q
    and_intros
    refine w_fld (w_var rfl ⟨nb, _, _, rfl, h.eo, rfl, ?_⟩)
    and_intros
    refine w_ixB (seq_lst h.et) (atI_nn (tolZ_get hi) rfl) ?_
    and_intros
    refine w_fld (w_var rfl ⟨nb, _, _, rfl, h.eo, rfl, ?_⟩)
    and_intros
    refine w_ixB (seq_lst h.et) (atI_nn (tolZ_get hk) rfl) ?_
    and_intros
    refine .inl ⟨_, rfl, trivial, _, rfl, fun g => ?_, fun g => ?_⟩
    · have g := of_decide_eq_true g
      exact .inr ⟨q, by omega⟩
    · have g := of_decide_eq_false g
      exact .inr ⟨q.symm, by omega⟩
  · have q := of_decide_eq_false q
    and_intros
    refine .inl ⟨_, rfl, rfl, _, rfl, fun g => ?_, fun g => ?_⟩
    · exact .inl (of_decide_eq_true g)
    · have g := of_decide_eq_false g
      exact .inl (by omega)
end
end Lw
set_option Elab.async false
set_option linter.all false
set_option maxRecDepth 100000
set_option maxHeartbeats 4000000
/-! Eg: the row that leaves; an exchange. -/
namespace Lw
open PySem PySem.Spec PyProof.Rows L2 Mn Lx
theorem frac_lt' {N D N' D' N'' D'' : Int} (h : 0 < D) (h' : 0 < D') (h'' : 0 < D'') (e : N * D' < N' * D) (e' : N' * D'' ≤ N'' * D') : N * D'' < N'' * D := by
  have a1 := Int.mul_lt_mul_of_pos_right e h''
  have a2 := Int.mul_le_mul_of_nonneg_right e' (Int.le_of_lt h)
  have b1 : N * D' * D'' = D' * (N * D'') := by simp only [Int.mul_assoc, Int.mul_left_comm, Int.mul_comm]
  have b2 : N' * D * D'' = N' * D'' * D := by simp only [Int.mul_assoc, Int.mul_left_comm, Int.mul_comm]
  have b3 : N'' * D' * D = D' * (N'' * D) := by simp only [Int.mul_assoc, Int.mul_left_comm, Int.mul_comm]
  rw [b1, b2] at a1
  rw [b3] at a2
  exact Int.lt_of_mul_lt_mul_left (Int.lt_of_lt_of_le a1 a2) (Int.le_of_lt h')
/-- the lesser fraction, or the same and the lesser place -/
def LV (x w : Int) (t : Nat) (x' w' : Int) (t' : Nat) : Prop := x * w' < x' * w ∨ (x * w' = x' * w ∧ t ≤ t')
theorem LV.refl {x w : Int} {t : Nat} : LV x w t x w t := .inr ⟨rfl, Nat.le_refl _⟩
theorem LV.trans {x w x' w' x'' w'' : Int} {t t' t'' : Nat} (h : 0 < w) (h' : 0 < w') (h'' : 0 < w'') (p : LV x w t x' w' t') (q : LV x' w' t' x'' w'' t'') : LV x w t x'' w'' t'' := by
  rcases p with p | ⟨p, pt⟩
  · rcases q with q | ⟨q, _⟩
    · exact .inl (frac_lt' h h' h'' p (Int.le_of_lt q))
    · exact .inl (frac_lt' h h' h'' p (Int.le_of_eq q))
  · rcases q with q | ⟨q, qt⟩
    · exact .inl (frac_lt h h' h'' (Int.le_of_eq p) q)
    · have e1 := frac_le h h' h'' (Int.le_of_eq p) (Int.le_of_eq q)
      have e2 := frac_le h'' h' h (Int.le_of_eq q.symm) (Int.le_of_eq p.symm)
      exact .inr ⟨by omega, Nat.le_trans pt qt⟩
section
variable {S : Bxs} {nb rb tb sb n m : Nat} {a : Nat → Nat → Int} {told : Nat → Nat} {σ D : Int} {sg : List Int}
theorem leaving_ok (h : Eqn S nb rb tb sb n m a told σ D sg) (O : Okx n m a) (p : Sp n m a told σ D) {c : Nat} (hc : c < n) :
    (F_Equations__leaving [.box nb, .int (c : Int)] S).Wp (fun d S' => S' = S ∧ ((d = .non ∧ ∀ i, i < m → ¬ 0 < Rv (m + 2) a told σ i (a c)) ∨ ∃ r : Nat, d = .int (r : Int) ∧ r < m ∧ 0 < Rv (m + 2) a told σ r (a c) ∧
      ∀ i, i < m → 0 < Rv (m + 2) a told σ i (a c) → LV (Rv (m + 2) a told σ r (a (n + m))) (Rv (m + 2) a told σ r (a c)) (told r) (Rv (m + 2) a told σ i (a (n + m))) (Rv (m + 2) a told σ i (a c)) (told i))) noX := by
  have hm := O.hm
  refine w_body ?_
  unfold B_Equations__leaving
  simp only [startD, List.map_cons, List.map_nil, List.length_cons, List.length_nil, List.cons_append, List.nil_append, Nat.reduceAdd, Nat.reduceSub, List.replicate, List.replicate_succ, List.replicate_zero]
  and_intros
  refine w_fld (w_var rfl ⟨nb, _, _, rfl, h.eo, rfl, ?_⟩)
  and_intros
  refine ⟨⟨by show -(2 ^ 62) ≤ (m : Int); omega, by show (m : Int) < 2 ^ 62; omega⟩, ?_⟩
  refine w_loop (st := fun _ => True) (fun i σ' S' => S' = S ∧ ∃ d d3, σ' = [some (.box nb), some (.int (c : Int)), some d, d3] ∧ ((d = .non ∧ ∀ j, j < i → ¬ 0 < Rv (m + 2) a told σ j (a c)) ∨ ∃ r : Nat, d = .int (r : Int) ∧ r < m ∧ 0 < Rv (m + 2) a told σ r (a c) ∧
      ∀ j, j < i → 0 < Rv (m + 2) a told σ j (a c) → LV (Rv (m + 2) a told σ r (a (n + m))) (Rv (m + 2) a told σ r (a c)) (told r) (Rv (m + 2) a told σ j (a (n + m))) (Rv (m + 2) a told σ j (a c)) (told j))) (fun _ _ _ _ => trivial) (fun i x σ' S' hx hI => ?_) (fun σ' S' hI => ?_) ⟨rfl, _, _, rfl, .inl ⟨rfl, fun j hj => absurd hj (Nat.not_lt_zero _)⟩⟩
  · obtain ⟨rfl, d, d3, rfl, hd⟩ := hI
    have hl := (List.getElem?_eq_some_iff.mp hx).1
    rw [rgD_len] at hl
    have him : i < m := by omega
    obtain ⟨ds, di, e1, e2, e3, e4⟩ := h.row (show i < m + 2 by omega)
    rw [rgD_get hx, Int.zero_add]
    and_intros
    refine w_fld (w_var rfl ⟨nb, _, _, rfl, h.eo, rfl, ?_⟩)
    and_intros
    refine w_ixB (seq_lst e1) (atI_nn e3 rfl) ?_
    and_intros
    refine w_ixQ e4 (x := .int (Rv (m + 2) a told σ i (a c))) (atI_nn (k := c) (by rw [List.getElem?_map, rowZ_get (by omega)]; rfl) rfl) ?_
    and_intros
    refine ⟨fun q => ?_, fun q => ?_⟩
    · have q : 0 < Rv (m + 2) a told σ i (a c) := of_decide_eq_true q
      rcases hd with ⟨rfl, hn⟩ | ⟨r, rfl, hr, hp, hb⟩
      · and_intros
        refine ⟨fun _ => ?_, fun z => nomatch z⟩
        refine ⟨fun _ => ?_, fun z => nomatch z⟩
        and_intros
        refine .inl ⟨rfl, rfl, _, _, rfl, .inr ⟨i, rfl, him, q, fun j hj hjp => ?_⟩⟩
        by_cases ej : j = i
        · subst ej; exact .refl
        · exact absurd hjp (hn j (by omega))
      · and_intros
        refine ⟨(fun z => nomatch z), fun _ => ?_⟩
        refine w_true ?_
        refine w_methC (w_var rfl ⟨nb, _, rfl, h.eo, rfl, ?_⟩)
        and_intros
        refine (sooner_ok h O p him hr hc).mono (fun u S2 ⟨eS, b, eu, h1, h2⟩ => ?_) fun _ _ _ q => q
        subst eS; subst eu
        refine ⟨b, rfl, ?_⟩
        refine ⟨fun hb1 => ?_, fun hb0 => ?_⟩
        · and_intros
          refine .inl ⟨rfl, rfl, _, _, rfl, .inr ⟨i, rfl, him, q, fun j hj hjp => ?_⟩⟩
          by_cases ej : j = i
          · subst ej; exact .refl
          · exact LV.trans q hp hjp (h1 hb1) (hb j (by omega) hjp)
        · and_intros
          refine .inl ⟨rfl, rfl, _, _, rfl, .inr ⟨r, rfl, hr, hp, fun j hj hjp => ?_⟩⟩
          by_cases ej : j = i
          · subst ej; exact h2 hb0
          · exact hb j (by omega) hjp
    · have q : ¬ 0 < Rv (m + 2) a told σ i (a c) := of_decide_eq_false q
      refine ⟨fun z => (nomatch z), fun _ => ?_⟩
      and_intros
      refine .inl ⟨rfl, rfl, _, _, rfl, ?_⟩
      rcases hd with ⟨rfl, hn⟩ | ⟨r, rfl, hr, hp, hb⟩
      · refine .inl ⟨rfl, fun j hj => ?_⟩
        by_cases ej : j = i
        · subst ej; exact q
        · exact hn j (by omega)
      · refine .inr ⟨r, rfl, hr, hp, fun j hj hjp => ?_⟩
        by_cases ej : j = i
        · subst ej; exact absurd hjp q
        · exact hb j (by omega) hjp
  · obtain ⟨rfl, d, d3, rfl, hd⟩ := hI
    refine c_nx ?_
    and_intros
    rw [rgD_len] at hd
    refine .inl ⟨_, rfl, rfl, ?_⟩
    rcases hd with ⟨rfl, hn⟩ | ⟨r, rfl, hr, hp, hb⟩
    · exact .inl ⟨rfl, fun j hj => hn j (by omega)⟩
    · exact .inr ⟨r, rfl, hr, hp, fun j hj hjp => hb j (by omega) hjp⟩
theorem negated_ok {d : Dt} {xs : List Int} (e : seqOf S d = some (xs.map Dt.int)) (hl : xs.length ≤ 1000) : (F_negated [d] S).Wp (fun r S' => r = iv (xs.map fun x => -x) ∧ S <+: S') noX := by
  refine w_body ?_
  unfold B_negated
  simp only [startD, List.map_cons, List.map_nil, List.length_cons, List.length_nil, List.cons_append, List.nil_append, Nat.reduceAdd, Nat.reduceSub, List.replicate, List.replicate_succ, List.replicate_zero]
  and_intros
  refine w_lcD ?_
  and_intros
  refine ⟨_, e, fun (d : Dt) => match d with | .int i => Dt.int (-i) | d => d, by rw [List.length_map]; exact Nat.lt_of_le_of_lt hl (by decide), fun S' p => seqOf_stay (fun k hk => get_pre' p (seqOf_lt e hk)) e, fun x S' hx p => ?_, fun S' hn p => ?_⟩
  · obtain ⟨i, _, rfl⟩ := List.mem_map.mp hx
    and_intros
    exact ⟨rfl, List.prefix_refl _⟩
  · and_intros
    refine w_tupB (seq_lst hn) ?_
    refine .inl ⟨_, rfl, ?_, p⟩
    rw [List.map_map]
    show Dt.tup _ = Dt.tup _
    rw [List.map_map]; rfl
end
end Lw
set_option Elab.async false
set_option linter.all false
set_option maxRecDepth 100000
set_option maxHeartbeats 4000000
/-! Eh: an exchange. -/
namespace Lw
open PySem PySem.Spec PyProof.Rows L2 Mn Lx
section
variable {S : Bxs} {nb rb tb sb n m : Nat} {a : Nat → Nat → Int} {told : Nat → Nat} {σ D : Int} {sg : List Int}
def rowD (N : Nat) (f : Nat → Int) : List Dt := (List.range N).map fun q => Dt.int (f q)
theorem rowZ_D {i : Nat} : (rowZ n m a told σ i).map Dt.int = rowD (n + m + 1) fun q => Rv (m + 2) a told σ i (a q) := by
  unfold rowZ rowD
  rw [List.map_map]; rfl
theorem rowD_len {N : Nat} {f : Nat → Int} : (rowD N f).length = N := by unfold rowD; rw [List.length_map, List.length_range]
theorem rowD_get {N q : Nat} {f : Nat → Int} (h : q < N) : (rowD N f)[q]? = some (.int (f q)) := by
  unfold rowD
  rw [List.getElem?_map, List.getElem?_range h]; rfl
theorem rowD_zip {N : Nat} {f g : Nat → Int} : (rowD N f).zip (rowD N g) = (List.range N).map fun q => (Dt.int (f q), Dt.int (g q)) := by
  unfold rowD
  rw [List.zip_map']
def pvF (F X D : Int) : Dt × Dt → Dt
  | (.int u, .int v) => .int ((u * F - X * v) / D)
  | _ => .non
theorem tolZ_put {r c : Nat} (h : r < m) : (tolZ m told).set r (.int (c : Int)) = tolZ m (put told r c) := by
  refine List.ext_getElem? fun k => ?_
  rw [List.getElem?_set]
  unfold tolZ
  rw [List.length_map, List.length_range]
  by_cases e : r = k
  · subst e
    rw [if_pos rfl, if_pos h, List.getElem?_map, List.getElem?_range h]
    show _ = some (Dt.int ((put told r c r : Nat) : Int))
    rw [put_same]
  · rw [if_neg e]
    by_cases q : k < m
    · rw [List.getElem?_map, List.getElem?_map, List.getElem?_range q]
      show some (Dt.int _) = some (Dt.int ((put told r c k : Nat) : Int))
      rw [put_ne fun z => e z.symm]
    · rw [List.getElem?_eq_none (by rw [List.length_map, List.length_range]; omega), List.getElem?_eq_none (by rw [List.length_map, List.length_range]; omega)]
theorem pivot_ok (h : Eqn S nb rb tb sb n m a told σ D sg) (O : Okx n m a) (t : Tab (m + 2) a told σ D) (tle : ∀ i, i < m + 2 → told i ≤ n + m + 2) {r c : Nat} (hr : r < m) (hc : c < n) {s : Int} (hs : s = 1 ∨ s = -1) (hf : 0 < s * Rv (m + 2) a told σ r (a c)) :
    (F_Equations__pivot [.box nb, .int (r : Int), .int (c : Int)] S).Wp (fun d S' => ∃ rb', Eqn S' nb rb' tb sb n m a (put told r c) (s * σ) (s * Rv (m + 2) a told σ r (a c)) sg ∧ (∀ k, k < S.length → k ≠ nb → k ≠ tb → S'[k]? = S[k]?) ∧ S.length ≤ S'.length) noX := by
  have hn := O.hn
  have hm := O.hm
  obtain ⟨ds, dr, e1, e2, e3, e4⟩ := h.row (show r < m + 2 by omega)
  obtain ⟨bD, bR⟩ := O.big t tle
  have hD := t.pos
  have nbl := get_lt h.eo
  have tbl := get_lt h.et
  have sbl := get_lt h.es
  have rbl := get_lt e1
  have ntb : tb ≠ nb := fun z => by have := h.et; rw [z, h.eo] at this; cases this
  have nsb : sb ≠ nb := fun z => by have := h.es; rw [z, h.eo] at this; cases this
  have nrb : rb ≠ nb := fun z => by rw [z, h.eo] at e1; cases e1
  refine w_body ?_
  unfold B_Equations__pivot
  simp only [startD, List.map_cons, List.map_nil, List.length_cons, List.length_nil, List.cons_append, List.nil_append, Nat.reduceAdd, Nat.reduceSub, List.replicate, List.replicate_succ, List.replicate_zero]
  and_intros
  refine w_fld (w_var rfl ⟨nb, _, _, rfl, h.eo, rfl, ?_⟩)
  and_intros
  refine w_ixB (seq_lst e1) (atI_nn e3 rfl) ?_
  and_intros
  rw [rowZ_D] at e4
  refine w_ixQ e4 (atI_nn (k := c) (rowD_get (by omega)) rfl) ?_
  and_intros
  -- the lead
  have go : ∀ (ld : Dt) (S1 : Bxs), S <+: S1 → seqOf S1 ld = some (rowD (n + m + 1) fun q => s * Rv (m + 2) a told σ r (a q)) → ld ≠ .box tb →
      ((sCons (sSet 4 (dBin ixG (dVar 3) (dVar 2))) (sCons (sSet 5 (dLst (aNil))) (sCons (sFor (srcSeq (dFld "Equations" (dVar 0) "_rows")) (tName 6) (sCons (sSet 7 (dBin ixG (dVar 6) (dVar 2))) (sExpr (dMeth "list" appendG (dVar 5) (aCons (dLc (srcZip (aCons (dVar 6) (aCons (dVar 3) (aNil)))) (tPairG (tConsG (tName 8) (tConsG (tName 9) (tNilG)))) (bYes) (dBin fdivG (dBin subG (dBin mulG (dVar 8) (dVar 4)) (dBin mulG (dVar 7) (dVar 9))) (dFld "Equations" (dVar 0) "_divisor")) [8, 9]) (aNil)))))) (sCons (sAsg (dVar 3) (tSubG (dVar 5) (dVar 1))) (sCons (sFldD "Equations" (dVar 0) (dVar 5) "_rows") (sCons (sFldD "Equations" (dVar 0) (dVar 4) "_divisor") (sAsg (dVar 2) (tSubG (dFld "Equations" (dVar 0) "_told") (dVar 1))))))))) [some (.box nb), some (.int (r : Int)), some (.int (c : Int)), some ld, none, none, none, none, none, none] S1).Wp (fun r1 S2 => (∃ d, r1.1 = .rt d ∧ ∃ rb', Eqn S2 nb rb' tb sb n m a (put told r c) (s * σ) (s * Rv (m + 2) a told σ r (a c)) sg ∧ (∀ k, k < S.length → k ≠ nb → k ≠ tb → S2[k]? = S[k]?) ∧ S.length ≤ S2.length) ∨
        (r1.1 = .nx ∧ ∃ rb', Eqn S2 nb rb' tb sb n m a (put told r c) (s * σ) (s * Rv (m + 2) a told σ r (a c)) sg ∧ (∀ k, k < S.length → k ≠ nb → k ≠ tb → S2[k]? = S[k]?) ∧ S.length ≤ S2.length)) noX := by
    intro ld S1 p1 eL lt
    have l1 := p1.length_le
    and_intros
    refine w_ixQ eL (atI_nn (k := c) (rowD_get (by omega)) rfl) ?_
    and_intros
    have px := List.prefix_append S1 [MBox.lst []]
    have eX : (S1 ++ [MBox.lst []])[S1.length]? = some (.lst []) := get_last
    have eL2 := seqOf_stay (fun k hk => get_pre' px (seqOf_lt eL hk)) eL
    have hx2 := h.pre (p1.trans px)
    have g2 : ∀ k, k < S.length → (S1 ++ [MBox.lst []])[k]? = S[k]? := fun k hk => by rw [get_pre' px (by omega), get_pre' p1 hk]
    have lX := get_lt eX
    have eLx : ld ≠ .box S1.length := fun z => absurd (seqOf_lt eL z) (Nat.lt_irrefl _)
    generalize S1 ++ [MBox.lst []] = S2 at px eX eL2 hx2 g2 lX ⊢
    generalize S1.length = xb at px eX l1 lX eLx ⊢
    obtain ⟨es0, eds, elen, erow⟩ := hx2.er
    refine w_fld (w_var rfl ⟨nb, _, _, rfl, hx2.eo, rfl, ?_⟩)
    refine ⟨_, seq_lst eds, ?_⟩
    refine w_loop (fun i σ' S' => (∃ d6 d7 d8 d9, σ' = [some (.box nb), some (.int (r : Int)), some (.int (c : Int)), some ld, some (.int (s * Rv (m + 2) a told σ r (a c))), some (.box xb), d6, d7, d8, d9]) ∧ S2.length ≤ S'.length ∧ (∀ k, k < S2.length → k ≠ xb → S'[k]? = S2[k]?) ∧
        ∃ es, S'[xb]? = some (.lst es) ∧ es.length = i ∧ ∀ j e, es[j]? = some e → ∃ k, e = .box k ∧ S2.length ≤ k ∧ S'[k]? = some (.lst (rowD (n + m + 1) fun q => if j = r then 0 else Rv (m + 2) a (put told r c) (s * σ) j (a q)))) (fun i σ' S' hI => ?_) (fun i x σ' S' hx hI => ?_) (fun σ' S' hI => ?_) ⟨⟨_, _, _, _, rfl⟩, Nat.le_refl _, (fun _ _ _ => rfl), [], eX, rfl, (fun j e hj => by simp at hj)⟩
    · show S'.seq rb = some es0
      exact seq_lst (by rw [hI.2.2.1 rb (get_lt eds) (by omega)]; exact eds)
    · obtain ⟨⟨d6, d7, d8, d9, rfl⟩, lS, fS, es, eE, elE, ee⟩ := hI
      have hx : es0[i]? = some x := hx
      have him : i < m + 2 := by have := (List.getElem?_eq_some_iff.mp hx).1; omega
      have eRow := (erow i x hx).1
      rw [rowZ_D] at eRow
      have nX : x ≠ .box xb := fun z => by
        have q := (erow i x hx).1
        rw [z] at q
        have q' : S2.seq xb = _ := q
        rw [seq_lst eX, rowZ_D] at q'
        have := congrArg (fun o => (o.getD []).length) q'
        simp [rowD_len] at this
      have eRow' := seqOf_stay (fun k hk => fS k (seqOf_lt eRow hk) (fun z => nX (hk ▸ z ▸ rfl))) eRow
      have eL3 := seqOf_stay (fun k hk => fS k (seqOf_lt eL2 hk) (fun z => eLx (hk ▸ z ▸ rfl))) eL2
      have hx3eo : S'[nb]? = _ := (fS nb (get_lt hx2.eo) (by omega)).trans hx2.eo
      and_intros
      refine w_ixQ eRow' (atI_nn (k := c) (rowD_get (by omega)) rfl) ?_
      and_intros
      refine ⟨ty_list eE, ?_⟩
      refine w_consA ?_
      refine w_lcD ?_
      and_intros
      refine ⟨_, _, _, _, rfl, eRow', eL3, pvF (s * Rv (m + 2) a told σ r (a c)) (Rv (m + 2) a told σ i (a c)) D, ?_, fun S3 p3 => ?_, fun x3 S3 hx3 p3 => ?_, fun S3 hn3 p3 => ?_⟩
      · rw [rowD_zip, List.length_map, List.length_range]
        exact Nat.lt_of_le_of_lt (show n + m + 1 ≤ 1000 by omega) (by decide)
      · exact ⟨seqOf_stay (fun k hk => get_pre' p3 (seqOf_lt eRow' hk)) eRow', seqOf_stay (fun k hk => get_pre' p3 (seqOf_lt eL3 hk)) eL3⟩
      · rw [rowD_zip] at hx3
        obtain ⟨q, hq, rfl⟩ := List.mem_map.mp hx3
        have hq := List.mem_range.mp hq
        have sm : ∀ z : Int, (s * z).natAbs = z.natAbs := fun z => by
          rw [Int.natAbs_mul]
          rcases hs with rfl | rfl <;> simp
        and_intros
        refine w_mul (mul_big (bR _ _ (by omega)) (by rw [sm]; exact bR _ _ (by omega))) ?_
        and_intros
        refine w_mul (mul_big (bR _ _ (by omega)) (by rw [sm]; exact bR _ _ (by omega))) ?_
        and_intros
        refine w_fld (w_var rfl ⟨nb, _, _, rfl, by rw [get_pre' p3 (get_lt hx3eo)]; exact hx3eo, rfl, ?_⟩)
        refine w_fdiv (div_big hD bD) ?_
        exact ⟨rfl, List.prefix_refl _⟩
      · rw [rowD_zip] at hn3
        have xl := get_lt eE
        refine w_nil ?_
        refine w_append (lst_of (by rw [get_pre' p3 xl]; exact eE)) (by rw [elE]; exact Nat.lt_of_lt_of_le him (Nat.le_trans (show m + 2 ≤ 1000 by omega) (by decide))) ?_
        have hk : S'.length ≠ xb := by omega
        have hl3 : S'.length < S3.length := get_lt hn3
        refine .inl ⟨rfl, ⟨_, _, _, _, rfl⟩, by rw [List.length_set]; omega, fun k hk1 hk2 => by rw [List.getElem?_set_ne (fun z => hk2 z.symm), get_pre' p3 (by omega)]; exact fS k hk1 hk2, es ++ [.box S'.length], List.getElem?_set_self (by omega), by rw [List.length_append, elE]; rfl, fun j e hj => ?_⟩
        by_cases ej : j < es.length
        · rw [List.getElem?_append_left ej] at hj
          obtain ⟨k, ek, hk1, hk2⟩ := ee j e hj
          exact ⟨k, ek, hk1, by rw [List.getElem?_set_ne (by omega), get_pre' p3 (get_lt hk2)]; exact hk2⟩
        · have ej' : j = es.length := by
            have := (List.getElem?_eq_some_iff.mp hj).1
            rw [List.length_append] at this
            simp at this; omega
          subst ej'
          rw [List.getElem?_append_right (Nat.le_refl _), Nat.sub_self] at hj
          have hj : e = .box S'.length := (Option.some.inj hj).symm
          refine ⟨_, hj, lS, ?_⟩
          rw [List.getElem?_set_ne (fun z => hk z.symm), hn3, List.map_map]
          unfold rowD
          congr 2
          refine List.map_congr_left fun q hq => ?_
          show pvF _ _ D (Dt.int (Rv (m + 2) a told σ i (a q)), Dt.int (s * Rv (m + 2) a told σ r (a q))) = _
          show Dt.int ((Rv (m + 2) a told σ i (a q) * (s * Rv (m + 2) a told σ r (a c)) - Rv (m + 2) a told σ i (a c) * (s * Rv (m + 2) a told σ r (a q))) / D) = _
          rw [elE]
          show _ = Dt.int (if i = r then 0 else Rv (m + 2) a (put told r c) (s * σ) i (a q))
          by_cases er : i = r
          · rw [if_pos er, er]
            have : Rv (m + 2) a told σ r (a q) * (s * Rv (m + 2) a told σ r (a c)) - Rv (m + 2) a told σ r (a c) * (s * Rv (m + 2) a told σ r (a q)) = 0 := by
              have e : Rv (m + 2) a told σ r (a q) * (s * Rv (m + 2) a told σ r (a c)) = Rv (m + 2) a told σ r (a c) * (s * Rv (m + 2) a told σ r (a q)) := by simp only [Int.mul_assoc, Int.mul_left_comm, Int.mul_comm]
              rw [e, Int.sub_self]
            rw [this, Int.zero_ediv]
          · rw [if_neg er]
            have e := t.rv (r := r) (c := c) (i := i) (by omega) him er s (a q)
            have e' : Rv (m + 2) a told σ i (a q) * (s * Rv (m + 2) a told σ r (a c)) - Rv (m + 2) a told σ i (a c) * (s * Rv (m + 2) a told σ r (a q)) = D * Rv (m + 2) a (put told r c) (s * σ) i (a q) := by
              rw [e, Int.mul_sub]
              congr 1
              · simp only [Int.mul_assoc, Int.mul_left_comm, Int.mul_comm]
              · simp only [Int.mul_assoc, Int.mul_left_comm, Int.mul_comm]
            rw [e', Int.mul_ediv_cancel_left _ (by omega)]
    · obtain ⟨⟨d6, d7, d8, d9, rfl⟩, lS, fS, es, eE, elE, ee⟩ := hI
      have elE : es.length = m + 2 := elE.trans elen
      refine c_nx ?_
      and_intros
      have xl := get_lt eE
      refine w_setG (lst_of eE) (j := r) (by rw [elE]; exact (ixN_mk (by omega) (by omega)).trans (by simp)) ?_
      have hx3eo : S'[nb]? = _ := (fS nb (get_lt hx2.eo) (by omega)).trans hx2.eo
      have hx3et : S'[tb]? = _ := (fS tb (get_lt hx2.et) (by omega)).trans hx2.et
      have hx3es : S'[sb]? = _ := (fS sb (get_lt hx2.es) (by omega)).trans hx2.es
      have eL3 := seqOf_stay (fun k hk => fS k (seqOf_lt eL2 hk) (fun z => eLx (hk ▸ z ▸ rfl))) eL2
      have nbx : nb ≠ xb := by omega
      have tbx : tb ≠ xb := by omega
      have sbx : sb ≠ xb := by omega
      refine c_nx ?_
      refine w_cons ?_
      refine w_sfld (w_var rfl (w_var rfl ⟨nb, _, rfl, (by rw [List.getElem?_set_ne (fun z => nbx z.symm)]; exact hx3eo), Nat.le_of_ble_eq_true (by rfl), ?_⟩))
      refine c_nx ?_
      refine w_cons ?_
      refine w_sfld (w_var rfl (w_var rfl ⟨nb, _, rfl, List.getElem?_set_self (by rw [List.length_set]; omega), Nat.le_of_ble_eq_true (by rfl), ?_⟩))
      refine c_nx ?_
      refine w_asg ?_
      refine w_var rfl ?_
      refine w_tSub ?_
      refine w_fld (w_var rfl ⟨nb, _, _, rfl, List.getElem?_set_self (by rw [List.length_set, List.length_set]; omega), rfl, ?_⟩)
      refine w_var rfl ?_
      refine w_setG (lst_of (by rw [List.getElem?_set_ne (fun z => ntb z.symm), List.getElem?_set_ne (fun z => ntb z.symm), List.getElem?_set_ne (fun z => tbx z.symm)]; exact hx3et)) (j := r) (by unfold tolZ; rw [List.length_map, List.length_range]; exact (ixN_mk (by omega) (by omega)).trans (by simp)) ?_
      rw [tolZ_put hr]
      refine .inr ⟨rfl, xb, ⟨?_, ?_, ?_, ⟨es.set r ld, ?_, by rw [List.length_set]; exact elE, fun i d hd => ?_⟩, h.ne.1, fun z => tbx z.symm⟩, fun k hk1 hk2 hk3 => ?_, ?_⟩
      · rw [List.getElem?_set_ne ntb, List.getElem?_set_self (by rw [List.length_set, List.length_set]; omega)]; rfl
      · rw [List.getElem?_set_self (by rw [List.length_set, List.length_set, List.length_set]; omega)]
      · rw [List.getElem?_set_ne (fun z => h.ne.1 z.symm), List.getElem?_set_ne (fun z => nsb z.symm), List.getElem?_set_ne (fun z => nsb z.symm), List.getElem?_set_ne (fun z => sbx z.symm)]; exact hx3es
      · rw [List.getElem?_set_ne tbx, List.getElem?_set_ne nbx, List.getElem?_set_ne nbx, List.getElem?_set_self xl]
      · have stay : ∀ (b1 b2 b3 b4 : MBox) (k : Nat), k ≠ xb → k ≠ nb → k ≠ tb → ((((S'.set xb b1).set nb b2).set nb b3).set tb b4)[k]? = S'[k]? := fun b1 b2 b3 b4 k h1 h2 h3 => by
          rw [List.getElem?_set_ne (fun z => h3 z.symm), List.getElem?_set_ne (fun z => h2 z.symm), List.getElem?_set_ne (fun z => h2 z.symm), List.getElem?_set_ne (fun z => h1 z.symm)]
        rw [List.getElem?_set] at hd
        by_cases ei : r = i
        · subst ei
          rw [if_pos rfl, if_pos (by omega)] at hd
          have hd : ld = d := Option.some.inj hd
          subst hd
          refine ⟨?_, lt⟩
          have ez : (rowZ n m a (put told r c) (s * σ) r).map Dt.int = rowD (n + m + 1) fun q => s * Rv (m + 2) a told σ r (a q) := by
            rw [rowZ_D]
            unfold rowD
            refine List.map_congr_left fun q _ => ?_
            show Dt.int (Rv (m + 2) a (put told r c) (s * σ) r (a q)) = _
            rw [Rv_row]
          rw [ez]
          refine seqOf_stay (fun k hk => stay _ _ _ _ k (fun z => eLx (hk ▸ z ▸ rfl)) (fun z => ?_) (fun z => lt (hk ▸ z ▸ rfl))) eL3
          rw [hk, z] at eL3
          have q : S'.seq nb = _ := eL3
          unfold Bxs.seq at q
          rw [hx3eo] at q
          cases q
        · rw [if_neg ei] at hd
          obtain ⟨k, ek, hk1, hk2⟩ := ee i d hd
          have hl2 := px.length_le
          have hb2 := get_lt hx2.eo
          have hb3 := get_lt hx2.et
          refine ⟨?_, fun z => by rw [ek] at z; have := Dt.box.inj z; omega⟩
          rw [ek]
          have ez : (rowZ n m a (put told r c) (s * σ) i).map Dt.int = rowD (n + m + 1) fun q => if i = r then 0 else Rv (m + 2) a (put told r c) (s * σ) i (a q) := by
            rw [rowZ_D]
            unfold rowD
            refine List.map_congr_left fun q _ => ?_
            show _ = Dt.int (if i = r then 0 else Rv (m + 2) a (put told r c) (s * σ) i (a q))
            rw [if_neg fun (z : i = r) => ei z.symm]
          rw [ez]
          exact seq_lst ((stay _ _ _ _ k (by have := get_lt eX; omega) (by omega) (by omega)).trans hk2)
      · have hk4 : k ≠ xb := by omega
        rw [List.getElem?_set_ne (fun z => hk3 z.symm), List.getElem?_set_ne (fun z => hk2 z.symm), List.getElem?_set_ne (fun z => hk2 z.symm), List.getElem?_set_ne (fun z => hk4 z.symm)]
        rw [fS k (by have := px.length_le; omega) hk4]
        exact g2 k hk1
      · rw [List.length_set, List.length_set, List.length_set, List.length_set]
        have := px.length_le
        omega
  refine ⟨fun q => ?_, fun q => ?_⟩
  · have q : Rv (m + 2) a told σ r (a c) < 0 := of_decide_eq_true q
    have es : s = -1 := by
      rcases hs with rfl | rfl
      · omega
      · rfl
    and_intros
    refine (negated_ok (xs := rowZ n m a told σ r) (by rw [rowZ_D]; exact e4) (by rw [rowZ_len]; omega)).mono (fun u S1 ⟨eu, p1⟩ => ?_) fun _ _ _ q => q
    subst eu
    refine c_nx ?_
    have e5 : seqOf S1 (iv ((rowZ n m a told σ r).map fun x => -x)) = some (rowD (n + m + 1) fun q => s * Rv (m + 2) a told σ r (a q)) := by
      show some (((rowZ n m a told σ r).map fun x => -x).map Dt.int) = _
      unfold rowZ rowD
      rw [List.map_map, List.map_map, es]
      congr 1
      refine List.map_congr_left fun q _ => ?_
      show Dt.int (-_) = Dt.int (-1 * _)
      rw [Int.neg_one_mul]
    exact go _ S1 p1 e5 (fun z => nomatch z)
  · have q : ¬ Rv (m + 2) a told σ r (a c) < 0 := of_decide_eq_false q
    have es : s = 1 := by
      rcases hs with rfl | rfl
      · rfl
      · omega
    refine w_sNil ?_
    refine c_nx ?_
    have e5 : seqOf S dr = some (rowD (n + m + 1) fun q => s * Rv (m + 2) a told σ r (a q)) := by
      rw [e4, es]
      unfold rowD
      congr 1
      refine List.map_congr_left fun q _ => ?_
      show Dt.int _ = Dt.int (1 * _)
      rw [Int.one_mul]
    obtain ⟨ds', e1', _, er'⟩ := h.er
    rw [e1] at e1'; cases e1'
    exact go dr S (List.prefix_refl _) e5 (er' r dr e3).2
end
end Lw
set_option Elab.async false
set_option linter.all false
set_option maxRecDepth 100000
set_option maxHeartbeats 4000000
/-! Ei: Equations: lowering a row to its end; reach. -/
namespace Lw
open PySem PySem.Spec PyProof.Rows L2 Mn Lx
/-- what a call leaves as it was -/
def Fq (nb tb : Nat) (S S' : Bxs) : Prop := (∀ k, k < S.length → k ≠ nb → k ≠ tb → S'[k]? = S[k]?) ∧ S.length ≤ S'.length
theorem Fq.refl {nb tb : Nat} {S : Bxs} : Fq nb tb S S := ⟨fun _ _ _ _ => rfl, Nat.le_refl _⟩
theorem Fq.trans {nb tb : Nat} {S S' S'' : Bxs} (h : Fq nb tb S S') (k : Fq nb tb S' S'') : Fq nb tb S S'' :=
  ⟨fun j h1 h2 h3 => (k.1 j (Nat.lt_of_lt_of_le h1 h.2) h2 h3).trans (h.1 j h1 h2 h3), Nat.le_trans h.2 k.2⟩
theorem Fq.pre {nb tb : Nat} {S S' : Bxs} (p : S <+: S') : Fq nb tb S S' := ⟨fun j h1 _ _ => get_pre' p h1, p.length_le⟩
section
variable {S : Bxs} {nb rb tb sb n m : Nat} {a : Nat → Nat → Int} {told : Nat → Nat} {σ D : Int} {sg : List Int}
/-- a chain that starts at told -/
def Way (n m : Nat) (a : Nat → Nat → Int) (z : Nat) (σ : Int) (told : Nat → Nat) (D : Int) (told' : Nat → Nat) (D' : Int) : Prop :=
  ∃ tld dv L, Chn n m a z σ tld dv L ∧ tld 0 = told ∧ dv 0 = D ∧ tld L = told' ∧ dv L = D'
def Ends (n m : Nat) (a : Nat → Nat → Int) (z : Nat) (σ : Int) (told : Nat → Nat) : Prop := ∀ j, j < n → 0 ≤ Rv (m + 2) a told σ z (a j)
theorem lower_ok (h : Eqn S nb rb tb sb n m a told σ D sg) (O : Okx n m a) (p : Sp n m a told σ D) {z : Nat} (hz : z = m ∨ z = m + 1)
    (some : ∀ told' D', Sp n m a told' σ D' → ∀ c, c < n → Rv (m + 2) a told' σ z (a c) < 0 → ∃ i, i < m ∧ 0 < Rv (m + 2) a told' σ i (a c)) {zi : Int} (ez : zi = (z : Int)) :
    (F_Equations__lower [.box nb, .int zi] S).Wp (fun d S' => d = .non ∧ ∃ rb' told' D', Eqn S' nb rb' tb sb n m a told' σ D' sg ∧ Way n m a z σ told D told' D' ∧ Ends n m a z σ told' ∧ Fq nb tb S S') noX := by
  subst ez
  have hn := O.hn
  have hm := O.hm
  have hzl : z < m + 2 := by omega
  refine w_body ?_
  unfold B_Equations__lower
  simp only [startD, List.map_cons, List.map_nil, List.length_cons, List.length_nil, List.cons_append, List.nil_append, Nat.reduceAdd, Nat.reduceSub, List.replicate, List.replicate_succ, List.replicate_zero]
  refine w_cons (w_set ?_)
  refine w_methC (w_var rfl ⟨nb, _, rfl, h.eo, rfl, ?_⟩)
  and_intros
  refine (entering_ok h hn hzl rfl).mono (fun u S1 ⟨eS, hu⟩ => ?_) fun _ _ _ q => q
  subst eS
  refine c_nx ?_
  refine w_while (fun k σ' S' => ∃ u rb' tld dv L, σ' = [Option.some (.box nb), Option.some (.int (z : Int)), Option.some u] ∧ Chn n m a z σ tld dv L ∧ tld 0 = told ∧ dv 0 = D ∧ Eqn S' nb rb' tb sb n m a (tld L) σ (dv L) sg ∧ Fq nb tb S1 S' ∧ k + L = (n + m) ^ m ∧
      ((∃ c : Nat, u = .int (c : Int) ∧ c < n ∧ Rv (m + 2) a (tld L) σ z (a c) < 0 ∧ ∀ j, j < c → 0 ≤ Rv (m + 2) a (tld L) σ z (a j)) ∨ (u = .non ∧ ∀ j, j < n → 0 ≤ Rv (m + 2) a (tld L) σ z (a j))))
    (fun k σ' S' ⟨u, rb', tld, dv, L, eσ, C, e0, eD, hq, fq, ek, hu⟩ => ?_) ((n + m) ^ m) ⟨u, rb, _, _, 0, rfl, Chn.nil hz p, rfl, rfl, h, .refl, rfl, hu⟩
  subst eσ
  and_intros
  rcases hu with ⟨c, rfl, hc, hneg, hlo⟩ | ⟨rfl, hen⟩
  · refine ⟨fun _ => ?_, fun z => nomatch z⟩
    have pL := C.sp L (Nat.le_refl L)
    obtain ⟨i0, hi0, hp0⟩ := some _ _ pL c hc hneg
    refine w_cons (w_expr ?_)
    refine w_methC (w_var rfl ⟨nb, _, rfl, hq.eo, rfl, ?_⟩)
    refine w_consA ?_
    refine w_methC (w_var rfl ⟨nb, _, rfl, hq.eo, rfl, ?_⟩)
    and_intros
    refine (leaving_ok hq O pL hc).mono (fun v S2 ⟨eS, hv⟩ => ?_) fun _ _ _ q => q
    subst eS
    rcases hv with ⟨rfl, hno⟩ | ⟨r, rfl, hr, hpos, hlv⟩
    · exact absurd hp0 (hno i0 hi0)
    and_intros
    have st : Stp n m a z (tld L) (put (tld L) r c) σ (Rv (m + 2) a (tld L) σ r (a c)) r c := ⟨hr, hc, rfl, rfl, hneg, hlo, hpos, hlv⟩
    refine (pivot_ok hq O pL.t pL.tle hr hc (s := 1) (.inl rfl) (by rw [Int.one_mul]; exact hpos)).mono (fun w S3 ⟨rb3, h3, f3⟩ => ?_) fun _ _ _ q => q
    rw [Int.one_mul, Int.one_mul] at h3
    refine c_nx ?_
    refine w_set ?_
    refine w_methC (w_var rfl ⟨nb, _, rfl, h3.eo, rfl, ?_⟩)
    and_intros
    refine (entering_ok h3 hn hzl rfl).mono (fun u' S4 ⟨eS, hu'⟩ => ?_) fun _ _ _ q => q
    subst eS
    have C' := C.more st
    have sh := C'.short
    have e1 : (if L + 1 ≤ L then tld (L + 1) else put (tld L) r c) = put (tld L) r c := if_neg (by omega)
    have e2 : (if L + 1 ≤ L then dv (L + 1) else Rv (m + 2) a (tld L) σ r (a c)) = Rv (m + 2) a (tld L) σ r (a c) := if_neg (by omega)
    refine .inl ⟨rfl, k - 1, by omega, u', rb3, _, _, L + 1, rfl, C', ?_, ?_, ?_, fq.trans f3, by omega, ?_⟩
    · show (if 0 ≤ L then tld 0 else _) = told
      rw [if_pos (Nat.zero_le L)]; exact e0
    · show (if 0 ≤ L then dv 0 else _) = D
      rw [if_pos (Nat.zero_le L)]; exact eD
    · simp only [e1, e2]; exact h3
    · simp only [e1]; exact hu'
  · refine ⟨fun z => (nomatch z), fun _ => ?_⟩
    exact .inr ⟨rfl, trivial, rb', tld L, dv L, hq, ⟨tld, dv, L, C, e0, eD, rfl, rfl⟩, hen, fq⟩
theorem Way.sp {z : Nat} {told' : Nat → Nat} {D' : Int} (w : Way n m a z σ told D told' D') : Sp n m a told' σ D' := by
  obtain ⟨tld, dv, L, C, _, _, e1, e2⟩ := w
  rw [← e1, ← e2]; exact C.sp L (Nat.le_refl L)
/-- one exchange follows from the other's rule -/
theorem _root_.Lx.Stp.same {z : Nat} {t1 t2 : Nat → Nat} {D1 D2 : Int} {r1 c1 r2 c2 : Nat} (p : Sp n m a told σ D) (s1 : Stp n m a z told t1 σ D1 r1 c1) (s2 : Stp n m a z told t2 σ D2 r2 c2) : t1 = t2 ∧ D1 = D2 := by
  have ec : c1 = c2 := by
    rcases Nat.lt_trichotomy c1 c2 with h | h | h
    · have := s2.lo c1 h; have := s1.en; omega
    · exact h
    · have := s1.lo c2 h; have := s2.en; omega
  subst ec
  have er : r1 = r2 := by
    have a1 := s1.lv r2 s2.hr s2.po
    have a2 := s2.lv r1 s1.hr s1.po
    have : told r1 = told r2 := by
      rcases a1 with a1 | ⟨a1, b1⟩
      · rcases a2 with a2 | ⟨a2, b2⟩ <;> omega
      · rcases a2 with a2 | ⟨a2, b2⟩
        · omega
        · omega
    exact p.t.one (by have := s2.hr; omega) (by have := s1.hr; omega) this
  subst er
  exact ⟨s1.et.trans s2.et.symm, s1.eD.trans s2.eD.symm⟩
/-- two ways to the end are one -/
theorem Way.same {z : Nat} {t1 t2 : Nat → Nat} {D1 D2 : Int} (w1 : Way n m a z σ told D t1 D1) (w2 : Way n m a z σ told D t2 D2) (e1 : Ends n m a z σ t1) (e2 : Ends n m a z σ t2) : t1 = t2 ∧ D1 = D2 := by
  obtain ⟨x1, d1, L1, C1, a1, b1, g1, k1⟩ := w1
  obtain ⟨x2, d2, L2, C2, a2, b2, g2, k2⟩ := w2
  have key : ∀ t, t ≤ L1 → t ≤ L2 → x1 t = x2 t ∧ d1 t = d2 t := by
    intro t
    induction t with
    | zero => intro _ _; exact ⟨a1.trans a2.symm, b1.trans b2.symm⟩
    | succ t ih =>
      intro h1 h2
      obtain ⟨i1, i2⟩ := ih (by omega) (by omega)
      obtain ⟨r, c, s⟩ := C1.st t (by omega)
      obtain ⟨r', c', s'⟩ := C2.st t (by omega)
      rw [← i1] at s'
      exact s.same (C1.sp t (by omega)) s'
  have stop : ∀ {x : Nat → Nat → Nat} {d : Nat → Int} {L : Nat} (C : Chn n m a z σ x d L) (t : Nat), t < L → ¬ Ends n m a z σ (x t) := fun C t ht e => by
    obtain ⟨r, c, s⟩ := C.st t ht
    have := e c s.hc
    have := s.en
    omega
  rcases Nat.lt_trichotomy L1 L2 with h | h | h
  · obtain ⟨i1, _⟩ := key L1 (Nat.le_refl _) (by omega)
    exact absurd (by rw [← i1, g1]; exact e1) (stop C2 L1 h)
  · subst h
    obtain ⟨i1, i2⟩ := key L1 (Nat.le_refl _) (Nat.le_refl _)
    exact ⟨by rw [← g1, ← g2, i1], by rw [← k1, ← k2, i2]⟩
  · obtain ⟨i1, _⟩ := key L2 (by omega) (Nat.le_refl _)
    exact absurd (by rw [i1, g2]; exact e2) (stop C1 L2 h)
theorem reach_ok (h : Eqn S nb rb tb sb n m a told σ D sg) (O : Okx n m a) (p : Sp n m a told σ D) :
    (F_Equations_reach [.box nb] S).Wp (fun d S' => ∃ rb' told' D', d = .bl (decide (Rv (m + 2) a told' σ (m + 1) (a (n + m)) = 0)) ∧ Eqn S' nb rb' tb sb n m a told' σ D' sg ∧ Way n m a (m + 1) σ told D told' D' ∧ Ends n m a (m + 1) σ told' ∧ Fq nb tb S S') noX := by
  refine w_body ?_
  unfold B_Equations_reach
  simp only [startD, List.map_cons, List.map_nil, List.length_cons, List.length_nil, List.cons_append, List.nil_append, Nat.reduceAdd, Nat.reduceSub, List.replicate, List.replicate_succ, List.replicate_zero]
  refine w_cons (w_expr ?_)
  refine w_methC (w_var rfl ⟨nb, _, rfl, h.eo, rfl, ?_⟩)
  and_intros
  refine w_fld (w_var rfl ⟨nb, _, _, rfl, h.eo, rfl, ?_⟩)
  and_intros
  refine (lower_ok h O p (z := m + 1) (.inr rfl) (fun told' D' p' c hc hn => p'.some O.X hc hn) (by omega)).mono (fun u S1 ⟨eu, rb', told', D', h1, w1, e1, f1⟩ => ?_) fun _ _ _ q => q
  refine c_nx ?_
  obtain ⟨ds, dz, q1, q2, q3, q4⟩ := h1.row (show m + 1 < m + 2 by omega)
  and_intros
  refine w_fld (w_var rfl ⟨nb, _, _, rfl, h1.eo, rfl, ?_⟩)
  and_intros
  refine w_ixB (seq_lst q1) (d := dz) ?_ ?_
  · unfold atI ixN
    rw [if_neg (by omega), if_pos (by omega)]
    show ds[((ds.length : Int) + -1).toNat]? = _
    have : ((ds.length : Int) + -1).toNat = m + 1 := by omega
    rw [this]; exact q3
  and_intros
  refine w_ixQ q4 rowZ_end ?_
  and_intros
  exact .inl ⟨_, rfl, rb', told', D', rfl, h1, w1, e1, f1⟩
end
end Lw
set_option Elab.async false
set_option linter.all false
set_option maxRecDepth 100000
set_option maxHeartbeats 4000000
/-! Ej: Equations: the marks are taken out; cheapen. -/
namespace Lw
open PySem PySem.Spec PyProof.Rows L2 Mn Lx
abbrev Tri := (Nat → Nat) × Int × Int
section
variable {S : Bxs} {nb rb tb sb n m : Nat} {a : Nat → Nat → Int} {told : Nat → Nat} {σ D : Int} {sg : List Int}
def cl (n m : Nat) (a : Nat → Nat → Int) (told : Nat → Nat) (σ : Int) (r : Nat) : List Nat := (List.range n).filter fun c => !decide (Rv (m + 2) a told σ r (a c) = 0)
def sgn (x : Int) : Int := if x < 0 then -1 else 1
theorem sgn_or (x : Int) : sgn x = 1 ∨ sgn x = -1 := by unfold sgn; split <;> simp
theorem sgn_pos {x : Int} (h : x ≠ 0) : 0 < sgn x * x := by unfold sgn; split <;> omega
def mo (n m : Nat) (a : Nat → Nat → Int) (x : Tri) (r : Nat) : Tri :=
  if n ≤ x.1 r then match cl n m a x.1 x.2.1 r with
    | [] => x
    | c :: _ => (put x.1 r c, sgn (Rv (m + 2) a x.1 x.2.1 r (a c)) * x.2.1, sgn (Rv (m + 2) a x.1 x.2.1 r (a c)) * Rv (m + 2) a x.1 x.2.1 r (a c))
  else x
def mos (n m : Nat) (a : Nat → Nat → Int) (x : Tri) : Nat → Tri
  | 0 => x
  | k + 1 => mo n m a (mos n m a x k) k
/-- no mark carries anything -/
def Mz (n m : Nat) (a : Nat → Nat → Int) (x : Tri) : Prop := Sp n m a x.1 x.2.1 x.2.2 ∧ ∀ i, i < m → n ≤ x.1 i → Rv (m + 2) a x.1 x.2.1 i (a (n + m)) = 0
theorem cl_mem {r c : Nat} (h : c ∈ cl n m a told σ r) : c < n ∧ Rv (m + 2) a told σ r (a c) ≠ 0 := by
  unfold cl at h
  obtain ⟨h1, h2⟩ := List.mem_filter.mp h
  exact ⟨List.mem_range.mp h1, by simpa using h2⟩
theorem Mz.put {x : Tri} (M : Mz n m a x) {r c : Nat} (hr : r < m) (hn : n ≤ x.1 r) (hc : c < n) (h : Rv (m + 2) a x.1 x.2.1 r (a c) ≠ 0) :
    Mz n m a (put x.1 r c, sgn (Rv (m + 2) a x.1 x.2.1 r (a c)) * x.2.1, sgn (Rv (m + 2) a x.1 x.2.1 r (a c)) * Rv (m + 2) a x.1 x.2.1 r (a c)) := by
  obtain ⟨told, σ, D⟩ := x
  obtain ⟨p, z⟩ := M
  have z0 : Rv (m + 2) a told σ r (a (n + m)) = 0 := z r hr hn
  have hp := sgn_pos h
  have e : ∀ i, sgn (Rv (m + 2) a told σ r (a c)) * (Rv (m + 2) a told σ i (a (n + m)) * Rv (m + 2) a told σ r (a c) - Rv (m + 2) a told σ i (a c) * Rv (m + 2) a told σ r (a (n + m))) = Rv (m + 2) a told σ i (a (n + m)) * (sgn (Rv (m + 2) a told σ r (a c)) * Rv (m + 2) a told σ r (a c)) := fun i => by
    rw [z0, Int.mul_zero, Int.sub_zero, Int.mul_left_comm]
  refine ⟨p.piv hr hc (sgn_or _) hp (fun i hi ne => by rw [e]; exact Int.mul_nonneg (p.fe i hi) (Int.le_of_lt hp)) (by rw [z0, Int.mul_zero]; exact Int.le_refl 0), fun i hi hm => ?_⟩
  by_cases q : i = r
  · subst q
    have : (Lx.put told i c) i = c := put_same
    have hm : n ≤ (Lx.put told i c) i := hm
    omega
  · have hm : n ≤ (Lx.put told r c) i := hm
    rw [put_ne q] at hm
    have e2 := p.t.rv (r := r) (c := c) (i := i) (by omega) (by omega) q (sgn (Rv (m + 2) a told σ r (a c))) (a (n + m))
    rw [e, z i hi hm, Int.zero_mul] at e2
    have hD := p.t.pos
    have hD : 0 < D := hD
    exact (Int.mul_eq_zero.mp e2).resolve_left (by omega)
theorem Mz.mo {x : Tri} (M : Mz n m a x) {r : Nat} (hr : r < m) : Mz n m a (mo n m a x r) := by
  unfold Lw.mo
  split
  · rename_i h
    cases e : cl n m a x.1 x.2.1 r with
    | nil => exact M
    | cons c l =>
      obtain ⟨h1, h2⟩ := cl_mem (e ▸ List.mem_cons_self : c ∈ cl n m a x.1 x.2.1 r)
      exact M.put hr h h1 h2
  · exact M
theorem Mz.mos {x : Tri} (M : Mz n m a x) : ∀ {k : Nat}, k ≤ m → Mz n m a (mos n m a x k)
  | 0, _ => M
  | k + 1, h => (M.mos (k := k) (by omega)).mo h
theorem takeout_ok {x : Tri} (h : Eqn S nb rb tb sb n m a x.1 x.2.1 x.2.2 sg) (O : Okx n m a) (M : Mz n m a x) :
    (F_Equations__take_marks_out [.box nb] S).Wp (fun d S' => d = .non ∧ ∃ rb', Eqn S' nb rb' tb sb n m a (mos n m a x m).1 (mos n m a x m).2.1 (mos n m a x m).2.2 sg ∧ Fq nb tb S S') noX := by
  have hn := O.hn
  have hm := O.hm
  refine w_body ?_
  unfold B_Equations__take_marks_out
  simp only [startD, List.map_cons, List.map_nil, List.length_cons, List.length_nil, List.cons_append, List.nil_append, Nat.reduceAdd, Nat.reduceSub, List.replicate, List.replicate_succ, List.replicate_zero]
  and_intros
  refine w_fld (w_var rfl ⟨nb, _, _, rfl, h.eo, rfl, ?_⟩)
  and_intros
  refine ⟨⟨by show -(2 ^ 62) ≤ (m : Int); omega, by show (m : Int) < 2 ^ 62; omega⟩, ?_⟩
  refine w_loop (st := fun _ => True) (fun i σ' S' => (∃ d1 d2 d3, σ' = [some (.box nb), d1, d2, d3]) ∧ ∃ rb', Eqn S' nb rb' tb sb n m a (mos n m a x i).1 (mos n m a x i).2.1 (mos n m a x i).2.2 sg ∧ Fq nb tb S S') (fun _ _ _ _ => trivial) (fun i y σ' S' hx hI => ?_) (fun σ' S' hI => ?_) ⟨⟨_, _, _, rfl⟩, rb, h, .refl⟩
  · obtain ⟨⟨d1, d2, d3, rfl⟩, rb', hq, fq⟩ := hI
    have hl := (List.getElem?_eq_some_iff.mp hx).1
    rw [rgD_len] at hl
    have him : i < m := by omega
    have Mi := M.mos (k := i) (by omega)
    have enext : mos n m a x (i + 1) = mo n m a (mos n m a x i) i := rfl
    rw [enext]
    generalize mos n m a x i = y at hq Mi ⊢
    obtain ⟨told, σ, D⟩ := y
    obtain ⟨ds, di, e1, e2, e3, e4⟩ := hq.row (show i < m + 2 by omega)
    rw [rowZ_D] at e4
    rw [rgD_get hx, Int.zero_add]
    and_intros
    refine w_lcP ?_
    and_intros
    refine w_fld (w_var rfl ⟨nb, _, _, rfl, hq.eo, rfl, ?_⟩)
    and_intros
    refine ⟨⟨by show -(2 ^ 62) ≤ (n : Int); omega, by show (n : Int) < 2 ^ 62; omega⟩, fun (d : Dt) => match d with | .int k => !decide (Rv (m + 2) a told σ i (a k.toNat) = 0) | _ => false, fun y d => d = y, by rw [rgD_len]; exact Nat.lt_of_le_of_lt (show ((n : Int)).toNat ≤ 1000 by omega) (by decide), fun _ _ => trivial, fun y S2 hy p2 => ?_, fun es S2 he hn2 p2 => ?_⟩
    · obtain ⟨j, hj⟩ := List.mem_iff_getElem?.mp hy
      have hjl := (List.getElem?_eq_some_iff.mp hj).1
      rw [rgD_len] at hjl
      rw [rgD_get hj, Int.zero_add]
      have h2 := hq.pre p2
      and_intros
      refine w_fld (w_var rfl ⟨nb, _, _, rfl, h2.eo, rfl, ?_⟩)
      and_intros
      refine w_ixB (seq_lst (get_pre p2 e1)) (atI_nn e3 rfl) ?_
      and_intros
      refine w_ixQ (seqOf_stay (fun k hk => get_pre' p2 (seqOf_lt e4 hk)) e4) (atI_nn (k := j) (rowD_get (by omega)) rfl) ?_
      and_intros
      refine w_neI ?_
      and_intros
      refine ⟨rfl, fun _ => List.prefix_refl _, fun _ => ?_⟩
      and_intros
      exact ⟨rfl, List.prefix_refl _⟩
    · have ees : es = (cl n m a told σ i).map fun (c : Nat) => Dt.int (c : Int) := by
        have := Each.map (f := fun (x : Dt) => x) he
        rw [this, List.map_id']
        unfold cl rgD
        rw [List.filter_map]
        have en : ((n : Int)).toNat = n := by omega
        rw [en]
        have : (fun (k : Nat) => Dt.int (0 + (k : Int))) = fun (k : Nat) => Dt.int (k : Int) := funext fun k => by rw [Int.zero_add]
        rw [this]
        rfl
      have h2 := hq.pre p2
      and_intros
      refine w_fld (w_var rfl ⟨nb, _, _, rfl, h2.eo, rfl, ?_⟩)
      and_intros
      refine w_ixB (seq_lst h2.et) (atI_nn (tolZ_get him) rfl) ?_
      and_intros
      refine w_fld (w_var rfl ⟨nb, _, _, rfl, h2.eo, rfl, ?_⟩)
      and_intros
      refine ⟨fun q => ?_, fun q => ?_⟩
      · have q := of_decide_eq_true q
        have hni : n ≤ told i := by have q : (n : Int) ≤ (told i : Int) := q; omega
        refine w_tru ?_
        and_intros
        cases ec : cl n m a told σ i with
        | nil =>
          rw [ees, ec] at hn2
          refine ⟨false, tru_box (seq_lst hn2), (fun z => nomatch z), fun _ => ?_⟩
          and_intros
          refine .inl ⟨rfl, ⟨_, _, _, rfl⟩, rb', ?_, fq.trans (.pre p2)⟩
          have : mo n m a (told, σ, D) i = (told, σ, D) := by unfold Lw.mo; rw [if_pos hni, ec]
          rw [this]; exact h2
        | cons c l =>
          rw [ees, ec] at hn2
          obtain ⟨h3, h4⟩ := cl_mem (ec ▸ List.mem_cons_self : c ∈ cl n m a told σ i)
          refine ⟨true, tru_box (seq_lst hn2), fun _ => ?_, (fun z => nomatch z)⟩
          refine w_expr ?_
          refine w_methC (w_var rfl ⟨nb, _, rfl, h2.eo, rfl, ?_⟩)
          and_intros
          refine w_ixB (seq_lst hn2) (d := .int (c : Int)) (atI_nn (k := 0) rfl rfl) ?_
          and_intros
          refine (pivot_ok h2 O Mi.1.t Mi.1.tle him h3 (sgn_or _) (sgn_pos h4)).mono (fun w S3 ⟨rb3, h5, f5⟩ => ?_) fun _ _ _ q => q
          have : mo n m a (told, σ, D) i = (put told i c, sgn (Rv (m + 2) a told σ i (a c)) * σ, sgn (Rv (m + 2) a told σ i (a c)) * Rv (m + 2) a told σ i (a c)) := by unfold Lw.mo; rw [if_pos hni, ec]
          rw [this]
          exact .inl ⟨rfl, ⟨_, _, _, rfl⟩, rb3, h5, (fq.trans (.pre p2)).trans f5⟩
      · have q := of_decide_eq_false q
        have hni : ¬ n ≤ told i := by have q : ¬ (n : Int) ≤ (told i : Int) := q; omega
        refine ⟨(fun z => nomatch z), fun _ => ?_⟩
        and_intros
        refine .inl ⟨rfl, ⟨_, _, _, rfl⟩, rb', ?_, fq.trans (.pre p2)⟩
        have : mo n m a (told, σ, D) i = (told, σ, D) := by unfold Lw.mo; rw [if_neg hni]
        rw [this]; exact h2
  · obtain ⟨⟨d1, d2, d3, rfl⟩, rb', hq, fq⟩ := hI
    rw [rgD_len] at hq
    have en : ((m : Int)).toNat = m := by omega
    rw [en] at hq
    exact .inr ⟨rfl, trivial, rb', hq, fq⟩
end
end Lw
set_option Elab.async false
set_option linter.all false
set_option maxRecDepth 100000
set_option maxHeartbeats 4000000
/-! Ek: Equations: the start. -/
namespace Lw
open PySem PySem.Spec PyProof.Rows L2 Mn Lx
/-- the system of columns, a goal and costs -/
def gAt (goal : List Int) (k : Nat) : Int := goal.getD k 0
def cAt (cols : List (List Int)) (j k : Nat) : Int := (cols.getD j []).getD k 0
def aF (cols : List (List Int)) (goal costs : List Int) (j b : Nat) : Int :=
  if j < cols.length then (if b < goal.length then sgn (gAt goal b) * cAt cols j b else if b = goal.length then gAt costs j else - su goal.length fun k => sgn (gAt goal k) * cAt cols j k)
  else if j < cols.length + goal.length then one (j - cols.length) b
  else if j = cols.length + goal.length then (if b < goal.length then sgn (gAt goal b) * gAt goal b else if b = goal.length then 0 else - su goal.length fun k => sgn (gAt goal k) * gAt goal k)
  else if j = cols.length + goal.length + 1 then one goal.length b else one (goal.length + 1) b
section
variable {cols : List (List Int)} {goal costs : List Int}
theorem aF_col {j b : Nat} (h : j < cols.length) (hb : b < goal.length) : aF cols goal costs j b = sgn (gAt goal b) * cAt cols j b := by unfold aF; rw [if_pos h, if_pos hb]
theorem aF_cost {j : Nat} (h : j < cols.length) : aF cols goal costs j goal.length = gAt costs j := by unfold aF; rw [if_pos h, if_neg (Nat.lt_irrefl _), if_pos rfl]
theorem aF_dist {j : Nat} (h : j < cols.length) : aF cols goal costs j (goal.length + 1) = - su goal.length fun k => sgn (gAt goal k) * cAt cols j k := by unfold aF; rw [if_pos h, if_neg (by omega), if_neg (by omega)]
theorem aF_mark {k b : Nat} (h : k < goal.length) : aF cols goal costs (cols.length + k) b = one k b := by unfold aF; rw [if_neg (by omega), if_pos (by omega), Nat.add_sub_cancel_left]
theorem aF_goal {b : Nat} (hb : b < goal.length) : aF cols goal costs (cols.length + goal.length) b = sgn (gAt goal b) * gAt goal b := by unfold aF; rw [if_neg (by omega), if_neg (by omega), if_pos rfl, if_pos hb]
theorem aF_gcost : aF cols goal costs (cols.length + goal.length) goal.length = 0 := by unfold aF; rw [if_neg (by omega), if_neg (by omega), if_pos rfl, if_neg (Nat.lt_irrefl _), if_pos rfl]
theorem aF_gdist : aF cols goal costs (cols.length + goal.length) (goal.length + 1) = - su goal.length fun k => sgn (gAt goal k) * gAt goal k := by unfold aF; rw [if_neg (by omega), if_neg (by omega), if_pos rfl, if_neg (by omega), if_neg (by omega)]
theorem sgn_mul (x : Int) : 0 ≤ sgn x * x := by unfold sgn; split <;> omega
theorem sgn_abs (x y : Int) : (sgn x * y).natAbs = y.natAbs := by
  rw [Int.natAbs_mul]
  rcases sgn_or x with h | h <;> rw [h] <;> simp
theorem aF_sx : Sx cols.length goal.length (aF cols goal costs) where
  um := fun k b hk _ => aF_mark hk
  u1 := fun b _ => by unfold aF; rw [if_neg (by omega), if_neg (by omega), if_neg (by omega), if_pos rfl]
  u2 := fun b _ => by unfold aF; rw [if_neg (by omega), if_neg (by omega), if_neg (by omega), if_neg (by omega)]
  dz := fun j hj => by
    rcases hj with hj | rfl
    · rw [aF_dist hj, su_congr fun k hk => aF_col hj hk]
    · rw [aF_gdist, su_congr fun k hk => aF_goal hk]
  gl := fun k hk => by rw [aF_goal hk]; exact sgn_mul _
def told0 (n m : Nat) (i : Nat) : Nat := if i < m then n + i else if i = m then n + m + 1 else n + m + 2
theorem told0_start : Sp cols.length goal.length (aF cols goal costs) (told0 cols.length goal.length) 1 1 ∧ ∀ i, i < goal.length + 2 → ∀ v, Rv (goal.length + 2) (aF cols goal costs) (told0 cols.length goal.length) 1 i v = v i :=
  aF_sx.start _ (fun i hi => by unfold told0; rw [if_pos hi]) (by unfold told0; rw [if_neg (Nat.lt_irrefl _), if_pos rfl]) (by unfold told0; rw [if_neg (by omega), if_neg (by omega)])
theorem bdN_mono {C : Nat} (hC : 1 ≤ C) : ∀ {m k : Nat}, bdN C m ≤ bdN C (m + k)
  | m, 0 => Nat.le_refl _
  | m, k + 1 => by
    refine Nat.le_trans (bdN_mono hC (m := m) (k := k)) ?_
    show bdN C (m + k) ≤ (m + k + 1) * (C * bdN C (m + k))
    have h1 : bdN C (m + k) ≤ C * bdN C (m + k) := Nat.le_mul_of_pos_left _ hC
    have h2 : C * bdN C (m + k) ≤ (m + k + 1) * (C * bdN C (m + k)) := Nat.le_mul_of_pos_left _ (by omega)
    omega
theorem aF_okx {B : Nat} (hn : cols.length ≤ 100) (hm : goal.length ≤ 9) (h1 : ∀ j k, (cAt cols j k).natAbs ≤ B) (h2 : ∀ k, (gAt goal k).natAbs ≤ B) (h3 : ∀ k, (gAt costs k).natAbs ≤ B) (hB : B ≤ 10 ^ 30) : Okx cols.length goal.length (aF cols goal costs) where
  X := aF_sx
  hn := hn
  hm := by omega
  bd := by
    refine ⟨10 ^ 32, fun j b hj hb => ?_, ?_⟩
    · have big : B ≤ 10 ^ 32 := Nat.le_trans hB (by decide)
      have nine : ∀ f : Nat → Int, (∀ k, k < goal.length → (f k).natAbs ≤ B) → (- su goal.length f).natAbs ≤ 10 ^ 32 := fun f hf => by
        rw [Int.natAbs_neg]
        have q := su_bd (f := f) (C := B) (m := goal.length) hf
        have : goal.length * B ≤ 9 * 10 ^ 30 := Nat.mul_le_mul hm hB
        omega
      have o : ∀ k b, (one k b).natAbs ≤ 10 ^ 32 := fun k b => by unfold one; split <;> decide
      unfold aF
      split
      · split
        · rw [sgn_abs]; exact Nat.le_trans (h1 _ _) big
        · split
          · exact Nat.le_trans (h3 _) big
          · exact nine _ fun k _ => by rw [sgn_abs]; exact h1 _ _
      · split
        · exact o _ _
        · split
          · split
            · rw [sgn_abs]; exact Nat.le_trans (h2 _) big
            · split
              · exact Nat.zero_le _
              · exact nine _ fun k _ => by rw [sgn_abs]; exact h2 _
          · split
            · exact o _ _
            · exact o _ _
    · have e : ∃ k, goal.length + 2 + k = 11 := ⟨9 - goal.length, by omega⟩
      obtain ⟨k, hk⟩ := e
      have := bdN_mono (C := 10 ^ 32) (by decide) (m := goal.length + 2) (k := k)
      rw [hk] at this
      exact Nat.lt_of_le_of_lt (Nat.mul_le_mul_left 2 this) (by unfold BIG; decide)
end
theorem w_srcEnumQ {σ : Sg} {S : Bxs} {E : Nat → List Dt → Bxs → Prop} {f : FA} {P : List (Dt × Dt) × (Bxs → Prop) → Bxs → Prop} (h : (f σ S).Wp (fun ds S1 => ∃ n xs, ds = [.box n] ∧ S1.seq n = some xs ∧ P (placed xs, fun S' => seqOf S' (.box n) = some xs) S1) E) : (srcEnum f σ S).Wp P E :=
  w_bind (h.mono (fun ds S1 ⟨n, xs, e, e2, q⟩ => by
    subst e
    show (match seqOf S1 (.box n) with
      | some xs => Rs.ok (placed xs, fun S' => seqOf S' (.box n) = some xs) S1
      | none => .no).Wp P E
    rw [show seqOf S1 (.box n) = some xs from e2]
    exact ⟨q⟩) fun _ _ _ q => q)
theorem rowD_split {n m : Nat} {f : Nat → Int} : rowD (n + m + 1) f = rowD n f ++ rowD m (fun k => f (n + k)) ++ [.int (f (n + m))] := by
  unfold rowD
  rw [List.range_succ, List.map_append, List.range_add, List.map_append, List.map_map]; rfl
theorem rowD_congr {N : Nat} {f g : Nat → Int} (h : ∀ q, q < N → f q = g q) : rowD N f = rowD N g := by
  unfold rowD
  exact List.map_congr_left fun q hq => by rw [h q (List.mem_range.mp hq)]
theorem map_rowD (xs : List Int) : xs.map Dt.int = rowD xs.length fun k => xs.getD k 0 := by
  refine List.ext_getElem? fun k => ?_
  by_cases h : k < xs.length
  · rw [rowD_get h, List.getElem?_map, List.getElem?_eq_getElem h, List.getD_eq_getElem?_getD, List.getElem?_eq_getElem h]; rfl
  · rw [List.getElem?_eq_none (by rw [List.length_map]; omega), List.getElem?_eq_none (by rw [rowD_len]; omega)]
theorem rowD_ints {N : Nat} {f : Nat → Int} : rowD N f = ((List.range N).map f).map Dt.int := by unfold rowD; rw [List.map_map]; rfl
theorem sum_rowD {f : Nat → Int} : ∀ {N : Nat}, ((List.range N).map f).sum = su N f
  | 0 => rfl
  | N + 1 => by
    rw [List.range_succ, List.map_append, List.sum_append, sum_rowD (N := N)]
    show su N f + (f N + 0) = su N f + f N
    rw [Int.add_zero]
end Lw
set_option Elab.async false
set_option linter.all false
set_option maxRecDepth 100000
set_option maxHeartbeats 4000000
/-! El: Equations(columns, goal, costs). -/
namespace Lw
open PySem PySem.Spec PyProof.Rows L2 Mn Lx
section
variable {S S0 : Bxs} {cols : List (List Int)} {goal costs : List Int} {nb : Nat}
def colF (s : Int) (i : Nat) : Dt → Dt
  | .tup xs => match xs[i]? with
    | some (.int x) => .int (s * x)
    | _ => .non
  | _ => .non
theorem colF_iv {s : Int} {i : Nat} {xs : List Int} (h : i < xs.length) : colF s i (iv xs) = .int (s * xs.getD i 0) := by
  show (match (xs.map Dt.int)[i]? with
    | some (.int x) => Dt.int (s * x)
    | _ => .non) = _
  rw [List.getElem?_map, List.getD_eq_getElem?_getD, List.getElem?_eq_getElem h]; rfl
theorem cols_row {s : Int} {i : Nat} (hc : ∀ c ∈ cols, i < c.length) : (cols.map iv).map (colF s i) = rowD cols.length fun j => s * cAt cols j i := by
  refine List.ext_getElem? fun k => ?_
  by_cases h : k < cols.length
  · rw [rowD_get h, List.getElem?_map, List.getElem?_map, List.getElem?_eq_getElem h]
    show some (colF s i (iv cols[k])) = _
    rw [colF_iv (hc _ (List.getElem_mem h))]
    unfold cAt
    rw [show cols.getD k [] = cols[k] by rw [List.getD_eq_getElem?_getD, List.getElem?_eq_getElem h]; rfl]
  · rw [List.getElem?_eq_none (by rw [List.length_map, List.length_map]; omega), List.getElem?_eq_none (by rw [rowD_len]; omega)]
def sgD : Dt → Dt
  | .int x => .int (sgn x)
  | _ => .non
def addD (n : Int) : Dt → Dt
  | .int x => .int (n + x)
  | _ => .non
theorem pre_of' {S S' : Bxs} (h : ∀ k, k < S.length → S'[k]? = S[k]?) (hl : S.length ≤ S'.length) : S <+: S' := by
  refine ⟨S'.drop S.length, List.ext_getElem? fun k => ?_⟩
  by_cases q : k < S.length
  · rw [List.getElem?_append_left q, h k q]
  · rw [List.getElem?_append_right (by omega), List.getElem?_drop]
    congr 1; omega
/-- what the rows hold -/
def RowsAt (S : Bxs) (L : Nat) (N : Nat) (f : Nat → Nat → Int) (es : List Dt) : Prop := ∀ j e, es[j]? = some e → ∃ k, e = .box k ∧ L ≤ k ∧ S[k]? = some (.lst (rowD N fun q => f q j))
theorem RowsAt.pre {S S' : Bxs} {L N : Nat} {f : Nat → Nat → Int} {es : List Dt} (h : RowsAt S L N f es) (p : ∀ k, k < S.length → L ≤ k → S'[k]? = S[k]?) : RowsAt S' L N f es := fun j e hj => by
  obtain ⟨k, h1, h2, h3⟩ := h j e hj
  exact ⟨k, h1, h2, (p k (get_lt h3) h2).trans h3⟩
theorem RowsAt.snoc {S : Bxs} {L N k : Nat} {f : Nat → Nat → Int} {es : List Dt} (h : RowsAt S L N f es) (hk : L ≤ k) (e : S[k]? = some (.lst (rowD N fun q => f q es.length))) : RowsAt S L N f (es ++ [.box k]) := fun j d hj => by
  by_cases q : j < es.length
  · rw [List.getElem?_append_left q] at hj; exact h j d hj
  · have : j = es.length := by
      have := (List.getElem?_eq_some_iff.mp hj).1
      rw [List.length_append] at this
      simp at this; omega
    subst this
    rw [List.getElem?_append_right (Nat.le_refl _), Nat.sub_self] at hj
    exact ⟨k, (Option.some.inj hj).symm, hk, e⟩
theorem rowD_end {N : Nat} {f : Nat → Int} : atI (rowD (N + 1) f) (-1) = some (.int (f N)) := by
  have e : rowD (N + 1) f = rowD N f ++ [.int (f N)] := by unfold rowD; rw [List.range_succ, List.map_append]; rfl
  rw [e]
  unfold atI ixN
  rw [if_neg (by omega), if_pos (by rw [List.length_append, rowD_len, List.length_singleton]; omega), List.length_append, rowD_len]
  show (_ ++ [_])[(((N + 1 : Nat) : Int) + (-1 : Int)).toNat]? = _
  rw [List.getElem?_append_right (by rw [rowD_len]; omega), rowD_len]
  have : (((N + 1 : Nat) : Int) + (-1 : Int)).toNat - N = 0 := by omega
  rw [this]; rfl
theorem rowD_zero {N : Nat} : rowD N (fun _ => 0) = (List.replicate N [Dt.int 0]).flatten := by
  rw [List.flatten_replicate_singleton, List.eq_replicate_iff]
  exact ⟨rowD_len, fun d hd => by unfold rowD at hd; obtain ⟨_, _, rfl⟩ := List.mem_map.mp hd; rfl⟩
/-- an item of each row -/
def rdF (S : Bxs) (j : Int) (d : Dt) : Dt := (atI ((seqOf S d).getD []) j).getD .non
theorem RowsAt.read {L N : Nat} {f : Nat → Nat → Int} {es : List Dt} {j : Int} {jn : Nat} (h : RowsAt S L N f es) (hj : ∀ i, atI (rowD N fun q => f q i) j = some (.int (f jn i))) : es.map (rdF S j) = rowD es.length fun i => f jn i := by
  refine List.ext_getElem? fun i => ?_
  by_cases hi : i < es.length
  · rw [rowD_get hi, List.getElem?_map, List.getElem?_eq_getElem hi]
    obtain ⟨k, h1, _, h3⟩ := h i es[i] (List.getElem?_eq_getElem hi)
    show some (rdF S j es[i]) = _
    unfold rdF
    rw [h1, show seqOf S (.box k) = _ from seq_lst h3]
    show some ((atI (rowD N fun q => f q i) j).getD .non) = _
    rw [hj]; rfl
  · rw [List.getElem?_eq_none (by rw [List.length_map]; omega), List.getElem?_eq_none (by rw [rowD_len]; omega)]
theorem einit_ok (p : S0 <+: S) (hnb : S0.length ≤ nb) (e : S[nb]? = some (.obj "Equations" [])) (hn : cols.length ≤ 100) (hm : goal.length ≤ 9) (hc : ∀ c ∈ cols, c.length = goal.length) (cs : costs.length = cols.length) :
    (F_Equations___init__ [.box nb, .tup (cols.map iv), iv goal, iv costs] S).Wp (fun d S' => d = .non ∧ (∃ rb tb sb, Eqn S' nb rb tb sb cols.length goal.length (aF cols goal costs) (told0 cols.length goal.length) 1 1 (goal.map sgn) ∧ S0.length ≤ tb) ∧ S0 <+: S') noX := by
  refine w_body ?_
  unfold B_Equations___init__
  simp only [startD, List.map_cons, List.map_nil, List.length_cons, List.length_nil, List.cons_append, List.nil_append, Nat.reduceAdd, Nat.reduceSub, List.replicate, List.replicate_succ, List.replicate_zero]
  refine w_cons ?_
  refine w_sfld ?_
  and_intros
  rw [List.length_map]
  refine ⟨nb, _, rfl, e, Nat.le_of_ble_eq_true (by rfl), ?_⟩
  have e1 : (S.set nb (.obj "Equations" (putO "_many" (.int (cols.length : Int)) [])))[nb]? = some (.obj "Equations" [("_many", .int (cols.length : Int))]) := List.getElem?_set_self (get_lt e)
  have p1 := pre_set (x := .obj "Equations" (putO "_many" (.int (cols.length : Int)) [])) p hnb
  generalize S.set nb _ = S1 at e1 p1 ⊢
  refine c_nx ?_
  refine w_cons ?_
  refine w_sfld ?_
  and_intros
  rw [List.length_map]
  refine ⟨nb, _, rfl, e1, Nat.le_of_ble_eq_true (by rfl), ?_⟩
  have e2 : (S1.set nb (.obj "Equations" (putO "_size" (.int (goal.length : Int)) [("_many", .int (cols.length : Int))])))[nb]? = some (.obj "Equations" [("_many", .int (cols.length : Int)), ("_size", .int (goal.length : Int))]) := List.getElem?_set_self (get_lt e1)
  have p2 := pre_set (x := .obj "Equations" (putO "_size" (.int (goal.length : Int)) [("_many", .int (cols.length : Int))])) p1 hnb
  generalize S1.set nb _ = S2 at e2 p2 ⊢
  refine c_nx ?_
  refine w_cons ?_
  refine w_sfld ?_
  and_intros
  refine ⟨nb, _, rfl, e2, Nat.le_of_ble_eq_true (by rfl), ?_⟩
  have e3 : (S2.set nb (.obj "Equations" (putO "_divisor" (.int 1) [("_many", .int (cols.length : Int)), ("_size", .int (goal.length : Int))])))[nb]? = some (.obj "Equations" [("_many", .int (cols.length : Int)), ("_size", .int (goal.length : Int)), ("_divisor", .int 1)]) := List.getElem?_set_self (get_lt e2)
  have p3 := pre_set (x := .obj "Equations" (putO "_divisor" (.int 1) [("_many", .int (cols.length : Int)), ("_size", .int (goal.length : Int))])) p2 hnb
  generalize S2.set nb _ = S3 at e3 p3 ⊢
  refine c_nx ?_
  refine w_cons ?_
  refine w_sfld ?_
  refine w_lcD ?_
  and_intros
  refine ⟨sgD, by rw [List.length_map]; exact Nat.lt_of_le_of_lt hm (by decide), fun _ _ => rfl, fun x S' hx q => ?_, fun S4 hs4 q4 => ?_⟩
  · obtain ⟨i, _, rfl⟩ := List.mem_map.mp hx
    and_intros
    refine ⟨fun z => ?_, fun z => ?_⟩
    · have z := of_decide_eq_true z
      and_intros
      exact ⟨show Dt.int (-1) = Dt.int (sgn i) by unfold sgn; rw [if_pos z], List.prefix_refl _⟩
    · have z := of_decide_eq_false z
      and_intros
      exact ⟨show Dt.int 1 = Dt.int (sgn i) by unfold sgn; rw [if_neg z], List.prefix_refl _⟩
  have hs4 : S4[S3.length]? = some (.lst ((goal.map sgn).map Dt.int)) := by
    rw [hs4, List.map_map, List.map_map]; rfl
  have e4 := get_pre q4 e3
  have p4 := p3.trans q4
  have sl := get_lt hs4
  have nl3 := get_lt e3
  have l03 := p3.length_le
  generalize hsb : S3.length = sb at hs4 sl nl3 l03 ⊢
  clear q4 e3 p3
  and_intros
  refine ⟨nb, _, rfl, e4, Nat.le_of_ble_eq_true (by rfl), ?_⟩
  have e5 : (S4.set nb (.obj "Equations" (putO "_signs" (.box sb) [("_many", .int (cols.length : Int)), ("_size", .int (goal.length : Int)), ("_divisor", .int 1)])))[nb]? = some (.obj "Equations" [("_many", .int (cols.length : Int)), ("_size", .int (goal.length : Int)), ("_divisor", .int 1), ("_signs", .box sb)]) := List.getElem?_set_self (get_lt e4)
  have s5 : (S4.set nb (.obj "Equations" (putO "_signs" (.box sb) [("_many", .int (cols.length : Int)), ("_size", .int (goal.length : Int)), ("_divisor", .int 1)])))[sb]? = some (.lst ((goal.map sgn).map Dt.int)) := by rw [List.getElem?_set_ne (by omega)]; exact hs4
  have p5 := pre_set (x := .obj "Equations" (putO "_signs" (.box sb) [("_many", .int (cols.length : Int)), ("_size", .int (goal.length : Int)), ("_divisor", .int 1)])) p4 hnb
  generalize S4.set nb _ = S5 at e5 s5 p5 ⊢
  clear e4 hs4 p4
  refine c_nx ?_
  refine w_cons ?_
  refine w_sfld ?_
  refine w_lcD ?_
  and_intros
  refine w_fld (w_var rfl ⟨nb, _, _, rfl, e5, rfl, ?_⟩)
  and_intros
  refine ⟨⟨by show -(2 ^ 62) ≤ (goal.length : Int); omega, by show (goal.length : Int) < 2 ^ 62; omega⟩, addD (cols.length : Int), by rw [rgD_len]; exact Nat.lt_of_le_of_lt (show ((goal.length : Int)).toNat ≤ 1000 by omega) (by decide), fun _ _ => trivial, fun x S' hx q => ?_, fun S6 ht6 q6 => ?_⟩
  · obtain ⟨j, hj⟩ := List.mem_iff_getElem?.mp hx
    rw [rgD_get hj]
    and_intros
    refine w_fld (w_var rfl ⟨nb, _, _, rfl, get_pre q e5, rfl, ?_⟩)
    and_intros
    exact ⟨rfl, List.prefix_refl _⟩
  have ht6 : S6[S5.length]? = some (.lst (tolZ goal.length (told0 cols.length goal.length))) := by
    rw [ht6]
    unfold rgD tolZ
    rw [List.map_map]
    have en : ((goal.length : Int)).toNat = goal.length := by omega
    rw [en]
    congr 2
    refine List.map_congr_left fun k hk => ?_
    show Dt.int ((cols.length : Int) + (0 + (k : Int))) = Dt.int ((told0 cols.length goal.length k : Nat) : Int)
    unfold told0
    rw [if_pos (List.mem_range.mp hk), Int.zero_add]
    congr 1
  have e6 := get_pre q6 e5
  have s6 := get_pre q6 s5
  have p6 := p5.trans q6
  have tl := get_lt ht6
  have nl5 := get_lt e5
  have sl5 := get_lt s5
  have l05 := p5.length_le
  generalize htb : S5.length = tb at ht6 tl nl5 l05 sl5 ⊢
  clear q6 e5 s5 p5
  and_intros
  refine ⟨nb, _, rfl, e6, Nat.le_of_ble_eq_true (by rfl), ?_⟩
  have e7 : (S6.set nb (.obj "Equations" (putO "_told" (.box tb) [("_many", .int (cols.length : Int)), ("_size", .int (goal.length : Int)), ("_divisor", .int 1), ("_signs", .box sb)])))[nb]? = some (.obj "Equations" [("_many", .int (cols.length : Int)), ("_size", .int (goal.length : Int)), ("_divisor", .int 1), ("_signs", .box sb), ("_told", .box tb)]) := List.getElem?_set_self (get_lt e6)
  have s7 : (S6.set nb (.obj "Equations" (putO "_told" (.box tb) [("_many", .int (cols.length : Int)), ("_size", .int (goal.length : Int)), ("_divisor", .int 1), ("_signs", .box sb)])))[sb]? = some (.lst ((goal.map sgn).map Dt.int)) := by rw [List.getElem?_set_ne (by omega)]; exact s6
  have t7 : (S6.set nb (.obj "Equations" (putO "_told" (.box tb) [("_many", .int (cols.length : Int)), ("_size", .int (goal.length : Int)), ("_divisor", .int 1), ("_signs", .box sb)])))[tb]? = some (.lst (tolZ goal.length (told0 cols.length goal.length))) := by rw [List.getElem?_set_ne (by omega)]; exact ht6
  have p7 := pre_set (x := .obj "Equations" (putO "_told" (.box tb) [("_many", .int (cols.length : Int)), ("_size", .int (goal.length : Int)), ("_divisor", .int 1), ("_signs", .box sb)])) p6 hnb
  generalize S6.set nb _ = S7 at e7 s7 t7 p7 ⊢
  clear e6 ht6 p6 s6
  refine c_nx ?_
  refine w_cons ?_
  refine w_sfld ?_
  and_intros
  have q8 := List.prefix_append S7 [MBox.lst []]
  have r8 : (S7 ++ [MBox.lst []])[S7.length]? = some (.lst []) := get_last
  have e8 := get_pre q8 e7
  have s8 := get_pre q8 s7
  have t8 := get_pre q8 t7
  have p8 := p7.trans q8
  have nl7 := get_lt e7
  have sl7 := get_lt s7
  have tl7 := get_lt t7
  have l07 := p7.length_le
  have rl := get_lt r8
  generalize S7 ++ [MBox.lst []] = S8 at r8 e8 s8 t8 p8 rl ⊢
  generalize hrb : S7.length = rb at r8 rl nl7 sl7 tl7 l07 ⊢
  clear q8 e7 s7 t7 p7
  refine ⟨nb, _, rfl, e8, Nat.le_of_ble_eq_true (by rfl), ?_⟩
  have e9 : (S8.set nb (.obj "Equations" (putO "_rows" (.box rb) [("_many", .int (cols.length : Int)), ("_size", .int (goal.length : Int)), ("_divisor", .int 1), ("_signs", .box sb), ("_told", .box tb)])))[nb]? = some (.obj "Equations" (eqF cols.length goal.length 1 sb tb rb)) := List.getElem?_set_self (get_lt e8)
  have s9 : (S8.set nb (.obj "Equations" (putO "_rows" (.box rb) [("_many", .int (cols.length : Int)), ("_size", .int (goal.length : Int)), ("_divisor", .int 1), ("_signs", .box sb), ("_told", .box tb)])))[sb]? = some (.lst ((goal.map sgn).map Dt.int)) := by rw [List.getElem?_set_ne (by omega)]; exact s8
  have t9 : (S8.set nb (.obj "Equations" (putO "_rows" (.box rb) [("_many", .int (cols.length : Int)), ("_size", .int (goal.length : Int)), ("_divisor", .int 1), ("_signs", .box sb), ("_told", .box tb)])))[tb]? = some (.lst (tolZ goal.length (told0 cols.length goal.length))) := by rw [List.getElem?_set_ne (by omega)]; exact t8
  have r9 : (S8.set nb (.obj "Equations" (putO "_rows" (.box rb) [("_many", .int (cols.length : Int)), ("_size", .int (goal.length : Int)), ("_divisor", .int 1), ("_signs", .box sb), ("_told", .box tb)])))[rb]? = some (.lst []) := by rw [List.getElem?_set_ne (by omega)]; exact r8
  have p9 := pre_set (x := .obj "Equations" (putO "_rows" (.box rb) [("_many", .int (cols.length : Int)), ("_size", .int (goal.length : Int)), ("_divisor", .int 1), ("_signs", .box sb), ("_told", .box tb)])) p8 hnb
  generalize S8.set nb _ = S9 at e9 s9 t9 r9 p9 ⊢
  have rl9 := get_lt r9
  clear e8 s8 t8 r8 p8
  refine c_nx ?_
  refine w_cons ?_
  refine w_for ?_
  refine w_srcEnumQ ?_
  and_intros
  refine w_fld (w_var rfl ⟨nb, _, _, rfl, e9, rfl, ?_⟩)
  and_intros
  refine ⟨sb, _, rfl, seq_lst s9, ?_⟩
  have nl9 := get_lt e9
  have gAt_of : ∀ k, k < goal.length → goal[k]? = some (gAt goal k) := fun k hk => by unfold gAt; rw [List.getD_eq_getElem?_getD, List.getElem?_eq_getElem hk]; rfl
  refine w_loop (fun i σ' S' => (∃ d4 d5 d6, σ' = [some (.box nb), some (.tup (cols.map iv)), some (iv goal), some (iv costs), d4, d5, d6, none, none, none, none, none]) ∧ S9.length ≤ S'.length ∧ (∀ k, k < S9.length → k ≠ rb → S'[k]? = S9[k]?) ∧
      ∃ es, S'[rb]? = some (.lst es) ∧ es.length = i ∧ RowsAt S' S9.length (cols.length + goal.length + 1) (aF cols goal costs) es) (fun i σ' S' hI => ?_) (fun i x σ' S' hx hI => ?_) (fun σ' S' hI => ?_) ⟨⟨_, _, _, rfl⟩, Nat.le_refl _, (fun _ _ _ => rfl), [], r9, rfl, fun j e hj => by simp at hj⟩
  · exact seq_lst (by rw [hI.2.2.1 sb (get_lt s9) (by omega)]; exact s9)
  · obtain ⟨⟨d4, d5, d6, rfl⟩, lS, fS, es, eE, elE, R⟩ := hI
    obtain ⟨y, hy, rfl⟩ := placed_get hx
    rw [List.getElem?_map, List.getElem?_map] at hy
    have hil : i < goal.length := by
      rcases Nat.lt_or_ge i goal.length with q | q
      · exact q
      · rw [List.getElem?_eq_none q] at hy; cases hy
    rw [gAt_of i hil] at hy
    have hy : Dt.int (sgn (gAt goal i)) = y := Option.some.inj hy
    subst hy
    have eo : S'[nb]? = _ := (fS nb nl9 (by omega)).trans e9
    have so := sgn_or (gAt goal i)
    and_intros
    refine w_fld (w_var rfl ⟨nb, _, _, rfl, eo, rfl, ?_⟩)
    and_intros
    refine (unit_ok (n := goal.length) (k := i) (by omega)).mono (fun u S2 ⟨eu, pu⟩ => ?_) fun _ _ _ q => q
    subst eu
    and_intros
    refine w_listT ?_
    refine w_newL (by rw [List.length_map, unitL_len]; exact Nat.le_trans hm (by decide)) ?_
    have pm := List.prefix_append S2 [MBox.lst ((unitL goal.length i).map Dt.int)]
    have em : (S2 ++ [MBox.lst ((unitL goal.length i).map Dt.int)])[S2.length]? = some (.lst ((unitL goal.length i).map Dt.int)) := get_last
    generalize S2 ++ [MBox.lst ((unitL goal.length i).map Dt.int)] = S3' at pm em ⊢
    have p3' := pu.trans pm
    and_intros
    refine w_fld (w_var rfl ⟨nb, _, _, rfl, get_pre p3' eo, rfl, ?_⟩)
    refine ⟨ty_list (get_pre p3' eE), ?_⟩
    refine w_consA (w_bin (w_bin ?_))
    refine w_lcD ?_
    and_intros
    refine ⟨colF (sgn (gAt goal i)) i, by rw [List.length_map]; exact Nat.lt_of_le_of_lt hn (by decide), fun _ _ => rfl, fun x S4' hx q => ?_, fun S4' h4 q4' => ?_⟩
    · obtain ⟨c, hcm, rfl⟩ := List.mem_map.mp hx
      have hcl := hc c hcm
      and_intros
      refine w_ixT (atI_nn (k := i) (d := .int (c.getD i 0)) (by rw [List.getElem?_map, List.getD_eq_getElem?_getD, List.getElem?_eq_getElem (by omega)]; rfl) rfl) ?_
      refine w_mul (.small (by omega) (by omega)) ?_
      exact ⟨(colF_iv (by omega)).symm, List.prefix_refl _⟩
    rw [cols_row fun c hcm => by rw [hc c hcm]; exact hil] at h4
    and_intros
    refine w_addL (lst_of h4) (lst_of (get_pre q4' em)) ?_
    refine w_newL (by rw [List.length_append, rowD_len, List.length_map, unitL_len]; exact Nat.le_trans (show _ ≤ 1000 by omega) (by decide)) ?_
    have q5 := List.prefix_append S4' [MBox.lst ((rowD cols.length fun j => sgn (gAt goal i) * cAt cols j i) ++ (unitL goal.length i).map Dt.int)]
    have h5 : (S4' ++ [MBox.lst ((rowD cols.length fun j => sgn (gAt goal i) * cAt cols j i) ++ (unitL goal.length i).map Dt.int)])[S4'.length]? = some (.lst ((rowD cols.length fun j => sgn (gAt goal i) * cAt cols j i) ++ (unitL goal.length i).map Dt.int)) := get_last
    generalize S4' ++ [MBox.lst ((rowD cols.length fun j => sgn (gAt goal i) * cAt cols j i) ++ (unitL goal.length i).map Dt.int)] = S5' at q5 h5 ⊢
    and_intros
    refine w_ixT (atI_nn (k := i) (d := .int (gAt goal i)) (by rw [List.getElem?_map, gAt_of i hil]; rfl) rfl) ?_
    refine w_mul (.small (by omega) (by omega)) ?_
    and_intros
    have q6 := List.prefix_append S5' [MBox.lst [Dt.int (sgn (gAt goal i) * gAt goal i)]]
    have h6 : (S5' ++ [MBox.lst [Dt.int (sgn (gAt goal i) * gAt goal i)]])[S5'.length]? = some (.lst [Dt.int (sgn (gAt goal i) * gAt goal i)]) := get_last
    generalize S5' ++ [MBox.lst [Dt.int (sgn (gAt goal i) * gAt goal i)]] = S6' at q6 h6 ⊢
    refine w_addL (lst_of (get_pre q6 h5)) (lst_of h6) ?_
    have erow : (rowD cols.length fun j => sgn (gAt goal i) * cAt cols j i) ++ (unitL goal.length i).map Dt.int ++ [Dt.int (sgn (gAt goal i) * gAt goal i)] = rowD (cols.length + goal.length + 1) fun q => aF cols goal costs q i := by
      rw [rowD_split, aF_goal hil]
      congr 2
      · exact rowD_congr fun q hq => (aF_col hq hil).symm
      · unfold unitL rowD
        rw [List.map_map]
        refine List.map_congr_left fun k hk => ?_
        show Dt.int (if k = i then 1 else 0) = Dt.int (aF cols goal costs (cols.length + k) i)
        rw [aF_mark (List.mem_range.mp hk)]
        unfold one
        congr 1
        by_cases q : k = i
        · rw [if_pos q, if_pos q.symm]
        · rw [if_neg q, if_neg fun z => q z.symm]
    rw [erow]
    refine w_newL (by rw [rowD_len]; exact Nat.le_trans (show _ ≤ 1000 by omega) (by decide)) ?_
    have q7 := List.prefix_append S6' [MBox.lst (rowD (cols.length + goal.length + 1) fun q => aF cols goal costs q i)]
    have h7 : (S6' ++ [MBox.lst (rowD (cols.length + goal.length + 1) fun q => aF cols goal costs q i)])[S6'.length]? = some (.lst (rowD (cols.length + goal.length + 1) fun q => aF cols goal costs q i)) := get_last
    have pA := (((p3'.trans q4').trans q5).trans q6).trans q7
    have l6 := (((p3'.trans q4').trans q5).trans q6).length_le
    have rlS : rb < S'.length := get_lt eE
    generalize S6' ++ [MBox.lst (rowD (cols.length + goal.length + 1) fun q => aF cols goal costs q i)] = S7' at q7 h7 pA ⊢
    generalize S6'.length = kb at h7 l6 ⊢
    and_intros
    refine w_append (lst_of (get_pre pA eE)) (by rw [elE]; exact Nat.lt_of_lt_of_le hil (Nat.le_trans hm (by decide))) ?_
    have kl := get_lt h7
    refine .inl ⟨rfl, ⟨_, _, _, rfl⟩, by rw [List.length_set]; have := pA.length_le; omega, fun k hk1 hk2 => by rw [List.getElem?_set_ne (fun z => hk2 z.symm), get_pre' pA (by omega)]; exact fS k hk1 hk2, es ++ [.box kb], List.getElem?_set_self (by have := pA.length_le; omega), by rw [List.length_append, elE]; rfl, ?_⟩
    refine (R.pre (S' := S7'.set rb (.lst (es ++ [.box kb]))) fun k hk1 hk2 => by rw [List.getElem?_set_ne (by omega), get_pre' pA hk1]).snoc (k := kb) (by omega) ?_
    rw [List.getElem?_set_ne (by omega), elE]; exact h7
  · obtain ⟨⟨d4, d5, d6, rfl⟩, lS, fS, es, eE, elE, R⟩ := hI
    rw [placed_length, List.length_map, List.length_map] at elE
    have eo : S'[nb]? = _ := (fS nb nl9 (by omega)).trans e9
    have st : S'[sb]? = _ := (fS sb (get_lt s9) (by omega)).trans s9
    have tt : S'[tb]? = _ := (fS tb (get_lt t9) (by omega)).trans t9
    have pZ : S0 <+: S' := pre_of' (fun k hk => by rw [fS k (by omega) (by omega), get_pre' p9 hk]) (by omega)
    have lb : S9.length ≤ S'.length := lS
    clear fS e9 s9 t9 r9 p9
    have rdB : ∀ (S2 : Bxs), S' <+: S2 → ∀ x, x ∈ es → ∃ k, x = .box k ∧ ∃ i, S2[k]? = some (.lst (rowD (cols.length + goal.length + 1) fun q => aF cols goal costs q i)) := fun S2 q x hx => by
      obtain ⟨i, hi⟩ := List.mem_iff_getElem?.mp hx
      obtain ⟨k, h1, _, h3⟩ := R i x hi
      exact ⟨k, h1, i, get_pre q h3⟩
    have rdE : ∀ (S2 : Bxs), S' <+: S2 → ∀ (j : Int) x, x ∈ es → rdF S2 j x = rdF S' j x := fun S2 q j x hx => by
      obtain ⟨i, hi⟩ := List.mem_iff_getElem?.mp hx
      obtain ⟨k, h1, _, h3⟩ := R i x hi
      unfold rdF
      rw [h1, show seqOf S2 (.box k) = _ from seq_lst (get_pre q h3), show seqOf S' (.box k) = _ from seq_lst h3]
    refine c_nx ?_
    refine w_cons (w_set ?_)
    refine w_lcD ?_
    and_intros
    refine w_fld (w_var rfl ⟨nb, _, _, rfl, eo, rfl, ?_⟩)
    and_intros
    refine ⟨⟨by show -(2 ^ 62) ≤ (cols.length : Int); omega, by show (cols.length : Int) < 2 ^ 62; omega⟩, fun d => match d with | .int j => .int (- su goal.length fun k => aF cols goal costs j.toNat k) | _ => .non, by rw [rgD_len]; exact Nat.lt_of_le_of_lt (show ((cols.length : Int)).toNat ≤ 1000 by omega) (by decide), fun _ _ => trivial, fun x S2 hx q => ?_, fun S2 h2 q2 => ?_⟩
    · obtain ⟨j, hj⟩ := List.mem_iff_getElem?.mp hx
      have hjl := (List.getElem?_eq_some_iff.mp hj).1
      rw [rgD_len] at hjl
      rw [rgD_get hj, Int.zero_add]
      refine w_tName ?_
      refine w_neg ?_
      refine w_call (w_consA ?_)
      refine w_lcD ?_
      and_intros
      refine w_fld (w_var rfl ⟨nb, _, _, rfl, get_pre q eo, rfl, ?_⟩)
      and_intros
      refine ⟨_, seq_lst (get_pre q eE), rdF S' (j : Int), by rw [elE]; exact Nat.lt_of_le_of_lt hm (by decide), fun S3 q3 => seq_lst (get_pre q3 (get_pre q eE)), fun y S3 hy q3 => ?_, fun S3 h3 q3 => ?_⟩
      · obtain ⟨k, rfl, i, hk⟩ := rdB S3 (q.trans q3) y hy
        have e0 := rdE S3 (q.trans q3) (j : Int) _ hy
        and_intros
        refine w_ixB (seq_lst hk) (atI_nn (k := j) (rowD_get (by omega)) rfl) ?_
        refine ⟨?_, List.prefix_refl _⟩
        rw [← e0]
        unfold rdF
        rw [show seqOf S3 (.box k) = _ from seq_lst hk]
        rw [Option.getD_some, atI_nn (k := j) (rowD_get (by omega)) rfl]; rfl
      · rw [R.read (jn := j) (fun i => atI_nn (rowD_get (by omega)) rfl), elE, rowD_ints] at h3
        and_intros
        refine w_sumB (seq_lst h3) ?_
        refine ⟨_, rfl, ?_, q3⟩
        rw [sum_rowD]; rfl
    have h2 : S2[S'.length]? = some (.lst (rowD cols.length fun j => aF cols goal costs j (goal.length + 1))) := by
      rw [h2]
      unfold rgD rowD
      rw [List.map_map]
      have en : ((cols.length : Int)).toNat = cols.length := by omega
      rw [en]
      congr 2
      refine List.map_congr_left fun j hj => ?_
      have hj := List.mem_range.mp hj
      show Dt.int (- su goal.length fun k => aF cols goal costs ((0 + (j : Int)).toNat) k) = Dt.int (aF cols goal costs j (goal.length + 1))
      have ej : (0 + (j : Int)).toNat = j := by omega
      rw [ej, aF_sx.dz j (.inl hj)]
    refine c_nx ?_
    refine w_cons (w_set ?_)
    refine w_neg ?_
    refine w_call (w_consA ?_)
    refine w_lcD ?_
    and_intros
    refine w_fld (w_var rfl ⟨nb, _, _, rfl, get_pre q2 eo, rfl, ?_⟩)
    and_intros
    refine ⟨_, seq_lst (get_pre q2 eE), rdF S' (-1), by rw [elE]; exact Nat.lt_of_le_of_lt hm (by decide), fun S3 q3 => seq_lst (get_pre q3 (get_pre q2 eE)), fun y S3 hy q3 => ?_, fun S3 h3 q3 => ?_⟩
    · obtain ⟨k, rfl, i, hk⟩ := rdB S3 (q2.trans q3) y hy
      have e0 := rdE S3 (q2.trans q3) (-1) _ hy
      and_intros
      refine w_ixB (seq_lst hk) rowD_end ?_
      refine ⟨?_, List.prefix_refl _⟩
      rw [← e0]
      unfold rdF
      rw [show seqOf S3 (.box k) = _ from seq_lst hk]
      rw [Option.getD_some, rowD_end]; rfl
    rw [R.read (jn := cols.length + goal.length) (fun i => rowD_end), elE, rowD_ints] at h3
    and_intros
    refine w_sumB (seq_lst h3) ?_
    rw [sum_rowD]
    have eoff : - su goal.length (fun i => aF cols goal costs (cols.length + goal.length) i) = aF cols goal costs (cols.length + goal.length) (goal.length + 1) := (aF_sx.dz _ (.inr rfl)).symm
    have q03 := q2.trans q3
    have hdist := get_pre q3 h2
    refine ⟨_, rfl, ?_⟩
    rw [eoff]
    refine c_nx ?_
    refine w_cons ?_
    and_intros
    refine w_fld (w_var rfl ⟨nb, _, _, rfl, get_pre q03 eo, rfl, ?_⟩)
    refine ⟨ty_list (get_pre q03 eE), ?_⟩
    and_intros
    refine w_listT ?_
    refine w_newL (by rw [List.length_map]; exact Nat.le_trans (show _ ≤ 1000 by omega) (by decide)) ?_
    have qa := List.prefix_append S3 [MBox.lst (costs.map Dt.int)]
    have ha : (S3 ++ [MBox.lst (costs.map Dt.int)])[S3.length]? = some (.lst (costs.map Dt.int)) := get_last
    generalize S3 ++ [MBox.lst (costs.map Dt.int)] = S4 at qa ha ⊢
    and_intros
    have qb := List.prefix_append S4 [MBox.lst [Dt.int 0]]
    have hb : (S4 ++ [MBox.lst [Dt.int 0]])[S4.length]? = some (.lst [Dt.int 0]) := get_last
    generalize S4 ++ [MBox.lst [Dt.int 0]] = S5 at qb hb ⊢
    have q35 := qa.trans qb
    refine w_fld (w_var rfl ⟨nb, _, _, rfl, get_pre (q03.trans q35) eo, rfl, ?_⟩)
    and_intros
    refine w_mulL (lst_of hb) ⟨by omega, by omega, by decide⟩ ?_
    have ez : (List.replicate ((goal.length : Int) + 1).toNat [Dt.int 0]).flatten = rowD (goal.length + 1) fun _ => 0 := by
      rw [rowD_zero]
      have : ((goal.length : Int) + 1).toNat = goal.length + 1 := by omega
      rw [this]
    rw [ez]
    refine w_newL (by rw [rowD_len]; exact Nat.le_trans (show _ ≤ 1000 by omega) (by decide)) ?_
    have qc := List.prefix_append S5 [MBox.lst (rowD (goal.length + 1) fun _ => 0)]
    have hc' : (S5 ++ [MBox.lst (rowD (goal.length + 1) fun _ => 0)])[S5.length]? = some (.lst (rowD (goal.length + 1) fun _ => 0)) := get_last
    generalize S5 ++ [MBox.lst (rowD (goal.length + 1) fun _ => 0)] = S6 at qc hc' ⊢
    refine w_addL (lst_of (get_pre (qb.trans qc) ha)) (lst_of hc') ?_
    have erow : costs.map Dt.int ++ (rowD (goal.length + 1) fun _ => 0) = rowD (cols.length + goal.length + 1) fun q => aF cols goal costs q goal.length := by
      rw [rowD_split, List.append_assoc]
      congr 1
      · rw [map_rowD, cs]
        exact rowD_congr fun q hq => (aF_cost hq).symm
      · have : rowD (goal.length + 1) (fun _ => 0) = rowD goal.length (fun _ => 0) ++ [Dt.int 0] := by unfold rowD; rw [List.range_succ, List.map_append]; rfl
        rw [this, aF_gcost]
        congr 1
        refine rowD_congr fun q hq => ?_
        rw [aF_mark hq]; exact (one_ne (by omega)).symm
    rw [erow]
    refine w_newL (by rw [rowD_len]; exact Nat.le_trans (show _ ≤ 1000 by omega) (by decide)) ?_
    have qd := List.prefix_append S6 [MBox.lst (rowD (cols.length + goal.length + 1) fun q => aF cols goal costs q goal.length)]
    have hd : (S6 ++ [MBox.lst (rowD (cols.length + goal.length + 1) fun q => aF cols goal costs q goal.length)])[S6.length]? = some (.lst (rowD (cols.length + goal.length + 1) fun q => aF cols goal costs q goal.length)) := get_last
    have q3d := (q35.trans qc).trans qd
    have l6 := ((q03.trans q35).trans qc).length_le
    generalize S6 ++ [MBox.lst (rowD (cols.length + goal.length + 1) fun q => aF cols goal costs q goal.length)] = S7 at qd hd q3d ⊢
    generalize S6.length = kc at hd l6 ⊢
    have q07 := q03.trans q3d
    and_intros
    refine w_append (lst_of (get_pre q07 eE)) (by rw [elE]; exact Nat.lt_of_le_of_lt hm (by decide)) ?_
    have kcl := get_lt hd
    have rbl := get_lt eE
    have nbl := get_lt eo
    have sbl := get_lt st
    have tbl := get_lt tt
    have f8 : ∀ k, k < S'.length → k ≠ rb → (S7.set rb (.lst (es ++ [.box kc])))[k]? = S'[k]? := fun k h1 h2 => by rw [List.getElem?_set_ne (fun z => h2 z.symm), get_pre' q07 h1]
    have e8 : (S7.set rb (.lst (es ++ [.box kc])))[rb]? = some (.lst (es ++ [.box kc])) := List.getElem?_set_self (by have := q07.length_le; omega)
    have hdist8 : (S7.set rb (.lst (es ++ [.box kc])))[S'.length]? = some (.lst (rowD cols.length fun j => aF cols goal costs j (goal.length + 1))) := by
      rw [List.getElem?_set_ne (by omega)]; exact get_pre q3d hdist
    have R8 : RowsAt (S7.set rb (.lst (es ++ [.box kc]))) S9.length (cols.length + goal.length + 1) (aF cols goal costs) (es ++ [.box kc]) := by
      refine (R.pre (S' := S7.set rb (.lst (es ++ [.box kc]))) fun k h1 h2 => f8 k h1 (by omega)).snoc (k := kc) (by omega) ?_
      rw [List.getElem?_set_ne (by omega), elE]; exact hd
    have l8 : S'.length ≤ (S7.set rb (.lst (es ++ [.box kc]))).length := by rw [List.length_set]; exact q07.length_le
    generalize S7.set rb (.lst (es ++ [.box kc])) = S8' at f8 e8 hdist8 R8 l8 ⊢
    have eo8 := (f8 nb nbl (by omega)).trans eo
    refine c_nx ?_
    and_intros
    refine w_fld (w_var rfl ⟨nb, _, _, rfl, eo8, rfl, ?_⟩)
    refine ⟨ty_list e8, ?_⟩
    and_intros
    have qb' := List.prefix_append S8' [MBox.lst [Dt.int 0]]
    have hb' : (S8' ++ [MBox.lst [Dt.int 0]])[S8'.length]? = some (.lst [Dt.int 0]) := get_last
    generalize S8' ++ [MBox.lst [Dt.int 0]] = S5' at qb' hb' ⊢
    refine w_fld (w_var rfl ⟨nb, _, _, rfl, get_pre qb' eo8, rfl, ?_⟩)
    refine w_mulL (lst_of hb') ⟨by omega, by omega, by decide⟩ ?_
    have ez' : (List.replicate ((goal.length : Int)).toNat [Dt.int 0]).flatten = rowD goal.length fun _ => 0 := by
      rw [rowD_zero]
      have : ((goal.length : Int)).toNat = goal.length := by omega
      rw [this]
    rw [ez']
    refine w_newL (by rw [rowD_len]; exact Nat.le_trans (show _ ≤ 1000 by omega) (by decide)) ?_
    have qc' := List.prefix_append S5' [MBox.lst (rowD goal.length fun _ => 0)]
    have hc' : (S5' ++ [MBox.lst (rowD goal.length fun _ => 0)])[S5'.length]? = some (.lst (rowD goal.length fun _ => 0)) := get_last
    generalize S5' ++ [MBox.lst (rowD goal.length fun _ => 0)] = S6' at qc' hc' ⊢
    refine w_addL (lst_of (get_pre (qb'.trans qc') hdist8)) (lst_of hc') ?_
    refine w_newL (by rw [List.length_append, rowD_len, rowD_len]; exact Nat.le_trans (show _ ≤ 1000 by omega) (by decide)) ?_
    have qd' := List.prefix_append S6' [MBox.lst ((rowD cols.length fun j => aF cols goal costs j (goal.length + 1)) ++ rowD goal.length fun _ => 0)]
    have hd' : (S6' ++ [MBox.lst ((rowD cols.length fun j => aF cols goal costs j (goal.length + 1)) ++ rowD goal.length fun _ => 0)])[S6'.length]? = some (.lst ((rowD cols.length fun j => aF cols goal costs j (goal.length + 1)) ++ rowD goal.length fun _ => 0)) := get_last
    generalize S6' ++ [MBox.lst ((rowD cols.length fun j => aF cols goal costs j (goal.length + 1)) ++ rowD goal.length fun _ => 0)] = S7' at qd' hd' ⊢
    and_intros
    have qe' := List.prefix_append S7' [MBox.lst [Dt.int (aF cols goal costs (cols.length + goal.length) (goal.length + 1))]]
    have he' : (S7' ++ [MBox.lst [Dt.int (aF cols goal costs (cols.length + goal.length) (goal.length + 1))]])[S7'.length]? = some (.lst [Dt.int (aF cols goal costs (cols.length + goal.length) (goal.length + 1))]) := get_last
    generalize S7' ++ [MBox.lst [Dt.int (aF cols goal costs (cols.length + goal.length) (goal.length + 1))]] = SA at qe' he' ⊢
    refine w_addL (lst_of (get_pre qe' hd')) (lst_of he') ?_
    have erow' : (rowD cols.length fun j => aF cols goal costs j (goal.length + 1)) ++ (rowD goal.length fun _ => 0) ++ [Dt.int (aF cols goal costs (cols.length + goal.length) (goal.length + 1))] = rowD (cols.length + goal.length + 1) fun q => aF cols goal costs q (goal.length + 1) := by
      rw [rowD_split]
      congr 2
      refine rowD_congr fun q hq => ?_
      rw [aF_mark hq]; exact (one_ne (by omega)).symm
    rw [erow']
    refine w_newL (by rw [rowD_len]; exact Nat.le_trans (show _ ≤ 1000 by omega) (by decide)) ?_
    have qf := List.prefix_append SA [MBox.lst (rowD (cols.length + goal.length + 1) fun q => aF cols goal costs q (goal.length + 1))]
    have hf : (SA ++ [MBox.lst (rowD (cols.length + goal.length + 1) fun q => aF cols goal costs q (goal.length + 1))])[SA.length]? = some (.lst (rowD (cols.length + goal.length + 1) fun q => aF cols goal costs q (goal.length + 1))) := get_last
    have q8f := ((((qb'.trans qc').trans qd').trans qe').trans qf)
    have lA := (((qb'.trans qc').trans qd').trans qe').length_le
    generalize SA ++ [MBox.lst (rowD (cols.length + goal.length + 1) fun q => aF cols goal costs q (goal.length + 1))] = SB at qf hf q8f ⊢
    generalize SA.length = kd at hf lA ⊢
    and_intros
    refine w_append (lst_of (get_pre q8f e8)) (by rw [List.length_append, elE]; exact Nat.lt_of_le_of_lt (show _ ≤ 1000 by simp; omega) (by decide)) ?_
    have kdl := get_lt hf
    have lB := q8f.length_le
    have fB : ∀ k, k < S'.length → k ≠ rb → (SB.set rb (.lst (es ++ [.box kc] ++ [.box kd])))[k]? = S'[k]? := fun k h1 h2 => by rw [List.getElem?_set_ne (fun z => h2 z.symm), get_pre' q8f (by omega)]; exact f8 k h1 h2
    have RB : RowsAt (SB.set rb (.lst (es ++ [.box kc] ++ [.box kd]))) S9.length (cols.length + goal.length + 1) (aF cols goal costs) (es ++ [.box kc] ++ [.box kd]) := by
      refine (R8.pre (S' := SB.set rb (.lst (es ++ [.box kc] ++ [.box kd]))) fun k h1 h2 => by rw [List.getElem?_set_ne (by omega), get_pre' q8f h1]).snoc (k := kd) (by omega) ?_
      rw [List.getElem?_set_ne (by omega), List.length_append, elE]; exact hf
    have hR := (told0_start (cols := cols) (goal := goal) (costs := costs)).2
    have lds : (es ++ [Dt.box kc] ++ [Dt.box kd]).length = goal.length + 2 := by rw [List.length_append, List.length_append, elE]; rfl
    refine .inr ⟨rfl, trivial, ⟨rb, tb, sb, ⟨(fB nb nbl (by omega)).trans eo, (fB tb tbl (by omega)).trans tt, (fB sb sbl (by omega)).trans st, ⟨_, List.getElem?_set_self (by omega), lds, fun i d hd => ?_⟩, by omega, by omega⟩, l05⟩, ?_⟩
    · obtain ⟨k, h1, h2, h3⟩ := RB i d hd
      have hi := (List.getElem?_eq_some_iff.mp hd).1
      rw [lds] at hi
      refine ⟨?_, fun z => by rw [h1] at z; have := Dt.box.inj z; omega⟩
      rw [h1, rowZ_D]
      have : (fun q => Rv (goal.length + 2) (aF cols goal costs) (told0 cols.length goal.length) 1 i (aF cols goal costs q)) = fun q => aF cols goal costs q i := funext fun q => hR i hi _
      rw [this]
      exact seq_lst h3
    · refine pre_of' (fun k hk => ?_) (by rw [List.length_set]; have := pZ.length_le; omega)
      rw [fB k (by have := pZ.length_le; omega) (by omega)]
      exact get_pre' pZ hk
end
end Lw
set_option Elab.async false
set_option linter.all false
set_option maxRecDepth 100000
set_option maxHeartbeats 4000000
/-! Em: fractions, shares told, prime rows. -/
namespace Lw
open PySem PySem.Spec PyProof.Rows L2 Mn Lx
section
variable {S : Bxs} {σ0 : Sg} {E : Nat → List Dt → Bxs → Prop}
def prI (p : Int × Int) : Dt := .tup [.int p.1, .int p.2]
def frq (n d : Int) : Int × Int := (n / (Nat.gcd n.natAbs d.natAbs : Nat), d / (Nat.gcd n.natAbs d.natAbs : Nat))
theorem w_gcdQ {a b : Int} {P : Dt → Bxs → Prop} (h : P (.int ((Nat.gcd a.natAbs b.natAbs : Nat) : Int)) S) : (gcdG [.int a, .int b] S).Wp P E := ⟨h⟩
theorem gcd_big {n e : Int} (he : 0 < e) (hb : e.natAbs < BIG) : divOk ((Nat.gcd n.natAbs e.natAbs : Nat) : Int) := by
  have h1 : 0 < e.natAbs := by omega
  have h2 := Nat.gcd_pos_of_pos_right n.natAbs h1
  have h3 := Nat.gcd_le_right n.natAbs h1
  exact div_big (by omega) (by rw [Int.natAbs_natCast]; omega)
theorem lowestQ_ok {n e : Int} (he : 0 < e) (hb : e.natAbs < BIG) : (F_lowest_terms [.int n, .int e] S).Wp (fun r S' => r = prI (frq n e) ∧ S' = S) noX := by
  have g := gcd_big (n := n) he hb
  refine w_body ?_
  unfold B_lowest_terms
  simp only [startD, List.map_cons, List.map_nil, List.length_cons, List.length_nil, List.cons_append, List.nil_append, Nat.reduceAdd, Nat.reduceSub, List.replicate, List.replicate_succ, List.replicate_zero]
  and_intros
  refine w_gcdQ ?_
  unfold frq
  generalize ((Nat.gcd n.natAbs e.natAbs : Nat) : Int) = k at g ⊢
  and_intros
  refine w_fdiv g ?_
  and_intros
  refine w_fdiv g ?_
  and_intros
  exact ⟨Nat.le_of_ble_eq_true (by rfl), .inl ⟨_, rfl, rfl, rfl⟩⟩
variable {nb rb tb sb n m : Nat} {a : Nat → Nat → Int} {told : Nat → Nat} {σ D : Int} {sg : List Int}
/-- the share of each column, by the first k rows -/
def shr (n m : Nat) (a : Nat → Nat → Int) (told : Nat → Nat) (σ D : Int) : Nat → Nat → Int × Int
  | 0, _ => (0, 1)
  | k + 1, j => if j = told k then frq (Rv (m + 2) a told σ k (a (n + m))) D else shr n m a told σ D k j
theorem map_set {α : Type} {n j : Nat} {F : Nat → α} {v : α} : ((List.range n).map F).set j v = (List.range n).map fun q => if q = j then v else F q := by
  refine List.ext_getElem? fun k => ?_
  rw [List.getElem?_set]
  by_cases hk : k < n
  · rw [List.getElem?_map, List.getElem?_map, List.getElem?_range hk, List.length_map, List.length_range]
    by_cases e : j = k
    · subst e; rw [if_pos rfl, if_pos hk]; show _ = some (if j = j then v else F j); rw [if_pos rfl]
    · rw [if_neg e]; show some (F k) = some (if k = j then v else F k); rw [if_neg fun z => e z.symm]
  · rw [List.getElem?_eq_none (by rw [List.length_map, List.length_range]; omega), List.getElem?_eq_none (by rw [List.length_map, List.length_range]; omega), List.length_map, List.length_range]
    split
    · rw [if_neg (by omega)]
    · rfl
theorem shares_ok (h : Eqn S nb rb tb sb n m a told σ D sg) (O : Okx n m a) (p : Sp n m a told σ D) :
    (F_Equations_shares [.box nb] S).Wp (fun d S' => d = .tup ((List.range n).map fun j => prI (shr n m a told σ D m j)) ∧ S <+: S') noX := by
  have hn := O.hn
  have hm := O.hm
  obtain ⟨bD, bR⟩ := O.big p.t p.tle
  have hD := p.t.pos
  refine w_body ?_
  unfold B_Equations_shares
  simp only [startD, List.map_cons, List.map_nil, List.length_cons, List.length_nil, List.cons_append, List.nil_append, Nat.reduceAdd, Nat.reduceSub, List.replicate, List.replicate_succ, List.replicate_zero]
  and_intros
  refine ⟨Nat.le_of_ble_eq_true rfl, ?_⟩
  and_intros
  have q1 := List.prefix_append S [MBox.lst [Dt.tup [.int 0, .int 1]]]
  have h1 : (S ++ [MBox.lst [Dt.tup [.int 0, .int 1]]])[S.length]? = some (.lst [Dt.tup [.int 0, .int 1]]) := get_last
  generalize S ++ [MBox.lst [Dt.tup [.int 0, .int 1]]] = S1 at q1 h1 ⊢
  refine w_fld (w_var rfl ⟨nb, _, _, rfl, get_pre q1 h.eo, rfl, ?_⟩)
  refine w_mulL (lst_of h1) ⟨by omega, by omega, by decide⟩ ?_
  have e0 : (List.replicate ((n : Int)).toNat [Dt.tup [.int 0, .int 1]]).flatten = (List.range n).map fun j => prI (shr n m a told σ D 0 j) := by
    have : ((n : Int)).toNat = n := by omega
    rw [this, List.flatten_replicate_singleton]
    refine (List.eq_replicate_iff.mpr ⟨by rw [List.length_map, List.length_range], fun d hd => ?_⟩).symm
    obtain ⟨_, _, rfl⟩ := List.mem_map.mp hd
    rfl
  rw [e0]
  refine w_newL (by rw [List.length_map, List.length_range]; exact Nat.le_trans (show n ≤ 1000 by omega) (by decide)) ?_
  have q2 := List.prefix_append S1 [MBox.lst ((List.range n).map fun j => prI (shr n m a told σ D 0 j))]
  have h2 : (S1 ++ [MBox.lst ((List.range n).map fun j => prI (shr n m a told σ D 0 j))])[S1.length]? = some (.lst ((List.range n).map fun j => prI (shr n m a told σ D 0 j))) := get_last
  have q02 := q1.trans q2
  have l1 := q1.length_le
  generalize S1 ++ [MBox.lst ((List.range n).map fun j => prI (shr n m a told σ D 0 j))] = S2 at q2 h2 q02 ⊢
  generalize S1.length = fb at h2 l1 ⊢
  have H2 := h.pre q02
  obtain ⟨ds, e1, elen, er⟩ := H2.er
  refine c_nx ?_
  refine w_cons ?_
  and_intros
  refine w_fld (w_var rfl ⟨nb, _, _, rfl, H2.eo, rfl, ?_⟩)
  and_intros
  refine w_fld (w_var rfl ⟨nb, _, _, rfl, H2.eo, rfl, ?_⟩)
  and_intros
  refine ⟨_, _, _, _, rfl, seq_lst e1, seq_lst H2.et, ?_⟩
  have fbl := get_lt h2
  have nfb : nb < S.length := get_lt h.eo
  have tfb : tb < S.length := get_lt h.et
  have rfb : rb < S.length := by obtain ⟨_, e, _⟩ := h.er; exact get_lt e
  refine w_loop (fun i σ' S' => (∃ d2 d3, σ' = [some (.box nb), some (.box fb), d2, d3]) ∧ S2.length ≤ S'.length ∧ (∀ k, k < S2.length → k ≠ fb → S'[k]? = S2[k]?) ∧ S'[fb]? = some (.lst ((List.range n).map fun j => prI (shr n m a told σ D i j))))
    (fun i σ' S' hI => ?_) (fun i x σ' S' hx hI => ?_) (fun σ' S' hI => ?_) ⟨⟨_, _, rfl⟩, Nat.le_refl _, (fun _ _ _ => rfl), h2⟩
  · exact ⟨seq_lst (by rw [hI.2.2.1 rb (by omega) (by omega)]; exact e1), seq_lst (by rw [hI.2.2.1 tb (by omega) (by omega)]; exact H2.et)⟩
  · obtain ⟨⟨d2, d3, rfl⟩, lS, fS, eF⟩ := hI
    have hz := List.getElem?_zip_eq_some.mp hx
    obtain ⟨hx1, hx2⟩ := hz
    have him : i < m := by
      have := (List.getElem?_eq_some_iff.mp hx2).1
      unfold tolZ at this
      rw [List.length_map, List.length_range] at this; exact this
    rw [tolZ_get him] at hx2
    obtain ⟨x1, x2⟩ := x
    have hx2 : Dt.int (told i : Int) = x2 := Option.some.inj hx2
    subst hx2
    have eo : S'[nb]? = _ := (fS nb (by omega) (by omega)).trans H2.eo
    have hr := (er i x1 hx1).1
    have nx : x1 ≠ .box fb := fun z => by
      -- a row is no list of pairs
      have hr0 : seqOf S2 (.box fb) = _ := z ▸ hr
      have hr1 : S2.seq fb = _ := hr0
      rw [seq_lst h2, rowZ_D] at hr1
      have hr2 := Option.some.inj hr1
      have hl := congrArg List.length hr2
      rw [List.length_map, List.length_range, rowD_len] at hl
      omega
    have hr' := seqOf_stay (fun k hk => fS k (seqOf_lt hr hk) (fun z => nx (hk ▸ z ▸ rfl))) hr
    and_intros
    refine w_fld (w_var rfl ⟨nb, _, _, rfl, eo, rfl, ?_⟩)
    and_intros
    have tl := p.tl i him
    refine ⟨fun q => ?_, fun q => ?_⟩
    · have q : (told i : Int) < (n : Int) := of_decide_eq_true q
      and_intros
      refine w_ixQ hr' rowZ_end ?_
      and_intros
      refine w_fld (w_var rfl ⟨nb, _, _, rfl, eo, rfl, ?_⟩)
      and_intros
      refine (lowestQ_ok hD bD).mono (fun u S3 ⟨eu, eS⟩ => ?_) fun _ _ _ q => q
      subst eu; subst eS
      and_intros
      refine w_setG (lst_of eF) (j := told i) (by rw [List.length_map, List.length_range]; exact (ixN_mk (by omega) q).trans (by simp)) ?_
      rw [map_set]
      refine .inl ⟨rfl, ⟨_, _, rfl⟩, by rw [List.length_set]; exact lS, fun k h1 h2 => by rw [List.getElem?_set_ne (fun z => h2 z.symm)]; exact fS k h1 h2, ?_⟩
      rw [List.getElem?_set_self (by omega)]
      congr 2
      refine List.map_congr_left fun j _ => ?_
      show (if j = told i then _ else _) = prI (if j = told i then _ else _)
      split <;> rfl
    · have q : ¬ (told i : Int) < (n : Int) := of_decide_eq_false q
      and_intros
      refine .inl ⟨rfl, ⟨_, _, rfl⟩, lS, fS, ?_⟩
      rw [eF]
      congr 2
      refine List.map_congr_left fun j hj => ?_
      have hj := List.mem_range.mp hj
      show prI (shr n m a told σ D i j) = prI (if j = told i then _ else _)
      rw [if_neg (by omega)]
  · obtain ⟨⟨d2, d3, rfl⟩, lS, fS, eF⟩ := hI
    have el : (ds.zip (tolZ m told)).length = m := by
      rw [List.length_zip, elen]
      unfold tolZ
      rw [List.length_map, List.length_range]; omega
    rw [el] at eF
    refine c_nx ?_
    and_intros
    refine w_tupB (seq_lst eF) ?_
    refine .inl ⟨_, rfl, rfl, pre_of' (fun k hk => ?_) (by have := q02.length_le; omega)⟩
    rw [fS k (by have := q02.length_le; omega) (by omega), get_pre' q02 hk]
/-! ### prime rows -/
def gcl : List Int → Nat → Nat
  | [], g => g
  | x :: xs, g => gcl xs (Nat.gcd g x.natAbs)
def gcL (xs : List Int) : Nat := gcl xs 0
theorem gcl_dvd : ∀ {xs : List Int} {g : Nat}, gcl xs g ∣ g ∧ ∀ x ∈ xs, gcl xs g ∣ x.natAbs
  | [], g => ⟨Nat.dvd_refl g, fun x hx => nomatch hx⟩
  | y :: ys, g => by
    obtain ⟨h1, h2⟩ := gcl_dvd (xs := ys) (g := Nat.gcd g y.natAbs)
    refine ⟨Nat.dvd_trans h1 (Nat.gcd_dvd_left ..), fun x hx => ?_⟩
    rcases List.mem_cons.mp hx with e | e
    · subst e; exact Nat.dvd_trans h1 (Nat.gcd_dvd_right ..)
    · exact h2 x e
theorem gcl_snoc {x : Int} : ∀ {xs : List Int} {g : Nat}, gcl (xs ++ [x]) g = Nat.gcd (gcl xs g) x.natAbs
  | [], g => rfl
  | y :: ys, g => gcl_snoc (xs := ys)
def prL (xs : List Int) : List Int := xs.map fun x => x / (gcL xs : Nat)
theorem common_ok {d : Dt} {xs : List Int} (e : seqOf S d = some (xs.map Dt.int)) : (F_common_divisor [d] S).Wp (fun r S' => r = .int (gcL xs : Nat) ∧ S' = S) noX := by
  refine w_body ?_
  unfold B_common_divisor
  simp only [startD, List.map_cons, List.map_nil, List.length_cons, List.length_nil, List.cons_append, List.nil_append, Nat.reduceAdd, Nat.reduceSub, List.replicate, List.replicate_succ, List.replicate_zero]
  and_intros
  refine ⟨_, e, ?_⟩
  refine w_loop (fun i σ' S' => S' = S ∧ ∃ d2, σ' = [some d, some (.int (gcl (xs.take i) 0 : Nat)), d2]) (fun i σ' S' hI => by rw [hI.1]; exact e) (fun i x σ' S' hx hI => ?_) (fun σ' S' hI => ?_) ⟨rfl, _, rfl⟩
  · obtain ⟨rfl, d2, rfl⟩ := hI
    have hx : (xs.map Dt.int)[i]? = some x := hx
    rw [List.getElem?_map] at hx
    obtain ⟨y, hy, rfl⟩ := Option.map_eq_some_iff.mp hx
    and_intros
    refine w_gcdQ ?_
    refine .inl ⟨rfl, rfl, some (.int y), ?_⟩
    rw [List.take_add_one, hy]
    show _ = [_, some (Dt.int ((gcl (xs.take i ++ [y]) 0 : Nat) : Int)), _]
    rw [gcl_snoc, Int.natAbs_natCast]; rfl
  · obtain ⟨rfl, d2, rfl⟩ := hI
    refine c_nx ?_
    and_intros
    refine .inl ⟨_, rfl, ?_, rfl⟩
    have : (xs.map Dt.int).length = xs.length := List.length_map ..
    show Dt.int (gcl (xs.take (xs.map Dt.int).length) 0 : Nat) = _
    rw [this, List.take_length]; rfl
theorem prime_ok {d : Dt} {xs : List Int} (e : seqOf S d = some (xs.map Dt.int)) (hl : xs.length ≤ 1000) (h0 : ∃ x ∈ xs, x ≠ 0) (hb : ∀ x ∈ xs, x.natAbs < BIG) : (F_prime_row [d] S).Wp (fun r S' => r = iv (prL xs) ∧ S <+: S') noX := by
  obtain ⟨x0, hx0, hn0⟩ := h0
  have dv := (gcl_dvd (xs := xs) (g := 0)).2
  have g0 : 0 < gcL xs := by
    rcases Nat.eq_zero_or_pos (gcL xs) with q | q
    · have := dv x0 hx0
      rw [show gcl xs 0 = gcL xs from rfl, q, Nat.zero_dvd] at this
      omega
    · exact q
  have gb : gcL xs < BIG := Nat.lt_of_le_of_lt (Nat.le_of_dvd (by omega) (dv x0 hx0)) (hb x0 hx0)
  have go : divOk ((gcL xs : Nat) : Int) := div_big (by omega) (by rw [Int.natAbs_natCast]; exact gb)
  refine w_body ?_
  unfold B_prime_row
  simp only [startD, List.map_cons, List.map_nil, List.length_cons, List.length_nil, List.cons_append, List.nil_append, Nat.reduceAdd, Nat.reduceSub, List.replicate, List.replicate_succ, List.replicate_zero]
  and_intros
  refine (common_ok e).mono (fun u S1 ⟨eu, eS⟩ => ?_) fun _ _ _ q => q
  subst eu; subst eS
  refine c_nx ?_
  refine w_ret (w_call (w_consA ?_))
  refine w_lcD ?_
  and_intros
  refine ⟨_, e, fun (d : Dt) => match d with | .int i => Dt.int (i / (gcL xs : Nat)) | d => d, by rw [List.length_map]; exact Nat.lt_of_le_of_lt hl (by decide), fun S' p => seqOf_stay (fun k hk => get_pre' p (seqOf_lt e hk)) e, fun x S' hx p => ?_, fun S' hn p => ?_⟩
  · obtain ⟨i, _, rfl⟩ := List.mem_map.mp hx
    and_intros
    refine w_fdiv go ?_
    exact ⟨rfl, List.prefix_refl _⟩
  · and_intros
    refine w_tupB (seq_lst hn) ?_
    refine .inl ⟨_, rfl, ?_, p⟩
    unfold prL iv
    show Dt.tup _ = Dt.tup _
    rw [List.map_map, List.map_map]; rfl
theorem prL_mul {xs : List Int} (h0 : ∃ x ∈ xs, x ≠ 0) : 0 < gcL xs ∧ ∀ (k : Nat) (x : Int), xs[k]? = some x → ∃ y, (prL xs)[k]? = some y ∧ (gcL xs : Int) * y = x := by
  obtain ⟨x0, hx0, hn0⟩ := h0
  have dv := (gcl_dvd (xs := xs) (g := 0)).2
  refine ⟨?_, fun k x hx => ?_⟩
  · rcases Nat.eq_zero_or_pos (gcL xs) with q | q
    · have := dv x0 hx0
      rw [show gcl xs 0 = gcL xs from rfl, q, Nat.zero_dvd] at this
      omega
    · exact q
  · refine ⟨x / (gcL xs : Nat), by unfold prL; rw [List.getElem?_map, hx]; rfl, ?_⟩
    refine Int.mul_ediv_cancel' ?_
    have := dv x (List.mem_of_getElem? hx)
    exact Int.ofNat_dvd_left.mpr this
end
end Lw
set_option Elab.async false
set_option linter.all false
set_option maxRecDepth 100000
set_option maxHeartbeats 4000000
/-! En: a row against; shares_for, row_against. -/
namespace Lw
open PySem PySem.Spec PyProof.Rows L2 Mn Lx
section
variable {S : Bxs} {E : Nat → List Dt → Bxs → Prop} {nb rb tb sb n m : Nat} {a : Nat → Nat → Int} {told : Nat → Nat} {σ D : Int} {sg : List Int}
theorem w_slQ {d : Dt} {lo hi : Option Int} {xs : List Dt} {P : Dt → Bxs → Prop} (e : seqOf S d = some xs) (hl : xs.length ≤ 1000) (h : ∀ r S', seqOf S' r = some (cutD xs lo hi) → S <+: S' → P r S') : (slG lo hi d S).Wp P E := by
  cases d <;> first | (cases e; done) | skip
  · cases e; exact w_slT (h _ S rfl (List.prefix_refl _))
  · rename_i k
    refine w_slB e (w_newL (Nat.le_trans (cutD_length ..) (Nat.le_trans hl (by decide))) (h _ _ (seq_lst get_last) (List.prefix_append _ _)))
theorem cut_nm1 {xs ys : List Dt} {x : Dt} : Mn.cutD (xs ++ ys ++ [x]) (some (xs.length : Int)) (some (-1)) = ys := by
  unfold Mn.cutD
  have h2 : HT.sIx (xs ++ ys ++ [x]).length (xs ++ ys ++ [x]).length (some (-1)) = xs.length + ys.length := by
    show (if (-1 : Int) < 0 then ((-1 : Int) + ((xs ++ ys ++ [x]).length : Int)).toNat else min (-1 : Int).toNat (xs ++ ys ++ [x]).length) = _
    rw [if_pos (by decide), List.length_append, List.length_append]
    simp only [List.length_cons, List.length_nil]
    omega
  rw [HT.sIx_nat, Nat.min_eq_left (by rw [List.length_append, List.length_append]; omega), h2, List.append_assoc, List.drop_left, Nat.add_sub_cancel_left, List.take_left]
/-- the row against, times its divisor -/
def agL (n m : Nat) (a : Nat → Nat → Int) (told : Nat → Nat) (σ D : Int) (sg : List Int) : List Int := (List.range m).map fun k => gAt sg k * (D - Rv (m + 2) a told σ (m + 1) (a (n + k)))
def agF (D : Int) : Dt × Dt → Dt
  | (.int s, .int u) => .int (s * (D - u))
  | _ => .non
theorem ag_nz (X : Sx n m a) (p : Sp n m a told σ D) (hs : ∀ k, k < m → gAt sg k = 1 ∨ gAt sg k = -1) (hg : Rv (m + 2) a told σ (m + 1) (a (n + m)) ≠ 0) : ∃ x ∈ agL n m a told σ D sg, x ≠ 0 := by
  have e := p.zrow X (X.dz (n + m) (.inr rfl))
  rcases Classical.em (∃ k, k < m ∧ D - Rv (m + 2) a told σ (m + 1) (a (n + k)) ≠ 0) with ⟨k, hk, h⟩ | h
  · refine ⟨_, List.mem_map.mpr ⟨k, List.mem_range.mpr hk, rfl⟩, fun z => ?_⟩
    rcases Int.mul_eq_zero.mp z with q | q
    · rcases hs k hk with r | r <;> omega
    · exact h q
  · refine absurd ?_ hg
    rw [e, su_zero fun k hk => ?_]; · rfl
    rcases Decidable.em (D - Rv (m + 2) a told σ (m + 1) (a (n + k)) = 0) with q | q
    · rw [q, Int.mul_zero]
    · exact absurd ⟨k, hk, q⟩ h
theorem agL_big (O : Okx n m a) (p : Sp n m a told σ D) (hs : ∀ k, k < m → gAt sg k = 1 ∨ gAt sg k = -1) : ∀ x ∈ agL n m a told σ D sg, x.natAbs < BIG := fun x hx => by
  obtain ⟨k, hk, rfl⟩ := List.mem_map.mp hx
  have hk := List.mem_range.mp hk
  obtain ⟨b1, b2⟩ := O.big2 p.t p.tle
  have := b2 (m + 1) (n + k) (by omega)
  rcases hs k hk with r | r <;> rw [r] <;> omega
theorem against_ok (h : Eqn S nb rb tb sb n m a told σ D sg) (O : Okx n m a) (p : Sp n m a told σ D) (sl : sg.length = m) (hs : ∀ k, k < m → gAt sg k = 1 ∨ gAt sg k = -1) (hg : Rv (m + 2) a told σ (m + 1) (a (n + m)) ≠ 0) :
    (F_Equations_row_against [.box nb] S).Wp (fun d S' => d = iv (prL (agL n m a told σ D sg)) ∧ S <+: S') noX := by
  have hn := O.hn
  have hm := O.hm
  obtain ⟨ds, dz, q1, q2, q3, q4⟩ := h.row (show m + 1 < m + 2 by omega)
  refine w_body ?_
  unfold B_Equations_row_against
  simp only [startD, List.map_cons, List.map_nil, List.length_cons, List.length_nil, List.cons_append, List.nil_append, Nat.reduceAdd, Nat.reduceSub, List.replicate, List.replicate_succ, List.replicate_zero]
  and_intros
  refine w_fld (w_var rfl ⟨nb, _, _, rfl, h.eo, rfl, ?_⟩)
  and_intros
  refine w_ixB (seq_lst q1) (d := dz) ?_ ?_
  · unfold atI ixN
    rw [if_neg (by omega), if_pos (by omega)]
    show ds[((ds.length : Int) + -1).toNat]? = _
    have : ((ds.length : Int) + -1).toNat = m + 1 := by omega
    rw [this]; exact q3
  and_intros
  refine w_fld (w_var rfl ⟨nb, _, _, rfl, h.eo, rfl, ?_⟩)
  and_intros
  refine w_slQ q4 (by rw [List.length_map, rowZ_len]; omega) fun r S1 e1 p1 => ?_
  have ecut : cutD ((rowZ n m a told σ (m + 1)).map Dt.int) (some (n : Int)) (some (-1)) = rowD m fun k => Rv (m + 2) a told σ (m + 1) (a (n + k)) := by
    rw [rowZ_D, rowD_split]
    have := cut_nm1 (xs := rowD n fun q => Rv (m + 2) a told σ (m + 1) (a q)) (ys := rowD m fun k => Rv (m + 2) a told σ (m + 1) (a (n + k))) (x := .int (Rv (m + 2) a told σ (m + 1) (a (n + m))))
    rw [rowD_len] at this
    exact this
  rw [ecut] at e1
  have h1 := h.pre p1
  have hsg : sg.map Dt.int = rowD m fun k => gAt sg k := by rw [map_rowD, sl]; rfl
  refine c_nx ?_
  refine w_ret (w_call (w_consA ?_))
  refine w_lcD ?_
  and_intros
  refine w_fld (w_var rfl ⟨nb, _, _, rfl, h1.eo, rfl, ?_⟩)
  and_intros
  refine ⟨_, _, _, _, rfl, seq_lst h1.es, e1, agF D, ?_, fun S2 p2 => ⟨seq_lst (get_pre p2 h1.es), seqOf_stay (fun k hk => get_pre' p2 (seqOf_lt e1 hk)) e1⟩, fun x S2 hx p2 => ?_, fun S2 h2 p2 => ?_⟩
  · rw [hsg, rowD_zip, List.length_map, List.length_range]
    exact Nat.lt_of_le_of_lt (show m ≤ 1000 by omega) (by decide)
  · rw [hsg, rowD_zip] at hx
    obtain ⟨k, hk, rfl⟩ := List.mem_map.mp hx
    have hk := List.mem_range.mp hk
    have so := hs k hk
    and_intros
    refine w_fld (w_var rfl ⟨nb, _, _, rfl, get_pre p2 h1.eo, rfl, ?_⟩)
    and_intros
    refine w_mul (.small (by omega) (by omega)) ?_
    exact ⟨rfl, List.prefix_refl _⟩
  · rw [hsg, rowD_zip, List.map_map] at h2
    have eag : ((List.range m).map (agF D ∘ fun q => (Dt.int (gAt sg q), Dt.int (Rv (m + 2) a told σ (m + 1) (a (n + q)))))) = (agL n m a told σ D sg).map Dt.int := by
      unfold agL
      rw [List.map_map]; rfl
    rw [eag] at h2
    and_intros
    refine (prime_ok (d := .box S1.length) (xs := agL n m a told σ D sg) (seq_lst h2) (by unfold agL; rw [List.length_map, List.length_range]; omega) (ag_nz O.X p hs hg) (agL_big O p hs)).mono (fun u S3 ⟨eu, p3⟩ => ?_) fun _ _ _ q => q
    exact .inl ⟨_, rfl, eu, (p1.trans p2).trans p3⟩
end
/-! ### the two questions -/
section
variable {S : Bxs} {cols : List (List Int)} {goal : List Int}
/-- columns and a goal that can be told -/
structure Cg (cols : List (List Int)) (goal : List Int) (B : Nat) : Prop where
  hn : cols.length ≤ 20
  hm : goal.length ≤ 9
  hc : ∀ c ∈ cols, c.length = goal.length
  b1 : ∀ j k, (cAt cols j k).natAbs ≤ B
  b2 : ∀ k, (gAt goal k).natAbs ≤ B
  hB : B ≤ 10 ^ 18
def c0 (cols : List (List Int)) : List Int := List.replicate cols.length 0
theorem c0_at {k : Nat} : gAt (c0 cols) k = 0 := by
  unfold gAt c0
  rw [List.getD_eq_getElem?_getD, List.getElem?_replicate]
  split <;> rfl
abbrev A0 (cols : List (List Int)) (goal : List Int) := aF cols goal (c0 cols)
theorem Cg.okx {B : Nat} (G : Cg cols goal B) : Okx cols.length goal.length (A0 cols goal) :=
  aF_okx (by have := G.hn; omega) G.hm G.b1 G.b2 (fun k => by rw [c0_at]; exact Nat.zero_le _) (Nat.le_trans G.hB (by decide))
/-- where lowering the distance ends -/
def Fin (cols : List (List Int)) (goal : List Int) (told : Nat → Nat) (D : Int) : Prop :=
  Way cols.length goal.length (A0 cols goal) (goal.length + 1) 1 (told0 cols.length goal.length) 1 told D ∧ Ends cols.length goal.length (A0 cols goal) (goal.length + 1) 1 told
def Off (cols : List (List Int)) (goal : List Int) (told : Nat → Nat) : Int := Rv (goal.length + 2) (A0 cols goal) told 1 (goal.length + 1) (A0 cols goal (cols.length + goal.length))
theorem Fin.same {t1 t2 : Nat → Nat} {D1 D2 : Int} (h1 : Fin cols goal t1 D1) (h2 : Fin cols goal t2 D2) : t1 = t2 ∧ D1 = D2 := h1.1.same h2.1 h1.2 h2.2
def last (cols : List (List Int)) (goal : List Int) (told : Nat → Nat) (D : Int) : Tri := mos cols.length goal.length (A0 cols goal) (told, 1, D) goal.length
def shD (cols : List (List Int)) (goal : List Int) (told : Nat → Nat) (D : Int) : List (Int × Int) :=
  (List.range cols.length).map fun j => shr cols.length goal.length (A0 cols goal) (last cols goal told D).1 (last cols goal told D).2.1 (last cols goal told D).2.2 goal.length j
def agR (cols : List (List Int)) (goal : List Int) (told : Nat → Nat) (D : Int) : List Int := prL (agL cols.length goal.length (A0 cols goal) told 1 D (goal.map sgn))
theorem Fin.mz {told : Nat → Nat} {D : Int} (h : Fin cols goal told D) (h0 : Off cols goal told = 0) : Mz cols.length goal.length (A0 cols goal) (told, 1, D) :=
  ⟨h.1.sp, fun i hi hq => h.1.sp.none aF_sx h0 i hi hq⟩
theorem pre_fq {nb tb : Nat} {S S1 S2 : Bxs} (p : S <+: S1) (f : Fq nb tb S1 S2) (h1 : S.length ≤ nb) (h2 : S.length ≤ tb) : S <+: S2 :=
  pre_of' (fun k hk => by rw [f.1 k (by have := p.length_le; omega) (by omega) (by omega), get_pre' p hk]) (by have := p.length_le; have := f.2; omega)
theorem sg_at {k : Nat} (h : k < goal.length) : gAt (goal.map sgn) k = sgn (gAt goal k) := by
  unfold gAt
  rw [List.getD_eq_getElem?_getD, List.getElem?_map, List.getElem?_eq_getElem h, List.getD_eq_getElem?_getD, List.getElem?_eq_getElem h]; rfl
theorem row_against_ok {B : Nat} (G : Cg cols goal B) : (F_row_against [.tup (cols.map iv), iv goal] S).Wp (fun d S' => S <+: S' ∧ ∃ told D, Fin cols goal told D ∧ ((Off cols goal told = 0 ∧ d = .non) ∨ (Off cols goal told ≠ 0 ∧ d = iv (agR cols goal told D)))) noX := by
  have O := G.okx
  have hn := G.hn
  refine w_body ?_
  unfold B_row_against
  simp only [startD, List.map_cons, List.map_nil, List.length_cons, List.length_nil, List.cons_append, List.nil_append, Nat.reduceAdd, Nat.reduceSub, List.replicate, List.replicate_succ, List.replicate_zero]
  refine w_cons (w_set ?_)
  refine w_makeC ?_
  and_intros
  refine ⟨Nat.le_of_ble_eq_true rfl, ?_⟩
  and_intros
  rw [List.length_map]
  refine w_mulT0 (by omega) ?_
  and_intros
  refine (einit_ok (S0 := S) (List.prefix_append _ _) (Nat.le_refl _) get_last (by omega) G.hm G.hc (costs := c0 cols) (by unfold c0; rw [List.length_replicate])).mono (fun u S1 ⟨eu, ⟨rb, tb, sb, H, lt⟩, p1⟩ => ?_) fun _ _ _ q => q
  refine ⟨eu, ?_⟩
  refine c_nx ?_
  refine w_cons (w_if ?_)
  refine w_true ?_
  refine w_methC (w_var rfl ⟨S.length, _, rfl, H.eo, rfl, ?_⟩)
  and_intros
  refine (reach_ok H O told0_start.1).mono (fun u S2 ⟨rb2, told, D, eu, H2, W, En, f2⟩ => ?_) fun _ _ _ q => q
  subst eu
  have F : Fin cols goal told D := ⟨W, En⟩
  have p2 := pre_fq p1 f2 (Nat.le_refl _) lt
  refine ⟨_, rfl, ?_⟩
  refine ⟨fun z => ?_, fun z => ?_⟩
  · have z : Off cols goal told = 0 := by unfold Off; simpa using z
    and_intros
    refine .inl ⟨_, rfl, p2, told, D, F, .inl ⟨z, rfl⟩⟩
  · have z : Off cols goal told ≠ 0 := by unfold Off; simpa using z
    refine w_sNil ?_
    refine c_nx ?_
    refine w_ret ?_
    refine w_methC (w_var rfl ⟨S.length, _, rfl, H2.eo, rfl, ?_⟩)
    and_intros
    refine (against_ok H2 O F.1.sp (List.length_map ..) (fun k hk => by rw [sg_at hk]; exact sgn_or _) z).mono (fun u S3 ⟨eu, p3⟩ => ?_) fun _ _ _ q => q
    exact .inl ⟨_, rfl, p2.trans p3, told, D, F, .inr ⟨z, eu⟩⟩
end
end Lw
set_option Elab.async false
set_option linter.all false
set_option maxRecDepth 100000
set_option maxHeartbeats 4000000
/-! Ga: costs: what lowers them has a row to leave; marks that carry nothing go on so; the row of the costs by the marks. -/
namespace Lx
section
variable {n m : Nat} {a : Nat → Nat → Int} {told : Nat → Nat} {σ D : Int}
theorem Sp.costs (X : Sx n m a) (p : Sp n m a told σ D) (v : Nat → Int) : D * v m = (su m fun i => Rv (m + 2) a told σ i v * a (told i) m) + Rv (m + 2) a told σ m v := by
  have e := p.t.ex v m (by omega)
  rw [su_two', p.tm, p.tz, X.u1 _ (by omega), X.u2 _ (by omega), one_eq, one_ne (by omega), Int.mul_zero, Int.mul_one, Int.add_zero] at e
  exact e
theorem Sp.cost_told (X : Sx n m a) (p : Sp n m a told σ D) (h0 : ∀ j, j < n → 0 ≤ a j m) {i : Nat} (hi : i < m) : 0 ≤ a (told i) m := by
  have hl := p.tl i hi
  by_cases q : told i < n
  · exact h0 _ q
  · obtain ⟨k, hk⟩ : ∃ k, told i = n + k := ⟨told i - n, by omega⟩
    rw [hk, X.um k m (by omega) (by omega), one_ne (by omega)]; exact Int.le_refl 0
/-- what lowers the costs has a row to leave -/
theorem Sp.someC (X : Sx n m a) (p : Sp n m a told σ D) (h0 : ∀ j, j < n → 0 ≤ a j m) {c : Nat} (hc : c < n) (h : Rv (m + 2) a told σ m (a c) < 0) : ∃ i, i < m ∧ 0 < Rv (m + 2) a told σ i (a c) := by
  have e := p.costs X (a c)
  have pl := Int.mul_nonneg (Int.le_of_lt p.t.pos) (h0 c hc)
  obtain ⟨i, hi, pos⟩ := su_pos (f := fun i => Rv (m + 2) a told σ i (a c) * a (told i) m) (m := m) (by omega)
  refine ⟨i, hi, ?_⟩
  have hn := p.cost_told X h0 hi
  rcases Int.lt_or_le 0 (Rv (m + 2) a told σ i (a c)) with q | q
  · exact q
  · exact absurd pos (Int.not_lt.mpr (Int.mul_nonpos_of_nonpos_of_nonneg q hn))
/-- marks that carry nothing, in rows of nothing -/
def Mq (n m : Nat) (a : Nat → Nat → Int) (σ : Int) (told : Nat → Nat) : Prop := ∀ i, i < m → n ≤ told i → Rv (m + 2) a told σ i (a (n + m)) = 0 ∧ ∀ j, j < n → Rv (m + 2) a told σ i (a j) = 0
theorem Stp.mq {z : Nat} {told' : Nat → Nat} {D' : Int} {r c : Nat} (p : Sp n m a told σ D) (s : Stp n m a z told told' σ D' r c) (M : Mq n m a σ told) : Mq n m a σ told' := fun i hi hn => by
  have ne : i ≠ r := fun e => by
    rw [e, s.et, put_same] at hn
    have := s.hc; omega
  rw [s.et, put_ne ne] at hn
  obtain ⟨m1, m2⟩ := M i hi hn
  have hc := m2 c s.hc
  have hD := p.t.pos
  have key : ∀ v, Rv (m + 2) a told σ i v = 0 → Rv (m + 2) a told' σ i v = 0 := fun v hv => by
    have e := s.rv p (i := i) (by omega) ne v
    rw [hv, hc, Int.zero_mul, Int.zero_mul] at e
    exact (Int.mul_eq_zero.mp (show D * Rv (m + 2) a told' σ i v = 0 by omega)).resolve_left (by omega)
  exact ⟨key _ m1, fun j hj => key _ (m2 j hj)⟩
theorem Chn.mq {L z : Nat} {tld : Nat → Nat → Nat} {dv : Nat → Int} (C : Chn n m a z σ tld dv L) (M : Mq n m a σ (tld 0)) : ∀ t, t ≤ L → Mq n m a σ (tld t)
  | 0, _ => M
  | t + 1, h => by
    obtain ⟨r, c, s⟩ := C.st t (by omega)
    exact s.mq (C.sp t (by omega)) (C.mq M t (by omega))
/-- an exchange in another row leaves rows of nothing -/
theorem Tab.zero_stay (t : Tab (m + 2) a told σ D) {r c i : Nat} (hr : r < m + 2) (hi : i < m + 2) (ne : i ≠ r) (s : Int) (hc : Rv (m + 2) a told σ i (a c) = 0) {v : Nat → Int} (hv : Rv (m + 2) a told σ i v = 0) : Rv (m + 2) a (put told r c) (s * σ) i v = 0 := by
  have e := t.rv (r := r) (c := c) hr hi ne s v
  rw [hv, hc, Int.zero_mul, Int.zero_mul, Int.sub_self, Int.mul_zero] at e
  have hD := t.pos
  exact (Int.mul_eq_zero.mp e).resolve_left (by omega)
/-- the row of the costs, by the marks' places -/
theorem Sp.mrow (X : Sx n m a) (p : Sp n m a told σ D) (v : Nat → Int) : Rv (m + 2) a told σ m v = (su m fun k => v k * Rv (m + 2) a told σ m (a (n + k))) + D * v m := by
  have e : Rv (m + 2) a told σ m v = Rv (m + 2) a told σ m (fun b => su (m + 2) fun k => v k * (if k < m then a (n + k) else a (told k)) b) := Rv_congr fun b hb => by
    rw [su_one (i := b) hb fun k hk hn => ?_]
    · by_cases q : b < m
      · rw [if_pos q, X.um b b q hb, one_eq, Int.mul_one]
      · rw [if_neg q]
        have : b = m ∨ b = m + 1 := by omega
        rcases this with rfl | rfl
        · rw [p.tm, X.u1 _ hb, one_eq, Int.mul_one]
        · rw [p.tz, X.u2 _ hb, one_eq, Int.mul_one]
    · by_cases q : k < m
      · rw [if_pos q, X.um k b q hb, one_ne fun z => hn z.symm, Int.mul_zero]
      · rw [if_neg q]
        have : k = m ∨ k = m + 1 := by omega
        rcases this with rfl | rfl
        · rw [p.tm, X.u1 _ hb, one_ne fun z => hn z.symm, Int.mul_zero]
        · rw [p.tz, X.u2 _ hb, one_ne fun z => hn z.symm, Int.mul_zero]
  rw [e, Rv_su (by omega), su_two', if_neg (Nat.lt_irrefl m), if_neg (by omega), p.t.own (by omega), p.t.oth (by omega) (by omega) (by omega : m + 1 ≠ m), Int.mul_zero, Int.add_zero, Int.mul_comm (v m)]
  congr 1
  exact su_congr fun k hk => by rw [if_pos hk]
end
end Lx
set_option Elab.async false
set_option linter.all false
set_option maxRecDepth 100000
set_option maxHeartbeats 4000000
/-! Gb: Equations with costs: cheapen, the dearest row. -/
namespace Lw
open PySem PySem.Spec PyProof.Rows L2 Mn Lx
section
variable {S : Bxs} {nb rb tb sb n m : Nat} {a : Nat → Nat → Int} {told : Nat → Nat} {σ D : Int} {sg : List Int}
theorem cl_nil {r : Nat} (h : cl n m a told σ r = []) {j : Nat} (hj : j < n) : Rv (m + 2) a told σ r (a j) = 0 := by
  unfold cl at h
  have := List.filter_eq_nil_iff.mp h j (List.mem_range.mpr hj)
  simpa using this
/-- rows whose marks stay are nothing -/
theorem mos_zero {x : Tri} (M : Mz n m a x) : ∀ {k : Nat}, k ≤ m → ∀ i, i < k → n ≤ (mos n m a x k).1 i → ∀ j, j < n → Rv (m + 2) a (mos n m a x k).1 (mos n m a x k).2.1 i (a j) = 0
  | 0, _, i, hi, _, _, _ => absurd hi (Nat.not_lt_zero _)
  | k + 1, hk, i, hi, hn, j, hj => by
    have ih := mos_zero M (k := k) (by omega)
    have Mk := M.mos (k := k) (by omega)
    have e : mos n m a x (k + 1) = mo n m a (mos n m a x k) k := rfl
    rw [e] at hn ⊢
    generalize mos n m a x k = y at ih Mk hn ⊢
    obtain ⟨told, σ, D⟩ := y
    unfold Lw.mo at hn ⊢
    by_cases q : n ≤ told k
    · rw [if_pos q] at hn ⊢
      cases ec : cl n m a told σ k with
      | nil =>
        simp only [ec] at hn ⊢
        by_cases e2 : i = k
        · subst e2; exact cl_nil ec hj
        · exact ih i (by omega) hn j hj
      | cons c l =>
        simp only [ec] at hn ⊢
        obtain ⟨h1, h2⟩ := cl_mem (ec ▸ List.mem_cons_self : c ∈ cl n m a told σ k)
        by_cases e2 : i = k
        · subst e2
          have : (Lx.put told i c) i = c := put_same
          have hn : n ≤ (Lx.put told i c) i := hn
          omega
        · have hn : n ≤ (Lx.put told k c) i := hn
          rw [put_ne e2] at hn
          exact Mk.1.t.zero_stay (by omega) (by omega) e2 _ (ih i (by omega) hn c h1) (ih i (by omega) hn j hj)
    · rw [if_neg q] at hn ⊢
      by_cases e2 : i = k
      · subst e2; exact absurd hn q
      · exact ih i (by omega) hn j hj
theorem mos_mq {x : Tri} (M : Mz n m a x) : Mq n m a (mos n m a x m).2.1 (mos n m a x m).1 := fun i hi hn =>
  ⟨(M.mos (k := m) (Nat.le_refl m)).2 i hi hn, fun j hj => mos_zero M (Nat.le_refl m) i hi hn j hj⟩
theorem cheapenC_ok {x : Tri} (h : Eqn S nb rb tb sb n m a x.1 x.2.1 x.2.2 sg) (O : Okx n m a) (M : Mz n m a x) (h0 : ∀ j, j < n → 0 ≤ a j m) :
    (F_Equations_cheapen [.box nb] S).Wp (fun d S' => ∃ rb' told' D', Eqn S' nb rb' tb sb n m a told' (mos n m a x m).2.1 D' sg ∧ Way n m a m (mos n m a x m).2.1 (mos n m a x m).1 (mos n m a x m).2.2 told' D' ∧ Ends n m a m (mos n m a x m).2.1 told' ∧ Mq n m a (mos n m a x m).2.1 told' ∧ Fq nb tb S S') noX := by
  refine w_body ?_
  unfold B_Equations_cheapen
  simp only [startD, List.map_cons, List.map_nil, List.length_cons, List.length_nil, List.cons_append, List.nil_append, Nat.reduceAdd, Nat.reduceSub, List.replicate, List.replicate_succ, List.replicate_zero]
  refine w_cons (w_expr ?_)
  refine w_methC (w_var rfl ⟨nb, _, rfl, h.eo, rfl, ?_⟩)
  and_intros
  refine (takeout_ok h O M).mono (fun u S1 ⟨eu, rb1, h1, f1⟩ => ?_) fun _ _ _ q => q
  refine c_nx ?_
  refine w_expr ?_
  refine w_methC (w_var rfl ⟨nb, _, rfl, h1.eo, rfl, ?_⟩)
  and_intros
  refine w_fld (w_var rfl ⟨nb, _, _, rfl, h1.eo, rfl, ?_⟩)
  and_intros
  have M1 := M.mos (k := m) (Nat.le_refl m)
  refine (lower_ok h1 O M1.1 (z := m) (.inl rfl) (fun told' D' p' c hc hn => p'.someC O.X h0 hc hn) rfl).mono (fun u S2 ⟨eu, rb2, told2, D2, h2, w2, e2, f2⟩ => ?_) fun _ _ _ q => q
  have mq2 : Mq n m a (mos n m a x m).2.1 told2 := by
    obtain ⟨tld, dv, L, C, a1, a2, a3, a4⟩ := w2
    rw [← a3]
    exact C.mq (by rw [a1]; exact mos_mq M) L (Nat.le_refl L)
  exact .inr ⟨rfl, rb2, told2, D2, h2, w2, e2, mq2, f1.trans f2⟩
/-- the dearest row, times its scale -/
def drL (n m : Nat) (a : Nat → Nat → Int) (told : Nat → Nat) (σ D : Int) (sg : List Int) : List Int := D :: (List.range m).map fun k => -gAt sg k * Rv (m + 2) a told σ m (a (n + k))
def drF : Dt × Dt → Dt
  | (.int s, .int u) => .int (-s * u)
  | _ => .non
theorem dearest_ok (h : Eqn S nb rb tb sb n m a told σ D sg) (O : Okx n m a) (p : Sp n m a told σ D) (sl : sg.length = m) (hs : ∀ k, k < m → gAt sg k = 1 ∨ gAt sg k = -1) :
    (F_Equations_dearest_row [.box nb] S).Wp (fun d S' => (∃ (s : Int) (row : List Int), prL (drL n m a told σ D sg) = s :: row ∧ d = .tup [.int s, iv row]) ∧ S <+: S') noX := by
  have hn := O.hn
  have hm := O.hm
  obtain ⟨bD, bR⟩ := O.big p.t p.tle
  have hD := p.t.pos
  obtain ⟨ds, dz, q1, q2, q3, q4⟩ := h.row (show m < m + 2 by omega)
  refine w_body ?_
  unfold B_Equations_dearest_row
  simp only [startD, List.map_cons, List.map_nil, List.length_cons, List.length_nil, List.cons_append, List.nil_append, Nat.reduceAdd, Nat.reduceSub, List.replicate, List.replicate_succ, List.replicate_zero]
  and_intros
  refine w_fld (w_var rfl ⟨nb, _, _, rfl, h.eo, rfl, ?_⟩)
  and_intros
  refine w_fld (w_var rfl ⟨nb, _, _, rfl, h.eo, rfl, ?_⟩)
  refine w_ixB (seq_lst q1) (d := dz) (atI_nn q3 rfl) ?_
  and_intros
  refine w_fld (w_var rfl ⟨nb, _, _, rfl, h.eo, rfl, ?_⟩)
  and_intros
  refine w_slQ q4 (by rw [List.length_map, rowZ_len]; omega) fun r S1 e1 p1 => ?_
  have ecut : cutD ((rowZ n m a told σ m).map Dt.int) (some (n : Int)) (some (-1)) = rowD m fun k => Rv (m + 2) a told σ m (a (n + k)) := by
    rw [rowZ_D, rowD_split]
    have := cut_nm1 (xs := rowD n fun q => Rv (m + 2) a told σ m (a q)) (ys := rowD m fun k => Rv (m + 2) a told σ m (a (n + k))) (x := .int (Rv (m + 2) a told σ m (a (n + m))))
    rw [rowD_len] at this
    exact this
  rw [ecut] at e1
  have h1 := h.pre p1
  have hsg : sg.map Dt.int = rowD m fun k => gAt sg k := by rw [map_rowD, sl]; rfl
  refine c_nx ?_
  refine w_cons (w_set ?_)
  refine w_lcD ?_
  and_intros
  refine w_fld (w_var rfl ⟨nb, _, _, rfl, h1.eo, rfl, ?_⟩)
  and_intros
  refine ⟨_, _, _, _, rfl, seq_lst h1.es, e1, drF, ?_, fun S2 p2 => ⟨seq_lst (get_pre p2 h1.es), seqOf_stay (fun k hk => get_pre' p2 (seqOf_lt e1 hk)) e1⟩, fun x S2 hx p2 => ?_, fun S2 h2 p2 => ?_⟩
  · rw [hsg, rowD_zip, List.length_map, List.length_range]
    exact Nat.lt_of_le_of_lt (show m ≤ 1000 by omega) (by decide)
  · rw [hsg, rowD_zip] at hx
    obtain ⟨k, hk, rfl⟩ := List.mem_map.mp hx
    have hk := List.mem_range.mp hk
    have so := hs k hk
    and_intros
    refine w_mul (.small (by omega) (by omega)) ?_
    exact ⟨rfl, List.prefix_refl _⟩
  rw [hsg, rowD_zip, List.map_map] at h2
  have h3 := h1.pre p2
  refine c_nx ?_
  refine w_cons (w_asg (w_call (w_consA (w_bin (w_lst (w_consA ?_))))))
  refine w_fld (w_var rfl ⟨nb, _, _, rfl, h3.eo, rfl, ?_⟩)
  and_intros
  have qd := List.prefix_append S2 [MBox.lst [Dt.int D]]
  refine w_addL (lst_of get_last) (lst_of (get_pre qd h2)) ?_
  have eall : [Dt.int D] ++ (List.range m).map (drF ∘ fun q => (Dt.int (gAt sg q), Dt.int (Rv (m + 2) a told σ m (a (n + q))))) = (drL n m a told σ D sg).map Dt.int := by
    unfold drL
    rw [List.map_cons, List.map_map]; rfl
  rw [eall]
  have dlen : (drL n m a told σ D sg).length = m + 1 := by unfold drL; rw [List.length_cons, List.length_map, List.length_range]
  refine w_newL (by rw [List.length_map, dlen]; exact Nat.le_trans (show m + 1 ≤ 1000 by omega) (by decide)) ?_
  refine w_nil ?_
  have big : ∀ x ∈ drL n m a told σ D sg, x.natAbs < BIG := fun x hx => by
    unfold drL at hx
    rcases List.mem_cons.mp hx with e | e
    · rw [e]; exact bD
    · obtain ⟨k, hk, rfl⟩ := List.mem_map.mp e
      have hk := List.mem_range.mp hk
      have := bR m (n + k) (by omega)
      rcases hs k hk with r | r <;> rw [r] <;> omega
  refine (prime_ok (d := .box (S2 ++ [MBox.lst [Dt.int D]]).length) (xs := drL n m a told σ D sg) (seq_lst get_last) (by rw [dlen]; omega) ⟨D, List.mem_cons_self, by omega⟩ big).mono (fun u S4 ⟨eu, p4⟩ => ?_) fun _ _ _ q => q
  have eu : u = .tup (Dt.int (D / ((gcL (drL n m a told σ D sg) : Nat) : Int)) :: (((List.range m).map fun k => -gAt sg k * Rv (m + 2) a told σ m (a (n + k))).map fun (x : Int) => x / ((gcL (drL n m a told σ D sg) : Nat) : Int)).map Dt.int) := eu
  subst eu
  refine w_star (by rw [List.length_map, List.length_map, List.length_map, List.length_range]; omega) ?_
  and_intros
  refine w_tupB (seq_lst get_last) ?_
  and_intros
  refine ⟨Nat.le_of_ble_eq_true rfl, ?_⟩
  exact .inl ⟨_, rfl, ⟨_, _, rfl, rfl⟩, (((((p1.trans p2).trans qd).trans (List.prefix_append _ _)).trans p4).trans (List.prefix_append _ _))⟩
end
end Lw
set_option Elab.async false
set_option linter.all false
set_option maxRecDepth 100000
set_option maxHeartbeats 4000000
/-! Gc: least_shares, dearest_row with costs. -/
namespace Lw
open PySem PySem.Spec PyProof.Rows L2 Mn Lx
section
variable {S : Bxs} {cols : List (List Int)} {goal costs : List Int}
/-- columns, a goal and costs from 0 on -/
structure Cgc (cols : List (List Int)) (goal costs : List Int) (B : Nat) : Prop where
  g : Cg cols goal B
  cl : costs.length = cols.length
  c0 : ∀ k, 0 ≤ gAt costs k
  b3 : ∀ k, (gAt costs k).natAbs ≤ B
abbrev A1 (cols : List (List Int)) (goal costs : List Int) := aF cols goal costs
theorem Cgc.okx {B : Nat} (G : Cgc cols goal costs B) : Okx cols.length goal.length (A1 cols goal costs) :=
  aF_okx (by have := G.g.hn; omega) G.g.hm G.g.b1 G.g.b2 G.b3 (Nat.le_trans G.g.hB (by decide))
def Fin1 (cols : List (List Int)) (goal costs : List Int) (told : Nat → Nat) (D : Int) : Prop :=
  Way cols.length goal.length (A1 cols goal costs) (goal.length + 1) 1 (told0 cols.length goal.length) 1 told D ∧ Ends cols.length goal.length (A1 cols goal costs) (goal.length + 1) 1 told
def Off1 (cols : List (List Int)) (goal costs : List Int) (told : Nat → Nat) : Int := Rv (goal.length + 2) (A1 cols goal costs) told 1 (goal.length + 1) (A1 cols goal costs (cols.length + goal.length))
theorem Fin1.same {t1 t2 : Nat → Nat} {D1 D2 : Int} (h1 : Fin1 cols goal costs t1 D1) (h2 : Fin1 cols goal costs t2 D2) : t1 = t2 ∧ D1 = D2 := h1.1.same h2.1 h1.2 h2.2
def last1 (cols : List (List Int)) (goal costs : List Int) (told : Nat → Nat) (D : Int) : Tri := mos cols.length goal.length (A1 cols goal costs) (told, 1, D) goal.length
theorem Fin1.mz {told : Nat → Nat} {D : Int} (h : Fin1 cols goal costs told D) (h0 : Off1 cols goal costs told = 0) : Mz cols.length goal.length (A1 cols goal costs) (told, 1, D) :=
  ⟨h.1.sp, fun i hi hq => h.1.sp.none aF_sx h0 i hi hq⟩
/-- where lowering the costs ends -/
def Fin2 (cols : List (List Int)) (goal costs : List Int) (told : Nat → Nat) (D : Int) (t2 : Nat → Nat) (D2 : Int) : Prop :=
  Way cols.length goal.length (A1 cols goal costs) goal.length (last1 cols goal costs told D).2.1 (last1 cols goal costs told D).1 (last1 cols goal costs told D).2.2 t2 D2 ∧ Ends cols.length goal.length (A1 cols goal costs) goal.length (last1 cols goal costs told D).2.1 t2 ∧ Mq cols.length goal.length (A1 cols goal costs) (last1 cols goal costs told D).2.1 t2
theorem Fin2.same {told : Nat → Nat} {D : Int} {t1 t2 : Nat → Nat} {D1 D2 : Int} (h1 : Fin2 cols goal costs told D t1 D1) (h2 : Fin2 cols goal costs told D t2 D2) : t1 = t2 ∧ D1 = D2 := h1.1.same h2.1 h1.2.1 h2.2.1
theorem cheapestC_ok {B : Nat} (G : Cgc cols goal costs B) : (F__cheapest [.tup (cols.map iv), iv goal, iv costs] S).Wp (fun d S' => S <+: S' ∧ ∃ told D, Fin1 cols goal costs told D ∧ ((Off1 cols goal costs told ≠ 0 ∧ d = .non) ∨ (Off1 cols goal costs told = 0 ∧ ∃ t2 D2, Fin2 cols goal costs told D t2 D2 ∧ ∃ nb rb tb sb, d = .box nb ∧ Eqn S' nb rb tb sb cols.length goal.length (A1 cols goal costs) t2 (last1 cols goal costs told D).2.1 D2 (goal.map sgn)))) noX := by
  have O := G.okx
  have hn := G.g.hn
  refine w_body ?_
  unfold B__cheapest
  simp only [startD, List.map_cons, List.map_nil, List.length_cons, List.length_nil, List.cons_append, List.nil_append, Nat.reduceAdd, Nat.reduceSub, List.replicate, List.replicate_succ, List.replicate_zero]
  refine w_cons (w_set ?_)
  refine w_makeC ?_
  and_intros
  refine (einit_ok (S0 := S) (List.prefix_append _ _) (Nat.le_refl _) get_last (by omega) G.g.hm G.g.hc (costs := costs) G.cl).mono (fun u S1 ⟨eu, ⟨rb, tb, sb, H, lt⟩, p1⟩ => ?_) fun _ _ _ q => q
  refine ⟨eu, ?_⟩
  refine c_nx ?_
  refine w_cons (w_if ?_)
  refine w_not ?_
  refine w_true ?_
  refine w_methC (w_var rfl ⟨S.length, _, rfl, H.eo, rfl, ?_⟩)
  and_intros
  refine (reach_ok H O told0_start.1).mono (fun u S2 ⟨rb2, told, D, eu, H2, W, En, f2⟩ => ?_) fun _ _ _ q => q
  subst eu
  have F : Fin1 cols goal costs told D := ⟨W, En⟩
  have p2 := pre_fq p1 f2 (Nat.le_refl _) lt
  refine ⟨_, rfl, ?_⟩
  refine ⟨fun z => ?_, fun z => ?_⟩
  · have z : Off1 cols goal costs told ≠ 0 := by unfold Off1; simpa using z
    and_intros
    refine .inl ⟨_, rfl, p2, told, D, F, .inl ⟨z, rfl⟩⟩
  · have z : Off1 cols goal costs told = 0 := by unfold Off1; simpa using z
    refine w_sNil ?_
    refine c_nx ?_
    refine w_cons (w_expr ?_)
    refine w_methC (w_var rfl ⟨S.length, _, rfl, H2.eo, rfl, ?_⟩)
    and_intros
    refine (cheapenC_ok (x := (told, 1, D)) H2 O (F.mz z) (fun j hj => by rw [aF_cost hj]; exact G.c0 j)).mono (fun u S3 ⟨rb3, t2, D2, H3, w3, e3, m3, f3⟩ => ?_) fun _ _ _ q => q
    have p3 := pre_fq p2 f3 (Nat.le_refl _) lt
    refine c_nx ?_
    and_intros
    exact .inl ⟨_, rfl, p3, told, D, F, .inr ⟨z, t2, D2, ⟨w3, e3, m3⟩, _, _, _, _, rfl, H3⟩⟩
/-- what least_shares tells -/
def Ls1 (cols : List (List Int)) (goal costs : List Int) (d : Dt) : Prop := ∃ told D, Fin1 cols goal costs told D ∧ ((Off1 cols goal costs told ≠ 0 ∧ d = .non) ∨ (Off1 cols goal costs told = 0 ∧ ∃ t2 D2, Fin2 cols goal costs told D t2 D2 ∧ d = .tup ((List.range cols.length).map fun j => prI (shr cols.length goal.length (A1 cols goal costs) t2 (last1 cols goal costs told D).2.1 D2 goal.length j))))
theorem leastC_ok {B : Nat} (G : Cgc cols goal costs B) : (F_least_shares [.tup (cols.map iv), iv goal, iv costs] S).Wp (fun d S' => S <+: S' ∧ Ls1 cols goal costs d) noX := by
  have O := G.okx
  refine w_body ?_
  unfold B_least_shares
  simp only [startD, List.map_cons, List.map_nil, List.length_cons, List.length_nil, List.cons_append, List.nil_append, Nat.reduceAdd, Nat.reduceSub, List.replicate, List.replicate_succ, List.replicate_zero]
  and_intros
  refine (cheapestC_ok G).mono (fun u S1 ⟨p1, told, D, F, hu⟩ => ?_) fun _ _ _ q => q
  refine c_nx ?_
  rcases hu with ⟨z, rfl⟩ | ⟨z, t2, D2, F2, nb, rb, tb, sb, rfl, H⟩
  · and_intros
    refine ⟨fun _ => ?_, fun z => nomatch z⟩
    and_intros
    exact .inl ⟨_, rfl, p1, told, D, F, .inl ⟨z, rfl⟩⟩
  · refine w_cons (w_if ?_)
    and_intros
    refine ⟨(fun z => nomatch z), fun _ => ?_⟩
    refine w_sNil ?_
    refine c_nx ?_
    refine w_ret ?_
    refine w_methC (w_var rfl ⟨nb, _, rfl, H.eo, rfl, ?_⟩)
    and_intros
    refine (shares_ok H O F2.1.sp).mono (fun u S2 ⟨eu, p2⟩ => ?_) fun _ _ _ q => q
    exact .inl ⟨_, rfl, p1.trans p2, told, D, F, .inr ⟨z, t2, D2, F2, eu⟩⟩
/-- what dearest_row tells -/
def Dr1 (cols : List (List Int)) (goal costs : List Int) (d : Dt) : Prop := ∃ told D, Fin1 cols goal costs told D ∧ ((Off1 cols goal costs told ≠ 0 ∧ d = .non) ∨ (Off1 cols goal costs told = 0 ∧ ∃ t2 D2, Fin2 cols goal costs told D t2 D2 ∧ ∃ (s : Int) (row : List Int), prL (drL cols.length goal.length (A1 cols goal costs) t2 (last1 cols goal costs told D).2.1 D2 (goal.map sgn)) = s :: row ∧ d = .tup [.int s, iv row]))
theorem dearestC_ok {B : Nat} (G : Cgc cols goal costs B) : (F_dearest_row [.tup (cols.map iv), iv goal, iv costs] S).Wp (fun d S' => S <+: S' ∧ Dr1 cols goal costs d) noX := by
  have O := G.okx
  refine w_body ?_
  unfold B_dearest_row
  simp only [startD, List.map_cons, List.map_nil, List.length_cons, List.length_nil, List.cons_append, List.nil_append, Nat.reduceAdd, Nat.reduceSub, List.replicate, List.replicate_succ, List.replicate_zero]
  and_intros
  refine (cheapestC_ok G).mono (fun u S1 ⟨p1, told, D, F, hu⟩ => ?_) fun _ _ _ q => q
  refine c_nx ?_
  rcases hu with ⟨z, rfl⟩ | ⟨z, t2, D2, F2, nb, rb, tb, sb, rfl, H⟩
  · and_intros
    refine ⟨fun _ => ?_, fun z => nomatch z⟩
    and_intros
    exact .inl ⟨_, rfl, p1, told, D, F, .inl ⟨z, rfl⟩⟩
  · refine w_cons (w_if ?_)
    and_intros
    refine ⟨(fun z => nomatch z), fun _ => ?_⟩
    refine w_sNil ?_
    refine c_nx ?_
    refine w_ret ?_
    refine w_methC (w_var rfl ⟨nb, _, rfl, H.eo, rfl, ?_⟩)
    and_intros
    refine (dearest_ok H O F2.1.sp (List.length_map ..) (fun k hk => by rw [sg_at hk]; exact sgn_or _)).mono (fun u S2 ⟨eu, p2⟩ => ?_) fun _ _ _ q => q
    exact .inl ⟨_, rfl, p1.trans p2, told, D, F, .inr ⟨z, t2, D2, F2, eu⟩⟩
end
end Lw
set_option Elab.async false
set_option linter.all false
set_option maxRecDepth 100000
set_option maxHeartbeats 4000000
/-! Eo: what the shares and the row say. -/
namespace Lw
open PySem PySem.Spec PyProof.Rows L2 Mn Lx
section
variable {n m : Nat} {a : Nat → Nat → Int} {told : Nat → Nat} {σ D : Int}
/-- a share in lowest terms, of D parts -/
structure Frc (x : Int × Int) (w D : Int) : Prop where
  h0 : 0 ≤ x.1
  h1 : 1 ≤ x.2
  hg : Nat.gcd x.1.natAbs x.2.natAbs = 1
  hd : x.2 ∣ D
  hw : x.1 * D = w * x.2
  hb : x.1.natAbs ≤ w.natAbs
theorem frq_frc {w D : Int} (hw : 0 ≤ w) (hD : 0 < D) : Frc (frq w D) w D := by
  obtain ⟨wn, rfl⟩ := Int.eq_ofNat_of_zero_le hw
  obtain ⟨dn, rfl⟩ := Int.eq_ofNat_of_zero_le (Int.le_of_lt hD)
  have hd : 0 < dn := by omega
  have g0 : 0 < Nat.gcd wn dn := Nat.gcd_pos_of_pos_right wn hd
  have d1 := Nat.gcd_dvd_left wn dn
  have d2 := Nat.gcd_dvd_right wn dn
  have e : frq (wn : Int) (dn : Int) = (((wn / Nat.gcd wn dn : Nat) : Int), ((dn / Nat.gcd wn dn : Nat) : Int)) := by
    unfold frq
    rw [Int.natAbs_natCast, Int.natAbs_natCast, Int.natCast_ediv, Int.natCast_ediv]
  rw [e]
  have cp := Nat.gcd_div d1 d2
  rw [Nat.div_self g0] at cp
  refine ⟨Int.natCast_nonneg _, ?_, ?_, ?_, ?_, ?_⟩
  · have := Nat.div_pos (Nat.le_of_dvd hd d2) g0
    show (1 : Int) ≤ ((dn / Nat.gcd wn dn : Nat) : Int)
    omega
  · show Nat.gcd (((wn / Nat.gcd wn dn : Nat) : Int)).natAbs (((dn / Nat.gcd wn dn : Nat) : Int)).natAbs = 1
    rw [Int.natAbs_natCast, Int.natAbs_natCast]; exact cp
  · show ((dn / Nat.gcd wn dn : Nat) : Int) ∣ (dn : Int)
    exact Int.natCast_dvd_natCast.mpr (Nat.div_dvd_of_dvd d2)
  · show ((wn / Nat.gcd wn dn : Nat) : Int) * (dn : Int) = (wn : Int) * ((dn / Nat.gcd wn dn : Nat) : Int)
    rw [← Int.natCast_mul, ← Int.natCast_mul]
    congr 1
    have a1 := Nat.div_mul_cancel d1
    have a2 := Nat.div_mul_cancel d2
    generalize wn / Nat.gcd wn dn = u at a1 ⊢
    generalize dn / Nat.gcd wn dn = v at a2 ⊢
    generalize Nat.gcd wn dn = g at a1 a2
    rw [← a1, ← a2]
    simp only [Nat.mul_assoc, Nat.mul_left_comm, Nat.mul_comm]
  · show (((wn / Nat.gcd wn dn : Nat) : Int)).natAbs ≤ ((wn : Int)).natAbs
    rw [Int.natAbs_natCast, Int.natAbs_natCast]; exact Nat.div_le_self ..
def wt (n m : Nat) (a : Nat → Nat → Int) (told : Nat → Nat) (σ : Int) (j : Nat) : Int := su m fun i => if told i = j then Rv (m + 2) a told σ i (a (n + m)) else 0
theorem shr_at (p : Sp n m a told σ D) {j : Nat} : ∀ {k : Nat}, k ≤ m → (∃ i, i < k ∧ told i = j ∧ shr n m a told σ D k j = frq (Rv (m + 2) a told σ i (a (n + m))) D) ∨ ((∀ i, i < k → told i ≠ j) ∧ shr n m a told σ D k j = (0, 1))
  | 0, _ => .inr ⟨fun i h => absurd h (Nat.not_lt_zero _), rfl⟩
  | k + 1, h => by
    show (∃ i, i < k + 1 ∧ told i = j ∧ (if j = told k then _ else _) = _) ∨ ((∀ i, i < k + 1 → told i ≠ j) ∧ (if j = told k then _ else _) = _)
    by_cases e : j = told k
    · exact .inl ⟨k, Nat.lt_succ_self k, e.symm, by rw [if_pos e]⟩
    · rw [if_neg e]
      rcases shr_at p (k := k) (by omega) with ⟨i, h1, h2, h3⟩ | ⟨h1, h2⟩
      · exact .inl ⟨i, by omega, h2, h3⟩
      · refine .inr ⟨fun i hi => ?_, h2⟩
        by_cases q : i = k
        · subst q; exact fun z => e z.symm
        · exact h1 i (by omega)
theorem shr_frc (p : Sp n m a told σ D) {j : Nat} : Frc (shr n m a told σ D m j) (wt n m a told σ j) D := by
  rcases shr_at p (j := j) (Nat.le_refl m) with ⟨i, h1, h2, h3⟩ | ⟨h1, h2⟩
  · have e : wt n m a told σ j = Rv (m + 2) a told σ i (a (n + m)) := by
      unfold wt
      rw [su_one (i := i) h1 fun k hk hn => ?_]
      · rw [if_pos h2]
      · rw [if_neg fun z => hn (p.t.one (by omega) (by omega) (z.trans h2.symm))]
    rw [h3, e]
    exact frq_frc (p.fe i h1) p.t.pos
  · have e : wt n m a told σ j = 0 := su_zero fun k hk => by rw [if_neg (h1 k hk)]
    rw [h2, e]
    exact ⟨Int.le_refl 0, Int.le_refl 1, rfl, Int.one_dvd D, by simp, by simp⟩
/-- the shares make the goal -/
theorem wt_sum (X : Sx n m a) {x : Tri} (M : Mz n m a x) {b : Nat} (hb : b < m) : (su n fun j => wt n m a x.1 x.2.1 j * a j b) = x.2.2 * a (n + m) b := by
  obtain ⟨told, σ, D⟩ := x
  obtain ⟨p, z⟩ := M
  show (su n fun j => wt n m a told σ j * a j b) = D * a (n + m) b
  have e := p.t.ex (a (n + m)) b (by omega)
  rw [su_two', p.tm, p.tz, X.u1 _ (by omega), X.u2 _ (by omega), one_ne (by omega), one_ne (by omega), Int.mul_zero, Int.mul_zero, Int.add_zero, Int.add_zero] at e
  rw [e]
  have e1 : (fun j => wt n m a told σ j * a j b) = fun j => su m fun i => (if told i = j then Rv (m + 2) a told σ i (a (n + m)) else 0) * a j b := funext fun j => by
    unfold wt
    rw [Int.mul_comm, ← su_mul]
    exact su_congr fun i _ => Int.mul_comm ..
  rw [e1, su_swap]
  refine su_congr fun i hi => ?_
  by_cases q : told i < n
  · rw [su_one (i := told i) q fun k hk hn => by rw [if_neg fun z => hn z.symm, Int.zero_mul], if_pos rfl]
  · have z0 : Rv (m + 2) a told σ i (a (n + m)) = 0 := z i hi (by show n ≤ told i; omega)
    rw [z0, Int.zero_mul]
    exact su_zero fun k hk => by split <;> simp
end
section
variable {cols : List (List Int)} {goal : List Int} {told : Nat → Nat} {D : Int}
theorem sgn_ne (x : Int) : sgn x ≠ 0 := by rcases sgn_or x with h | h <;> rw [h] <;> decide
theorem col_sum (F : Fin cols goal told D) (h0 : Off cols goal told = 0) {b : Nat} (hb : b < goal.length) :
    (su cols.length fun j => wt cols.length goal.length (A0 cols goal) (last cols goal told D).1 (last cols goal told D).2.1 j * cAt cols j b) = (last cols goal told D).2.2 * gAt goal b := by
  have M := (F.mz h0).mos (k := goal.length) (Nat.le_refl _)
  have e := wt_sum aF_sx M hb
  rw [aF_goal hb] at e
  refine Int.eq_of_mul_eq_mul_left (sgn_ne (gAt goal b)) ?_
  rw [← su_mul]
  have e2 : (su cols.length fun j => sgn (gAt goal b) * (wt cols.length goal.length (A0 cols goal) (last cols goal told D).1 (last cols goal told D).2.1 j * cAt cols j b)) = su cols.length fun j => wt cols.length goal.length (A0 cols goal) (last cols goal told D).1 (last cols goal told D).2.1 j * A0 cols goal j b := su_congr fun j hj => by
    rw [show A0 cols goal j b = _ from aF_col hj hb, Int.mul_left_comm]
  rw [e2, Int.mul_left_comm]
  exact e
/-- the row bars -/
theorem agR_at (F : Fin cols goal told D) (h0 : Off cols goal told ≠ 0) : ∃ g : Int, 0 < g ∧ (agR cols goal told D).length = goal.length ∧ ∀ v : Nat → Int,
    g * (su goal.length fun k => v k * (agR cols goal told D).getD k 0) = su goal.length fun k => (sgn (gAt goal k) * v k) * (D - Rv (goal.length + 2) (A0 cols goal) told 1 (goal.length + 1) (A0 cols goal (cols.length + k))) := by
  have hs : ∀ k, k < goal.length → gAt (goal.map sgn) k = 1 ∨ gAt (goal.map sgn) k = -1 := fun k hk => by rw [sg_at hk]; exact sgn_or _
  obtain ⟨g0, hy⟩ := prL_mul (ag_nz aF_sx F.1.sp hs h0)
  refine ⟨(gcL (agL cols.length goal.length (A0 cols goal) told 1 D (goal.map sgn)) : Nat), Int.ofNat_lt.mpr g0, by unfold agR prL agL; rw [List.length_map, List.length_map, List.length_range], fun v => ?_⟩
  rw [← su_mul]
  refine su_congr fun k hk => ?_
  have hx : (agL cols.length goal.length (A0 cols goal) told 1 D (goal.map sgn))[k]? = some (sgn (gAt goal k) * (D - Rv (goal.length + 2) (A0 cols goal) told 1 (goal.length + 1) (A0 cols goal (cols.length + k)))) := by
    unfold agL
    rw [List.getElem?_map, List.getElem?_range hk]
    show some (gAt (goal.map sgn) k * _) = _
    rw [sg_at hk]
  obtain ⟨y, h1, h2⟩ := hy k _ hx
  have : (agR cols goal told D).getD k 0 = y := by
    unfold agR
    rw [List.getD_eq_getElem?_getD, h1]; rfl
  rw [this, Int.mul_left_comm, h2]
  simp only [Int.mul_assoc, Int.mul_left_comm, Int.mul_comm]
theorem agR_cols (F : Fin cols goal told D) (h0 : Off cols goal told ≠ 0) {j : Nat} (hj : j < cols.length) : (su goal.length fun k => cAt cols j k * (agR cols goal told D).getD k 0) ≤ 0 := by
  obtain ⟨g, hg, _, e⟩ := agR_at F h0
  have e := e (cAt cols j)
  have z := F.1.sp.zrow aF_sx (v := A0 cols goal j) ((aF_sx (costs := c0 cols)).dz j (.inl hj))
  have en := F.2 j hj
  have e3 : (su goal.length fun k => (sgn (gAt goal k) * cAt cols j k) * (D - Rv (goal.length + 2) (A0 cols goal) told 1 (goal.length + 1) (A0 cols goal (cols.length + k)))) = - Rv (goal.length + 2) (A0 cols goal) told 1 (goal.length + 1) (A0 cols goal j) := by
    rw [z, Int.neg_neg]
    exact su_congr fun k hk => by rw [show A0 cols goal j k = _ from aF_col hj hk]
  rw [e3] at e
  rcases Int.lt_or_le 0 (su goal.length fun k => cAt cols j k * (agR cols goal told D).getD k 0) with q | q
  · have := Int.mul_pos hg q
    omega
  · exact q
theorem agR_goal (F : Fin cols goal told D) (h0 : Off cols goal told ≠ 0) : 0 < (su goal.length fun k => gAt goal k * (agR cols goal told D).getD k 0) := by
  obtain ⟨g, hg, _, e⟩ := agR_at F h0
  have e := e (gAt goal)
  have z := F.1.sp.zrow aF_sx (v := A0 cols goal (cols.length + goal.length)) ((aF_sx (costs := c0 cols)).dz _ (.inr rfl))
  have of := F.1.sp.off aF_sx
  have e3 : (su goal.length fun k => (sgn (gAt goal k) * gAt goal k) * (D - Rv (goal.length + 2) (A0 cols goal) told 1 (goal.length + 1) (A0 cols goal (cols.length + k)))) = - Rv (goal.length + 2) (A0 cols goal) told 1 (goal.length + 1) (A0 cols goal (cols.length + goal.length)) := by
    rw [z, Int.neg_neg]
    exact su_congr fun k hk => by rw [show A0 cols goal (cols.length + goal.length) k = _ from aF_goal hk]
  rw [e3] at e
  have h0' : Rv (goal.length + 2) (A0 cols goal) told 1 (goal.length + 1) (A0 cols goal (cols.length + goal.length)) ≠ 0 := h0
  have of' : Rv (goal.length + 2) (A0 cols goal) told 1 (goal.length + 1) (A0 cols goal (cols.length + goal.length)) ≤ 0 := of
  rcases Int.lt_or_le 0 (su goal.length fun k => gAt goal k * (agR cols goal told D).getD k 0) with q | q
  · exact q
  · have := Int.mul_nonpos_of_nonneg_of_nonpos (Int.le_of_lt hg) q
    omega
end
end Lw
set_option Elab.async false
set_option linter.all false
set_option maxRecDepth 100000
set_option maxHeartbeats 4000000
/-! Ep: the law's judge of shares and rows. -/
namespace Lw
open PySem PySem.Spec PyProof.Rows L2 Mn Lx
section
variable {S : Bxs}
theorem abs_natQ (a : Int) : (if a < 0 then -a else a) = (a.natAbs : Int) := by split <;> omega
theorem gcdB_ok {a b : Int} (ha : a.natAbs < BIG) (hb : b.natAbs < BIG) :
    (F__law_gcd [.int a, .int b] S).Wp (fun r S' => r = .int ((Nat.gcd a.natAbs b.natAbs : Nat) : Int) ∧ S' = S) noX := by
  refine w_body ?_
  unfold B__law_gcd
  simp only [startD, List.map_cons, List.map_nil, List.length_cons, List.length_nil, List.cons_append, List.nil_append, Nat.reduceAdd, Nat.reduceSub, List.replicate, List.replicate_succ, List.replicate_zero]
  and_intros
  refine w_while (fun m σ S' => ∃ x y : Int, σ = [some (.int x), some (.int y)] ∧ Nat.gcd x.natAbs y.natAbs = Nat.gcd a.natAbs b.natAbs ∧ 0 ≤ x ∧ 0 ≤ y ∧ x.natAbs < BIG ∧ y.natAbs < BIG ∧ y ≤ (m : Int) ∧ S' = S)
    (fun m σ S1 ⟨x, y, e, hg, hx0, hy0, hx, hy, hm, es⟩ => ?_) b.natAbs ⟨_, _, rfl, by rw [abs_natQ, abs_natQ]; rfl, by split <;> omega, by split <;> omega, by rw [abs_natQ]; exact ha, by rw [abs_natQ]; exact hb, by split <;> omega, rfl⟩
  subst e
  subst es
  and_intros
  refine ⟨fun h => ?_, fun h => ?_⟩
  · have h0 : 0 < y := of_decide_eq_true h
    and_intros
    refine w_fdiv (div_big h0 hy) ?_
    and_intros
    have hq : (x / y).natAbs < BIG := by
      have h1 : 0 ≤ x / y := Int.ediv_nonneg hx0 (by omega)
      have h2 : x / y ≤ x := Int.ediv_le_self _ hx0
      omega
    refine w_mul (mul_big hq hy) ?_
    and_intros
    have e2 : x - x / y * y = x % y := by rw [Int.emod_def, Int.mul_comm]
    rw [e2]
    have hlt : x % y < y := Int.emod_lt_of_pos _ h0
    have hge : 0 ≤ x % y := Int.emod_nonneg _ (by omega)
    have hn : (x % y).natAbs = x.natAbs % y.natAbs := by
      obtain ⟨x, rfl⟩ := Int.eq_ofNat_of_zero_le hx0
      obtain ⟨y, rfl⟩ := Int.eq_ofNat_of_zero_le hy0
      rw [← Int.natCast_emod]; rfl
    refine .inl ⟨rfl, (x % y).toNat, by omega, y, x % y, rfl, ?_, hy0, hge, hy, by omega, by omega, rfl⟩
    rw [hn, ← hg, Nat.gcd_comm y.natAbs, ← Nat.gcd_rec, Nat.gcd_comm]
  · have h0 : ¬ 0 < y := of_decide_eq_false h
    have y0 : y = 0 := by omega
    subst y0
    refine c_nx ?_
    and_intros
    refine .inl ⟨_, rfl, ?_, rfl⟩
    rw [← hg]
    simp
    omega
theorem whole_ok {i : Int} : (F__law_is_whole [.int i] S).Wp (fun r S' => r = .bl true ∧ S' = S) noX := by
  refine w_body ?_
  unfold B__law_is_whole
  simp only [startD, List.map_cons, List.map_nil, List.length_cons, List.length_nil, List.cons_append, List.nil_append, Nat.reduceAdd, Nat.reduceSub, List.replicate, List.replicate_succ, List.replicate_zero]
  refine w_ret (w_andV (w_isi (w_var rfl ⟨true, by show kitB "int" "int" = _; decide +kernel, true, rfl, fun _ => ?_, fun z => nomatch z⟩)))
  exact w_notV (w_isi (w_var rfl ⟨false, by show kitB "int" "bool" = _; decide +kernel, false, rfl, .inl ⟨_, rfl, rfl, rfl⟩⟩))
theorem lrow_ok {is : List Int} {n : Int} (h : (is.length : Int) = n) (hl : is.length ≤ 1000) : (F__law_is_row [iv is, .int n] S).Wp (fun r S' => r = .bl true ∧ S <+: S') noX := by
  refine w_body ?_
  unfold B__law_is_row
  simp only [startD, List.map_cons, List.map_nil, List.length_cons, List.length_nil, List.cons_append, List.nil_append, Nat.reduceAdd, Nat.reduceSub, List.replicate, List.replicate_succ, List.replicate_zero]
  refine w_ret (w_andV (w_isi (w_var rfl ⟨true, by show kitB "tuple" "tuple" = _; decide +kernel, true, rfl, fun _ => ?_, fun z => nomatch z⟩)))
  refine w_andV ?_
  and_intros
  refine ⟨fun _ => ?_, fun z => ?_⟩
  · refine w_bin ?_
    refine w_lcP ?_
    and_intros
    refine ⟨fun _ => false, fun _ _ => True, by rw [List.length_map]; exact Nat.lt_of_le_of_lt hl (by decide), fun _ _ => rfl, fun x S1 hx p1 => ?_, fun ds S1 he hn p1 => ?_⟩
    · obtain ⟨i, _, rfl⟩ := List.mem_map.mp hx
      and_intros
      refine whole_ok.mono (fun u S2 ⟨eu, eS⟩ => ?_) fun _ _ _ q => q
      subst eu; subst eS
      exact ⟨_, rfl, rfl, fun _ => List.prefix_refl _, fun z => nomatch z⟩
    · have e0 : ds = [] := by
        rw [List.filter_eq_nil_iff.mpr (by intro _ _ z; cases z)] at he
        cases he; rfl
      subst e0
      and_intros
      have q := List.prefix_append S1 [MBox.lst []]
      refine w_neNil (w := 10) (seq_lst (get_pre q hn)) (seq_lst get_last) (fun d hd => nomatch hd) ?_
      exact .inl ⟨_, rfl, rfl, p1.trans q⟩
  · rw [List.length_map] at z
    exact absurd h (of_decide_eq_false z)
theorem product_ok {d1 d2 : Dt} {m : Nat} {f g : Nat → Int} (e1 : seqOf S d1 = some (rowD m f)) (e2 : seqOf S d2 = some (rowD m g)) (hm : m ≤ 1000) (hk : ∀ k, k < m → mulOk (f k) (g k)) :
    (F__law_product [d1, d2] S).Wp (fun r S' => r = .int (su m fun k => f k * g k) ∧ S <+: S') noX := by
  refine w_body ?_
  unfold B__law_product
  simp only [startD, List.map_cons, List.map_nil, List.length_cons, List.length_nil, List.cons_append, List.nil_append, Nat.reduceAdd, Nat.reduceSub, List.replicate, List.replicate_succ, List.replicate_zero]
  refine w_ret (w_call (w_consA ?_))
  refine w_lcD ?_
  and_intros
  refine ⟨_, _, _, _, rfl, e1, e2, fun p => match p with | (.int u, .int v) => Dt.int (u * v) | _ => .non, ?_, fun S2 p2 => ⟨seqOf_stay (fun k hk => get_pre' p2 (seqOf_lt e1 hk)) e1, seqOf_stay (fun k hk => get_pre' p2 (seqOf_lt e2 hk)) e2⟩, fun x S2 hx p2 => ?_, fun S2 h2 p2 => ?_⟩
  · rw [rowD_zip, List.length_map, List.length_range]
    exact Nat.lt_of_le_of_lt hm (by decide)
  · rw [rowD_zip] at hx
    obtain ⟨k, hk', rfl⟩ := List.mem_map.mp hx
    have hk' := List.mem_range.mp hk'
    and_intros
    refine w_mul (hk k hk') ?_
    exact ⟨rfl, List.prefix_refl _⟩
  · have h3 : S2[S.length]? = some (.lst (((List.range m).map fun k => f k * g k).map Dt.int)) := by
      rw [h2, rowD_zip, List.map_map, List.map_map]; rfl
    and_intros
    refine w_sumB (seq_lst h3) ?_
    rw [sum_rowD]
    exact .inl ⟨_, rfl, rfl, p2⟩
end
section
variable {S : Bxs} {cols : List (List Int)} {goal : List Int} {told : Nat → Nat} {D : Int}
theorem iv_row {xs : List Int} {m : Nat} (h : xs.length = m) : seqOf S (iv xs) = some (rowD m fun k => xs.getD k 0) := by
  subst h
  show some (xs.map Dt.int) = _
  rw [map_rowD]
theorem agR_big {B : Nat} (G : Cg cols goal B) (F : Fin cols goal told D) : ∀ k, ((agR cols goal told D).getD k 0).natAbs < BIG := fun k => by
  unfold agR prL
  rw [List.getD_eq_getElem?_getD, List.getElem?_map]
  cases e : (agL cols.length goal.length (A0 cols goal) told 1 D (goal.map sgn))[k]? with
  | none => show (0 : Int).natAbs < BIG; unfold BIG; decide
  | some x =>
    have hx := agL_big G.okx F.1.sp (fun k hk => by rw [sg_at hk]; exact sgn_or _) x (List.mem_of_getElem? e)
    show (x / ((gcL _ : Nat) : Int)).natAbs < BIG
    refine Nat.lt_of_le_of_lt ?_ hx
    exact Int.natAbs_ediv_le_natAbs _ _
theorem bars_ok {B : Nat} (G : Cg cols goal B) (F : Fin cols goal told D) (h0 : Off cols goal told ≠ 0) : (F__law_bars [.tup (cols.map iv), iv goal, iv (agR cols goal told D)] S).Wp (fun r S' => r = .bl true ∧ S <+: S') noX := by
  obtain ⟨_, _, gl, _⟩ := agR_at F h0
  have hm := G.hm
  have hn := G.hn
  have big := agR_big G F
  have hB := G.hB
  refine w_body ?_
  unfold B__law_bars
  simp only [startD, List.map_cons, List.map_nil, List.length_cons, List.length_nil, List.cons_append, List.nil_append, Nat.reduceAdd, Nat.reduceSub, List.replicate, List.replicate_succ, List.replicate_zero]
  refine w_cons (w_if (w_or ?_))
  and_intros
  refine (lrow_ok (by rw [List.length_map, gl]) (by omega)).mono (fun u S1 ⟨eu, p1⟩ => ?_) fun _ _ _ q => q
  subst eu
  refine ⟨true, rfl, (fun z => nomatch z), fun _ => ?_⟩
  refine w_true (w_bin ?_)
  refine w_lcP ?_
  and_intros
  refine ⟨fun _ => false, fun _ _ => True, by rw [List.length_map]; exact Nat.lt_of_le_of_lt (show cols.length ≤ 1000 by omega) (by decide), fun _ _ => rfl, fun x S2 hx p2 => ?_, fun ds S2 he hn2 p2 => ?_⟩
  · obtain ⟨j, hj⟩ := List.mem_iff_getElem?.mp hx
    rw [List.getElem?_map] at hj
    obtain ⟨c, hc, rfl⟩ := Option.map_eq_some_iff.mp hj
    have hjl := (List.getElem?_eq_some_iff.mp hc).1
    have ec : ∀ k, c.getD k 0 = cAt cols j k := fun k => by
      unfold cAt
      rw [show cols.getD j [] = c by rw [List.getD_eq_getElem?_getD, hc]; rfl]
    and_intros
    refine (product_ok (m := goal.length) (iv_row (G.hc c (List.mem_of_getElem? hc))) (iv_row gl) (by omega) fun k hk => ?_).mono (fun u S3 ⟨eu, p3⟩ => ?_) fun _ _ _ q => q
    · have := G.b1 j k
      rw [ec]
      exact .small (by omega) (by omega)
    · subst eu
      have := agR_cols F h0 hjl
      have e2 : (su goal.length fun k => c.getD k 0 * (agR cols goal told D).getD k 0) ≤ 0 := by
        rw [su_congr (g := fun k => cAt cols j k * (agR cols goal told D).getD k 0) fun k _ => by rw [ec]]
        exact this
      and_intros
      exact ⟨decide_eq_false (by omega), fun _ => p3, fun z => by rw [show (decide _ : Bool) = false from decide_eq_false (by omega)] at z; cases z⟩
  · have e0 : ds = [] := by
      rw [List.filter_eq_nil_iff.mpr (by intro _ _ z; cases z)] at he
      cases he; rfl
    subst e0
    and_intros
    have q := List.prefix_append S2 [MBox.lst []]
    refine w_neNil (w := 10) (seq_lst (get_pre q hn2)) (seq_lst get_last) (fun d hd => nomatch hd) ?_
    refine ⟨_, rfl, (fun z => nomatch z), fun _ => ?_⟩
    refine w_sNil ?_
    refine c_nx ?_
    and_intros
    refine (product_ok (m := goal.length) (iv_row rfl) (iv_row gl) (by omega) fun k hk => ?_).mono (fun u S3 ⟨eu, p3⟩ => ?_) fun _ _ _ q => q
    · have := G.b2 k
      unfold gAt at this
      exact .small (by omega) (by omega)
    · subst eu
      have := agR_goal F h0
      and_intros
      exact .inl ⟨_, rfl, congrArg Dt.bl (decide_eq_true this), ((p1.trans p2).trans q).trans p3⟩
end
end Lw
set_option Elab.async false
set_option linter.all false
set_option maxRecDepth 100000
set_option maxHeartbeats 4000000
/-! Er: the law's judge of shares. -/
namespace Lw
open PySem PySem.Spec PyProof.Rows L2 Mn Lx
section
variable {S : Bxs}
/-- shares in lowest terms, all of parts of D -/
def Shs (D : Int) (xs : List (Int × Int)) : Prop := ∀ x ∈ xs, 0 ≤ x.1 ∧ 1 ≤ x.2 ∧ Nat.gcd x.1.natAbs x.2.natAbs = 1 ∧ x.2 ∣ D ∧ x.1.natAbs < BIG
theorem Shs.den {D : Int} {xs : List (Int × Int)} (h : Shs D xs) (hD : 0 < D) (hB : D.natAbs < BIG) {x : Int × Int} (hx : x ∈ xs) : x.2.natAbs < BIG := by
  obtain ⟨_, h1, _, h3, _⟩ := h x hx
  have := Int.le_of_dvd hD h3
  omega
theorem are_shares_ok {D : Int} {xs : List (Int × Int)} (h : Shs D xs) (hD : 0 < D) (hB : D.natAbs < BIG) {n : Int} (hn : (xs.length : Int) = n) : (F__law_are_shares [.tup (xs.map prI), .int n] S).Wp (fun r S' => r = .bl true ∧ S <+: S') noX := by
  refine w_body ?_
  unfold B__law_are_shares
  simp only [startD, List.map_cons, List.map_nil, List.length_cons, List.length_nil, List.cons_append, List.nil_append, Nat.reduceAdd, Nat.reduceSub, List.replicate, List.replicate_succ, List.replicate_zero]
  refine w_cons (w_if (w_or (w_not (w_true (w_isi (w_var rfl ⟨true, by show kitB "tuple" "tuple" = _; decide +kernel, true, rfl, ?_⟩))))))
  refine ⟨(fun z => nomatch z), fun _ => ?_⟩
  and_intros
  refine w_neI ?_
  refine ⟨_, rfl, ?_⟩
  refine ⟨fun z => ?_, fun _ => ?_⟩
  · rw [List.length_map, hn] at z
    simp at z
  refine w_sNil ?_
  refine c_nx ?_
  refine w_cons ?_
  and_intros
  refine w_loop (fun i σ' S' => (∃ d2, σ' = [some (.tup (xs.map prI)), some (.int n), d2]) ∧ S <+: S') (fun i σ' S' hI => rfl) (fun i x σ' S' hx hI => ?_) (fun σ' S' hI => ?_) ⟨⟨_, rfl⟩, List.prefix_refl _⟩
  · obtain ⟨⟨d2, rfl⟩, p⟩ := hI
    have hx : (xs.map prI)[i]? = some x := hx
    rw [List.getElem?_map] at hx
    obtain ⟨y, hy, rfl⟩ := Option.map_eq_some_iff.mp hx
    have hm := List.mem_of_getElem? hy
    obtain ⟨h0, h1, hg, hd, hb⟩ := h y hm
    have hb2 := h.den hD hB hm
    and_intros
    refine (lrow_ok (is := [y.1, y.2]) rfl (show (2 : Nat) ≤ 1000 by decide)).mono (fun u S1 ⟨eu, p1⟩ => ?_) fun _ _ _ q => q
    subst eu
    refine ⟨true, rfl, (fun z => nomatch z), fun _ => ?_⟩
    refine w_or ?_
    refine w_true (w_bin ?_)
    refine w_bin (w_var rfl ?_)
    refine w_c ?_
    refine w_ixT (d := .int y.1) rfl ?_
    and_intros
    refine ⟨fun z => ?_, fun _ => ?_⟩
    · have := of_decide_eq_true z; omega
    refine w_or ?_
    refine w_true (w_bin ?_)
    refine w_bin (w_var rfl ?_)
    refine w_c ?_
    refine w_ixT (d := .int y.2) rfl ?_
    and_intros
    refine ⟨fun z => ?_, fun _ => ?_⟩
    · have := of_decide_eq_true z; omega
    refine w_true (w_bin (w_call (w_consA ?_)))
    refine w_bin (w_var rfl ?_)
    refine w_c ?_
    refine w_ixT (d := .int y.1) rfl ?_
    refine w_consA ?_
    refine w_bin (w_var rfl ?_)
    refine w_c ?_
    refine w_ixT (d := .int y.2) rfl ?_
    refine w_nil ?_
    refine (gcdB_ok hb hb2).mono (fun u S2 ⟨eu, eS⟩ => ?_) fun _ _ _ q => q
    subst eu; subst eS
    rw [hg]
    refine w_c ?_
    refine w_neI ?_
    refine ⟨_, rfl, (fun z => nomatch z), fun _ => ?_⟩
    refine w_sNil ?_
    exact .inl ⟨rfl, ⟨_, rfl⟩, p.trans p1⟩
  · obtain ⟨⟨d2, rfl⟩, p⟩ := hI
    refine c_nx ?_
    and_intros
    exact .inl ⟨_, rfl, rfl, p⟩
theorem den_ok {D : Int} {xs : List (Int × Int)} (h : Shs D xs) (hD : 0 < D) (hB : D.natAbs < BIG) : (F__law_den_of [.tup (xs.map prI)] S).Wp (fun r S' => S' = S ∧ ∃ d : Int, r = .int d ∧ 0 < d ∧ d ∣ D ∧ ∀ x ∈ xs, x.2 ∣ d) noX := by
  refine w_body ?_
  unfold B__law_den_of
  simp only [startD, List.map_cons, List.map_nil, List.length_cons, List.length_nil, List.cons_append, List.nil_append, Nat.reduceAdd, Nat.reduceSub, List.replicate, List.replicate_succ, List.replicate_zero]
  and_intros
  refine w_loop (fun i σ' S' => S' = S ∧ ∃ (d : Int) (d2 : Option Dt), σ' = [some (.tup (xs.map prI)), some (.int d), d2] ∧ 0 < d ∧ d ∣ D ∧ ∀ (j : Nat) (x : Int × Int), j < i → xs[j]? = some x → x.2 ∣ d) (fun i σ' S' hI => rfl) (fun i x σ' S' hx hI => ?_) (fun σ' S' hI => ?_) ⟨rfl, 1, _, rfl, by decide, Int.one_dvd D, fun j x hj _ => absurd hj (Nat.not_lt_zero _)⟩
  · obtain ⟨rfl, d, d2, rfl, hd0, hdD, hall⟩ := hI
    have hx : (xs.map prI)[i]? = some x := hx
    rw [List.getElem?_map] at hx
    obtain ⟨y, hy, rfl⟩ := Option.map_eq_some_iff.mp hx
    have hm := List.mem_of_getElem? hy
    obtain ⟨h0, h1, hg, hd, hb⟩ := h y hm
    have hb2 := h.den hD hB hm
    have dle := Int.le_of_dvd hD hdD
    have db : d.natAbs < BIG := by omega
    obtain ⟨dn, rfl⟩ := Int.eq_ofNat_of_zero_le (Int.le_of_lt hd0)
    obtain ⟨Dn, rfl⟩ := Int.eq_ofNat_of_zero_le (Int.le_of_lt hD)
    obtain ⟨y1, y2⟩ := y
    obtain ⟨yn, rfl⟩ := Int.eq_ofNat_of_zero_le (show (0 : Int) ≤ y2 by show (0 : Int) ≤ y2; have : (1 : Int) ≤ y2 := h1; omega)
    have yn0 : 0 < yn := by have : (1 : Int) ≤ (yn : Int) := h1; omega
    have g0 : 0 < Nat.gcd dn yn := Nat.gcd_pos_of_pos_right dn yn0
    have gle : Nat.gcd dn yn ≤ yn := Nat.gcd_le_right dn yn0
    have hb2 : ((yn : Nat) : Int).natAbs < BIG := hb2
    rw [Int.natAbs_natCast] at hb2
    rw [Int.natAbs_natCast] at db
    refine w_tName ?_
    refine w_set ?_
    refine w_bin (w_var rfl ?_)
    refine w_bin ?_
    refine w_bin (w_var rfl ?_)
    refine w_c ?_
    refine w_ixT (d := .int (yn : Int)) rfl ?_
    refine w_call (w_consA (w_var rfl ?_))
    refine w_consA ?_
    refine w_bin (w_var rfl ?_)
    refine w_c ?_
    refine w_ixT (d := .int (yn : Int)) rfl ?_
    refine w_nil ?_
    refine (gcdB_ok (by rw [Int.natAbs_natCast]; exact db) (by rw [Int.natAbs_natCast]; exact hb2)).mono (fun u S2 ⟨eu, eS⟩ => ?_) fun _ _ _ q => q
    subst eu; subst eS
    rw [Int.natAbs_natCast, Int.natAbs_natCast]
    refine w_fdiv (div_big (by omega) (by rw [Int.natAbs_natCast]; omega)) ?_
    have ediv : (yn : Int) / ((Nat.gcd dn yn : Nat) : Int) = ((yn / Nat.gcd dn yn : Nat) : Int) := (Int.natCast_ediv ..).symm
    rw [ediv]
    refine w_mul (mul_big (by rw [Int.natAbs_natCast]; exact db) (by rw [Int.natAbs_natCast]; exact Nat.lt_of_le_of_lt (Nat.div_le_self ..) hb2)) ?_
    have elcm : (dn : Int) * ((yn / Nat.gcd dn yn : Nat) : Int) = ((Nat.lcm dn yn : Nat) : Int) := by
      rw [← Int.natCast_mul]
      congr 1
      unfold Nat.lcm
      rw [Nat.mul_div_assoc _ (Nat.gcd_dvd_right dn yn)]
    rw [elcm]
    have dn0 : 0 < dn := by omega
    have hdD' : dn ∣ Dn := Int.natCast_dvd_natCast.mp hdD
    have hyD' : yn ∣ Dn := Int.natCast_dvd_natCast.mp hd
    refine .inl ⟨rfl, rfl, _, _, rfl, ?_, Int.natCast_dvd_natCast.mpr (Nat.lcm_dvd hdD' hyD'), fun j x hj hjx => ?_⟩
    · have := Nat.lcm_pos dn0 yn0
      omega
    · by_cases q : j = i
      · subst q
        rw [hy] at hjx
        have hjx : ((y1, (yn : Int)) : Int × Int) = x := Option.some.inj hjx
        subst hjx
        exact Int.natCast_dvd_natCast.mpr (Nat.dvd_lcm_right dn yn)
      · exact Int.dvd_trans (hall j x (by omega) hjx) (Int.natCast_dvd_natCast.mpr (Nat.dvd_lcm_left dn yn))
  · obtain ⟨rfl, d, d2, rfl, hd0, hdD, hall⟩ := hI
    refine c_nx ?_
    and_intros
    refine .inl ⟨_, rfl, rfl, d, rfl, hd0, hdD, fun x hx => ?_⟩
    obtain ⟨j, hj⟩ := List.mem_iff_getElem?.mp hx
    have hl := (List.getElem?_eq_some_iff.mp hj).1
    exact hall j x (by show j < (xs.map prI).length; rw [List.length_map]; exact hl) hj
end
section
variable {S : Bxs} {cols : List (List Int)} {goal : List Int} {told : Nat → Nat} {D : Int}
def zcF (b : Nat) : Dt × Dt → Dt
  | (.int u, .tup xs) => match xs[b]? with
    | some (.int x) => .int (u * x)
    | _ => .non
  | _ => .non
theorem rowD_cols {f : Nat → Int} : (rowD cols.length f).zip (cols.map iv) = (List.range cols.length).map fun j => (Dt.int (f j), iv (cols.getD j [])) := by
  have : cols.map iv = (List.range cols.length).map fun j => iv (cols.getD j []) := by
    refine List.ext_getElem? fun k => ?_
    by_cases h : k < cols.length
    · rw [List.getElem?_map, List.getElem?_map, List.getElem?_range h, List.getElem?_eq_getElem h]
      show _ = some (iv (cols.getD k []))
      rw [List.getD_eq_getElem?_getD, List.getElem?_eq_getElem h]; rfl
    · rw [List.getElem?_eq_none (by rw [List.length_map]; omega), List.getElem?_eq_none (by rw [List.length_map, List.length_range]; omega)]
  rw [this]
  unfold rowD
  rw [List.zip_map']
theorem colD_get {j b : Nat} (h : b < (cols.getD j []).length) : ((cols.getD j []).map Dt.int)[b]? = some (.int (cAt cols j b)) := by
  unfold cAt
  rw [List.getElem?_map, List.getElem?_eq_getElem h, List.getD_eq_getElem?_getD (l := cols.getD j []), List.getElem?_eq_getElem h]; rfl
theorem colD_len {B : Nat} (G : Cg cols goal B) {j : Nat} (h : j < cols.length) : (cols.getD j []).length = goal.length := by
  rw [List.getD_eq_getElem?_getD, List.getElem?_eq_getElem h]
  exact G.hc _ (List.getElem_mem h)
theorem zcF_eq {j b : Nat} {u : Int} (h : b < (cols.getD j []).length) : zcF b (Dt.int u, iv (cols.getD j [])) = .int (u * cAt cols j b) := by
  show (match ((cols.getD j []).map Dt.int)[b]? with
    | some (.int x) => Dt.int (u * x)
    | _ => .non) = _
  rw [colD_get h]
end
end Lw
set_option Elab.async false
set_option linter.all false
set_option maxRecDepth 100000
set_option maxHeartbeats 4000000
/-! Gd: shares right, with costs. -/
namespace Lw
open PySem PySem.Spec PyProof.Rows L2 Mn Lx
section
variable {S : Bxs} {cols : List (List Int)} {goal costs : List Int}
def shX (cols : List (List Int)) (goal costs : List Int) (x : Tri) : List (Int × Int) := (List.range cols.length).map fun j => shr cols.length goal.length (A1 cols goal costs) x.1 x.2.1 x.2.2 goal.length j
theorem Fin2.mz {told : Nat → Nat} {D : Int} {t2 : Nat → Nat} {D2 : Int} (h : Fin2 cols goal costs told D t2 D2) : Mz cols.length goal.length (A1 cols goal costs) (t2, (last1 cols goal costs told D).2.1, D2) :=
  ⟨h.1.sp, fun i hi hn => (h.2.2 i hi hn).1⟩
theorem colX_sum {x : Tri} (M : Mz cols.length goal.length (A1 cols goal costs) x) {b : Nat} (hb : b < goal.length) :
    (su cols.length fun j => wt cols.length goal.length (A1 cols goal costs) x.1 x.2.1 j * cAt cols j b) = x.2.2 * gAt goal b := by
  have e := wt_sum aF_sx M hb
  rw [aF_goal hb] at e
  refine Int.eq_of_mul_eq_mul_left (sgn_ne (gAt goal b)) ?_
  rw [← su_mul]
  have e2 : (su cols.length fun j => sgn (gAt goal b) * (wt cols.length goal.length (A1 cols goal costs) x.1 x.2.1 j * cAt cols j b)) = su cols.length fun j => wt cols.length goal.length (A1 cols goal costs) x.1 x.2.1 j * A1 cols goal costs j b := su_congr fun j hj => by
    rw [show A1 cols goal costs j b = _ from aF_col hj hb, Int.mul_left_comm]
  rw [e2, Int.mul_left_comm]
  exact e
theorem is_sharedX_ok {B : Nat} {X0 : Tri} (G : Cgc cols goal costs B) (M : Mz cols.length goal.length (A1 cols goal costs) X0) : (F__law_is_shared [.tup (cols.map iv), iv goal, .tup ((shX cols goal costs X0).map prI)] S).Wp (fun r S' => r = .bl true ∧ S <+: S') noX := by
  have hm := G.g.hm
  have hn := G.g.hn
  have hB := G.g.hB
  have p := M.1
  obtain ⟨bD, bR⟩ := G.okx.big p.t p.tle
  have hD := p.t.pos
  have csum := fun {b : Nat} (hb : b < goal.length) => colX_sum M hb
  have hf := fun j : Nat => shr_frc p (j := j)
  have sl : (shX cols goal costs X0).length = cols.length := by unfold shX; rw [List.length_map, List.length_range]
  have sget : ∀ j, j < cols.length → (shX cols goal costs X0)[j]? = some (shr cols.length goal.length (A1 cols goal costs) X0.1 X0.2.1 X0.2.2 goal.length j) := fun j hj => by
    unfold shX
    rw [List.getElem?_map, List.getElem?_range hj]; rfl
  have wb : ∀ j, (wt cols.length goal.length (A1 cols goal costs) X0.1 X0.2.1 j).natAbs < BIG := fun j => by
    rcases shr_at p (j := j) (Nat.le_refl _) with ⟨i, h1, h2, _⟩ | ⟨h1, _⟩
    · have e : wt cols.length goal.length (A1 cols goal costs) X0.1 X0.2.1 j = Rv (goal.length + 2) (A1 cols goal costs) X0.1 X0.2.1 i (A1 cols goal costs (cols.length + goal.length)) := by
        unfold wt
        rw [su_one (i := i) h1 fun k hk hn => by rw [if_neg fun z => hn (p.t.one (by omega) (by omega) (z.trans h2.symm))], if_pos h2]
      rw [e]; exact bR _ _ (by omega)
    · have e : wt cols.length goal.length (A1 cols goal costs) X0.1 X0.2.1 j = 0 := su_zero fun k hk => by rw [if_neg (h1 k hk)]
      rw [e]; show (0 : Nat) < BIG; unfold BIG; decide
  generalize hx : (shX cols goal costs X0) = xs at sl sget ⊢
  generalize X0.2.2 = D' at hD bD hf csum sget
  have hS : Shs D' xs := fun x hxm => by
    obtain ⟨j, hj⟩ := List.mem_iff_getElem?.mp hxm
    have hjl := (List.getElem?_eq_some_iff.mp hj).1
    rw [sget j (by omega)] at hj
    have hj := Option.some.inj hj
    subst hj
    have f := hf j
    exact ⟨f.h0, f.h1, f.hg, f.hd, Nat.lt_of_le_of_lt f.hb (wb j)⟩
  refine w_body ?_
  unfold B__law_is_shared
  simp only [startD, List.map_cons, List.map_nil, List.length_cons, List.length_nil, List.cons_append, List.nil_append, Nat.reduceAdd, Nat.reduceSub, List.replicate, List.replicate_succ, List.replicate_zero]
  refine w_cons (w_if (w_not (w_true (w_call (w_consA (w_var rfl (w_consA ?_)))))))
  and_intros
  rw [List.length_map]
  refine (are_shares_ok hS hD bD (by rw [sl])).mono (fun u S1 ⟨eu, p1⟩ => ?_) fun _ _ _ q => q
  subst eu
  refine ⟨true, rfl, (fun z => nomatch z), fun _ => ?_⟩
  refine w_sNil ?_
  refine c_nx ?_
  and_intros
  refine (den_ok hS hD bD).mono (fun u S2 ⟨eS, den, eu, d0, dD, dall⟩ => ?_) fun _ _ _ q => q
  subst eu; subst eS
  have dle := Int.le_of_dvd hD dD
  have db : den.natAbs < BIG := by omega
  refine c_nx ?_
  refine w_cons (w_set ?_)
  refine w_lcD ?_
  and_intros
  refine ⟨fun d => match d with | .tup [.int u, .int v] => Dt.int (u * (den / v)) | _ => .non, by rw [List.length_map, sl]; exact Nat.lt_of_le_of_lt (show cols.length ≤ 1000 by omega) (by decide), fun _ _ => rfl, fun x S3 hx p3 => ?_, fun S3 h3 p3 => ?_⟩
  · obtain ⟨y, hy, rfl⟩ := List.mem_map.mp hx
    obtain ⟨g0, g1, _, g3, g4⟩ := hS y hy
    have hb2 := hS.den hD bD hy
    refine w_tName ?_
    refine w_bin ?_
    refine w_bin (w_var rfl ?_)
    refine w_c ?_
    refine w_ixT (d := .int y.1) rfl ?_
    refine w_bin (w_var rfl ?_)
    refine w_bin (w_var rfl ?_)
    refine w_c ?_
    refine w_ixT (d := .int y.2) rfl ?_
    refine w_fdiv (div_big (by omega) hb2) ?_
    refine w_mul (mul_big g4 (Nat.lt_of_le_of_lt (Int.natAbs_ediv_le_natAbs _ _) db)) ?_
    exact ⟨rfl, List.prefix_refl _⟩
  -- the times
  have ht : ∀ j, j < cols.length → ∃ t : Int, (xs.map prI)[j]? = some (prI (shr cols.length goal.length (A1 cols goal costs) X0.1 X0.2.1 D' goal.length j)) := fun j hj => ⟨0, by rw [List.getElem?_map, sget j hj]; rfl⟩
  have h3 : S3[S2.length]? = some (.lst (rowD cols.length fun j => (shr cols.length goal.length (A1 cols goal costs) X0.1 X0.2.1 D' goal.length j).1 * (den / (shr cols.length goal.length (A1 cols goal costs) X0.1 X0.2.1 D' goal.length j).2))) := by
    rw [h3]
    congr 2
    refine List.ext_getElem? fun j => ?_
    by_cases q : j < cols.length
    · rw [rowD_get q, List.getElem?_map, List.getElem?_map, sget j q]; rfl
    · rw [List.getElem?_eq_none (by rw [List.length_map, List.length_map]; omega), List.getElem?_eq_none (by rw [rowD_len]; omega)]
  -- what they make
  have fact : ∀ b, b < goal.length → (su cols.length fun j => ((shr cols.length goal.length (A1 cols goal costs) X0.1 X0.2.1 D' goal.length j).1 * (den / (shr cols.length goal.length (A1 cols goal costs) X0.1 X0.2.1 D' goal.length j).2)) * cAt cols j b) = den * gAt goal b := fun b hb => by
    have hne : D' ≠ 0 := by omega
    refine Int.eq_of_mul_eq_mul_left hne ?_
    rw [← su_mul]
    have e := csum hb
    have e2 : (su cols.length fun j => D' * (((shr cols.length goal.length (A1 cols goal costs) X0.1 X0.2.1 D' goal.length j).1 * (den / (shr cols.length goal.length (A1 cols goal costs) X0.1 X0.2.1 D' goal.length j).2)) * cAt cols j b)) = su cols.length fun j => den * (wt cols.length goal.length (A1 cols goal costs) X0.1 X0.2.1 j * cAt cols j b) := su_congr fun j hj => by
      have f := hf j
      have dv := dall _ (List.mem_of_getElem? (sget j hj))
      obtain ⟨q, hq⟩ := dv
      have f1 := f.h1
      have fw := f.hw
      generalize shr cols.length goal.length (A1 cols goal costs) X0.1 X0.2.1 D' goal.length j = x at *
      have e3 : den / x.2 = q := by rw [hq]; exact Int.mul_ediv_cancel_left _ (by omega)
      rw [e3, hq]
      have e4 : D' * (x.1 * q * cAt cols j b) = x.1 * D' * (q * cAt cols j b) := by simp only [Int.mul_assoc, Int.mul_left_comm, Int.mul_comm]
      rw [e4, fw]
      simp only [Int.mul_assoc, Int.mul_left_comm, Int.mul_comm]
    rw [e2, su_mul, e, Int.mul_left_comm]
  refine c_nx ?_
  refine w_ret (w_bin ?_)
  refine w_lcP ?_
  and_intros
  rw [List.length_map]
  refine ⟨⟨by show -(2 ^ 62) ≤ (goal.length : Int); omega, by show (goal.length : Int) < 2 ^ 62; omega⟩, fun _ => false, fun _ _ => True, by rw [rgD_len]; exact Nat.lt_of_le_of_lt (show ((goal.length : Int)).toNat ≤ 1000 by omega) (by decide), fun _ _ => trivial, fun x S4 hx p4 => ?_, fun ds S4 he hn4 p4 => ?_⟩
  · obtain ⟨b, hb'⟩ := List.mem_iff_getElem?.mp hx
    have hbl := (List.getElem?_eq_some_iff.mp hb').1
    rw [rgD_len] at hbl
    have hb : b < goal.length := by omega
    rw [rgD_get hb', Int.zero_add]
    refine w_tName ?_
    refine w_true (w_bin (w_call (w_consA ?_)))
    refine w_lcD ?_
    and_intros
    refine ⟨_, _, _, _, rfl, seq_lst (get_pre p4 h3), rfl, zcF b, ?_, fun S5 p5 => ⟨seq_lst (get_pre p5 (get_pre p4 h3)), rfl⟩, fun x S5 hx p5 => ?_, fun S5 h5 p5 => ?_⟩
    · rw [rowD_cols, List.length_map, List.length_range]
      exact Nat.lt_of_le_of_lt (show cols.length ≤ 1000 by omega) (by decide)
    · rw [rowD_cols] at hx
      obtain ⟨j, hj, rfl⟩ := List.mem_map.mp hx
      have hj := List.mem_range.mp hj
      have hcl := colD_len G.g hj
      have b1 := G.g.b1 j b
      and_intros
      refine w_ixT (atI_nn (k := b) (d := .int (cAt cols j b)) (colD_get (by omega)) rfl) ?_
      refine w_mul (.small2 (by omega) (by omega)) ?_
      refine ⟨?_, List.prefix_refl _⟩
      exact (zcF_eq (by omega)).symm
    · have h6 : S5[S4.length]? = some (.lst (((List.range cols.length).map fun j => (shr cols.length goal.length (A1 cols goal costs) X0.1 X0.2.1 D' goal.length j).1 * (den / (shr cols.length goal.length (A1 cols goal costs) X0.1 X0.2.1 D' goal.length j).2) * cAt cols j b).map Dt.int)) := by
        rw [h5, rowD_cols, List.map_map, List.map_map]
        congr 2
        refine List.map_congr_left fun j hj => ?_
        have hj := List.mem_range.mp hj
        exact zcF_eq (by rw [colD_len G.g hj]; exact hb)
      and_intros
      refine w_sumB (seq_lst h6) ?_
      rw [sum_rowD, fact b hb]
      have b2 := G.g.b2 b
      and_intros
      refine w_ixT (atI_nn (k := b) (d := .int (gAt goal b)) (by rw [List.getElem?_map, List.getElem?_eq_getElem hb]; unfold gAt; rw [List.getD_eq_getElem?_getD, List.getElem?_eq_getElem hb]; rfl) rfl) ?_
      refine w_mul (.small2 (by omega) (by omega)) ?_
      refine w_neI ?_
      refine ⟨_, rfl, by simp, fun _ => p5, fun z => by simp at z⟩
  · have e0 : ds = [] := by
      rw [List.filter_eq_nil_iff.mpr (by intro _ _ z; cases z)] at he
      cases he; rfl
    subst e0
    and_intros
    have q := List.prefix_append S4 [MBox.lst []]
    refine w_neNil (w := 10) (seq_lst (get_pre q hn4)) (seq_lst get_last) (fun d hd => nomatch hd) ?_
    exact .inl ⟨_, rfl, rfl, ((p1.trans p3).trans p4).trans q⟩
end
end Lw
set_option Elab.async false
set_option linter.all false
set_option maxRecDepth 100000
set_option maxHeartbeats 4000000
/-! Ge: what the dearest row says. -/
namespace Lw
open PySem PySem.Spec PyProof.Rows L2 Mn Lx
section
variable {cols : List (List Int)} {goal costs : List Int} {told : Nat → Nat} {D : Int} {t2 : Nat → Nat} {D2 s : Int} {row : List Int}
/-- the row and its scale, times their divisor -/
theorem dear_at {σ : Int} (hD : 0 < D2) (e : prL (drL cols.length goal.length (A1 cols goal costs) t2 σ D2 (goal.map sgn)) = s :: row) :
    ∃ g : Int, 0 < g ∧ g * s = D2 ∧ row.length = goal.length ∧ ∀ k, k < goal.length → g * row.getD k 0 = - (sgn (gAt goal k) * Rv (goal.length + 2) (A1 cols goal costs) t2 σ goal.length (A1 cols goal costs (cols.length + k))) := by
  have h0 : ∃ x ∈ drL cols.length goal.length (A1 cols goal costs) t2 σ D2 (goal.map sgn), x ≠ 0 := ⟨D2, List.mem_cons_self, by omega⟩
  obtain ⟨g0, hy⟩ := prL_mul h0
  have hl : row.length = goal.length := by
    have := congrArg List.length e
    unfold prL drL at this
    rw [List.length_map, List.length_cons, List.length_map, List.length_range, List.length_cons] at this
    omega
  refine ⟨(gcL (drL cols.length goal.length (A1 cols goal costs) t2 σ D2 (goal.map sgn)) : Nat), Int.ofNat_lt.mpr g0, ?_, hl, fun k hk => ?_⟩
  · obtain ⟨y, h1, h2⟩ := hy 0 D2 rfl
    rw [e] at h1
    rw [Option.some.inj (show some s = some y from h1)]
    exact h2
  · have hx : (drL cols.length goal.length (A1 cols goal costs) t2 σ D2 (goal.map sgn))[k + 1]? = some (-gAt (goal.map sgn) k * Rv (goal.length + 2) (A1 cols goal costs) t2 σ goal.length (A1 cols goal costs (cols.length + k))) := by
      unfold drL
      rw [List.getElem?_cons_succ, List.getElem?_map, List.getElem?_range hk]; rfl
    obtain ⟨y, h1, h2⟩ := hy (k + 1) _ hx
    rw [e, List.getElem?_cons_succ] at h1
    have : row.getD k 0 = y := by rw [List.getD_eq_getElem?_getD, h1]; rfl
    rw [this, h2, sg_at hk, Int.neg_mul]
theorem dear_sum {σ : Int} (p : Sp cols.length goal.length (A1 cols goal costs) t2 σ D2) (e : prL (drL cols.length goal.length (A1 cols goal costs) t2 σ D2 (goal.map sgn)) = s :: row) {v u : Nat → Int} (hv : ∀ k, k < goal.length → u k = sgn (gAt goal k) * v k) :
    ∃ g : Int, 0 < g ∧ g * s = D2 ∧ row.length = goal.length ∧ g * (su goal.length fun k => v k * row.getD k 0) = D2 * u goal.length - Rv (goal.length + 2) (A1 cols goal costs) t2 σ goal.length u := by
  obtain ⟨g, g0, gs, gl, ge⟩ := dear_at p.t.pos e
  refine ⟨g, g0, gs, gl, ?_⟩
  have X : Sx cols.length goal.length (A1 cols goal costs) := aF_sx
  have m := p.mrow X u
  rw [← su_mul]
  have e1 : (su goal.length fun k => g * (v k * row.getD k 0)) = - su goal.length fun k => u k * Rv (goal.length + 2) (A1 cols goal costs) t2 σ goal.length (A1 cols goal costs (cols.length + k)) := by
    rw [← su_neg]
    refine su_congr fun k hk => ?_
    rw [Int.mul_left_comm, ge k hk, hv k hk, Int.mul_neg]
    simp only [Int.mul_assoc, Int.mul_left_comm, Int.mul_comm]
  rw [e1, m]; omega
theorem dear_one {σ : Int} (hD : 0 < D2) (e : prL (drL cols.length goal.length (A1 cols goal costs) t2 σ D2 (goal.map sgn)) = s :: row) : 1 ≤ s := by
  obtain ⟨g, g0, gs, _⟩ := dear_at hD e
  rcases Int.lt_or_le 0 s with q | q
  · omega
  · have := Int.mul_nonpos_of_nonneg_of_nonpos (Int.le_of_lt g0) q
    omega
/-- no column is dearer than it costs -/
theorem dear_cols {σ : Int} (p : Sp cols.length goal.length (A1 cols goal costs) t2 σ D2) (En : Ends cols.length goal.length (A1 cols goal costs) goal.length σ t2) (e : prL (drL cols.length goal.length (A1 cols goal costs) t2 σ D2 (goal.map sgn)) = s :: row) {j : Nat} (hj : j < cols.length) :
    (su goal.length fun k => cAt cols j k * row.getD k 0) ≤ s * gAt costs j := by
  obtain ⟨g, g0, gs, _, ge⟩ := dear_sum p e (v := cAt cols j) (u := A1 cols goal costs j) fun k hk => aF_col hj hk
  rw [show A1 cols goal costs j goal.length = _ from aF_cost hj] at ge
  have h := En j hj
  refine Int.le_of_mul_le_mul_left ?_ g0
  rw [ge, ← Int.mul_assoc, gs]
  omega
/-- the goal costs what the shares cost -/
theorem dear_goal {σ : Int} (M : Mz cols.length goal.length (A1 cols goal costs) (t2, σ, D2)) (e : prL (drL cols.length goal.length (A1 cols goal costs) t2 σ D2 (goal.map sgn)) = s :: row) :
    D2 * (su goal.length fun k => gAt goal k * row.getD k 0) = s * su cols.length fun j => wt cols.length goal.length (A1 cols goal costs) t2 σ j * gAt costs j := by
  have p : Sp cols.length goal.length (A1 cols goal costs) t2 σ D2 := M.1
  obtain ⟨g, g0, gs, _, ge⟩ := dear_sum p e (v := gAt goal) (u := A1 cols goal costs (cols.length + goal.length)) fun k hk => aF_goal hk
  rw [show A1 cols goal costs (cols.length + goal.length) goal.length = _ from aF_gcost, Int.mul_zero] at ge
  have X : Sx cols.length goal.length (A1 cols goal costs) := aF_sx
  have c := p.costs X (A1 cols goal costs (cols.length + goal.length))
  rw [show A1 cols goal costs (cols.length + goal.length) goal.length = _ from aF_gcost, Int.mul_zero] at c
  have e1 : (su cols.length fun j => wt cols.length goal.length (A1 cols goal costs) t2 σ j * gAt costs j) = su goal.length fun i => Rv (goal.length + 2) (A1 cols goal costs) t2 σ i (A1 cols goal costs (cols.length + goal.length)) * A1 cols goal costs (t2 i) goal.length := by
    have e2 : (fun j => wt cols.length goal.length (A1 cols goal costs) t2 σ j * gAt costs j) = fun j => su goal.length fun i => (if t2 i = j then Rv (goal.length + 2) (A1 cols goal costs) t2 σ i (A1 cols goal costs (cols.length + goal.length)) else 0) * gAt costs j := funext fun j => by
      unfold wt
      rw [Int.mul_comm, ← su_mul]
      exact su_congr fun i _ => Int.mul_comm ..
    rw [e2, su_swap]
    refine su_congr fun i hi => ?_
    by_cases q : t2 i < cols.length
    · rw [su_one (i := t2 i) q fun k hk hn => by rw [if_neg fun z => hn z.symm, Int.zero_mul], if_pos rfl, show A1 cols goal costs (t2 i) goal.length = _ from aF_cost q]
    · have z0 := M.2 i hi (show cols.length ≤ t2 i by omega)
      have z0 : Rv (goal.length + 2) (A1 cols goal costs) t2 σ i (A1 cols goal costs (cols.length + goal.length)) = 0 := z0
      rw [z0, Int.zero_mul]
      exact su_zero fun k hk => by split <;> simp
  rw [e1]
  have ec : (su goal.length fun i => Rv (goal.length + 2) (A1 cols goal costs) t2 σ i (A1 cols goal costs (cols.length + goal.length)) * A1 cols goal costs (t2 i) goal.length) = g * su goal.length fun k => gAt goal k * row.getD k 0 := by
    rw [ge]; omega
  rw [ec, ← gs]
  simp only [Int.mul_assoc, Int.mul_left_comm, Int.mul_comm]
end
end Lw
set_option Elab.async false
set_option linter.all false
set_option maxRecDepth 100000
set_option maxHeartbeats 4000000
/-! Es: the law draws rows and columns. -/
namespace Lw
open PySem PySem.Spec PyProof.Rows L2 Mn Lx
section
variable {S : Bxs} {b c : Nat}
/-- a drawn row -/
def Rw1 (n : Nat) (is : List Int) : Prop := is.length = n ∧ ∀ i ∈ is, i.natAbs ≤ 1000001
theorem ivs_of {P : List Int → Prop} : ∀ {ds : List Dt}, (∀ d ∈ ds, ∃ is, d = iv is ∧ P is) → ∃ rows : List (List Int), ds = rows.map iv ∧ ∀ r ∈ rows, P r
  | [], _ => ⟨[], rfl, fun r h => nomatch h⟩
  | d :: ds, h => by
    obtain ⟨is, e, p⟩ := h d List.mem_cons_self
    obtain ⟨rows, e2, p2⟩ := ivs_of (ds := ds) fun x hx => h x (List.mem_cons_of_mem _ hx)
    refine ⟨is :: rows, by rw [e, e2]; rfl, fun r hr => ?_⟩
    rcases List.mem_cons.mp hr with q | q
    · rw [q]; exact p
    · exact p2 r q
theorem menus_last {x1 x2 x3 x4 x5 x6 : MBox} : (S ++ [x1] ++ [x2] ++ [x3] ++ [x4] ++ [x5] ++ [x6])[S.length + 1 + 1 + 1 + 1 + 1]? = some x6 := by
  have : (S ++ [x1] ++ [x2] ++ [x3] ++ [x4] ++ [x5]).length = S.length + 1 + 1 + 1 + 1 + 1 := by simp only [List.length_append, List.length_cons, List.length_nil]
  rw [← this]; exact get_last
theorem menus_get {x1 x2 x3 x4 x5 x6 : MBox} {i : Nat} : (S ++ [x1] ++ [x2] ++ [x3] ++ [x4] ++ [x5] ++ [x6])[S.length + i]? = [x1, x2, x3, x4, x5, x6][i]? := by
  simp only [List.append_assoc]
  rw [List.getElem?_append_right (Nat.le_add_right ..), Nat.add_sub_cancel_left]; rfl
theorem anyrow_ok (B : Bag S b c) {n : Nat} (hn : n ≤ 9) : (F__law_any_row [.box b, .int (n : Int)] S).Wp (fun d S' => (∃ is, d = iv is ∧ Rw1 n is) ∧ Bag S' b c ∧ Fr b S S') noX := by
  refine w_body ?_
  unfold B__law_any_row
  simp only [startD, List.map_cons, List.map_nil, List.length_cons, List.length_nil, List.cons_append, List.nil_append, Nat.reduceAdd, Nat.reduceSub, List.replicate, List.replicate_succ, List.replicate_zero]
  and_intros
  have lt := B.lt
  refine (one_ok (xs := [Dt.box S.length, Dt.box (S.length + 1), Dt.box (S.length + 2), Dt.box (S.length + 3), Dt.box (S.length + 4)]) B.app.app.app.app.app.app (seq_lst (by simp only [List.length_append, List.length_cons, List.length_nil]; exact menus_last)) (by simp only [List.length_append, List.length_cons, List.length_nil]; omega) (fun z => nomatch z) (show (5 : Nat) ≤ 100000 by decide)).mono (fun d S1 ⟨hd, B1, F1⟩ => ?_) fun _ _ _ q => q
  have key : ∃ k is, d = .box k ∧ S.length ≤ k ∧ S1[k]? = some (.lst (is.map Dt.int)) ∧ is ≠ [] ∧ is.length ≤ 10 ∧ ∀ i ∈ is, i.natAbs ≤ 1000001 := by
    simp only [List.mem_cons, List.not_mem_nil, or_false] at hd
    rcases hd with rfl | rfl | rfl | rfl | rfl
    · exact ⟨_, [0, 1, -1], rfl, Nat.le_refl _, F1.at_ (menus_get (i := 0)) (by omega), (fun z => nomatch z), by decide, by decide⟩
    · exact ⟨_, [0, 0, 1, -1, 2, -2], rfl, by omega, F1.at_ (menus_get (i := 1)) (by omega), (fun z => nomatch z), by decide, by decide⟩
    · exact ⟨_, [0, 1, 2, 3], rfl, by omega, F1.at_ (menus_get (i := 2)) (by omega), (fun z => nomatch z), by decide, by decide⟩
    · exact ⟨_, [-9, -4, -1, 0, 1, 5, 7], rfl, by omega, F1.at_ (menus_get (i := 3)) (by omega), (fun z => nomatch z), by decide, by decide⟩
    · exact ⟨_, [0, 1000000, -1000001, 3], rfl, by omega, F1.at_ (menus_get (i := 4)) (by omega), (fun z => nomatch z), by decide, by decide⟩
  have F0 : Mn.Fr b S S1 := ((((((Fr.refl b S).app).app).app).app).app).app.trans F1
  obtain ⟨k, is, rfl, hk, ek, hne, hlen, hbd⟩ := key
  refine c_nx ?_
  refine w_ret (w_call (w_consA ?_))
  refine w_lcB (b := b) (c := c) ?_
  and_intros
  refine ⟨⟨by show -(2 ^ 62) ≤ (n : Int); omega, by show (n : Int) < 2 ^ 62; omega⟩, fun _ => true, fun _ d => ∃ i, d = .int i ∧ i.natAbs ≤ 1000001, by rw [rgD_len]; exact Nat.lt_of_le_of_lt (show ((n : Int)).toNat ≤ 1000 by omega) (by decide), B1, fun _ _ => trivial, fun x S2 hx B2 F2 => ?_, fun ds S2 he hn2 B2 F2 => ?_⟩
  · refine w_tName ?_
    refine w_yes ?_
    refine ⟨rfl, (fun z => nomatch z), fun _ => ?_⟩
    and_intros
    refine (one_ok B2 (seq_lst (F2.at_ ek (by omega))) (by omega) (fun z => hne (List.map_eq_nil_iff.mp z)) (by rw [List.length_map]; omega)).mono (fun d S3 ⟨hd, B3, F3⟩ => ?_) fun _ _ _ q => q
    obtain ⟨i, hi, rfl⟩ := List.mem_map.mp hd
    exact ⟨⟨i, rfl, hbd i hi⟩, B3, F3⟩
  · rw [filter_yes] at he
    obtain ⟨js, ej, jl, jb⟩ := Each.ints (P := fun i => i.natAbs ≤ 1000001) (fun _ _ h => h) he
    subst ej
    and_intros
    refine w_tupB (seq_lst hn2) ?_
    refine .inl ⟨_, rfl, ⟨js, rfl, by rw [jl]; show (rgD 0 ((n : Int)).toNat).length = n; rw [rgD_len]; omega, jb⟩, B2, F0.trans F2⟩
end
end Lw
set_option Elab.async false
set_option linter.all false
set_option maxRecDepth 100000
set_option maxHeartbeats 4000000
/-! Et: the law draws a goal. -/
namespace Lw
open PySem PySem.Spec PyProof.Rows L2 Mn Lx
section
variable {S : Bxs} {b c : Nat} {cols : List (List Int)} {n : Nat}
theorem cAt_bd {B : Nat} (h : ∀ r ∈ cols, ∀ i ∈ r, i.natAbs ≤ B) (j k : Nat) : (cAt cols j k).natAbs ≤ B := by
  unfold cAt
  rw [List.getD_eq_getElem?_getD, List.getD_eq_getElem?_getD]
  cases e : cols[j]? with
  | none => simp
  | some r =>
    show ((r[k]?).getD 0).natAbs ≤ B
    cases e2 : r[k]? with
    | none => simp
    | some i => exact h r (List.mem_of_getElem? e) i (List.mem_of_getElem? e2)
theorem gAt_bd {B : Nat} {gs : List Int} (h : ∀ i ∈ gs, i.natAbs ≤ B) (k : Nat) : (gAt gs k).natAbs ≤ B := by
  unfold gAt
  rw [List.getD_eq_getElem?_getD]
  cases e : gs[k]? with
  | none => simp
  | some i => exact h i (List.mem_of_getElem? e)
end
end Lw
set_option Elab.async false
set_option linter.all false
set_option maxRecDepth 100000
set_option maxHeartbeats 4000000
/-! Gf: both runs come to the same end; sizes. -/
namespace Lw
open PySem PySem.Spec PyProof.Rows L2 Mn Lx
section
variable {n m : Nat} {a : Nat → Nat → Int} {told : Nat → Nat} {σ D : Int}
theorem wt_nn (p : Sp n m a told σ D) {j : Nat} : 0 ≤ wt n m a told σ j := by
  have f := shr_frc p (j := j)
  have h0 := f.h0
  have h1 := f.h1
  have hw := f.hw
  have hD := p.t.pos
  rcases Int.lt_or_le (wt n m a told σ j) 0 with q | q
  · have a1 := Int.mul_nonneg h0 (Int.le_of_lt hD)
    have a2 := Int.mul_neg_of_neg_of_pos q (show 0 < (shr n m a told σ D m j).2 by omega)
    omega
  · exact q
theorem log_lt4 {i : Int} (h : i.natAbs < BIG * BIG * (BIG * BIG)) : i.natAbs.log2 < 8000 := by
  by_cases z : i.natAbs = 0
  · rw [z]; decide
  · rcases Nat.lt_or_ge i.natAbs.log2 8000 with q | q
    · exact q
    · have h1 : 2 ^ i.natAbs.log2 ≤ i.natAbs := Nat.log2_self_le z
      have h2 : (2 ^ 200) ^ 40 ≤ 2 ^ i.natAbs.log2 := by rw [← Nat.pow_mul]; exact Nat.pow_le_pow_right (by decide) q
      have h3 : BIG * BIG * (BIG * BIG) < (2 ^ 200) ^ 40 := by unfold BIG; decide
      omega
theorem mul_big4 {i j : Int} (h1 : i.natAbs < BIG * BIG * (BIG * BIG)) (h2 : j.natAbs < BIG * BIG * (BIG * BIG)) : mulOk i j := .inr (by
  have a := log_lt4 h1
  have b := log_lt4 h2
  unfold CMulW; omega)
theorem big_4 {i : Nat} (h : i < BIG) : i < BIG * BIG * (BIG * BIG) := Nat.lt_of_lt_of_le h (by
  have : (1 : Nat) ≤ BIG := by unfold BIG; decide
  have h1 : BIG * 1 ≤ BIG * BIG := Nat.mul_le_mul_left _ this
  have h2 : BIG * BIG * 1 ≤ BIG * BIG * (BIG * BIG) := Nat.mul_le_mul_left _ (Nat.mul_pos this this)
  omega)
end
section
variable {cols : List (List Int)} {goal costs : List Int} {told told1 : Nat → Nat} {D D1 : Int}
theorem made_off1 (F : Fin1 cols goal costs told D) {t : Nat → Int} {P : Int} (hP : 0 < P) (ht : ∀ j, j < cols.length → 0 ≤ t j) (hs : ∀ k, k < goal.length → (su cols.length fun j => t j * cAt cols j k) = P * gAt goal k) : Off1 cols goal costs told = 0 := by
  have X : Sx cols.length goal.length (A1 cols goal costs) := aF_sx
  have of : Off1 cols goal costs told ≤ 0 := F.1.sp.off X
  rcases Int.lt_or_le (Off1 cols goal costs told) 0 with h | h
  · have zg := F.1.sp.zrow X (v := A1 cols goal costs (cols.length + goal.length)) (X.dz _ (.inr rfl))
    have zg : Off1 cols goal costs told = _ := zg
    have zc : ∀ j, j < cols.length → (su goal.length fun k => A1 cols goal costs j k * (D - Rv (goal.length + 2) (A1 cols goal costs) told 1 (goal.length + 1) (A1 cols goal costs (cols.length + k)))) ≤ 0 := fun j hj => by
      have z := F.1.sp.zrow X (v := A1 cols goal costs j) (X.dz j (.inl hj))
      have en := F.2 j hj
      omega
    have hpos : 0 < P * su goal.length fun k => A1 cols goal costs (cols.length + goal.length) k * (D - Rv (goal.length + 2) (A1 cols goal costs) told 1 (goal.length + 1) (A1 cols goal costs (cols.length + k))) := Int.mul_pos hP (by omega)
    have e : (P * su goal.length fun k => A1 cols goal costs (cols.length + goal.length) k * (D - Rv (goal.length + 2) (A1 cols goal costs) told 1 (goal.length + 1) (A1 cols goal costs (cols.length + k)))) = su cols.length fun j => t j * su goal.length fun k => A1 cols goal costs j k * (D - Rv (goal.length + 2) (A1 cols goal costs) told 1 (goal.length + 1) (A1 cols goal costs (cols.length + k))) := by
      rw [← su_mul]
      have e1 : (fun j => t j * su goal.length fun k => A1 cols goal costs j k * (D - Rv (goal.length + 2) (A1 cols goal costs) told 1 (goal.length + 1) (A1 cols goal costs (cols.length + k)))) = fun j => su goal.length fun k => t j * (A1 cols goal costs j k * (D - Rv (goal.length + 2) (A1 cols goal costs) told 1 (goal.length + 1) (A1 cols goal costs (cols.length + k)))) := funext fun j => (su_mul _ _ _).symm
      rw [e1, su_swap]
      refine su_congr fun k hk => ?_
      generalize (D - Rv (goal.length + 2) (A1 cols goal costs) told 1 (goal.length + 1) (A1 cols goal costs (cols.length + k))) = c
      rw [show A1 cols goal costs (cols.length + goal.length) k = _ from aF_goal hk]
      rw [su_congr (f := fun j => t j * (A1 cols goal costs j k * c)) (g := fun j => (sgn (gAt goal k) * c) * (t j * cAt cols j k)) fun j hj => by
        rw [show A1 cols goal costs j k = _ from aF_col hj hk]; simp only [Int.mul_assoc, Int.mul_left_comm, Int.mul_comm]]
      rw [su_mul, hs k hk]
      simp only [Int.mul_assoc, Int.mul_left_comm, Int.mul_comm]
    rw [e] at hpos
    obtain ⟨j, hj, pos⟩ := su_pos hpos
    exact absurd pos (Int.not_lt.mpr (Int.mul_nonpos_of_nonneg_of_nonpos (ht j hj) (zc j hj)))
  · omega
theorem off_of0 (F : Fin cols goal told D) (F1 : Fin1 cols goal costs told1 D1) (h : Off cols goal told = 0) : Off1 cols goal costs told1 = 0 := by
  have M := (F.mz h).mos (k := goal.length) (Nat.le_refl _)
  exact made_off1 F1 M.1.t.pos (fun j _ => wt_nn M.1) fun k hk => col_sum F h hk
/-- sizes of the dearest row -/
theorem dear_big {B : Nat} (G : Cgc cols goal costs B) {t2 : Nat → Nat} {σ D2 s : Int} {row : List Int} (p : Sp cols.length goal.length (A1 cols goal costs) t2 σ D2) (e : prL (drL cols.length goal.length (A1 cols goal costs) t2 σ D2 (goal.map sgn)) = s :: row) :
    s.natAbs < BIG ∧ ∀ k, (row.getD k 0).natAbs < BIG := by
  obtain ⟨bD, bR⟩ := G.okx.big p.t p.tle
  have all : ∀ x ∈ prL (drL cols.length goal.length (A1 cols goal costs) t2 σ D2 (goal.map sgn)), x.natAbs < BIG := fun x hx => by
    unfold prL at hx
    obtain ⟨y, hy, rfl⟩ := List.mem_map.mp hx
    refine Nat.lt_of_le_of_lt (Int.natAbs_ediv_le_natAbs _ _) ?_
    unfold drL at hy
    rcases List.mem_cons.mp hy with q | q
    · rw [q]; exact bD
    · obtain ⟨k, hk, rfl⟩ := List.mem_map.mp q
      have hk := List.mem_range.mp hk
      have := bR goal.length (cols.length + k) (by omega)
      rw [sg_at hk]
      rcases sgn_or (gAt goal k) with r | r <;> rw [r] <;> omega
  rw [e] at all
  refine ⟨all s List.mem_cons_self, fun k => ?_⟩
  rw [List.getD_eq_getElem?_getD]
  cases q : row[k]? with
  | none => show (0 : Int).natAbs < BIG; unfold BIG; decide
  | some x => exact all x (List.mem_cons_of_mem _ (List.mem_of_getElem? q))
end
end Lw
set_option Elab.async false
set_option linter.all false
set_option maxRecDepth 100000
set_option maxHeartbeats 4000000
/-! Gg: a drawn goal. -/
namespace Lw
open PySem PySem.Spec PyProof.Rows L2 Mn Lx
section
variable {S : Bxs} {b c : Nat} {cols : List (List Int)} {n : Nat}
theorem madegoal_ok (B : Bag S b c) (hn : n ≤ 9) (hc20 : cols.length ≤ 20) (hc : ∀ r ∈ cols, Rw1 n r) : (F__law_made_goal [.box b, .tup (cols.map iv), .int (n : Int)] S).Wp (fun d S' => (∃ goal : List Int, d = iv goal ∧ goal.length = n ∧ ∀ i ∈ goal, i.natAbs ≤ 10 ^ 10) ∧ Bag S' b c ∧ Fr b S S') noX := by
  have cb := fun j k => cAt_bd (B := 1000001) (fun r hr i hi => (hc r hr).2 i hi) j k
  have cdl : ∀ j, j < cols.length → (cols.getD j []).length = n := fun j hj => by
    rw [List.getD_eq_getElem?_getD, List.getElem?_eq_getElem hj]
    exact (hc _ (List.getElem_mem hj)).1
  have smc : ∀ d ∈ cols.map iv, Sm 59 d 200 := fun d hd => by
    obtain ⟨r, hr, rfl⟩ := List.mem_map.mp hd
    have h2 := (hc r hr).2
    have h3 := (hc r hr).1
    exact Sm.ints (n := 57) (k := 7) (by decide) (by decide) (fun i hi => by have := h2 i hi; omega) 200 (by omega)
  refine w_body ?_
  unfold B__law_made_goal
  simp only [startD, List.map_cons, List.map_nil, List.length_cons, List.length_nil, List.cons_append, List.nil_append, Nat.reduceAdd, Nat.reduceSub, List.replicate, List.replicate_succ, List.replicate_zero]
  refine w_cons (w_if (w_or ?_))
  and_intros
  refine ⟨Nat.zero_le _, w_neNilT smc ?_⟩
  refine ⟨_, rfl, ?_⟩
  refine ⟨fun z => ?_, fun z => ?_⟩
  · refine ⟨fun _ => ?_, (fun z => nomatch z)⟩
    and_intros
    refine (anyrow_ok B hn).mono (fun u S2 ⟨⟨is, eu, h2, h3⟩, B2, F2⟩ => ?_) fun _ _ _ q => q
    exact c_rt (.inl ⟨_, rfl, ⟨is, eu, h2, fun i hi => by have := h3 i hi; omega⟩, B2, F2⟩)
  and_intros
  refine (take_ok B (by decide) (by decide)).mono (fun u S1 ⟨w, eu, w0, w1, B1, F1⟩ => ?_) fun _ _ _ q => q
  subst eu
  and_intros
  refine ⟨fun z => ?_, fun z => ?_⟩
  · and_intros
    refine (anyrow_ok B1 hn).mono (fun u S2 ⟨⟨is, eu, h2, h3⟩, B2, F2⟩ => ?_) fun _ _ _ q => q
    exact c_rt (.inl ⟨_, rfl, ⟨is, eu, h2, fun i hi => by have := h3 i hi; omega⟩, B2, F1.trans F2⟩)
  refine w_sNil ?_
  refine c_nx ?_
  refine w_cons (w_set ?_)
  refine w_lcB (b := b) (c := c) ?_
  and_intros
  refine ⟨fun _ => true, fun _ d => ∃ i, d = .int i ∧ (0 ≤ i ∧ i ≤ 5), by rw [List.length_map]; exact Nat.lt_of_le_of_lt (show cols.length ≤ 1000 by omega) (by decide), B1, fun _ _ => rfl, fun x S2 hx B2 F2 => ?_, fun ds S2 he hn2 B2 F2 => ?_⟩
  · refine w_tName ?_
    refine w_yes ?_
    refine ⟨rfl, (fun z => nomatch z), fun _ => ?_⟩
    and_intros
    refine (one_ok (xs := [Dt.int 0, .int 1, .int 0, .int 2, .int 3]) B2.app (seq_lst get_last) (by have := B2.lt.1; omega) (fun z => nomatch z) (show (5 : Nat) ≤ 100000 by decide)).mono (fun d S3 ⟨hd, B3, F3⟩ => ?_) fun _ _ _ q => q
    refine ⟨?_, B3, (Fr.refl b S2).app.trans F3⟩
    simp only [List.mem_cons, List.not_mem_nil, or_false] at hd
    rcases hd with rfl | rfl | rfl | rfl | rfl
    · exact ⟨_, rfl, by decide⟩
    · exact ⟨_, rfl, by decide⟩
    · exact ⟨_, rfl, by decide⟩
    · exact ⟨_, rfl, by decide⟩
    · exact ⟨_, rfl, by decide⟩
  rw [filter_yes] at he
  obtain ⟨ts, ets, tl, tb⟩ := Each.ints (P := fun i => 0 ≤ i ∧ i ≤ 5) (fun _ _ h => h) he
  subst ets
  have tl : ts.length = cols.length := by rw [tl]; exact List.length_map ..
  have tbk : ∀ j, 0 ≤ ts.getD j 0 ∧ ts.getD j 0 ≤ 5 := fun j => by
    rw [List.getD_eq_getElem?_getD]
    cases e : ts[j]? with
    | none => exact ⟨Int.le_refl 0, by decide⟩
    | some i => exact tb i (List.mem_of_getElem? e)
  have hts : ts.map Dt.int = rowD cols.length fun j => ts.getD j 0 := by rw [map_rowD, tl]
  rw [hts] at hn2
  have F02 := F1.trans F2
  refine c_nx ?_
  refine w_ret (w_call (w_consA ?_))
  refine w_lcD ?_
  and_intros
  refine ⟨⟨by show -(2 ^ 62) ≤ (n : Int); omega, by show (n : Int) < 2 ^ 62; omega⟩, fun d => match d with | .int k => .int (su cols.length fun j => ts.getD j 0 * cAt cols j k.toNat) | _ => .non, by rw [rgD_len]; exact Nat.lt_of_le_of_lt (show ((n : Int)).toNat ≤ 1000 by omega) (by decide), fun _ _ => trivial, fun x S4 hx p4 => ?_, fun S3 h3 p3 => ?_⟩
  · obtain ⟨k, hk'⟩ := List.mem_iff_getElem?.mp hx
    have hkl := (List.getElem?_eq_some_iff.mp hk').1
    rw [rgD_len] at hkl
    have hk : k < n := by omega
    rw [rgD_get hk', Int.zero_add]
    refine w_tName ?_
    refine w_call (w_consA ?_)
    refine w_lcD ?_
    and_intros
    refine ⟨_, _, _, _, rfl, seq_lst (get_pre p4 hn2), rfl, zcF k, ?_, fun S5 p5 => ⟨seq_lst (get_pre p5 (get_pre p4 hn2)), rfl⟩, fun x S5 hx p5 => ?_, fun S5 h5 p5 => ?_⟩
    · rw [rowD_cols, List.length_map, List.length_range]
      exact Nat.lt_of_le_of_lt (show cols.length ≤ 1000 by omega) (by decide)
    · rw [rowD_cols] at hx
      obtain ⟨j, hj, rfl⟩ := List.mem_map.mp hx
      have hj := List.mem_range.mp hj
      have hcl := cdl j hj
      have b1 := tbk j
      and_intros
      refine w_ixT (atI_nn (k := k) (d := .int (cAt cols j k)) (colD_get (by omega)) rfl) ?_
      refine w_mul (.small (by omega) (by omega)) ?_
      refine ⟨?_, List.prefix_refl _⟩
      exact (zcF_eq (by omega)).symm
    · have h6 : S5[S4.length]? = some (.lst (((List.range cols.length).map fun j => ts.getD j 0 * cAt cols j k).map Dt.int)) := by
        rw [h5, rowD_cols, List.map_map, List.map_map]
        congr 2
        refine List.map_congr_left fun j hj => ?_
        have hj := List.mem_range.mp hj
        exact zcF_eq (by rw [cdl j hj]; exact hk)
      and_intros
      refine w_sumB (seq_lst h6) ?_
      rw [sum_rowD]
      exact ⟨rfl, p5⟩
  let tot : Nat → Int := fun k => su cols.length fun j => ts.getD j 0 * cAt cols j k
  have totb : ∀ k, (tot k).natAbs ≤ 10 ^ 9 := fun k => by
    have q := su_bd (f := fun j => ts.getD j 0 * cAt cols j k) (C := 5 * 1000001) (m := cols.length) fun j hj => by
      rw [Int.natAbs_mul]
      have := tbk j
      exact Nat.mul_le_mul (by omega) (cb j k)
    have : cols.length * (5 * 1000001) ≤ 20 * (5 * 1000001) := Nat.mul_le_mul_right _ hc20
    show (su cols.length fun j => ts.getD j 0 * cAt cols j k).natAbs ≤ 10 ^ 9
    omega
  have h3 : S3[S2.length]? = some (.lst (((List.range n).map tot).map Dt.int)) := by
    rw [h3]
    unfold rgD
    rw [List.map_map, List.map_map]
    have en : ((n : Int)).toNat = n := by omega
    rw [en]
    congr 2
    refine List.map_congr_left fun k hk => ?_
    show Dt.int (su cols.length fun j => ts.getD j 0 * cAt cols j (0 + (k : Int)).toNat) = Dt.int (tot k)
    have ek : (0 + (k : Int)).toNat = k := by omega
    rw [ek]
  and_intros
  refine w_tupB (seq_lst h3) ?_
  refine .inl ⟨_, rfl, ⟨(List.range n).map tot, rfl, by rw [List.length_map, List.length_range], fun i hi => ?_⟩, B2.pre p3, F02.trans (.pre p3)⟩
  obtain ⟨k, _, rfl⟩ := List.mem_map.mp hi
  have := totb k
  omega
end
end Lw
set_option Elab.async false
set_option linter.all false
set_option maxRecDepth 100000
set_option maxHeartbeats 4000000
/-! Gh: shares are least. -/
namespace Lw
open PySem PySem.Spec PyProof.Rows L2 Mn Lx
theorem w_isiT {S : Bxs} {σ : Sg} {E : Nat → List Dt → Bxs → Prop} {f : FE} {xs : List Dt} {P : Dt → Bxs → Prop} (h : (f σ S).Wp (fun d S1 => d = .tup xs ∧ P (.bl true) S1) E) : (dIsi "tuple" f σ S).Wp P E :=
  w_isi (h.mono (fun d S1 ⟨e, q⟩ => ⟨true, by rw [e]; show kitB "tuple" "tuple" = _; decide +kernel, q⟩) fun _ _ _ q => q)
section
variable {S : Bxs} {cols : List (List Int)} {goal costs : List Int}
theorem cols_zip {f : Nat → Int} : (cols.map iv).zip (rowD cols.length f) = (List.range cols.length).map fun j => (iv (cols.getD j []), Dt.int (f j)) := by
  have : cols.map iv = (List.range cols.length).map fun j => iv (cols.getD j []) := by
    refine List.ext_getElem? fun k => ?_
    by_cases h : k < cols.length
    · rw [List.getElem?_map, List.getElem?_map, List.getElem?_range h, List.getElem?_eq_getElem h]
      show _ = some (iv (cols.getD k []))
      rw [List.getD_eq_getElem?_getD, List.getElem?_eq_getElem h]; rfl
    · rw [List.getElem?_eq_none (by rw [List.length_map]; omega), List.getElem?_eq_none (by rw [List.length_map, List.length_range]; omega)]
  rw [this]
  unfold rowD
  rw [List.zip_map']
theorem is_least_ok {B : Nat} (G : Cgc cols goal costs B) (hB10 : B ≤ 10 ^ 10) {t2 : Nat → Nat} {σ D2 s : Int} {row : List Int} (M : Mz cols.length goal.length (A1 cols goal costs) (t2, σ, D2)) (En : Ends cols.length goal.length (A1 cols goal costs) goal.length σ t2) (e : prL (drL cols.length goal.length (A1 cols goal costs) t2 σ D2 (goal.map sgn)) = s :: row) :
    (F__law_is_least [.tup (cols.map iv), iv goal, iv costs, .tup ((shX cols goal costs (t2, σ, D2)).map prI), .tup [.int s, iv row]] S).Wp (fun r S' => r = .bl true ∧ S <+: S') noX := by
  have hm := G.g.hm
  have hn := G.g.hn
  have hB := G.g.hB
  have p : Sp cols.length goal.length (A1 cols goal costs) t2 σ D2 := M.1
  obtain ⟨bD, bR⟩ := G.okx.big p.t p.tle
  have hD := p.t.pos
  obtain ⟨sb, rb⟩ := dear_big G p e
  have s1 := dear_one hD e
  obtain ⟨_, _, _, rl, _⟩ := dear_at hD e
  have hf := fun j : Nat => shr_frc p (j := j)
  have sl : (shX cols goal costs (t2, σ, D2)).length = cols.length := by unfold shX; rw [List.length_map, List.length_range]
  have sget : ∀ j, j < cols.length → (shX cols goal costs (t2, σ, D2))[j]? = some (shr cols.length goal.length (A1 cols goal costs) t2 σ D2 goal.length j) := fun j hj => by
    unfold shX
    rw [List.getElem?_map, List.getElem?_range hj]; rfl
  have wb : ∀ j, (wt cols.length goal.length (A1 cols goal costs) t2 σ j).natAbs < BIG := fun j => by
    rcases shr_at p (j := j) (Nat.le_refl _) with ⟨i, h1, h2, _⟩ | ⟨h1, _⟩
    · have e : wt cols.length goal.length (A1 cols goal costs) t2 σ j = Rv (goal.length + 2) (A1 cols goal costs) t2 σ i (A1 cols goal costs (cols.length + goal.length)) := by
        unfold wt
        rw [su_one (i := i) h1 fun k hk hn => by rw [if_neg fun z => hn (p.t.one (by omega) (by omega) (z.trans h2.symm))], if_pos h2]
      rw [e]; exact bR _ _ (by omega)
    · have e : wt cols.length goal.length (A1 cols goal costs) t2 σ j = 0 := su_zero fun k hk => by rw [if_neg (h1 k hk)]
      rw [e]; show (0 : Nat) < BIG; unfold BIG; decide
  have hS : Shs D2 (shX cols goal costs (t2, σ, D2)) := fun x hxm => by
    obtain ⟨j, hj⟩ := List.mem_iff_getElem?.mp hxm
    have hjl := (List.getElem?_eq_some_iff.mp hj).1
    rw [sget j (by omega)] at hj
    have hj := Option.some.inj hj
    subst hj
    have f := hf j
    exact ⟨f.h0, f.h1, f.hg, f.hd, Nat.lt_of_le_of_lt f.hb (wb j)⟩
  have dg := dear_goal M e
  have dc := fun j (hj : j < cols.length) => dear_cols p En e hj
  have ecosts : costs.map Dt.int = rowD cols.length fun j => gAt costs j := by rw [map_rowD, G.cl]; rfl
  refine w_body ?_
  unfold B__law_is_least
  simp only [startD, List.map_cons, List.map_nil, List.length_cons, List.length_nil, List.cons_append, List.nil_append, Nat.reduceAdd, Nat.reduceSub, List.replicate, List.replicate_succ, List.replicate_zero]
  refine w_cons (w_if (w_not (w_true ?_)))
  and_intros
  refine (is_sharedX_ok G M).mono (fun u S1 ⟨eu, p1⟩ => ?_) fun _ _ _ q => q
  subst eu
  refine ⟨true, rfl, (fun z => nomatch z), fun _ => ?_⟩
  refine w_sNil ?_
  refine c_nx ?_
  refine w_cons (w_if (w_or (w_not (w_true (w_isiT (xs := [.int s, iv row]) (w_var rfl ⟨rfl, true, rfl, ?_⟩))))))
  refine ⟨(fun z => nomatch z), fun _ => ?_⟩
  refine w_or ?_
  and_intros
  refine w_neI ?_
  refine ⟨_, rfl, (fun z => nomatch z), fun _ => ?_⟩
  refine w_or ?_
  refine w_not (w_true (w_call (w_consA ?_)))
  refine w_bin (w_var rfl ?_)
  refine w_c ?_
  refine w_ixT (d := .int s) rfl ?_
  refine w_nil ?_
  refine whole_ok.mono (fun u S2 ⟨eu, eS⟩ => ?_) fun _ _ _ q => q
  subst eu; subst eS
  refine ⟨true, rfl, (fun z => nomatch z), fun _ => ?_⟩
  refine w_true (w_bin ?_)
  refine w_bin (w_var rfl ?_)
  refine w_c ?_
  refine w_ixT (d := .int s) rfl ?_
  and_intros
  refine ⟨fun z => by have := of_decide_eq_true z; omega, fun _ => ?_⟩
  refine w_sNil ?_
  refine c_nx ?_
  refine w_cons (w_asg ?_)
  and_intros
  refine (lrow_ok (by rw [List.length_map, rl]) (by omega)).mono (fun u S3 ⟨eu, p3⟩ => ?_) fun _ _ _ q => q
  subst eu
  refine ⟨true, rfl, (fun z => nomatch z), fun _ => ?_⟩
  refine w_sNil ?_
  refine c_nx ?_
  refine w_cons (w_if ?_)
  refine w_true (w_bin ?_)
  refine w_lcP ?_
  and_intros
  refine ⟨_, _, _, _, rfl, rfl, rfl, fun _ => false, fun _ _ => True, ?_, fun _ _ => ⟨rfl, rfl⟩, fun x S4 hx p4 => ?_, fun ds S4 he hn4 p4 => ?_⟩
  · rw [ecosts, cols_zip, List.length_map, List.length_range]
    exact Nat.lt_of_le_of_lt (show cols.length ≤ 1000 by omega) (by decide)
  · rw [ecosts, cols_zip] at hx
    obtain ⟨j, hj, rfl⟩ := List.mem_map.mp hx
    have hj := List.mem_range.mp hj
    have ec : ∀ k, (cols.getD j []).getD k 0 = cAt cols j k := fun k => rfl
    and_intros
    refine (product_ok (m := goal.length) (iv_row (colD_len G.g hj)) (iv_row rl) (by omega) fun k hk => ?_).mono (fun u S5 ⟨eu, p5⟩ => ?_) fun _ _ _ q => q
    · have := G.g.b1 j k
      rw [ec]
      exact .small (by omega) (by omega)
    · subst eu
      have b3 := G.b3 j
      and_intros
      refine w_mul (.small2 (by omega) (by omega)) ?_
      have hz : ¬ (s * gAt costs j < su goal.length fun k => (cols.getD j []).getD k 0 * row.getD k 0) := Int.not_lt.mpr (dc j hj)
      and_intros
      exact ⟨decide_eq_false hz, fun _ => p5, fun z => by rw [decide_eq_false hz] at z; cases z⟩
  have e0 : ds = [] := by
    rw [List.filter_eq_nil_iff.mpr (by intro _ _ z; cases z)] at he
    cases he; rfl
  subst e0
  and_intros
  have q4 := List.prefix_append S4 [MBox.lst []]
  refine w_neNil (w := 10) (seq_lst (get_pre q4 hn4)) (seq_lst get_last) (fun d hd => nomatch hd) ?_
  refine ⟨_, rfl, (fun z => nomatch z), fun _ => ?_⟩
  refine w_sNil ?_
  refine c_nx ?_
  and_intros
  refine (den_ok hS hD bD).mono (fun u S5 ⟨eS, den, eu, d0, dD, dall⟩ => ?_) fun _ _ _ q => q
  subst eu; subst eS
  have dle := Int.le_of_dvd hD dD
  have db : den.natAbs < BIG := by omega
  refine c_nx ?_
  refine w_cons (w_set (w_call (w_consA ?_)))
  refine w_lcD ?_
  and_intros
  have zl : ((shX cols goal costs (t2, σ, D2)).map prI).zip (costs.map Dt.int) = (List.range cols.length).map fun j => (prI (shr cols.length goal.length (A1 cols goal costs) t2 σ D2 goal.length j), Dt.int (gAt costs j)) := by
    rw [ecosts]; unfold shX rowD; rw [List.map_map, List.zip_map']; rfl
  refine ⟨_, _, _, _, rfl, rfl, rfl, fun q => match q with | (.tup [.int u, .int v], .int w) => Dt.int (u * (den / v) * w) | _ => .non, by rw [zl, List.length_map, List.length_range]; exact Nat.lt_of_le_of_lt (show cols.length ≤ 1000 by omega) (by decide), fun _ _ => ⟨rfl, rfl⟩, fun x S6 hx p6 => ?_, fun S6 h6 p6 => ?_⟩
  · rw [zl] at hx
    obtain ⟨j, hj, rfl⟩ := List.mem_map.mp hx
    have hj := List.mem_range.mp hj
    obtain ⟨g0, g1, _, g3, g4⟩ := hS _ (List.mem_of_getElem? (sget j hj))
    have hb2 := hS.den hD bD (List.mem_of_getElem? (sget j hj))
    have b3 := G.b3 j
    generalize shr cols.length goal.length (A1 cols goal costs) t2 σ D2 goal.length j = y at g0 g1 g3 g4 hb2 ⊢
    unfold prI
    and_intros
    refine w_fdiv (div_big (by omega) hb2) ?_
    refine w_mul (mul_big g4 (Nat.lt_of_le_of_lt (Int.natAbs_ediv_le_natAbs _ _) db)) ?_
    and_intros
    refine w_mul (.small2 (by omega) (by omega)) ?_
    exact ⟨rfl, List.prefix_refl _⟩
  rw [zl, List.map_map] at h6
  have h7 : S6[(S4 ++ [MBox.lst []]).length]? = some (.lst (((List.range cols.length).map fun j => (shr cols.length goal.length (A1 cols goal costs) t2 σ D2 goal.length j).1 * (den / (shr cols.length goal.length (A1 cols goal costs) t2 σ D2 goal.length j).2) * gAt costs j).map Dt.int)) := by
    rw [h6, List.map_map]; rfl
  have bigP : ∀ j, j < cols.length → ((shr cols.length goal.length (A1 cols goal costs) t2 σ D2 goal.length j).1 * (den / (shr cols.length goal.length (A1 cols goal costs) t2 σ D2 goal.length j).2) * gAt costs j).natAbs ≤ BIG * BIG * 10 ^ 10 := fun j hj => by
    obtain ⟨_, _, _, _, g4⟩ := hS _ (List.mem_of_getElem? (sget j hj))
    have b3 := G.b3 j
    rw [Int.natAbs_mul, Int.natAbs_mul]
    refine Nat.mul_le_mul (Nat.mul_le_mul (Nat.le_of_lt g4) ?_) (Nat.le_trans b3 hB10)
    exact Nat.le_trans (Int.natAbs_ediv_le_natAbs _ _) (Nat.le_of_lt db)
  have fact : D2 * (su cols.length fun j => (shr cols.length goal.length (A1 cols goal costs) t2 σ D2 goal.length j).1 * (den / (shr cols.length goal.length (A1 cols goal costs) t2 σ D2 goal.length j).2) * gAt costs j) = den * su cols.length fun j => wt cols.length goal.length (A1 cols goal costs) t2 σ j * gAt costs j := by
    rw [← su_mul, ← su_mul]
    refine su_congr fun j hj => ?_
    have f := hf j
    obtain ⟨q, hq⟩ := dall _ (List.mem_of_getElem? (sget j hj))
    have f1 := f.h1
    have fw := f.hw
    generalize shr cols.length goal.length (A1 cols goal costs) t2 σ D2 goal.length j = x at *
    have e3 : den / x.2 = q := by rw [hq]; exact Int.mul_ediv_cancel_left _ (by omega)
    rw [e3, hq]
    have e4 : D2 * (x.1 * q * gAt costs j) = x.1 * D2 * (q * gAt costs j) := by simp only [Int.mul_assoc, Int.mul_left_comm, Int.mul_comm]
    rw [e4, fw]
    simp only [Int.mul_assoc, Int.mul_left_comm, Int.mul_comm]
  have bsum := su_bd bigP
  and_intros
  refine w_sumB (seq_lst h7) ?_
  rw [sum_rowD]
  generalize (su cols.length fun j => (shr cols.length goal.length (A1 cols goal costs) t2 σ D2 goal.length j).1 * (den / (shr cols.length goal.length (A1 cols goal costs) t2 σ D2 goal.length j).2) * gAt costs j) = paid at fact bsum ⊢
  refine c_nx ?_
  and_intros
  refine (product_ok (m := goal.length) (iv_row rl) (iv_row rfl) (by omega) fun k hk => ?_).mono (fun u S7 ⟨eu, p7⟩ => ?_) fun _ _ _ q => q
  · have := G.g.b2 k
    unfold gAt at this
    exact .small2 (by omega) (by omega)
  subst eu
  have grb := su_bd (m := goal.length) (f := fun k => row.getD k 0 * goal.getD k 0) (C := BIG * 10 ^ 10) fun k hk => by
    rw [Int.natAbs_mul]
    refine Nat.mul_le_mul (Nat.le_of_lt (rb k)) ?_
    have := G.g.b2 k
    unfold gAt at this
    omega
  have egr : (su goal.length fun k => row.getD k 0 * goal.getD k 0) = su goal.length fun k => gAt goal k * row.getD k 0 := su_congr fun k _ => Int.mul_comm _ _
  rw [← egr] at dg
  generalize (su goal.length fun k => row.getD k 0 * goal.getD k 0) = gr at dg grb ⊢
  have hBB : 100000000000000000 ≤ BIG := by unfold BIG; decide
  have hA : goal.length * (BIG * 10 ^ 10) ≤ 9 * (BIG * 10 ^ 10) := Nat.mul_le_mul_right _ hm
  have hC : cols.length * (BIG * BIG * 10 ^ 10) ≤ 20 * (BIG * BIG * 10 ^ 10) := Nat.mul_le_mul_right _ hn
  have hE : 9 * (BIG * 10 ^ 10) < BIG * BIG * (BIG * BIG) := by unfold BIG; decide
  have hF : 20 * (BIG * BIG * 10 ^ 10) < BIG * BIG * (BIG * BIG) := by unfold BIG; decide
  and_intros
  refine w_mul (mul_big4 (Nat.lt_of_le_of_lt (Nat.le_trans grb hA) hE) (big_4 db)) ?_
  and_intros
  refine w_mul (mul_big4 (big_4 sb) (Nat.lt_of_le_of_lt (Nat.le_trans bsum hC) hF)) ?_
  refine w_eqI ?_
  refine .inl ⟨_, rfl, congrArg Dt.bl (decide_eq_true ?_), (((p1.trans p3).trans p4).trans q4).trans (p6.trans p7)⟩
  refine Int.eq_of_mul_eq_mul_left (show D2 ≠ 0 by omega) ?_
  rw [← Int.mul_assoc, dg, Int.mul_left_comm, fact]
  simp only [Int.mul_assoc, Int.mul_left_comm, Int.mul_comm]
end
end Lw
set_option Elab.async false
set_option linter.all false
set_option maxRecDepth 100000
set_option maxHeartbeats 4000000
/-! Eu: told right. -/
set_option Elab.async false
set_option linter.all false
set_option maxRecDepth 100000
set_option maxHeartbeats 4000000
/-! Ev: k12's law. -/
namespace Lw
open PySem PySem.Spec PyProof.Rows L2 Mn Lx
theorem w_eqShQ {S : Bxs} {E : Nat → List Dt → Bxs → Prop} {d : Dt} {p : PyData} {w : Nat} {neg : Bool} {P : Dt → Bxs → Prop} (px : Pl S 60 d p w) (q : P (.bl (!neg)) S) : (eqG neg (.str p.shown) (.str p.shown) S).Wp P E := by
  have e1 : pdo S (.str p.shown) = some (.str p.shown) := rfl
  have sh : SeqAt.shaped (.str p.shown) = true := by
    unfold SeqAt.shaped
    have := px.pf.ok
    simp [PyData.canLay0, PyData.depth, this]
  have x1 : eqG neg (.str p.shown) (.str p.shown) S = .ok (.bl (if neg then !PyData.eqv (.str p.shown) (.str p.shown) else PyData.eqv (.str p.shown) (.str p.shown))) S := by
    unfold eqG
    rw [e1]
    show (if SeqAt.shaped (.str p.shown) = true ∧ SeqAt.shaped (.str p.shown) = true then _ else _) = _
    rw [if_pos ⟨sh, sh⟩]
  have e2 : PyData.eqv (.str p.shown) (.str p.shown) = true := by simp [PyData.eqv]
  rw [e2] at x1
  rw [x1]
  cases neg <;> exact ⟨q⟩
theorem alikeQ_ok {S : Bxs} {x y : Dt} {p : PyData} {w : Nat} (px : Pl S 60 x p w) (py : Pl S 60 y p w) (hw : w ≤ 1000000) : (F__law_alike [x, y] S).Wp (fun r S' => r = .bl true ∧ S' = S) noX := by
  refine w_body ?_
  unfold B__law_alike
  simp only [startD, List.map_cons, List.map_nil, List.length_cons, List.length_nil, List.cons_append, List.nil_append, Nat.reduceAdd, Nat.reduceSub, List.replicate, List.replicate_succ, List.replicate_zero]
  and_intros
  refine w_eq px py ?_
  rw [px.pf.eqv]
  refine ⟨true, rfl, fun _ => ?_, fun z => nomatch z⟩
  and_intros
  refine w_repr px hw ?_
  and_intros
  refine w_repr py hw ?_
  have e1 : pdo S (.str p.shown) = some (.str p.shown) := rfl
  have sh : SeqAt.shaped (.str p.shown) = true := by
    unfold SeqAt.shaped
    have := px.pf.ok
    simp [PyData.canLay0, PyData.depth, this]
  have x1 : eqG false (.str p.shown) (.str p.shown) S = .ok (.bl (if false then !PyData.eqv (.str p.shown) (.str p.shown) else PyData.eqv (.str p.shown) (.str p.shown))) S := by
    unfold eqG
    rw [e1]
    show (if SeqAt.shaped (.str p.shown) = true ∧ SeqAt.shaped (.str p.shown) = true then _ else _) = _
    rw [if_pos ⟨sh, sh⟩]
  have e2 : PyData.eqv (.str p.shown) (.str p.shown) = true := by simp [PyData.eqv]
  rw [e2] at x1
  rw [x1]
  exact ⟨.inl ⟨_, rfl, rfl, rfl⟩⟩
theorem mem_gAt {gs : List Int} {i : Int} (h : i ∈ gs) : ∃ k, gAt gs k = i := by
  obtain ⟨k, hk⟩ := List.mem_iff_getElem?.mp h
  exact ⟨k, by unfold gAt; rw [List.getD_eq_getElem?_getD, hk]; rfl⟩
theorem mem_cAt {cols : List (List Int)} {r : List Int} {i : Int} (h : r ∈ cols) (hi : i ∈ r) : ∃ j k, cAt cols j k = i := by
  obtain ⟨j, hj⟩ := List.mem_iff_getElem?.mp h
  obtain ⟨k, hk⟩ := List.mem_iff_getElem?.mp hi
  exact ⟨j, k, by unfold cAt; rw [List.getD_eq_getElem?_getD, List.getD_eq_getElem?_getD, hj]; show ((r[k]?).getD 0) = i; rw [hk]; rfl⟩
section
variable {cols : List (List Int)} {goal : List Int} {told : Nat → Nat} {D : Int}
theorem sm_cols (G : Cg cols goal (10 ^ 10)) {n : Nat} : Sm (n + 3) (.tup (cols.map iv)) 4000 := by
  refine Sm.tup (w := 150) (fun d hd => ?_) 4000 (by have := G.hn; rw [List.length_map]; omega)
  obtain ⟨r, hr, rfl⟩ := List.mem_map.mp hd
  refine Sm.ints (k := 11) (by decide) (by decide) (fun i hi => ?_) 150 (by have := G.hc r hr; have := G.hm; omega)
  obtain ⟨j, k, e⟩ := mem_cAt hr hi
  have := G.b1 j k
  rw [e] at this
  omega
theorem sm_goal (G : Cg cols goal (10 ^ 10)) {n : Nat} : Sm (n + 2) (iv goal) 4000 := by
  refine Sm.ints (k := 11) (by decide) (by decide) (fun i hi => ?_) 4000 (by have := G.hm; omega)
  obtain ⟨k, e⟩ := mem_gAt hi
  have := G.b2 k
  rw [e] at this
  omega
theorem BIG_lt {i : Int} (h : i.natAbs < BIG) : i.natAbs < 10 ^ 400 := by
  rw [show (400 : Nat) = 100 * 4 from rfl, Nat.pow_mul]; exact h
theorem sm_row {B : Nat} (G : Cg cols goal B) (F : Fin cols goal told D) (h0 : Off cols goal told ≠ 0) {n : Nat} : Sm (n + 2) (iv (agR cols goal told D)) 30000 := by
  obtain ⟨_, _, gl, _⟩ := agR_at F h0
  refine Sm.ints (k := 400) (by decide) (by decide) (fun i hi => ?_) 30000 (by have := G.hm; omega)
  obtain ⟨k, e⟩ := mem_gAt hi
  have := agR_big G F k
  unfold gAt at e
  rw [e] at this
  exact BIG_lt this
theorem shD_big {B : Nat} (G : Cg cols goal B) (F : Fin cols goal told D) (h0 : Off cols goal told = 0) : ∀ x ∈ shD cols goal told D, x.1.natAbs < BIG ∧ x.2.natAbs < BIG := fun x hx => by
  have M : Mz cols.length goal.length (A0 cols goal) (last cols goal told D) := (F.mz h0).mos (k := goal.length) (Nat.le_refl _)
  have p := M.1
  obtain ⟨bD, bR⟩ := G.okx.big p.t p.tle
  have hD := p.t.pos
  unfold shD at hx
  obtain ⟨j, _, rfl⟩ := List.mem_map.mp hx
  have f := shr_frc p (j := j)
  have wb : (wt cols.length goal.length (A0 cols goal) (last cols goal told D).1 (last cols goal told D).2.1 j).natAbs < BIG := by
    rcases shr_at p (j := j) (Nat.le_refl _) with ⟨i, h1, h2, _⟩ | ⟨h1, _⟩
    · have e : wt cols.length goal.length (A0 cols goal) (last cols goal told D).1 (last cols goal told D).2.1 j = Rv (goal.length + 2) (A0 cols goal) (last cols goal told D).1 (last cols goal told D).2.1 i (A0 cols goal (cols.length + goal.length)) := by
        unfold wt
        rw [su_one (i := i) h1 fun k hk hn => by rw [if_neg fun z => hn (p.t.one (by omega) (by omega) (z.trans h2.symm))], if_pos h2]
      rw [e]; exact bR _ _ (by omega)
    · have e : wt cols.length goal.length (A0 cols goal) (last cols goal told D).1 (last cols goal told D).2.1 j = 0 := su_zero fun k hk => by rw [if_neg (h1 k hk)]
      rw [e]; show (0 : Nat) < BIG; unfold BIG; decide
  have dle := Int.le_of_dvd hD f.hd
  have h1 := f.h1
  exact ⟨Nat.lt_of_le_of_lt f.hb wb, by omega⟩
theorem sm_shares {B : Nat} (G : Cg cols goal B) (F : Fin cols goal told D) (h0 : Off cols goal told = 0) {n : Nat} : Sm (n + 3) (.tup ((shD cols goal told D).map prI)) 30000 := by
  have sl : (shD cols goal told D).length = cols.length := by unfold shD; rw [List.length_map, List.length_range]
  refine Sm.tup (w := 900) (fun d hd => ?_) 30000 (by have := G.hn; rw [List.length_map, sl]; omega)
  obtain ⟨x, hx, rfl⟩ := List.mem_map.mp hd
  obtain ⟨h1, h2⟩ := shD_big G F h0 x hx
  exact Sm.t2 (w := 401) (Sm.int 400 (by decide) (by decide) (BIG_lt h1)) (Sm.int 400 (by decide) (by decide) (BIG_lt h2)) 900 (by decide)
/-- what the two questions tell -/
def Sa1 (cols : List (List Int)) (goal : List Int) (u : Dt) : Prop := ∃ told D, Fin cols goal told D ∧ ((Off cols goal told ≠ 0 ∧ u = .non) ∨ (Off cols goal told = 0 ∧ u = .tup ((shD cols goal told D).map prI)))
def Ra1 (cols : List (List Int)) (goal : List Int) (u : Dt) : Prop := ∃ told D, Fin cols goal told D ∧ ((Off cols goal told = 0 ∧ u = .non) ∨ (Off cols goal told ≠ 0 ∧ u = iv (agR cols goal told D)))
theorem Sa1.same {u v : Dt} (h : Sa1 cols goal u) (k : Sa1 cols goal v) : u = v := by
  obtain ⟨t1, D1, F1, h⟩ := h
  obtain ⟨t2, D2, F2, k⟩ := k
  obtain ⟨e1, e2⟩ := F1.same F2
  subst e1; subst e2
  rcases h with ⟨z, rfl⟩ | ⟨z, rfl⟩ <;> rcases k with ⟨y, rfl⟩ | ⟨y, rfl⟩ <;> first | rfl | exact absurd y z | exact absurd z y
theorem Ra1.same {u v : Dt} (h : Ra1 cols goal u) (k : Ra1 cols goal v) : u = v := by
  obtain ⟨t1, D1, F1, h⟩ := h
  obtain ⟨t2, D2, F2, k⟩ := k
  obtain ⟨e1, e2⟩ := F1.same F2
  subst e1; subst e2
  rcases h with ⟨z, rfl⟩ | ⟨z, rfl⟩ <;> rcases k with ⟨y, rfl⟩ | ⟨y, rfl⟩ <;> first | rfl | exact absurd y z | exact absurd z y
theorem Sa1.sm {B : Nat} (G : Cg cols goal B) {u : Dt} (h : Sa1 cols goal u) {n : Nat} : Sm (n + 3) u 30000 := by
  obtain ⟨t1, D1, F1, h⟩ := h
  rcases h with ⟨z, rfl⟩ | ⟨z, rfl⟩
  · exact Sm.non.mono (by decide)
  · exact sm_shares G F1 z
theorem Ra1.sm {B : Nat} (G : Cg cols goal B) {u : Dt} (h : Ra1 cols goal u) {n : Nat} : Sm (n + 3) u 30000 := by
  obtain ⟨t1, D1, F1, h⟩ := h
  rcases h with ⟨z, rfl⟩ | ⟨z, rfl⟩
  · exact Sm.non.mono (by decide)
  · exact sm_row G F1 z
end
end Lw
set_option Elab.async false
set_option linter.all false
set_option maxRecDepth 100000
set_option maxHeartbeats 4000000
/-! Gi: k13's law. -/
namespace Lw
open PySem PySem.Spec PyProof.Rows L2 Mn Lx
theorem menus5_get {S : Bxs} {x1 x2 x3 x4 x5 : MBox} {i : Nat} : (S ++ [x1] ++ [x2] ++ [x3] ++ [x4] ++ [x5])[S.length + i]? = [x1, x2, x3, x4, x5][i]? := by
  simp only [List.append_assoc]
  rw [List.getElem?_append_right (Nat.le_add_right ..), Nat.add_sub_cancel_left]; rfl
def Wld2 (d : Dt) : Prop := ∃ (cols : List (List Int)) (goal costs : List Int), d = .tup [.tup (cols.map iv), iv goal, iv costs] ∧ Cgc cols goal costs (10 ^ 10)
section
variable {cols : List (List Int)} {goal costs : List Int} {told : Nat → Nat} {D : Int}
theorem sm_costs (G : Cgc cols goal costs (10 ^ 10)) {n : Nat} : Sm (n + 2) (iv costs) 4000 := by
  refine Sm.ints (k := 11) (by decide) (by decide) (fun i hi => ?_) 4000 (by have := G.g.hn; have := G.cl; omega)
  obtain ⟨k, e⟩ := mem_gAt hi
  have := G.b3 k
  rw [e] at this
  omega
theorem Ls1.same {u v : Dt} (h : Ls1 cols goal costs u) (k : Ls1 cols goal costs v) : u = v := by
  obtain ⟨t1, D1, F1, h⟩ := h
  obtain ⟨t2, D2, F2, k⟩ := k
  obtain ⟨e1, e2⟩ := F1.same F2
  subst e1; subst e2
  rcases h with ⟨z, rfl⟩ | ⟨z, a1, b1, f1, rfl⟩ <;> rcases k with ⟨y, rfl⟩ | ⟨y, a2, b2, f2, rfl⟩
  · rfl
  · exact absurd y z
  · exact absurd z y
  · obtain ⟨e1, e2⟩ := f1.same f2
    subst e1; subst e2; rfl
theorem Dr1.same {u v : Dt} (h : Dr1 cols goal costs u) (k : Dr1 cols goal costs v) : u = v := by
  obtain ⟨t1, D1, F1, h⟩ := h
  obtain ⟨t2, D2, F2, k⟩ := k
  obtain ⟨e1, e2⟩ := F1.same F2
  subst e1; subst e2
  rcases h with ⟨z, rfl⟩ | ⟨z, a1, b1, f1, s1, r1, g1, rfl⟩ <;> rcases k with ⟨y, rfl⟩ | ⟨y, a2, b2, f2, s2, r2, g2, rfl⟩
  · rfl
  · exact absurd y z
  · exact absurd z y
  · obtain ⟨e1, e2⟩ := f1.same f2
    subst e1; subst e2
    rw [g1] at g2
    injection g2 with q1 q2
    subst q1; subst q2; rfl
theorem shX_big {B : Nat} (G : Cgc cols goal costs B) {x : Tri} (M : Mz cols.length goal.length (A1 cols goal costs) x) : ∀ y ∈ shX cols goal costs x, y.1.natAbs < BIG ∧ y.2.natAbs < BIG := fun y hy => by
  have p := M.1
  obtain ⟨bD, bR⟩ := G.okx.big p.t p.tle
  have hD := p.t.pos
  unfold shX at hy
  obtain ⟨j, _, rfl⟩ := List.mem_map.mp hy
  have f := shr_frc p (j := j)
  have wb : (wt cols.length goal.length (A1 cols goal costs) x.1 x.2.1 j).natAbs < BIG := by
    rcases shr_at p (j := j) (Nat.le_refl _) with ⟨i, h1, h2, _⟩ | ⟨h1, _⟩
    · have e : wt cols.length goal.length (A1 cols goal costs) x.1 x.2.1 j = Rv (goal.length + 2) (A1 cols goal costs) x.1 x.2.1 i (A1 cols goal costs (cols.length + goal.length)) := by
        unfold wt
        rw [su_one (i := i) h1 fun k hk hn => by rw [if_neg fun z => hn (p.t.one (by omega) (by omega) (z.trans h2.symm))], if_pos h2]
      rw [e]; exact bR _ _ (by omega)
    · have e : wt cols.length goal.length (A1 cols goal costs) x.1 x.2.1 j = 0 := su_zero fun k hk => by rw [if_neg (h1 k hk)]
      rw [e]; show (0 : Nat) < BIG; unfold BIG; decide
  have dle := Int.le_of_dvd hD f.hd
  have h1 := f.h1
  exact ⟨Nat.lt_of_le_of_lt f.hb wb, by omega⟩
theorem Ls1.sm {B : Nat} (G : Cgc cols goal costs B) {u : Dt} (h : Ls1 cols goal costs u) {n : Nat} : Sm (n + 4) u 30000 := by
  obtain ⟨t1, D1, F1, h⟩ := h
  rcases h with ⟨z, rfl⟩ | ⟨z, t2, D2, F2, rfl⟩
  · exact Sm.non.mono (by decide)
  · have e : ((List.range cols.length).map fun j => prI (shr cols.length goal.length (A1 cols goal costs) t2 (last1 cols goal costs t1 D1).2.1 D2 goal.length j)) = (shX cols goal costs (t2, (last1 cols goal costs t1 D1).2.1, D2)).map prI := by
      unfold shX; rw [List.map_map]; rfl
    rw [e]
    refine Sm.tup (w := 900) (fun d hd => ?_) 30000 (by have := G.g.hn; unfold shX; rw [List.length_map, List.length_map, List.length_range]; omega)
    obtain ⟨x, hx, rfl⟩ := List.mem_map.mp hd
    obtain ⟨h1, h2⟩ := shX_big G F2.mz x hx
    exact Sm.t2 (w := 401) (Sm.int 400 (by decide) (by decide) (BIG_lt h1)) (Sm.int 400 (by decide) (by decide) (BIG_lt h2)) 900 (by decide)
theorem Dr1.sm {B : Nat} (G : Cgc cols goal costs B) {u : Dt} (h : Dr1 cols goal costs u) {n : Nat} : Sm (n + 4) u 30000 := by
  obtain ⟨t1, D1, F1, h⟩ := h
  rcases h with ⟨z, rfl⟩ | ⟨z, t2, D2, F2, s, row, e, rfl⟩
  · exact Sm.non.mono (by decide)
  · obtain ⟨sb, rb⟩ := dear_big G F2.mz.1 e
    obtain ⟨_, _, _, rl, _⟩ := dear_at F2.mz.1.t.pos e
    refine Sm.t2 (w := 10000) ((Sm.int 400 (by decide) (by decide) (BIG_lt sb)).mono (by decide)) (Sm.ints (k := 400) (by decide) (by decide) (fun i hi => ?_) 10000 (by have := G.g.hm; omega)) 30000 (by decide)
    obtain ⟨k, hk⟩ := mem_gAt hi
    have := rb k
    unfold gAt at hk
    rw [hk] at this
    exact BIG_lt this
end
theorem law20_ok {ns : List Int} (hl : ns.length ≤ 63) : (F_law_v20 [.box 0] (script0 ns)).Wp (fun d _ => d = .bl true) noX := by
  refine w_body ?_
  unfold B_law_v20
  simp only [startD, List.map_cons, List.map_nil, List.length_cons, List.length_nil, List.cons_append, List.nil_append, Nat.reduceAdd, Nat.reduceSub, List.replicate, List.replicate_succ, List.replicate_zero]
  refine w_cons (w_asg (w_tup (w_consA (w_call (w_consA (w_var rfl (w_nil ?_)))))))
  refine (bag_ok hl).mono (fun d S1 ⟨b, c, ed, hb, B⟩ => ?_) fun _ _ _ q => q
  subst ed
  and_intros
  have hW : (S1 ++ [MBox.lst []])[S1.length]? = some (.lst []) := get_last
  have B0 := B.app (x := MBox.lst [])
  have wb1 : S1.length ≠ b := Nat.ne_of_gt B.lt.1
  have wc1 : S1.length ≠ c := Nat.ne_of_gt B.lt.2
  generalize S1 ++ [MBox.lst []] = S2 at hW B0 ⊢
  generalize S1.length = wb at hW wb1 wc1 ⊢
  refine ⟨Nat.le_of_ble_eq_true rfl, ?_⟩
  and_intros
  refine ⟨⟨by decide, by decide⟩, ?_⟩
  refine w_loop (st := fun _ => True) (fun i σ S' => (∃ d3 d4 d5 d6 d13 d14, σ = [some (.box 0), some (.box b), some (.box wb), d3, d4, d5, d6, none, none, none, none, none, none, d13, d14]) ∧ Bag S' b c ∧ ∃ es, S'[wb]? = some (.lst es) ∧ es.length = i ∧ ∀ e ∈ es, Wld2 e) (fun _ _ _ _ => trivial)
    (fun i x σ S' hx hI => ?_) (fun σ S' hI => ?_) ⟨⟨_, _, _, _, _, _, rfl⟩, B0, [], hW, rfl, fun e he => nomatch he⟩
  · obtain ⟨⟨d3, d4, d5, d6, d13, d14, rfl⟩, B1, es, eE, elE, hes⟩ := hI
    have hil := (List.getElem?_eq_some_iff.mp hx).1
    rw [rgD_len] at hil
    have hil : i < 6 := hil
    refine w_tName ?_
    refine w_cons (w_set ?_)
    and_intros
    refine (one_ok (xs := [Dt.int 2, .int 3, .int 1, .int 4, .int 5, .int 9]) B1.app (seq_lst get_last) (by have := B1.lt.1; omega) (fun z => nomatch z) (show (6 : Nat) ≤ 100000 by decide)).mono (fun d S3 ⟨hd, B3, F3⟩ => ?_) fun _ _ _ q => q
    have F03 := (Fr.refl b S').app.trans F3
    obtain ⟨n, rfl, h1, h9⟩ : ∃ n : Nat, d = .int (n : Int) ∧ 1 ≤ n ∧ n ≤ 9 := by
      simp only [List.mem_cons, List.not_mem_nil, or_false] at hd
      rcases hd with rfl | rfl | rfl | rfl | rfl | rfl
      · exact ⟨2, rfl, by decide, by decide⟩
      · exact ⟨3, rfl, by decide, by decide⟩
      · exact ⟨1, rfl, by decide, by decide⟩
      · exact ⟨4, rfl, by decide, by decide⟩
      · exact ⟨5, rfl, by decide, by decide⟩
      · exact ⟨9, rfl, by decide, by decide⟩
    refine c_nx ?_
    refine w_cons (w_set (w_call (w_consA ?_)))
    refine w_lcBA (b := b) (c := c) ?_
    and_intros
    refine (one_ok (xs := [Dt.int 3, .int 5, .int 1, .int 0, .int 8, .int 20]) B3.app (seq_lst get_last) (by have := B3.lt.1; omega) (fun z => nomatch z) (show (6 : Nat) ≤ 100000 by decide)).mono (fun d S4 ⟨hd, B4, F4⟩ => ?_) fun _ _ _ q => q
    have F04 := F03.trans ((Fr.refl b S3).app.trans F4)
    obtain ⟨m, rfl, hm⟩ : ∃ m : Nat, d = .int (m : Int) ∧ m ≤ 20 := by
      simp only [List.mem_cons, List.not_mem_nil, or_false] at hd
      rcases hd with rfl | rfl | rfl | rfl | rfl | rfl
      · exact ⟨3, rfl, by decide⟩
      · exact ⟨5, rfl, by decide⟩
      · exact ⟨1, rfl, by decide⟩
      · exact ⟨0, rfl, by decide⟩
      · exact ⟨8, rfl, by decide⟩
      · exact ⟨20, rfl, by decide⟩
    and_intros
    refine ⟨⟨by show -(2 ^ 62) ≤ (m : Int); omega, by show (m : Int) < 2 ^ 62; omega⟩, fun d => ∃ is, d = iv is ∧ Rw1 n is, by rw [rgD_len]; exact Nat.lt_of_le_of_lt (show ((m : Int)).toNat ≤ 1000 by omega) (by decide), B4, fun _ _ => trivial, fun x S5 hx B5 F5 => ?_, fun ds S5 hl5 hd5 hn5 B5 F5 => ?_⟩
    · refine w_tName ?_
      refine w_yes ?_
      refine ⟨(fun z => nomatch z), fun _ => ?_⟩
      and_intros
      exact (anyrow_ok B5 h9).mono (fun d S3 h => h) fun _ _ _ q => q
    rw [rgD_len] at hl5
    obtain ⟨cols, rfl, hc⟩ := ivs_of (P := Rw1 n) (ds := ds) hd5
    rw [List.length_map] at hl5
    have hc20 : cols.length ≤ 20 := by omega
    have F05 := F04.trans F5
    and_intros
    refine w_tupB (seq_lst hn5) ?_
    refine c_nx ?_
    refine w_cons (w_set ?_)
    and_intros
    have lt5 := B5.lt
    refine (one_ok (xs := [Dt.box S5.length, Dt.box (S5.length + 1), Dt.box (S5.length + 2), Dt.box (S5.length + 3)]) B5.app.app.app.app.app (seq_lst (by simp only [List.length_append, List.length_cons, List.length_nil]; exact menus5_get (i := 4))) (by simp only [List.length_append, List.length_cons, List.length_nil]; omega) (fun z => nomatch z) (show (4 : Nat) ≤ 100000 by decide)).mono (fun d S6 ⟨hd, B6, F6⟩ => ?_) fun _ _ _ q => q
    have key : ∃ k is, d = .box k ∧ S5.length ≤ k ∧ S6[k]? = some (.lst (is.map Dt.int)) ∧ is ≠ [] ∧ is.length ≤ 10 ∧ ∀ i ∈ is, 0 ≤ i ∧ i ≤ 1000000 := by
      simp only [List.mem_cons, List.not_mem_nil, or_false] at hd
      rcases hd with rfl | rfl | rfl | rfl
      · exact ⟨_, [0, 1, 2, 5], rfl, Nat.le_refl _, F6.at_ (menus5_get (i := 0)) (by omega), (fun z => nomatch z), by decide, by decide⟩
      · exact ⟨_, [1], rfl, by omega, F6.at_ (menus5_get (i := 1)) (by omega), (fun z => nomatch z), by decide, by decide⟩
      · exact ⟨_, [0], rfl, by omega, F6.at_ (menus5_get (i := 2)) (by omega), (fun z => nomatch z), by decide, by decide⟩
      · exact ⟨_, [3, 7, 1000000], rfl, by omega, F6.at_ (menus5_get (i := 3)) (by omega), (fun z => nomatch z), by decide, by decide⟩
    have F06 := F05.trans ((((((Fr.refl b S5).app).app).app).app).app.trans F6)
    obtain ⟨k, is, rfl, hk, ek, hne, hlen, hbd⟩ := key
    refine c_nx ?_
    and_intros
    have eE6 := F06.at_ eE wb1
    refine ⟨ty_list eE6, ?_⟩
    and_intros
    refine (madegoal_ok B6 h9 hc20 hc).mono (fun g S7 ⟨⟨goal, eg, gl, gb⟩, B7, F7⟩ => ?_) fun _ _ _ q => q
    subst eg
    refine w_consA (w_call (w_consA ?_))
    refine w_lcB (b := b) (c := c) ?_
    and_intros
    refine ⟨fun _ => true, fun _ d => ∃ i, d = .int i ∧ (0 ≤ i ∧ i ≤ 1000000), by rw [List.length_map]; exact Nat.lt_of_le_of_lt (show cols.length ≤ 1000 by omega) (by decide), B7, fun _ _ => rfl, fun x S8 hx B8 F8 => ?_, fun ds S8 he hn8 B8 F8 => ?_⟩
    · refine w_tName ?_
      refine w_yes ?_
      refine ⟨rfl, (fun z => nomatch z), fun _ => ?_⟩
      and_intros
      refine (one_ok B8 (seq_lst (F8.at_ (F7.at_ ek (by omega)) (by omega))) (by omega) (fun z => hne (List.map_eq_nil_iff.mp z)) (by rw [List.length_map]; omega)).mono (fun d S9 ⟨hd, B9, F9⟩ => ?_) fun _ _ _ q => q
      obtain ⟨i, hi, rfl⟩ := List.mem_map.mp hd
      exact ⟨⟨i, rfl, hbd i hi⟩, B9, F9⟩
    rw [filter_yes] at he
    obtain ⟨costs, ets, tl, tb⟩ := Each.ints (P := fun i => 0 ≤ i ∧ i ≤ 1000000) (fun _ _ h => h) he
    subst ets
    rw [List.length_map] at tl
    have F08 := F06.trans (F7.trans F8)
    and_intros
    refine w_tupB (seq_lst hn8) ?_
    and_intros
    refine ⟨Nat.le_of_ble_eq_true rfl, ?_⟩
    and_intros
    have eE8 := F08.at_ eE wb1
    refine w_append (lst_of eE8) (by rw [elE]; exact Nat.lt_of_lt_of_le hil (by decide)) ?_
    refine .inl ⟨rfl, ⟨_, _, _, _, _, _, rfl⟩, B8.own wb1 wc1, es ++ [.tup [Dt.tup (cols.map iv), iv goal, iv costs]], List.getElem?_set_self (get_lt eE8), by rw [List.length_append, elE]; rfl, fun e he => ?_⟩
    rcases List.mem_append.mp he with y | y
    · exact hes e y
    · rw [List.mem_singleton.mp y]
      refine ⟨cols, goal, costs, rfl, ⟨hc20, by omega, fun r hr => by rw [(hc r hr).1, gl], fun j k => Nat.le_trans (cAt_bd (B := 1000001) (fun r hr i hi => (hc r hr).2 i hi) j k) (by decide), fun k => gAt_bd gb k, by decide⟩, tl, fun k => ?_, fun k => Nat.le_trans (gAt_bd (B := 1000000) (fun i hi => by have := tb i hi; omega) k) (by decide)⟩
      unfold gAt
      rw [List.getD_eq_getElem?_getD]
      cases q : costs[k]? with
      | none => exact Int.le_refl 0
      | some i => exact (tb i (List.mem_of_getElem? q)).1
  obtain ⟨⟨d3, d4, d5, d6, d13, d14, rfl⟩, B1, es, eE, elE, hes⟩ := hI
  have elE : es.length = 6 := elE
  refine c_nx ?_
  refine w_cons (w_for ?_)
  and_intros
  refine w_slB (seq_lst eE) ?_
  have ecut : Mn.cutD es none (some 1) = es.take 1 := cut_to (i := 1)
  rw [ecut]
  refine w_newL (by rw [List.length_take]; exact Nat.le_trans (Nat.min_le_left ..) (by decide)) ?_
  refine w_addL (lst_of (get_pre (List.prefix_append _ _) eE)) (lst_of get_last) ?_
  refine w_newL (by rw [List.length_append, List.length_take]; exact Nat.le_trans (show _ ≤ 7 by omega) (by decide)) ?_
  have hes2 : ∀ e ∈ es ++ es.take 1, Wld2 e := fun e he => by
    rcases List.mem_append.mp he with y | y
    · exact hes e y
    · exact hes e (List.mem_of_mem_take y)
  have eW : (S' ++ [MBox.lst (es.take 1)] ++ [MBox.lst (es ++ es.take 1)])[(S' ++ [MBox.lst (es.take 1)]).length]? = some (.lst (es ++ es.take 1)) := get_last
  have BW := (B1.app (x := MBox.lst (es.take 1))).app (x := MBox.lst (es ++ es.take 1))
  generalize S' ++ [MBox.lst (es.take 1)] ++ [MBox.lst (es ++ es.take 1)] = SW at eW BW ⊢
  generalize (S' ++ [MBox.lst (es.take 1)]).length = kW at eW ⊢
  refine ⟨_, seq_lst eW, ?_⟩
  refine w_loop (fun i σ S' => (∃ d3 d4 d5 d6 d7 d8 d9 d10 d11 d12 d13 d14, σ = [some (.box 0), some (.box b), some (.box wb), d3, d4, d5, d6, d7, d8, d9, d10, d11, d12, d13, d14]) ∧ Bag S' b c ∧ S'[kW]? = some (.lst (es ++ es.take 1))) (fun i σ S' hI => seq_lst hI.2.2)
    (fun i x σ S' hx hI => ?_) (fun σ S' hI => ?_) ⟨⟨_, _, _, _, _, _, _, _, _, _, _, _, rfl⟩, BW, eW⟩
  · obtain ⟨⟨d3, d4, d5, d6, d7, d8, d9, d10, d11, d12, d13, d14, rfl⟩, B2, eW2⟩ := hI
    obtain ⟨cols, goal, costs, rfl, G⟩ := hes2 x (List.mem_of_getElem? hx)
    have hsm : ∀ d ∈ [Dt.tup (cols.map iv), iv goal, iv costs], Sm 59 d 4000 := fun d hd => by
      simp only [List.mem_cons, List.not_mem_nil, or_false] at hd
      rcases hd with rfl | rfl | rfl
      · exact sm_cols G.g (n := 56)
      · exact sm_goal G.g (n := 57)
      · exact sm_costs G (n := 57)
    obtain ⟨ps, hps⟩ := Sm.all hsm
    and_intros
    have eL : (S' ++ [MBox.lst [Dt.tup (cols.map iv), iv goal, iv costs]])[S'.length]? = some (.lst [Dt.tup (cols.map iv), iv goal, iv costs]) := get_last
    have pA := List.prefix_append S' [MBox.lst [Dt.tup (cols.map iv), iv goal, iv costs]]
    generalize S' ++ [MBox.lst [Dt.tup (cols.map iv), iv goal, iv costs]] = S3 at eL pA ⊢
    generalize S'.length = k3 at eL ⊢
    have pl3 : Pl S3 60 (.box k3) (.list ps) 20000 := .box (seq_lst eL) (hps S3) (show 3 * (4000 + 2) + 3 ≤ 20000 by decide)
    refine w_repr pl3 (by decide) ?_
    refine c_nx ?_
    refine w_cons (w_par2 ?_)
    and_intros
    refine (leastC_ok G).mono (fun u S4 ⟨p4, hu⟩ => ?_) fun _ _ _ q => q
    and_intros
    refine (dearestC_ok G).mono (fun v S5 ⟨p5, hv⟩ => ?_) fun _ _ _ q => q
    have p05 := (pA.trans p4).trans p5
    -- behind the judge
    have rest : ∀ (S6 : Bxs), S' <+: S6 → (Bag S6 b c) → S6[kW]? = some (.lst (es ++ es.take 1)) → (sCons (sSet 12 (dLst (aCons (dCall F_least_shares (aCons (dVar 5) (aCons (dVar 7) (aCons (dVar 8) (aNil))))) (aCons (dCall F_dearest_row (aCons (dVar 5) (aCons (dVar 7) (aCons (dVar 8) (aNil))))) (aNil))))) (sIf (dOr (dNot (dTrue (dCall F__law_alike (aCons (dVar 12) (aCons (dLst (aCons (dVar 10) (aCons (dVar 11) (aNil)))) (aNil)))))) (dTrue (dBin (eqG true) (dCall reprG (aCons (dLst (aCons (dVar 5) (aCons (dVar 7) (aCons (dVar 8) (aNil))))) (aNil))) (dVar 9)))) (sRet (dC (.bl false))) (sNil)) [some (.box 0), some (.box b), some (.box wb), d3, d4, some (.tup (cols.map iv)), d6, some (iv goal), some (iv costs), some (.str (PyData.list ps).shown), some u, some v, d12, d13, d14] S6).Wp (fun r S' => r.1 = .nx ∧ (∃ d3 d4 d5 d6 d7 d8 d9 d10 d11 d12 d13 d14, r.2 = [some (.box 0), some (.box b), some (.box wb), d3, d4, d5, d6, d7, d8, d9, d10, d11, d12, d13, d14]) ∧ Bag S' b c ∧ S'[kW]? = some (.lst (es ++ es.take 1))) noX := by
      intro S6 p06 B6 eW6
      refine w_cons (w_set ?_)
      and_intros
      refine (leastC_ok G).mono (fun u' S7 ⟨p7, hu'⟩ => ?_) fun _ _ _ q => q
      and_intros
      refine (dearestC_ok G).mono (fun v' S8 ⟨p8, hv'⟩ => ?_) fun _ _ _ q => q
      have eu' : u' = u := Ls1.same hu' hu
      have ev' : v' = v := Dr1.same hv' hv
      subst eu'; subst ev'
      and_intros
      have eT9 := get_pre (List.prefix_append (S8 ++ [MBox.lst [u', v']]) [MBox.lst [u', v']]) (get_last (S := S8) (x := MBox.lst [u', v']))
      have eT8 : (S8 ++ [MBox.lst [u', v']] ++ [MBox.lst [u', v']])[(S8 ++ [MBox.lst [u', v']]).length]? = some (.lst [u', v']) := get_last
      obtain ⟨qs, hqs⟩ := Sm.all (n := 59) (w := 30000) (ds := [u', v']) fun d hd => by
        simp only [List.mem_cons, List.not_mem_nil, or_false] at hd
        rcases hd with rfl | rfl
        · exact hu.sm G (n := 55)
        · exact hv.sm G (n := 55)
      have pG := (List.prefix_append S8 [MBox.lst [u', v']]).trans (List.prefix_append (S8 ++ [MBox.lst [u', v']]) [MBox.lst [u', v']])
      generalize S8 ++ [MBox.lst [u', v']] ++ [MBox.lst [u', v']] = S9 at eT9 eT8 pG ⊢
      refine (alikeQ_ok (p := .list qs) (w := 70000) (.box (seq_lst eT9) (hqs _) (show 2 * (30000 + 2) + 3 ≤ 70000 by decide)) (.box (seq_lst eT8) (hqs _) (show 2 * (30000 + 2) + 3 ≤ 70000 by decide)) (by decide)).mono (fun r SG ⟨er, eS⟩ => ?_) fun _ _ _ q => q
      subst er; subst eS
      refine ⟨true, rfl, (fun z => nomatch z), fun _ => ?_⟩
      and_intros
      have eL2 : (SG ++ [MBox.lst [Dt.tup (cols.map iv), iv goal, iv costs]])[SG.length]? = some (.lst [Dt.tup (cols.map iv), iv goal, iv costs]) := get_last
      have pB := List.prefix_append SG [MBox.lst [Dt.tup (cols.map iv), iv goal, iv costs]]
      generalize SG ++ [MBox.lst [Dt.tup (cols.map iv), iv goal, iv costs]] = SA at eL2 pB ⊢
      generalize SG.length = k9 at eL2 ⊢
      have plA : Pl SA 60 (.box k9) (.list ps) 20000 := .box (seq_lst eL2) (hps SA) (show 3 * (4000 + 2) + 3 ≤ 20000 by decide)
      refine w_repr plA (by decide) ?_
      and_intros
      refine w_eqShQ plA ?_
      refine ⟨_, rfl, (fun z => nomatch z), fun _ => ?_⟩
      refine w_sNil ?_
      have pall := ((p7.trans p8).trans pG).trans pB
      exact ⟨rfl, ⟨_, _, _, _, _, _, _, _, _, _, _, _, rfl⟩, B6.pre pall, get_pre pall eW6⟩
    refine w_nil ?_
    refine ⟨_, _, rfl, ?_⟩
    refine c_nx ?_
    simp only [List.set_cons_zero, List.set_cons_succ]
    have B5 := B2.pre p05
    have eW5 := get_pre p05 eW2
    obtain ⟨t1, D1, F1, hu1⟩ := hu
    obtain ⟨t2, D2, F2, hv1⟩ := hv
    obtain ⟨e1, e2⟩ := F1.same F2
    subst e1; subst e2
    rcases hu1 with ⟨z, eu⟩ | ⟨z, a1, b1, f1, eu⟩ <;> rcases hv1 with ⟨y, ev⟩ | ⟨y, a2, b2, f2, s2, r2, g2, ev⟩
    · refine w_cons (w_if (w_or ?_))
      subst eu; subst ev
      and_intros
      refine ⟨fun _ => ⟨fun _ => ?_, (fun z => nomatch z)⟩, (fun z => nomatch z)⟩
      refine w_if (w_or ?_)
      and_intros
      refine ⟨(fun z => nomatch z), fun _ => ?_⟩
      refine w_or ?_
      and_intros
      refine ⟨(fun z => nomatch z), fun _ => ?_⟩
      and_intros
      refine (row_against_ok G.g).mono (fun w S6 ⟨p6, told', D', F', hw⟩ => ?_) fun _ _ _ q => q
      have off : Off cols goal told' ≠ 0 := fun q => z (off_of0 F' F1 q)
      rcases hw with ⟨q, _⟩ | ⟨_, rfl⟩
      · exact absurd q off
      and_intros
      refine (bars_ok G.g F' off).mono (fun r S7 ⟨er, p7⟩ => ?_) fun _ _ _ q => q
      subst er
      refine ⟨true, rfl, (fun z => nomatch z), fun _ => ?_⟩
      refine w_sNil ?_
      refine c_nx ?_
      have p67 := p6.trans p7
      refine (rest S7 (p05.trans p67) (B5.pre p67) (get_pre p67 eW5)).mono (fun r S8 h => .inl h) fun _ _ _ q => q
    · exact absurd y z
    · exact absurd z y
    · refine w_cons (w_if (w_or ?_))
      obtain ⟨ee1, ee2⟩ := f1.same f2
      subst ee1; subst ee2
      subst eu; subst ev
      and_intros
      refine ⟨(fun z => nomatch z), fun _ => ?_⟩
      and_intros
      refine ⟨(fun z => nomatch z), fun _ => ?_⟩
      refine w_if (w_not (w_true ?_))
      and_intros
      have e : ((List.range cols.length).map fun j => prI (shr cols.length goal.length (A1 cols goal costs) a1 (last1 cols goal costs t1 D1).2.1 b1 goal.length j)) = (shX cols goal costs (a1, (last1 cols goal costs t1 D1).2.1, b1)).map prI := by
        unfold shX; rw [List.map_map]; rfl
      rw [e] at rest ⊢
      refine (is_least_ok G (Nat.le_refl _) f1.mz f1.2.1 g2).mono (fun r S6 ⟨er, p6⟩ => ?_) fun _ _ _ q => q
      subst er
      refine ⟨true, rfl, (fun z => nomatch z), fun _ => ?_⟩
      refine w_sNil ?_
      refine c_nx ?_
      refine (rest S6 (p05.trans p6) (B5.pre p6) (get_pre p6 eW5)).mono (fun r S8 h => .inl h) fun _ _ _ q => q
  obtain ⟨⟨d3, d4, d5, d6, d7, d8, d9, d10, d11, d12, d13, d14, rfl⟩, B2, eW2⟩ := hI
  refine c_nx ?_
  and_intros
  exact .inl ⟨_, rfl, rfl⟩
end Lw
set_option Elab.async false
set_option linter.all false
set_option maxRecDepth 100000
set_option maxHeartbeats 4000000
namespace K13
open PySem PySem.Spec PyProof.Rows L2 Mn
def topS (i : Nat) : Stmt := PySem.Challenge.pw_neverheaps_k13_least_shares_and_prices.main.body.getD i (.Pass ⟨0, 0, 0, 0⟩)
abbrev s__law_bag : Stmt := topS 14
theorem sc__law_bag : FnScope ["script", "cell"] ["script"] (defScope s__law_bag) := ⟨rfl, rfl, rfl, by decide +kernel, rfl, by decide +kernel, by decide +kernel⟩
noncomputable abbrev F__law_bag : FN := Lw.F__law_bag
abbrev s__law_take : Stmt := topS 15
theorem sc__law_take : FnScope ["bag", "many", "cell", "stirred", "value", "begin", "second"] ["bag", "many"] (defScope s__law_take) := ⟨rfl, rfl, rfl, by decide +kernel, rfl, by decide +kernel, by decide +kernel⟩
noncomputable abbrev F__law_take : FN := Lw.F__law_take
abbrev s__law_one : Stmt := topS 16
theorem sc__law_one : FnScope ["bag", "things"] ["bag", "things"] (defScope s__law_one) := ⟨rfl, rfl, rfl, by decide +kernel, rfl, by decide +kernel, by decide +kernel⟩
noncomputable abbrev F__law_one : FN := Lw.F__law_one
abbrev s_unit_row : Stmt := topS 3
theorem sc_unit_row : FnScope ["size", "place", "at"] ["size", "place"] (defScope s_unit_row) := ⟨rfl, rfl, rfl, by decide +kernel, rfl, by decide +kernel, by decide +kernel⟩
noncomputable abbrev F_unit_row : FN := Lw.F_unit_row
abbrev s_Equations___init__ : Stmt := methS (topS 7) 0
theorem sc_Equations___init__ : FnScope ["self", "columns", "goal", "costs", "at", "sign", "marks", "distance", "off", "item", "column", "row"] ["self", "columns", "goal", "costs"] (defScope s_Equations___init__) := ⟨rfl, rfl, rfl, by decide +kernel, rfl, by decide +kernel, by decide +kernel⟩
noncomputable abbrev F_Equations___init__ : FN := Lw.F_Equations___init__
abbrev s_negated : Stmt := topS 2
theorem sc_negated : FnScope ["row", "item"] ["row"] (defScope s_negated) := ⟨rfl, rfl, rfl, by decide +kernel, rfl, by decide +kernel, by decide +kernel⟩
noncomputable abbrev F_negated : FN := Lw.F_negated
abbrev s_Equations__pivot : Stmt := methS (topS 7) 1
theorem sc_Equations__pivot : FnScope ["self", "at", "column", "lead", "factor", "rows", "row", "times", "item", "led"] ["self", "at", "column"] (defScope s_Equations__pivot) := ⟨rfl, rfl, rfl, by decide +kernel, rfl, by decide +kernel, by decide +kernel⟩
noncomputable abbrev F_Equations__pivot : FN := Lw.F_Equations__pivot
abbrev s_Equations__take_marks_out : Stmt := methS (topS 7) 8
theorem sc_Equations__take_marks_out : FnScope ["self", "at", "columns", "column"] ["self"] (defScope s_Equations__take_marks_out) := ⟨rfl, rfl, rfl, by decide +kernel, rfl, by decide +kernel, by decide +kernel⟩
noncomputable abbrev F_Equations__take_marks_out : FN := Lw.F_Equations__take_marks_out
abbrev s_Equations__entering : Stmt := methS (topS 7) 4
theorem sc_Equations__entering : FnScope ["self", "at", "column"] ["self", "at"] (defScope s_Equations__entering) := ⟨rfl, rfl, rfl, by decide +kernel, rfl, by decide +kernel, by decide +kernel⟩
noncomputable abbrev F_Equations__entering : FN := Lw.F_Equations__entering
abbrev s_Equations__is_sooner : Stmt := methS (topS 7) 2
theorem sc_Equations__is_sooner : FnScope ["self", "at", "other", "column", "one", "two"] ["self", "at", "other", "column"] (defScope s_Equations__is_sooner) := ⟨rfl, rfl, rfl, by decide +kernel, rfl, by decide +kernel, by decide +kernel⟩
noncomputable abbrev F_Equations__is_sooner : FN := Lw.F_Equations__is_sooner
abbrev s_Equations__leaving : Stmt := methS (topS 7) 3
theorem sc_Equations__leaving : FnScope ["self", "column", "found", "at"] ["self", "column"] (defScope s_Equations__leaving) := ⟨rfl, rfl, rfl, by decide +kernel, rfl, by decide +kernel, by decide +kernel⟩
noncomputable abbrev F_Equations__leaving : FN := Lw.F_Equations__leaving
abbrev s_Equations__lower : Stmt := methS (topS 7) 5
theorem sc_Equations__lower : FnScope ["self", "at", "column"] ["self", "at"] (defScope s_Equations__lower) := ⟨rfl, rfl, rfl, by decide +kernel, rfl, by decide +kernel, by decide +kernel⟩
noncomputable abbrev F_Equations__lower : FN := Lw.F_Equations__lower
abbrev s_Equations_cheapen : Stmt := methS (topS 7) 9
theorem sc_Equations_cheapen : FnScope ["self"] ["self"] (defScope s_Equations_cheapen) := ⟨rfl, rfl, rfl, by decide +kernel, rfl, by decide +kernel, by decide +kernel⟩
noncomputable abbrev F_Equations_cheapen : FN := Lw.F_Equations_cheapen
abbrev s_Equations_reach : Stmt := methS (topS 7) 6
theorem sc_Equations_reach : FnScope ["self"] ["self"] (defScope s_Equations_reach) := ⟨rfl, rfl, rfl, by decide +kernel, rfl, by decide +kernel, by decide +kernel⟩
noncomputable abbrev F_Equations_reach : FN := Lw.F_Equations_reach
abbrev s__cheapest : Stmt := topS 9
theorem sc__cheapest : FnScope ["columns", "goal", "costs", "equations"] ["columns", "goal", "costs"] (defScope s__cheapest) := ⟨rfl, rfl, rfl, by decide +kernel, rfl, by decide +kernel, by decide +kernel⟩
noncomputable abbrev F__cheapest : FN := Lw.F__cheapest
abbrev s_lowest_terms : Stmt := topS 6
theorem sc_lowest_terms : FnScope ["num", "den", "divisor"] ["num", "den"] (defScope s_lowest_terms) := ⟨rfl, rfl, rfl, by decide +kernel, rfl, by decide +kernel, by decide +kernel⟩
noncomputable abbrev F_lowest_terms : FN := Lw.F_lowest_terms
abbrev s_Equations_shares : Stmt := methS (topS 7) 10
theorem sc_Equations_shares : FnScope ["self", "found", "row", "column"] ["self"] (defScope s_Equations_shares) := ⟨rfl, rfl, rfl, by decide +kernel, rfl, by decide +kernel, by decide +kernel⟩
noncomputable abbrev F_Equations_shares : FN := Lw.F_Equations_shares
abbrev s_least_shares : Stmt := topS 11
theorem sc_least_shares : FnScope ["columns", "goal", "costs", "equations"] ["columns", "goal", "costs"] (defScope s_least_shares) := ⟨rfl, rfl, rfl, by decide +kernel, rfl, by decide +kernel, by decide +kernel⟩
noncomputable abbrev F_least_shares : FN := Lw.F_least_shares
abbrev s_common_divisor : Stmt := topS 4
theorem sc_common_divisor : FnScope ["row", "found", "item"] ["row"] (defScope s_common_divisor) := ⟨rfl, rfl, rfl, by decide +kernel, rfl, by decide +kernel, by decide +kernel⟩
noncomputable abbrev F_common_divisor : FN := Lw.F_common_divisor
abbrev s_prime_row : Stmt := topS 5
theorem sc_prime_row : FnScope ["row", "divisor", "item"] ["row"] (defScope s_prime_row) := ⟨rfl, rfl, rfl, by decide +kernel, rfl, by decide +kernel, by decide +kernel⟩
noncomputable abbrev F_prime_row : FN := Lw.F_prime_row
abbrev s_Equations_dearest_row : Stmt := methS (topS 7) 11
theorem sc_Equations_dearest_row : FnScope ["self", "marks", "row", "scale", "items", "sign", "item"] ["self"] (defScope s_Equations_dearest_row) := ⟨rfl, rfl, rfl, by decide +kernel, rfl, by decide +kernel, by decide +kernel⟩
noncomputable abbrev F_Equations_dearest_row : FN := Lw.F_Equations_dearest_row
abbrev s_dearest_row : Stmt := topS 12
theorem sc_dearest_row : FnScope ["columns", "goal", "costs", "equations"] ["columns", "goal", "costs"] (defScope s_dearest_row) := ⟨rfl, rfl, rfl, by decide +kernel, rfl, by decide +kernel, by decide +kernel⟩
noncomputable abbrev F_dearest_row : FN := Lw.F_dearest_row
abbrev s__law_any_row : Stmt := topS 26
theorem sc__law_any_row : FnScope ["bag", "size", "menu", "k"] ["bag", "size"] (defScope s__law_any_row) := ⟨rfl, rfl, rfl, by decide +kernel, rfl, by decide +kernel, by decide +kernel⟩
noncomputable abbrev F__law_any_row : FN := Lw.F__law_any_row
abbrev s__law_made_goal : Stmt := topS 27
theorem sc__law_made_goal : FnScope ["bag", "columns", "size", "times", "column", "k", "many"] ["bag", "columns", "size"] (defScope s__law_made_goal) := ⟨rfl, rfl, rfl, by decide +kernel, rfl, by decide +kernel, by decide +kernel⟩
noncomputable abbrev F__law_made_goal : FN := Lw.F__law_made_goal
abbrev s__law_gcd : Stmt := topS 18
theorem sc__law_gcd : FnScope ["one", "other"] ["one", "other"] (defScope s__law_gcd) := ⟨rfl, rfl, rfl, by decide +kernel, rfl, by decide +kernel, by decide +kernel⟩
noncomputable abbrev F__law_gcd : FN := Lw.F__law_gcd
abbrev s__law_den_of : Stmt := topS 23
theorem sc__law_den_of : FnScope ["shares", "den", "part"] ["shares"] (defScope s__law_den_of) := ⟨rfl, rfl, rfl, by decide +kernel, rfl, by decide +kernel, by decide +kernel⟩
noncomputable abbrev F__law_den_of : FN := Lw.F__law_den_of
abbrev s__law_is_whole : Stmt := topS 20
theorem sc__law_is_whole : FnScope ["thing"] ["thing"] (defScope s__law_is_whole) := ⟨rfl, rfl, rfl, by decide +kernel, rfl, by decide +kernel, by decide +kernel⟩
noncomputable abbrev F__law_is_whole : FN := Lw.F__law_is_whole
abbrev s__law_is_row : Stmt := topS 21
theorem sc__law_is_row : FnScope ["thing", "size", "item"] ["thing", "size"] (defScope s__law_is_row) := ⟨rfl, rfl, rfl, by decide +kernel, rfl, by decide +kernel, by decide +kernel⟩
noncomputable abbrev F__law_is_row : FN := Lw.F__law_is_row
abbrev s__law_are_shares : Stmt := topS 22
theorem sc__law_are_shares : FnScope ["thing", "many", "part"] ["thing", "many"] (defScope s__law_are_shares) := ⟨rfl, rfl, rfl, by decide +kernel, rfl, by decide +kernel, by decide +kernel⟩
noncomputable abbrev F__law_are_shares : FN := Lw.F__law_are_shares
abbrev s__law_is_shared : Stmt := topS 24
theorem sc__law_is_shared : FnScope ["columns", "goal", "thing", "den", "times", "part", "k", "many", "column"] ["columns", "goal", "thing"] (defScope s__law_is_shared) := ⟨rfl, rfl, rfl, by decide +kernel, rfl, by decide +kernel, by decide +kernel⟩
noncomputable abbrev F__law_is_shared : FN := Lw.F__law_is_shared
abbrev s__law_product : Stmt := topS 19
theorem sc__law_product : FnScope ["one", "other", "mine", "its"] ["one", "other"] (defScope s__law_product) := ⟨rfl, rfl, rfl, by decide +kernel, rfl, by decide +kernel, by decide +kernel⟩
noncomputable abbrev F__law_product : FN := Lw.F__law_product
abbrev s__law_is_least : Stmt := topS 28
theorem sc__law_is_least : FnScope ["columns", "goal", "costs", "shares", "dear", "scale", "row", "den", "paid", "column", "cost", "part"] ["columns", "goal", "costs", "shares", "dear"] (defScope s__law_is_least) := ⟨rfl, rfl, rfl, by decide +kernel, rfl, by decide +kernel, by decide +kernel⟩
noncomputable abbrev F__law_is_least : FN := Lw.F__law_is_least
abbrev s__law_alike : Stmt := topS 17
theorem sc__law_alike : FnScope ["found", "due"] ["found", "due"] (defScope s__law_alike) := ⟨rfl, rfl, rfl, by decide +kernel, rfl, by decide +kernel, by decide +kernel⟩
noncomputable abbrev F__law_alike : FN := Lw.F__law_alike
abbrev s__law_bars : Stmt := topS 25
theorem sc__law_bars : FnScope ["columns", "goal", "thing", "column"] ["columns", "goal", "thing"] (defScope s__law_bars) := ⟨rfl, rfl, rfl, by decide +kernel, rfl, by decide +kernel, by decide +kernel⟩
noncomputable abbrev F__law_bars : FN := Lw.F__law_bars
abbrev s_Equations_row_against : Stmt := methS (topS 7) 7
theorem sc_Equations_row_against : FnScope ["self", "marks", "sign", "item"] ["self"] (defScope s_Equations_row_against) := ⟨rfl, rfl, rfl, by decide +kernel, rfl, by decide +kernel, by decide +kernel⟩
noncomputable abbrev F_Equations_row_against : FN := Lw.F_Equations_row_against
abbrev s_row_against : Stmt := topS 10
theorem sc_row_against : FnScope ["columns", "goal", "equations"] ["columns", "goal"] (defScope s_row_against) := ⟨rfl, rfl, rfl, by decide +kernel, rfl, by decide +kernel, by decide +kernel⟩
noncomputable abbrev F_row_against : FN := Lw.F_row_against
abbrev s_law : Stmt := topS 29
theorem sc_law : FnScope ["script", "bag", "worlds", "turn", "size", "columns", "menu", "goal", "costs", "shown", "shares", "dear", "told", "k", "column"] ["script"] (defScope s_law) := ⟨rfl, rfl, rfl, by decide +kernel, rfl, by decide +kernel, by decide +kernel⟩
noncomputable abbrev F_law : FN := Lw.F_law_v20
/-- what the top has written -/
structure Top (K : PySem.W.Frag) (mg : Str → Option Value) where
  f__law_bag : Addr
  fd__law_bag : FuncData
  fn__law_bag : Fun K "_law_bag" "_law_bag" s__law_bag f__law_bag fd__law_bag
  bn__law_bag : Binds K fd__law_bag ["script"] []
  g__law_bag : mg "_law_bag" = some (.ref f__law_bag)
  f__law_take : Addr
  fd__law_take : FuncData
  fn__law_take : Fun K "_law_take" "_law_take" s__law_take f__law_take fd__law_take
  bn__law_take : Binds K fd__law_take ["bag", "many"] []
  g__law_take : mg "_law_take" = some (.ref f__law_take)
  f__law_one : Addr
  fd__law_one : FuncData
  fn__law_one : Fun K "_law_one" "_law_one" s__law_one f__law_one fd__law_one
  bn__law_one : Binds K fd__law_one ["bag", "things"] []
  g__law_one : mg "_law_one" = some (.ref f__law_one)
  f_unit_row : Addr
  fd_unit_row : FuncData
  fn_unit_row : Fun K "unit_row" "unit_row" s_unit_row f_unit_row fd_unit_row
  bn_unit_row : Binds K fd_unit_row ["size", "place"] []
  g_unit_row : mg "unit_row" = some (.ref f_unit_row)
  f_Equations___init__ : Addr
  fd_Equations___init__ : FuncData
  fn_Equations___init__ : Fun K "__init__" "Equations.__init__" s_Equations___init__ f_Equations___init__ fd_Equations___init__
  bn_Equations___init__ : Binds K fd_Equations___init__ ["self", "columns", "goal", "costs"] []
  f_negated : Addr
  fd_negated : FuncData
  fn_negated : Fun K "negated" "negated" s_negated f_negated fd_negated
  bn_negated : Binds K fd_negated ["row"] []
  g_negated : mg "negated" = some (.ref f_negated)
  f_Equations__pivot : Addr
  fd_Equations__pivot : FuncData
  fn_Equations__pivot : Fun K "_pivot" "Equations._pivot" s_Equations__pivot f_Equations__pivot fd_Equations__pivot
  bn_Equations__pivot : Binds K fd_Equations__pivot ["self", "at", "column"] []
  f_Equations__take_marks_out : Addr
  fd_Equations__take_marks_out : FuncData
  fn_Equations__take_marks_out : Fun K "_take_marks_out" "Equations._take_marks_out" s_Equations__take_marks_out f_Equations__take_marks_out fd_Equations__take_marks_out
  bn_Equations__take_marks_out : Binds K fd_Equations__take_marks_out ["self"] []
  f_Equations__entering : Addr
  fd_Equations__entering : FuncData
  fn_Equations__entering : Fun K "_entering" "Equations._entering" s_Equations__entering f_Equations__entering fd_Equations__entering
  bn_Equations__entering : Binds K fd_Equations__entering ["self", "at"] []
  f_Equations__is_sooner : Addr
  fd_Equations__is_sooner : FuncData
  fn_Equations__is_sooner : Fun K "_is_sooner" "Equations._is_sooner" s_Equations__is_sooner f_Equations__is_sooner fd_Equations__is_sooner
  bn_Equations__is_sooner : Binds K fd_Equations__is_sooner ["self", "at", "other", "column"] []
  f_Equations__leaving : Addr
  fd_Equations__leaving : FuncData
  fn_Equations__leaving : Fun K "_leaving" "Equations._leaving" s_Equations__leaving f_Equations__leaving fd_Equations__leaving
  bn_Equations__leaving : Binds K fd_Equations__leaving ["self", "column"] []
  f_Equations__lower : Addr
  fd_Equations__lower : FuncData
  fn_Equations__lower : Fun K "_lower" "Equations._lower" s_Equations__lower f_Equations__lower fd_Equations__lower
  bn_Equations__lower : Binds K fd_Equations__lower ["self", "at"] []
  f_Equations_cheapen : Addr
  fd_Equations_cheapen : FuncData
  fn_Equations_cheapen : Fun K "cheapen" "Equations.cheapen" s_Equations_cheapen f_Equations_cheapen fd_Equations_cheapen
  bn_Equations_cheapen : Binds K fd_Equations_cheapen ["self"] []
  f_Equations_reach : Addr
  fd_Equations_reach : FuncData
  fn_Equations_reach : Fun K "reach" "Equations.reach" s_Equations_reach f_Equations_reach fd_Equations_reach
  bn_Equations_reach : Binds K fd_Equations_reach ["self"] []
  f__cheapest : Addr
  fd__cheapest : FuncData
  fn__cheapest : Fun K "_cheapest" "_cheapest" s__cheapest f__cheapest fd__cheapest
  bn__cheapest : Binds K fd__cheapest ["columns", "goal", "costs"] []
  g__cheapest : mg "_cheapest" = some (.ref f__cheapest)
  f_lowest_terms : Addr
  fd_lowest_terms : FuncData
  fn_lowest_terms : Fun K "lowest_terms" "lowest_terms" s_lowest_terms f_lowest_terms fd_lowest_terms
  bn_lowest_terms : Binds K fd_lowest_terms ["num", "den"] []
  g_lowest_terms : mg "lowest_terms" = some (.ref f_lowest_terms)
  f_Equations_shares : Addr
  fd_Equations_shares : FuncData
  fn_Equations_shares : Fun K "shares" "Equations.shares" s_Equations_shares f_Equations_shares fd_Equations_shares
  bn_Equations_shares : Binds K fd_Equations_shares ["self"] []
  f_least_shares : Addr
  fd_least_shares : FuncData
  fn_least_shares : Fun K "least_shares" "least_shares" s_least_shares f_least_shares fd_least_shares
  bn_least_shares : Binds K fd_least_shares ["columns", "goal", "costs"] []
  g_least_shares : mg "least_shares" = some (.ref f_least_shares)
  f_common_divisor : Addr
  fd_common_divisor : FuncData
  fn_common_divisor : Fun K "common_divisor" "common_divisor" s_common_divisor f_common_divisor fd_common_divisor
  bn_common_divisor : Binds K fd_common_divisor ["row"] []
  g_common_divisor : mg "common_divisor" = some (.ref f_common_divisor)
  f_prime_row : Addr
  fd_prime_row : FuncData
  fn_prime_row : Fun K "prime_row" "prime_row" s_prime_row f_prime_row fd_prime_row
  bn_prime_row : Binds K fd_prime_row ["row"] []
  g_prime_row : mg "prime_row" = some (.ref f_prime_row)
  f_Equations_dearest_row : Addr
  fd_Equations_dearest_row : FuncData
  fn_Equations_dearest_row : Fun K "dearest_row" "Equations.dearest_row" s_Equations_dearest_row f_Equations_dearest_row fd_Equations_dearest_row
  bn_Equations_dearest_row : Binds K fd_Equations_dearest_row ["self"] []
  f_dearest_row : Addr
  fd_dearest_row : FuncData
  fn_dearest_row : Fun K "dearest_row" "dearest_row" s_dearest_row f_dearest_row fd_dearest_row
  bn_dearest_row : Binds K fd_dearest_row ["columns", "goal", "costs"] []
  g_dearest_row : mg "dearest_row" = some (.ref f_dearest_row)
  f__law_any_row : Addr
  fd__law_any_row : FuncData
  fn__law_any_row : Fun K "_law_any_row" "_law_any_row" s__law_any_row f__law_any_row fd__law_any_row
  bn__law_any_row : Binds K fd__law_any_row ["bag", "size"] []
  g__law_any_row : mg "_law_any_row" = some (.ref f__law_any_row)
  f__law_made_goal : Addr
  fd__law_made_goal : FuncData
  fn__law_made_goal : Fun K "_law_made_goal" "_law_made_goal" s__law_made_goal f__law_made_goal fd__law_made_goal
  bn__law_made_goal : Binds K fd__law_made_goal ["bag", "columns", "size"] []
  g__law_made_goal : mg "_law_made_goal" = some (.ref f__law_made_goal)
  f__law_gcd : Addr
  fd__law_gcd : FuncData
  fn__law_gcd : Fun K "_law_gcd" "_law_gcd" s__law_gcd f__law_gcd fd__law_gcd
  bn__law_gcd : Binds K fd__law_gcd ["one", "other"] []
  g__law_gcd : mg "_law_gcd" = some (.ref f__law_gcd)
  f__law_den_of : Addr
  fd__law_den_of : FuncData
  fn__law_den_of : Fun K "_law_den_of" "_law_den_of" s__law_den_of f__law_den_of fd__law_den_of
  bn__law_den_of : Binds K fd__law_den_of ["shares"] []
  g__law_den_of : mg "_law_den_of" = some (.ref f__law_den_of)
  f__law_is_whole : Addr
  fd__law_is_whole : FuncData
  fn__law_is_whole : Fun K "_law_is_whole" "_law_is_whole" s__law_is_whole f__law_is_whole fd__law_is_whole
  bn__law_is_whole : Binds K fd__law_is_whole ["thing"] []
  g__law_is_whole : mg "_law_is_whole" = some (.ref f__law_is_whole)
  f__law_is_row : Addr
  fd__law_is_row : FuncData
  fn__law_is_row : Fun K "_law_is_row" "_law_is_row" s__law_is_row f__law_is_row fd__law_is_row
  bn__law_is_row : Binds K fd__law_is_row ["thing", "size"] []
  g__law_is_row : mg "_law_is_row" = some (.ref f__law_is_row)
  f__law_are_shares : Addr
  fd__law_are_shares : FuncData
  fn__law_are_shares : Fun K "_law_are_shares" "_law_are_shares" s__law_are_shares f__law_are_shares fd__law_are_shares
  bn__law_are_shares : Binds K fd__law_are_shares ["thing", "many"] []
  g__law_are_shares : mg "_law_are_shares" = some (.ref f__law_are_shares)
  f__law_is_shared : Addr
  fd__law_is_shared : FuncData
  fn__law_is_shared : Fun K "_law_is_shared" "_law_is_shared" s__law_is_shared f__law_is_shared fd__law_is_shared
  bn__law_is_shared : Binds K fd__law_is_shared ["columns", "goal", "thing"] []
  g__law_is_shared : mg "_law_is_shared" = some (.ref f__law_is_shared)
  f__law_product : Addr
  fd__law_product : FuncData
  fn__law_product : Fun K "_law_product" "_law_product" s__law_product f__law_product fd__law_product
  bn__law_product : Binds K fd__law_product ["one", "other"] []
  g__law_product : mg "_law_product" = some (.ref f__law_product)
  f__law_is_least : Addr
  fd__law_is_least : FuncData
  fn__law_is_least : Fun K "_law_is_least" "_law_is_least" s__law_is_least f__law_is_least fd__law_is_least
  bn__law_is_least : Binds K fd__law_is_least ["columns", "goal", "costs", "shares", "dear"] []
  g__law_is_least : mg "_law_is_least" = some (.ref f__law_is_least)
  f__law_alike : Addr
  fd__law_alike : FuncData
  fn__law_alike : Fun K "_law_alike" "_law_alike" s__law_alike f__law_alike fd__law_alike
  bn__law_alike : Binds K fd__law_alike ["found", "due"] []
  g__law_alike : mg "_law_alike" = some (.ref f__law_alike)
  f__law_bars : Addr
  fd__law_bars : FuncData
  fn__law_bars : Fun K "_law_bars" "_law_bars" s__law_bars f__law_bars fd__law_bars
  bn__law_bars : Binds K fd__law_bars ["columns", "goal", "thing"] []
  g__law_bars : mg "_law_bars" = some (.ref f__law_bars)
  f_Equations_row_against : Addr
  fd_Equations_row_against : FuncData
  fn_Equations_row_against : Fun K "row_against" "Equations.row_against" s_Equations_row_against f_Equations_row_against fd_Equations_row_against
  bn_Equations_row_against : Binds K fd_Equations_row_against ["self"] []
  f_row_against : Addr
  fd_row_against : FuncData
  fn_row_against : Fun K "row_against" "row_against" s_row_against f_row_against fd_row_against
  bn_row_against : Binds K fd_row_against ["columns", "goal"] []
  g_row_against : mg "row_against" = some (.ref f_row_against)
  f_law : Addr
  fd_law : FuncData
  fn_law : Fun K "law" "law" s_law f_law fd_law
  bn_law : Binds K fd_law ["script"] []
  g_law : mg "law" = some (.ref f_law)
  C_Equations : Addr
  g_Equations : mg "Equations" = some (.ref C_Equations)
  ns_Equations : PySem.W.nsIn K mainGlobals "Equations" = some (some (.ref C_Equations))
  cl_Equations : ClsD K "Equations" C_Equations
  na_Equations__divisor : NoAttr K C_Equations "_divisor"
  na_Equations__many : NoAttr K C_Equations "_many"
  na_Equations__rows : NoAttr K C_Equations "_rows"
  na_Equations__signs : NoAttr K C_Equations "_signs"
  na_Equations__size : NoAttr K C_Equations "_size"
  na_Equations__told : NoAttr K C_Equations "_told"
  mk_Equations : Mk K C_Equations f_Equations___init__
  mt_Equations__pivot : Meth K C_Equations "_pivot" f_Equations__pivot
  mt_Equations__take_marks_out : Meth K C_Equations "_take_marks_out" f_Equations__take_marks_out
  mt_Equations__entering : Meth K C_Equations "_entering" f_Equations__entering
  mt_Equations__is_sooner : Meth K C_Equations "_is_sooner" f_Equations__is_sooner
  mt_Equations__leaving : Meth K C_Equations "_leaving" f_Equations__leaving
  mt_Equations__lower : Meth K C_Equations "_lower" f_Equations__lower
  mt_Equations_cheapen : Meth K C_Equations "cheapen" f_Equations_cheapen
  mt_Equations_reach : Meth K C_Equations "reach" f_Equations_reach
  mt_Equations_shares : Meth K C_Equations "shares" f_Equations_shares
  mt_Equations_dearest_row : Meth K C_Equations "dearest_row" f_Equations_dearest_row
  mt_Equations_row_against : Meth K C_Equations "row_against" f_Equations_row_against
  bl_law : ∀ s u, BindsTo s fd_law ⟨[u], []⟩ [("script", u)]
  m_abs : mg "abs" = none
  m_bool : mg "bool" = none
  m_enumerate : mg "enumerate" = none
  m_int : mg "int" = none
  m_isinstance : mg "isinstance" = none
  m_len : mg "len" = none
  m_list : mg "list" = none
  m_range : mg "range" = none
  m_repr : mg "repr" = none
  m_sum : mg "sum" = none
  m_tuple : mg "tuple" = none
  m_zip : mg "zip" = none
  m_gcd : mg "gcd" = some (.builtin "math.gcd")
abbrev eo0 : XK → ER := fun _ => noEr
section
variable {P : Program} {w : World} {K : PySem.W.Frag} {mg : Str → Option Value} {base : Heap}
theorem dv__law_bag (T : Top K mg) : FnD P w K mg base CX0 eo0 1 T.f__law_bag T.fd__law_bag ["script"] F__law_bag :=
  fnD_of T.fn__law_bag sc__law_bag fun cdv hcode A outer s H E hr hg => SSs.nox (
    ss_one (ss_ret (se_lst (sa_cons (se_int) (sa_cons (se_int) (sa_cons (se_int) (sa_cons (se_lc [("cell", 1)] rfl sc__law_bag.nd (si_seq (se_slice (se_var 0) (so_none) (so_some (se_int)))) (blkOk_by (by kernel_rfl)) (fun _ _ _ _ _ => svi_one (sv_name 1 sc__law_bag.nd)) (fun _ _ _ _ _ => sts_nil) (fun _ _ _ _ _ => se_callB call_abs rc_abs absG_calm (by rfl) T.m_abs (by decide +kernel) (sa_cons (se_var 1) (sa_nil)))) (sa_nil))))))))
theorem dv__law_take (T : Top K mg) : FnD P w K mg base CX0 eo0 1 T.f__law_take T.fd__law_take ["bag", "many"] F__law_take :=
  fnD_of T.fn__law_take sc__law_take fun cdv hcode A outer s H E hr hg => SSs.nox (
    ss_cons (ss_if (st_cmp (op_eqN (u128 hr)) ro_eq (eqG_calm false) (se_ix (u128 hr) (se_var 0) (se_int)) (se_int)) (ss_cons (ss_set 2 sc__law_take.nd (se_ix (u128 hr) (se_bin op_addA ro_add addG_calm (se_slice (se_ix (u128 hr) (se_var 0) (se_int)) (so_some (se_ix (u128 hr) (se_var 0) (se_int))) (so_none)) (se_lst (sa_cons (se_int) (sa_nil)))) (se_int))) (ss_cons (ss_augS (u128 hr) ip_addI ro_addI addI_calm (se_var 0) (se_int) (se_int)) (ss_cons (ss_if (st_cmp op_ge ro_cmp (cmpG_calm _) (se_var 2) (se_bin op_pow ro_pow powG_calm (se_int) (se_int))) (ss_one (ss_asg (se_var 2) (sg_sub (u128 hr) (se_var 0) (se_int)))) (ss_nil)) (ss_cons (ss_set 3 sc__law_take.nd (se_bin op_addA ro_add addG_calm (se_bin op_addA ro_add addG_calm (se_bin op_mulA ro_mul mulG_calm (se_ix (u128 hr) (se_var 0) (se_int)) (se_int)) (se_bin op_mod ro_mod modG_calm (se_callTy call_int1 rc_int intG_calm (by rfl) T.m_int (by decide +kernel) (sa_cons (se_var 2) (sa_nil))) (se_int))) (se_bin op_mulA ro_mul mulG_calm (se_int) (se_ix (u128 hr) (se_var 0) (se_int))))) (ss_one (ss_asg (se_bin op_mod ro_mod modG_calm (se_callTy call_int1 rc_int intG_calm (by rfl) T.m_int (by decide +kernel) (sa_cons (se_var 3) (sa_nil))) (se_int)) (sg_sub (u128 hr) (se_var 0) (se_int)))))))) (ss_nil)) (ss_cons (ss_if (st_cmp op_gt ro_cmp (cmpG_calm _) (se_ix (u128 hr) (se_var 0) (se_int)) (se_int)) (ss_cons (ss_set 4 sc__law_take.nd (se_bin op_mod ro_mod modG_calm (se_callTy call_int1 rc_int intG_calm (by rfl) T.m_int (by decide +kernel) (sa_cons (se_ix (u128 hr) (se_var 0) (se_int)) (sa_nil))) (se_var 1))) (ss_cons (ss_asg (se_bin op_fdivW ro_fdiv fdivG_calm (se_callTy call_int1 rc_int intG_calm (by rfl) T.m_int (by decide +kernel) (sa_cons (se_ix (u128 hr) (se_var 0) (se_int)) (sa_nil))) (se_var 1)) (sg_sub (u128 hr) (se_var 0) (se_int))) (ss_one (ss_ret (se_var 4))))) (ss_nil)) (ss_cons (ss_set 5 sc__law_take.nd (se_bin op_mod ro_mod modG_calm (se_callTy call_int1 rc_int intG_calm (by rfl) T.m_int (by decide +kernel) (sa_cons (se_bin op_mulA ro_mul mulG_calm (se_bin op_addA ro_add addG_calm (se_ix (u128 hr) (se_var 0) (se_int)) (se_int)) (se_int)) (sa_nil))) (se_int))) (ss_cons (ss_set 6 sc__law_take.nd (se_bin op_mod ro_mod modG_calm (se_callTy call_int1 rc_int intG_calm (by rfl) T.m_int (by decide +kernel) (sa_cons (se_bin op_mulA ro_mul mulG_calm (se_bin op_mod ro_mod modG_calm (se_callTy call_int1 rc_int intG_calm (by rfl) T.m_int (by decide +kernel) (sa_cons (se_bin op_mulA ro_mul mulG_calm (se_var 5) (se_var 5)) (sa_nil))) (se_int)) (se_int)) (sa_nil))) (se_int))) (ss_one (ss_ret (se_bin op_mod ro_mod modG_calm (se_callTy call_int1 rc_int intG_calm (by rfl) T.m_int (by decide +kernel) (sa_cons (se_bin op_fdivW ro_fdiv fdivG_calm (se_var 6) (se_int)) (sa_nil))) (se_var 1))))))))
theorem dv__law_one (T : Top K mg) : FnD P w K mg base CX0 eo0 2 T.f__law_one T.fd__law_one ["bag", "things"] F__law_one :=
  fnD_of T.fn__law_one sc__law_one fun cdv hcode A outer s H E hr hg => SSs.nox (
    ss_one (ss_ret (se_ix (u128 hr) (se_var 1) (se_call 2 (dv__law_take T) hg (hr.mono (by decide)) (by rfl) T.g__law_take T.fn__law_take.kp T.bn__law_take pass0 (fun _ _ _ _ _ h => h) (sa_cons (se_var 0) (sa_cons (se_callB call_len rc_len lenG_calm (by rfl) T.m_len (by decide +kernel) (sa_cons (se_var 1) (sa_nil))) (sa_nil))) (len_cons (len_cons len_nil)) rfl))))
theorem dv_unit_row (T : Top K mg) : FnD P w K mg base CX0 eo0 1 T.f_unit_row T.fd_unit_row ["size", "place"] F_unit_row :=
  fnD_of T.fn_unit_row sc_unit_row fun cdv hcode A outer s H E hr hg => SSs.nox (
    ss_one (ss_ret (se_callTy call_tupleZ rc_tuple tupleG_calm (by rfl) T.m_tuple (by decide +kernel) (sa_cons (se_lc [("at", 2)] rfl sc_unit_row.nd (si_r1 (by rfl) T.m_range (sa_cons (se_var 0) (sa_nil))) (blkOk_by (by kernel_rfl)) (fun _ _ _ _ _ => svi_one (sv_name 2 sc_unit_row.nd)) (fun _ _ _ _ _ => sts_nil) (fun _ _ _ _ _ => se_if (st_cmp (op_eqN (u128 hr)) ro_eq (eqG_calm false) (se_var 2) (se_var 1)) (se_int) (se_int))) (sa_nil)))))
theorem dv_Equations___init__ (T : Top K mg) : FnD P w K mg base CX0 eo0 2 T.f_Equations___init__ T.fd_Equations___init__ ["self", "columns", "goal", "costs"] F_Equations___init__ :=
  fnD_of T.fn_Equations___init__ sc_Equations___init__ fun cdv hcode A outer s H E hr hg => SSs.nox (
    ss_cons (ss_fld (se_var 0) (se_callB call_len rc_len lenG_calm (by rfl) T.m_len (by decide +kernel) (sa_cons (se_var 1) (sa_nil))) T.cl_Equations T.na_Equations__many) (ss_cons (ss_fld (se_var 0) (se_callB call_len rc_len lenG_calm (by rfl) T.m_len (by decide +kernel) (sa_cons (se_var 2) (sa_nil))) T.cl_Equations T.na_Equations__size) (ss_cons (ss_fld (se_var 0) (se_int) T.cl_Equations T.na_Equations__divisor) (ss_cons (ss_fld (se_var 0) (se_lc [("item", 9)] rfl sc_Equations___init__.nd (si_seq (se_var 2)) (blkOk_by (by kernel_rfl)) (fun _ _ _ _ _ => svi_one (sv_name 9 sc_Equations___init__.nd)) (fun _ _ _ _ _ => sts_nil) (fun _ _ _ _ _ => se_if (st_cmp op_lt ro_cmp (cmpG_calm _) (se_var 9) (se_int)) (se_neg (se_int)) (se_int))) T.cl_Equations T.na_Equations__signs) (ss_cons (ss_fld (se_var 0) (se_lc [("at", 4)] rfl sc_Equations___init__.nd (si_r1 (by rfl) T.m_range (sa_cons (se_fld (se_var 0) T.cl_Equations T.na_Equations__size) (sa_nil))) (blkOk_by (by kernel_rfl)) (fun _ _ _ _ _ => svi_one (sv_name 4 sc_Equations___init__.nd)) (fun _ _ _ _ _ => sts_nil) (fun _ _ _ _ _ => se_bin op_addA ro_add addG_calm (se_fld (se_var 0) T.cl_Equations T.na_Equations__many) (se_var 4))) T.cl_Equations T.na_Equations__told) (ss_cons (ss_fld (se_var 0) (se_lst (sa_nil)) T.cl_Equations T.na_Equations__rows) (ss_cons (ss_for PassesOwn.never rfl (si_enum (by rfl) T.m_enumerate (sa_cons (se_fld (se_var 0) T.cl_Equations T.na_Equations__signs) (sa_nil))) (sgi_pair rfl (sgs_cons (sg_name 4 sc_Equations___init__.nd) (sgs_cons (sg_name 5 sc_Equations___init__.nd) (sgs_nil)))) (ss_cons (ss_set 6 sc_Equations___init__.nd (se_callTy call_list_of rc_list listG_calm (by rfl) T.m_list (by decide +kernel) (sa_cons (se_call 2 (dv_unit_row T) hg (hr.mono (by decide)) (by rfl) T.g_unit_row T.fn_unit_row.kp T.bn_unit_row pass0 (fun _ _ _ _ _ h => h) (sa_cons (se_fld (se_var 0) T.cl_Equations T.na_Equations__size) (sa_cons (se_var 4) (sa_nil))) (len_cons (len_cons len_nil)) rfl) (sa_nil)))) (ss_one (ss_expr (se_meth PySem.F.plainAttrs_list PySem.F.slot_list_append PySem.F.type_list_append mt_append rm_append appendG_calm (se_fld (se_var 0) T.cl_Equations T.na_Equations__rows) (sa_cons (se_bin op_addA ro_add addG_calm (se_bin op_addA ro_add addG_calm (se_lc [("column", 10)] rfl sc_Equations___init__.nd (si_seq (se_var 1)) (blkOk_by (by kernel_rfl)) (fun _ _ _ _ _ => svi_one (sv_name 10 sc_Equations___init__.nd)) (fun _ _ _ _ _ => sts_nil) (fun _ _ _ _ _ => se_bin op_mulA ro_mul mulG_calm (se_var 5) (se_ix (u128 hr) (se_var 10) (se_var 4)))) (se_var 6)) (se_lst (sa_cons (se_bin op_mulA ro_mul mulG_calm (se_var 5) (se_ix (u128 hr) (se_var 2) (se_var 4))) (sa_nil)))) (sa_nil))))))) (ss_cons (ss_setLc 7 [("at", 4)] rfl sc_Equations___init__.nd (si_r1 (by rfl) T.m_range (sa_cons (se_fld (se_var 0) T.cl_Equations T.na_Equations__many) (sa_nil))) (blkOk_by (by kernel_rfl)) (sw_true rfl rfl rfl (by decide +kernel)) (fun _ _ _ _ _ => svi_one (sv_name 4 sc_Equations___init__.nd)) (fun _ _ _ _ _ => sts_nil) (fun _ _ _ _ _ => se_neg (se_callB (cr_sum rfl) rc_sum sumG_calm (by rfl) T.m_sum (by decide +kernel) (sa_cons (se_lc [("row", 11)] rfl sc_Equations___init__.nd (si_seq (se_fld (se_var 0) T.cl_Equations T.na_Equations__rows)) (blkOk_by (by kernel_rfl)) (fun _ _ _ _ _ => svi_one (sv_name 11 sc_Equations___init__.nd)) (fun _ _ _ _ _ => sts_nil) (fun _ _ _ _ _ => se_ix (u128 hr) (se_var 11) (se_var 4))) (sa_nil))))) (ss_cons (ss_set 8 sc_Equations___init__.nd (se_neg (se_callB (cr_sum rfl) rc_sum sumG_calm (by rfl) T.m_sum (by decide +kernel) (sa_cons (se_lc [("row", 11)] rfl sc_Equations___init__.nd (si_seq (se_fld (se_var 0) T.cl_Equations T.na_Equations__rows)) (blkOk_by (by kernel_rfl)) (fun _ _ _ _ _ => svi_one (sv_name 11 sc_Equations___init__.nd)) (fun _ _ _ _ _ => sts_nil) (fun _ _ _ _ _ => se_ix (u128 hr) (se_var 11) (se_neg (se_int)))) (sa_nil))))) (ss_cons (ss_expr (se_meth PySem.F.plainAttrs_list PySem.F.slot_list_append PySem.F.type_list_append mt_append rm_append appendG_calm (se_fld (se_var 0) T.cl_Equations T.na_Equations__rows) (sa_cons (se_bin op_addA ro_add addG_calm (se_callTy call_list_of rc_list listG_calm (by rfl) T.m_list (by decide +kernel) (sa_cons (se_var 3) (sa_nil))) (se_bin op_mulA ro_mul mulG_calm (se_lst (sa_cons (se_int) (sa_nil))) (se_bin op_addA ro_add addG_calm (se_fld (se_var 0) T.cl_Equations T.na_Equations__size) (se_int)))) (sa_nil)))) (ss_one (ss_expr (se_meth PySem.F.plainAttrs_list PySem.F.slot_list_append PySem.F.type_list_append mt_append rm_append appendG_calm (se_fld (se_var 0) T.cl_Equations T.na_Equations__rows) (sa_cons (se_bin op_addA ro_add addG_calm (se_bin op_addA ro_add addG_calm (se_var 7) (se_bin op_mulA ro_mul mulG_calm (se_lst (sa_cons (se_int) (sa_nil))) (se_fld (se_var 0) T.cl_Equations T.na_Equations__size))) (se_lst (sa_cons (se_var 8) (sa_nil)))) (sa_nil)))))))))))))))
theorem dv_negated (T : Top K mg) : FnD P w K mg base CX0 eo0 1 T.f_negated T.fd_negated ["row"] F_negated :=
  fnD_of T.fn_negated sc_negated fun cdv hcode A outer s H E hr hg => SSs.nox (
    ss_one (ss_ret (se_callTy call_tupleZ rc_tuple tupleG_calm (by rfl) T.m_tuple (by decide +kernel) (sa_cons (se_lc [("item", 1)] rfl sc_negated.nd (si_seq (se_var 0)) (blkOk_by (by kernel_rfl)) (fun _ _ _ _ _ => svi_one (sv_name 1 sc_negated.nd)) (fun _ _ _ _ _ => sts_nil) (fun _ _ _ _ _ => se_neg (se_var 1))) (sa_nil)))))
theorem dv_Equations__pivot (T : Top K mg) : FnD P w K mg base CX0 eo0 2 T.f_Equations__pivot T.fd_Equations__pivot ["self", "at", "column"] F_Equations__pivot :=
  fnD_of T.fn_Equations__pivot sc_Equations__pivot fun cdv hcode A outer s H E hr hg => SSs.nox (
    ss_cons (ss_set 3 sc_Equations__pivot.nd (se_ix (u128 hr) (se_fld (se_var 0) T.cl_Equations T.na_Equations__rows) (se_var 1))) (ss_cons (ss_if (st_cmp op_lt ro_cmp (cmpG_calm _) (se_ix (u128 hr) (se_var 3) (se_var 2)) (se_int)) (ss_one (ss_set 3 sc_Equations__pivot.nd (se_call 1 (dv_negated T) hg (hr.mono (by decide)) (by rfl) T.g_negated T.fn_negated.kp T.bn_negated pass0 (fun _ _ _ _ _ h => h) (sa_cons (se_var 3) (sa_nil)) (len_cons len_nil) rfl))) (ss_nil)) (ss_cons (ss_set 4 sc_Equations__pivot.nd (se_ix (u128 hr) (se_var 3) (se_var 2))) (ss_cons (ss_set 5 sc_Equations__pivot.nd (se_lst (sa_nil))) (ss_cons (ss_for PassesOwn.never rfl (si_seq (se_fld (se_var 0) T.cl_Equations T.na_Equations__rows)) (sgi_one (sg_name 6 sc_Equations__pivot.nd)) (ss_cons (ss_set 7 sc_Equations__pivot.nd (se_ix (u128 hr) (se_var 6) (se_var 2))) (ss_one (ss_expr (se_meth PySem.F.plainAttrs_list PySem.F.slot_list_append PySem.F.type_list_append mt_append rm_append appendG_calm (se_var 5) (sa_cons (se_lc [("item", 8), ("led", 9)] rfl sc_Equations__pivot.nd (si_zip (by rfl) T.m_zip (sa_cons (se_var 6) (sa_cons (se_var 3) (sa_nil)))) (blkOk_by (by kernel_rfl)) (fun _ _ _ _ _ => svi_pair rfl (svs_cons (sv_name 8 sc_Equations__pivot.nd) (svs_cons (sv_name 9 sc_Equations__pivot.nd) (svs_nil)))) (fun _ _ _ _ _ => sts_nil) (fun _ _ _ _ _ => se_bin op_fdivW ro_fdiv fdivG_calm (se_bin op_sub ro_sub subG_calm (se_bin op_mulA ro_mul mulG_calm (se_var 8) (se_var 4)) (se_bin op_mulA ro_mul mulG_calm (se_var 7) (se_var 9))) (se_fld (se_var 0) T.cl_Equations T.na_Equations__divisor))) (sa_nil))))))) (ss_cons (ss_asg (se_var 3) (sg_sub (u128 hr) (se_var 5) (se_var 1))) (ss_cons (ss_fld (se_var 0) (se_var 5) T.cl_Equations T.na_Equations__rows) (ss_cons (ss_fld (se_var 0) (se_var 4) T.cl_Equations T.na_Equations__divisor) (ss_one (ss_asg (se_var 2) (sg_sub (u128 hr) (se_fld (se_var 0) T.cl_Equations T.na_Equations__told) (se_var 1))))))))))))
theorem dv_Equations__take_marks_out (T : Top K mg) : FnD P w K mg base CX0 eo0 3 T.f_Equations__take_marks_out T.fd_Equations__take_marks_out ["self"] F_Equations__take_marks_out :=
  fnD_of T.fn_Equations__take_marks_out sc_Equations__take_marks_out fun cdv hcode A outer s H E hr hg => SSs.nox (
    ss_one (ss_for PassesOwn.never rfl (si_r1 (by rfl) T.m_range (sa_cons (se_fld (se_var 0) T.cl_Equations T.na_Equations__size) (sa_nil))) (sgi_one (sg_name 1 sc_Equations__take_marks_out.nd)) (ss_cons (ss_setLc 2 [("column", 3)] rfl sc_Equations__take_marks_out.nd (si_r1 (by rfl) T.m_range (sa_cons (se_fld (se_var 0) T.cl_Equations T.na_Equations__many) (sa_nil))) (blkOk_by (by kernel_rfl)) (sw_true rfl rfl rfl (by decide +kernel)) (fun _ _ _ _ _ => svi_one (sv_name 3 sc_Equations__take_marks_out.nd)) (fun _ _ _ _ _ => sts_one (st_cmp (op_neN (u128 hr)) ro_eq (eqG_calm true) (se_ix (u128 hr) (se_ix (u128 hr) (se_fld (se_var 0) T.cl_Equations T.na_Equations__rows) (se_var 1)) (se_var 3)) (se_int))) (fun _ _ _ _ _ => se_var 3)) (ss_one (ss_if (SW.st (sw_and (st_cmp op_ge ro_cmp (cmpG_calm _) (se_ix (u128 hr) (se_fld (se_var 0) T.cl_Equations T.na_Equations__told) (se_var 1)) (se_fld (se_var 0) T.cl_Equations T.na_Equations__many)) (sw_and1 (st_truth (se_var 2))))) (ss_one (ss_expr (se_methC 2 (se_var 0) T.cl_Equations T.mt_Equations__pivot (dv_Equations__pivot T) hg (hr.mono (by decide)) T.bn_Equations__pivot pass0 (fun _ _ _ _ _ h => h) (sa_cons (se_var 1) (sa_cons (se_ix (u128 hr) (se_var 2) (se_int)) (sa_nil))) (len_cons (len_cons len_nil)) rfl))) (ss_nil))))))
theorem dv_Equations__entering (T : Top K mg) : FnD P w K mg base CX0 eo0 1 T.f_Equations__entering T.fd_Equations__entering ["self", "at"] F_Equations__entering :=
  fnD_of T.fn_Equations__entering sc_Equations__entering fun cdv hcode A outer s H E hr hg => SSs.nox (
    ss_cons (ss_for PassesOwn.never rfl (si_r1 (by rfl) T.m_range (sa_cons (se_fld (se_var 0) T.cl_Equations T.na_Equations__many) (sa_nil))) (sgi_one (sg_name 2 sc_Equations__entering.nd)) (ss_one (ss_if (st_cmp op_lt ro_cmp (cmpG_calm _) (se_ix (u128 hr) (se_ix (u128 hr) (se_fld (se_var 0) T.cl_Equations T.na_Equations__rows) (se_var 1)) (se_var 2)) (se_int)) (ss_one (ss_ret (se_var 2))) (ss_nil)))) (ss_one (ss_ret (se_non))))
theorem dv_Equations__is_sooner (T : Top K mg) : FnD P w K mg base CX0 eo0 1 T.f_Equations__is_sooner T.fd_Equations__is_sooner ["self", "at", "other", "column"] F_Equations__is_sooner :=
  fnD_of T.fn_Equations__is_sooner sc_Equations__is_sooner fun cdv hcode A outer s H E hr hg => SSs.nox (
    ss_cons (ss_set 4 sc_Equations__is_sooner.nd (se_bin op_mulA ro_mul mulG_calm (se_ix (u128 hr) (se_ix (u128 hr) (se_fld (se_var 0) T.cl_Equations T.na_Equations__rows) (se_var 1)) (se_neg (se_int))) (se_ix (u128 hr) (se_ix (u128 hr) (se_fld (se_var 0) T.cl_Equations T.na_Equations__rows) (se_var 2)) (se_var 3)))) (ss_cons (ss_set 5 sc_Equations__is_sooner.nd (se_bin op_mulA ro_mul mulG_calm (se_ix (u128 hr) (se_ix (u128 hr) (se_fld (se_var 0) T.cl_Equations T.na_Equations__rows) (se_var 2)) (se_neg (se_int))) (se_ix (u128 hr) (se_ix (u128 hr) (se_fld (se_var 0) T.cl_Equations T.na_Equations__rows) (se_var 1)) (se_var 3)))) (ss_cons (ss_if (st_cmp (op_eqN (u128 hr)) ro_eq (eqG_calm false) (se_var 4) (se_var 5)) (ss_one (ss_ret (se_cmp op_lt ro_cmp (cmpG_calm _) (se_ix (u128 hr) (se_fld (se_var 0) T.cl_Equations T.na_Equations__told) (se_var 1)) (se_ix (u128 hr) (se_fld (se_var 0) T.cl_Equations T.na_Equations__told) (se_var 2))))) (ss_nil)) (ss_one (ss_ret (se_cmp op_lt ro_cmp (cmpG_calm _) (se_var 4) (se_var 5)))))))
theorem dv_Equations__leaving (T : Top K mg) : FnD P w K mg base CX0 eo0 2 T.f_Equations__leaving T.fd_Equations__leaving ["self", "column"] F_Equations__leaving :=
  fnD_of T.fn_Equations__leaving sc_Equations__leaving fun cdv hcode A outer s H E hr hg => SSs.nox (
    ss_cons (ss_set 2 sc_Equations__leaving.nd (se_non)) (ss_cons (ss_for PassesOwn.never rfl (si_r1 (by rfl) T.m_range (sa_cons (se_fld (se_var 0) T.cl_Equations T.na_Equations__size) (sa_nil))) (sgi_one (sg_name 3 sc_Equations__leaving.nd)) (ss_one (ss_if (SW.st (sw_and (st_cmp op_gt ro_cmp (cmpG_calm _) (se_ix (u128 hr) (se_ix (u128 hr) (se_fld (se_var 0) T.cl_Equations T.na_Equations__rows) (se_var 3)) (se_var 1)) (se_int)) (sw_and1 (SW.st (sw_or (st_isN (se_var 2)) (sw_or1 (st_val (se_methC 3 (se_var 0) T.cl_Equations T.mt_Equations__is_sooner (dv_Equations__is_sooner T) hg (hr.mono (by decide)) T.bn_Equations__is_sooner pass0 (fun _ _ _ _ _ h => h) (sa_cons (se_var 3) (sa_cons (se_var 2) (sa_cons (se_var 1) (sa_nil)))) (len_cons (len_cons (len_cons len_nil))) rfl)))))))) (ss_one (ss_set 2 sc_Equations__leaving.nd (se_var 3))) (ss_nil)))) (ss_one (ss_ret (se_var 2)))))
theorem dv_Equations__lower (T : Top K mg) : FnD P w K mg base CX0 eo0 3 T.f_Equations__lower T.fd_Equations__lower ["self", "at"] F_Equations__lower :=
  fnD_of T.fn_Equations__lower sc_Equations__lower fun cdv hcode A outer s H E hr hg => SSs.nox (
    ss_cons (ss_set 2 sc_Equations__lower.nd (se_methC 1 (se_var 0) T.cl_Equations T.mt_Equations__entering (dv_Equations__entering T) hg (hr.mono (by decide)) T.bn_Equations__entering pass0 (fun _ _ _ _ _ h => h) (sa_cons (se_var 1) (sa_nil)) (len_cons len_nil) rfl)) (ss_one (ss_while PassesOwn.never (st_notN (se_var 2)) (ss_cons (ss_expr (se_methC 2 (se_var 0) T.cl_Equations T.mt_Equations__pivot (dv_Equations__pivot T) hg (hr.mono (by decide)) T.bn_Equations__pivot pass0 (fun _ _ _ _ _ h => h) (sa_cons (se_methC 1 (se_var 0) T.cl_Equations T.mt_Equations__leaving (dv_Equations__leaving T) hg (hr.mono (by decide)) T.bn_Equations__leaving pass0 (fun _ _ _ _ _ h => h) (sa_cons (se_var 2) (sa_nil)) (len_cons len_nil) rfl) (sa_cons (se_var 2) (sa_nil))) (len_cons (len_cons len_nil)) rfl)) (ss_one (ss_set 2 sc_Equations__lower.nd (se_methC 1 (se_var 0) T.cl_Equations T.mt_Equations__entering (dv_Equations__entering T) hg (hr.mono (by decide)) T.bn_Equations__entering pass0 (fun _ _ _ _ _ h => h) (sa_cons (se_var 1) (sa_nil)) (len_cons len_nil) rfl)))))))
theorem dv_Equations_cheapen (T : Top K mg) : FnD P w K mg base CX0 eo0 4 T.f_Equations_cheapen T.fd_Equations_cheapen ["self"] F_Equations_cheapen :=
  fnD_of T.fn_Equations_cheapen sc_Equations_cheapen fun cdv hcode A outer s H E hr hg => SSs.nox (
    ss_cons (ss_expr (se_methC0 (se_var 0) T.cl_Equations T.mt_Equations__take_marks_out (dv_Equations__take_marks_out T) hg (hr.mono (by decide)) T.bn_Equations__take_marks_out pass0 (fun _ _ _ _ _ h => h) rfl)) (ss_one (ss_expr (se_methC 1 (se_var 0) T.cl_Equations T.mt_Equations__lower (dv_Equations__lower T) hg (hr.mono (by decide)) T.bn_Equations__lower pass0 (fun _ _ _ _ _ h => h) (sa_cons (se_fld (se_var 0) T.cl_Equations T.na_Equations__size) (sa_nil)) (len_cons len_nil) rfl))))
theorem dv_Equations_reach (T : Top K mg) : FnD P w K mg base CX0 eo0 4 T.f_Equations_reach T.fd_Equations_reach ["self"] F_Equations_reach :=
  fnD_of T.fn_Equations_reach sc_Equations_reach fun cdv hcode A outer s H E hr hg => SSs.nox (
    ss_cons (ss_expr (se_methC 1 (se_var 0) T.cl_Equations T.mt_Equations__lower (dv_Equations__lower T) hg (hr.mono (by decide)) T.bn_Equations__lower pass0 (fun _ _ _ _ _ h => h) (sa_cons (se_bin op_addA ro_add addG_calm (se_fld (se_var 0) T.cl_Equations T.na_Equations__size) (se_int)) (sa_nil)) (len_cons len_nil) rfl)) (ss_one (ss_ret (se_cmp (op_eqN (u128 hr)) ro_eq (eqG_calm false) (se_ix (u128 hr) (se_ix (u128 hr) (se_fld (se_var 0) T.cl_Equations T.na_Equations__rows) (se_neg (se_int))) (se_neg (se_int))) (se_int)))))
theorem dv__cheapest (T : Top K mg) : FnD P w K mg base CX0 eo0 5 T.f__cheapest T.fd__cheapest ["columns", "goal", "costs"] F__cheapest :=
  fnD_of T.fn__cheapest sc__cheapest fun cdv hcode A outer s H E hr hg => SSs.nox (
    ss_cons (ss_set 3 sc__cheapest.nd (se_make 3 T.ns_Equations T.mk_Equations (dv_Equations___init__ T) hg (hr.mono (by decide)) (by rfl) T.g_Equations T.bn_Equations___init__ pass0 (fun _ _ _ _ _ h => h) (sa_cons (se_var 0) (sa_cons (se_var 1) (sa_cons (se_var 2) (sa_nil)))) (len_cons (len_cons (len_cons len_nil))) rfl)) (ss_cons (ss_if (st_not (st_val (se_methC0 (se_var 3) T.cl_Equations T.mt_Equations_reach (dv_Equations_reach T) hg (hr.mono (by decide)) T.bn_Equations_reach pass0 (fun _ _ _ _ _ h => h) rfl))) (ss_one (ss_ret (se_non))) (ss_nil)) (ss_cons (ss_expr (se_methC0 (se_var 3) T.cl_Equations T.mt_Equations_cheapen (dv_Equations_cheapen T) hg (hr.mono (by decide)) T.bn_Equations_cheapen pass0 (fun _ _ _ _ _ h => h) rfl)) (ss_one (ss_ret (se_var 3))))))
theorem dv_lowest_terms (T : Top K mg) : FnD P w K mg base CX0 eo0 1 T.f_lowest_terms T.fd_lowest_terms ["num", "den"] F_lowest_terms :=
  fnD_of T.fn_lowest_terms sc_lowest_terms fun cdv hcode A outer s H E hr hg => SSs.nox (
    ss_cons (ss_set 2 sc_lowest_terms.nd (se_callF cr_gcd rc_gcd gcdG_calm (by rfl) T.m_gcd (sa_cons (se_var 0) (sa_cons (se_var 1) (sa_nil))))) (ss_one (ss_ret (se_tup (sa_cons (se_bin op_fdivW ro_fdiv fdivG_calm (se_var 0) (se_var 2)) (sa_cons (se_bin op_fdivW ro_fdiv fdivG_calm (se_var 1) (se_var 2)) (sa_nil)))))))
theorem dv_Equations_shares (T : Top K mg) : FnD P w K mg base CX0 eo0 2 T.f_Equations_shares T.fd_Equations_shares ["self"] F_Equations_shares :=
  fnD_of T.fn_Equations_shares sc_Equations_shares fun cdv hcode A outer s H E hr hg => SSs.nox (
    ss_cons (ss_set 1 sc_Equations_shares.nd (se_bin op_mulA ro_mul mulG_calm (se_lst (sa_cons (se_tup (sa_cons (se_int) (sa_cons (se_int) (sa_nil)))) (sa_nil))) (se_fld (se_var 0) T.cl_Equations T.na_Equations__many))) (ss_cons (ss_for PassesOwn.never rfl (si_zip (by rfl) T.m_zip (sa_cons (se_fld (se_var 0) T.cl_Equations T.na_Equations__rows) (sa_cons (se_fld (se_var 0) T.cl_Equations T.na_Equations__told) (sa_nil)))) (sgi_pair rfl (sgs_cons (sg_name 2 sc_Equations_shares.nd) (sgs_cons (sg_name 3 sc_Equations_shares.nd) (sgs_nil)))) (ss_one (ss_if (st_cmp op_lt ro_cmp (cmpG_calm _) (se_var 3) (se_fld (se_var 0) T.cl_Equations T.na_Equations__many)) (ss_one (ss_asg (se_call 2 (dv_lowest_terms T) hg (hr.mono (by decide)) (by rfl) T.g_lowest_terms T.fn_lowest_terms.kp T.bn_lowest_terms pass0 (fun _ _ _ _ _ h => h) (sa_cons (se_ix (u128 hr) (se_var 2) (se_neg (se_int))) (sa_cons (se_fld (se_var 0) T.cl_Equations T.na_Equations__divisor) (sa_nil))) (len_cons (len_cons len_nil)) rfl) (sg_sub (u128 hr) (se_var 1) (se_var 3)))) (ss_nil)))) (ss_one (ss_ret (se_callTy call_tupleZ rc_tuple tupleG_calm (by rfl) T.m_tuple (by decide +kernel) (sa_cons (se_var 1) (sa_nil)))))))
theorem dv_least_shares (T : Top K mg) : FnD P w K mg base CX0 eo0 6 T.f_least_shares T.fd_least_shares ["columns", "goal", "costs"] F_least_shares :=
  fnD_of T.fn_least_shares sc_least_shares fun cdv hcode A outer s H E hr hg => SSs.nox (
    ss_cons (ss_set 3 sc_least_shares.nd (se_call 3 (dv__cheapest T) hg (hr.mono (by decide)) (by rfl) T.g__cheapest T.fn__cheapest.kp T.bn__cheapest pass0 (fun _ _ _ _ _ h => h) (sa_cons (se_var 0) (sa_cons (se_var 1) (sa_cons (se_var 2) (sa_nil)))) (len_cons (len_cons (len_cons len_nil))) rfl)) (ss_cons (ss_if (st_isN (se_var 3)) (ss_one (ss_ret (se_non))) (ss_nil)) (ss_one (ss_ret (se_methC0 (se_var 3) T.cl_Equations T.mt_Equations_shares (dv_Equations_shares T) hg (hr.mono (by decide)) T.bn_Equations_shares pass0 (fun _ _ _ _ _ h => h) rfl)))))
theorem dv_common_divisor (T : Top K mg) : FnD P w K mg base CX0 eo0 1 T.f_common_divisor T.fd_common_divisor ["row"] F_common_divisor :=
  fnD_of T.fn_common_divisor sc_common_divisor fun cdv hcode A outer s H E hr hg => SSs.nox (
    ss_cons (ss_set 1 sc_common_divisor.nd (se_int)) (ss_cons (ss_for PassesOwn.never rfl (si_seq (se_var 0)) (sgi_one (sg_name 2 sc_common_divisor.nd)) (ss_one (ss_set 1 sc_common_divisor.nd (se_callF cr_gcd rc_gcd gcdG_calm (by rfl) T.m_gcd (sa_cons (se_var 1) (sa_cons (se_var 2) (sa_nil))))))) (ss_one (ss_ret (se_var 1)))))
theorem dv_prime_row (T : Top K mg) : FnD P w K mg base CX0 eo0 2 T.f_prime_row T.fd_prime_row ["row"] F_prime_row :=
  fnD_of T.fn_prime_row sc_prime_row fun cdv hcode A outer s H E hr hg => SSs.nox (
    ss_cons (ss_set 1 sc_prime_row.nd (se_call 1 (dv_common_divisor T) hg (hr.mono (by decide)) (by rfl) T.g_common_divisor T.fn_common_divisor.kp T.bn_common_divisor pass0 (fun _ _ _ _ _ h => h) (sa_cons (se_var 0) (sa_nil)) (len_cons len_nil) rfl)) (ss_one (ss_ret (se_callTy call_tupleZ rc_tuple tupleG_calm (by rfl) T.m_tuple (by decide +kernel) (sa_cons (se_lc [("item", 2)] rfl sc_prime_row.nd (si_seq (se_var 0)) (blkOk_by (by kernel_rfl)) (fun _ _ _ _ _ => svi_one (sv_name 2 sc_prime_row.nd)) (fun _ _ _ _ _ => sts_nil) (fun _ _ _ _ _ => se_bin op_fdivW ro_fdiv fdivG_calm (se_var 2) (se_var 1))) (sa_nil))))))
theorem dv_Equations_dearest_row (T : Top K mg) : FnD P w K mg base CX0 eo0 3 T.f_Equations_dearest_row T.fd_Equations_dearest_row ["self"] F_Equations_dearest_row :=
  fnD_of T.fn_Equations_dearest_row sc_Equations_dearest_row fun cdv hcode A outer s H E hr hg => SSs.nox (
    ss_cons (ss_set 1 sc_Equations_dearest_row.nd (se_slice (se_ix (u128 hr) (se_fld (se_var 0) T.cl_Equations T.na_Equations__rows) (se_fld (se_var 0) T.cl_Equations T.na_Equations__size)) (so_some (se_fld (se_var 0) T.cl_Equations T.na_Equations__many)) (so_some (se_neg (se_int))))) (ss_cons (ss_setLc 2 [("sign", 5), ("item", 6)] rfl sc_Equations_dearest_row.nd (si_zip (by rfl) T.m_zip (sa_cons (se_fld (se_var 0) T.cl_Equations T.na_Equations__signs) (sa_cons (se_var 1) (sa_nil)))) (blkOk_by (by kernel_rfl)) (sw_true rfl rfl rfl (by decide +kernel)) (fun _ _ _ _ _ => svi_pair rfl (svs_cons (sv_name 5 sc_Equations_dearest_row.nd) (svs_cons (sv_name 6 sc_Equations_dearest_row.nd) (svs_nil)))) (fun _ _ _ _ _ => sts_nil) (fun _ _ _ _ _ => se_bin op_mulA ro_mul mulG_calm (se_neg (se_var 5)) (se_var 6))) (ss_cons (ss_asg (se_call 1 (dv_prime_row T) hg (hr.mono (by decide)) (by rfl) T.g_prime_row T.fn_prime_row.kp T.bn_prime_row pass0 (fun _ _ _ _ _ h => h) (sa_cons (se_bin op_addA ro_add addG_calm (se_lst (sa_cons (se_fld (se_var 0) T.cl_Equations T.na_Equations__divisor) (sa_nil))) (se_var 2)) (sa_nil)) (len_cons len_nil) rfl) (sg_star rfl (sgs_cons (sg_name 3 sc_Equations_dearest_row.nd) (sgs_cons (sg_name 4 sc_Equations_dearest_row.nd) (sgs_nil))))) (ss_one (ss_ret (se_tup (sa_cons (se_var 3) (sa_cons (se_callTy call_tupleZ rc_tuple tupleG_calm (by rfl) T.m_tuple (by decide +kernel) (sa_cons (se_var 4) (sa_nil))) (sa_nil)))))))))
theorem dv_dearest_row (T : Top K mg) : FnD P w K mg base CX0 eo0 6 T.f_dearest_row T.fd_dearest_row ["columns", "goal", "costs"] F_dearest_row :=
  fnD_of T.fn_dearest_row sc_dearest_row fun cdv hcode A outer s H E hr hg => SSs.nox (
    ss_cons (ss_set 3 sc_dearest_row.nd (se_call 3 (dv__cheapest T) hg (hr.mono (by decide)) (by rfl) T.g__cheapest T.fn__cheapest.kp T.bn__cheapest pass0 (fun _ _ _ _ _ h => h) (sa_cons (se_var 0) (sa_cons (se_var 1) (sa_cons (se_var 2) (sa_nil)))) (len_cons (len_cons (len_cons len_nil))) rfl)) (ss_cons (ss_if (st_isN (se_var 3)) (ss_one (ss_ret (se_non))) (ss_nil)) (ss_one (ss_ret (se_methC0 (se_var 3) T.cl_Equations T.mt_Equations_dearest_row (dv_Equations_dearest_row T) hg (hr.mono (by decide)) T.bn_Equations_dearest_row pass0 (fun _ _ _ _ _ h => h) rfl)))))
theorem dv__law_any_row (T : Top K mg) : FnD P w K mg base CX0 eo0 3 T.f__law_any_row T.fd__law_any_row ["bag", "size"] F__law_any_row :=
  fnD_of T.fn__law_any_row sc__law_any_row fun cdv hcode A outer s H E hr hg => SSs.nox (
    ss_cons (ss_set 2 sc__law_any_row.nd (se_call 2 (dv__law_one T) hg (hr.mono (by decide)) (by rfl) T.g__law_one T.fn__law_one.kp T.bn__law_one pass0 (fun _ _ _ _ _ h => h) (sa_cons (se_var 0) (sa_cons (se_lst (sa_cons (se_lst (sa_cons (se_int) (sa_cons (se_int) (sa_cons (se_neg (se_int)) (sa_nil))))) (sa_cons (se_lst (sa_cons (se_int) (sa_cons (se_int) (sa_cons (se_int) (sa_cons (se_neg (se_int)) (sa_cons (se_int) (sa_cons (se_neg (se_int)) (sa_nil)))))))) (sa_cons (se_lst (sa_cons (se_int) (sa_cons (se_int) (sa_cons (se_int) (sa_cons (se_int) (sa_nil)))))) (sa_cons (se_lst (sa_cons (se_neg (se_int)) (sa_cons (se_neg (se_int)) (sa_cons (se_neg (se_int)) (sa_cons (se_int) (sa_cons (se_int) (sa_cons (se_int) (sa_cons (se_int) (sa_nil))))))))) (sa_cons (se_lst (sa_cons (se_int) (sa_cons (se_bin op_pow ro_pow powG_calm (se_int) (se_int)) (sa_cons (se_bin op_sub ro_sub subG_calm (se_neg (se_bin op_pow ro_pow powG_calm (se_int) (se_int))) (se_int)) (sa_cons (se_int) (sa_nil)))))) (sa_nil))))))) (sa_nil))) (len_cons (len_cons len_nil)) rfl)) (ss_one (ss_ret (se_callTy call_tupleZ rc_tuple tupleG_calm (by rfl) T.m_tuple (by decide +kernel) (sa_cons (se_lc [("k", 3)] rfl sc__law_any_row.nd (si_r1 (by rfl) T.m_range (sa_cons (se_var 1) (sa_nil))) (blkOk_by (by kernel_rfl)) (fun _ _ _ _ _ => svi_one (sv_name 3 sc__law_any_row.nd)) (fun _ _ _ _ _ => sts_nil) (fun _ _ _ _ _ => se_call 2 (dv__law_one T) hg (hr.mono (by decide)) (by rfl) T.g__law_one T.fn__law_one.kp T.bn__law_one pass0 (fun _ _ _ _ _ h => h) (sa_cons (se_var 0) (sa_cons (se_var 2) (sa_nil))) (len_cons (len_cons len_nil)) rfl)) (sa_nil))))))
theorem dv__law_made_goal (T : Top K mg) : FnD P w K mg base CX0 eo0 4 T.f__law_made_goal T.fd__law_made_goal ["bag", "columns", "size"] F__law_made_goal :=
  fnD_of T.fn__law_made_goal sc__law_made_goal fun cdv hcode A outer s H E hr hg => SSs.nox (
    ss_cons (ss_if (SW.st (sw_or (st_cmp (op_eqN (u128 hr)) ro_eq (eqG_calm false) (se_var 1) (se_tup (sa_nil))) (sw_or1 (st_cmp (op_eqN (u128 hr)) ro_eq (eqG_calm false) (se_call 2 (dv__law_take T) hg (hr.mono (by decide)) (by rfl) T.g__law_take T.fn__law_take.kp T.bn__law_take pass0 (fun _ _ _ _ _ h => h) (sa_cons (se_var 0) (sa_cons (se_int) (sa_nil))) (len_cons (len_cons len_nil)) rfl) (se_int))))) (ss_one (ss_ret (se_call 2 (dv__law_any_row T) hg (hr.mono (by decide)) (by rfl) T.g__law_any_row T.fn__law_any_row.kp T.bn__law_any_row pass0 (fun _ _ _ _ _ h => h) (sa_cons (se_var 0) (sa_cons (se_var 2) (sa_nil))) (len_cons (len_cons len_nil)) rfl))) (ss_nil)) (ss_cons (ss_set 3 sc__law_made_goal.nd (se_lc [("column", 4)] rfl sc__law_made_goal.nd (si_seq (se_var 1)) (blkOk_by (by kernel_rfl)) (fun _ _ _ _ _ => svi_one (sv_name 4 sc__law_made_goal.nd)) (fun _ _ _ _ _ => sts_nil) (fun _ _ _ _ _ => se_call 2 (dv__law_one T) hg (hr.mono (by decide)) (by rfl) T.g__law_one T.fn__law_one.kp T.bn__law_one pass0 (fun _ _ _ _ _ h => h) (sa_cons (se_var 0) (sa_cons (se_lst (sa_cons (se_int) (sa_cons (se_int) (sa_cons (se_int) (sa_cons (se_int) (sa_cons (se_int) (sa_nil))))))) (sa_nil))) (len_cons (len_cons len_nil)) rfl))) (ss_one (ss_ret (se_callTy call_tupleZ rc_tuple tupleG_calm (by rfl) T.m_tuple (by decide +kernel) (sa_cons (se_lc [("k", 5)] rfl sc__law_made_goal.nd (si_r1 (by rfl) T.m_range (sa_cons (se_var 2) (sa_nil))) (blkOk_by (by kernel_rfl)) (fun _ _ _ _ _ => svi_one (sv_name 5 sc__law_made_goal.nd)) (fun _ _ _ _ _ => sts_nil) (fun _ _ _ _ _ => se_callB (cr_sum rfl) rc_sum sumG_calm (by rfl) T.m_sum (by decide +kernel) (sa_cons (se_lc [("many", 6), ("column", 4)] rfl sc__law_made_goal.nd (si_zip (by rfl) T.m_zip (sa_cons (se_var 3) (sa_cons (se_var 1) (sa_nil)))) (blkOk_by (by kernel_rfl)) (fun _ _ _ _ _ => svi_pair rfl (svs_cons (sv_name 6 sc__law_made_goal.nd) (svs_cons (sv_name 4 sc__law_made_goal.nd) (svs_nil)))) (fun _ _ _ _ _ => sts_nil) (fun _ _ _ _ _ => se_bin op_mulA ro_mul mulG_calm (se_var 6) (se_ix (u128 hr) (se_var 4) (se_var 5)))) (sa_nil)))) (sa_nil)))))))
theorem dv__law_gcd (T : Top K mg) : FnD P w K mg base CX0 eo0 1 T.f__law_gcd T.fd__law_gcd ["one", "other"] F__law_gcd :=
  fnD_of T.fn__law_gcd sc__law_gcd fun cdv hcode A outer s H E hr hg => SSs.nox (
    ss_cons (ss_par2 0 1 rfl sc__law_gcd.nd (sa_cons (se_callB call_abs rc_abs absG_calm (by rfl) T.m_abs (by decide +kernel) (sa_cons (se_var 0) (sa_nil))) (sa_cons (se_callB call_abs rc_abs absG_calm (by rfl) T.m_abs (by decide +kernel) (sa_cons (se_var 1) (sa_nil))) (sa_nil)))) (ss_cons (ss_while PassesOwn.never (st_cmp op_gt ro_cmp (cmpG_calm _) (se_var 1) (se_int)) (ss_one (ss_par2 0 1 rfl sc__law_gcd.nd (sa_cons (se_var 1) (sa_cons (se_bin op_sub ro_sub subG_calm (se_var 0) (se_bin op_mulA ro_mul mulG_calm (se_bin op_fdivW ro_fdiv fdivG_calm (se_var 0) (se_var 1)) (se_var 1))) (sa_nil)))))) (ss_one (ss_ret (se_var 0)))))
theorem dv__law_den_of (T : Top K mg) : FnD P w K mg base CX0 eo0 2 T.f__law_den_of T.fd__law_den_of ["shares"] F__law_den_of :=
  fnD_of T.fn__law_den_of sc__law_den_of fun cdv hcode A outer s H E hr hg => SSs.nox (
    ss_cons (ss_set 1 sc__law_den_of.nd (se_int)) (ss_cons (ss_for PassesOwn.never rfl (si_seq (se_var 0)) (sgi_one (sg_name 2 sc__law_den_of.nd)) (ss_one (ss_set 1 sc__law_den_of.nd (se_bin op_mulA ro_mul mulG_calm (se_var 1) (se_bin op_fdivW ro_fdiv fdivG_calm (se_ix (u128 hr) (se_var 2) (se_int)) (se_call 2 (dv__law_gcd T) hg (hr.mono (by decide)) (by rfl) T.g__law_gcd T.fn__law_gcd.kp T.bn__law_gcd pass0 (fun _ _ _ _ _ h => h) (sa_cons (se_var 1) (sa_cons (se_ix (u128 hr) (se_var 2) (se_int)) (sa_nil))) (len_cons (len_cons len_nil)) rfl)))))) (ss_one (ss_ret (se_var 1)))))
theorem dv__law_is_whole (T : Top K mg) : FnD P w K mg base CX0 eo0 1 T.f__law_is_whole T.fd__law_is_whole ["thing"] F__law_is_whole :=
  fnD_of T.fn__law_is_whole sc__law_is_whole fun cdv hcode A outer s H E hr hg => SSs.nox (
    ss_one (ss_ret (se_and (se_isi (by rfl) T.m_isinstance (by rfl) T.m_int (by decide +kernel) (se_var 0)) (se_one (se_not (se_isi (by rfl) T.m_isinstance (by rfl) T.m_bool (by decide +kernel) (se_var 0)))))))
theorem dv__law_is_row (T : Top K mg) : FnD P w K mg base CX0 eo0 2 T.f__law_is_row T.fd__law_is_row ["thing", "size"] F__law_is_row :=
  fnD_of T.fn__law_is_row sc__law_is_row fun cdv hcode A outer s H E hr hg => SSs.nox (
    ss_one (ss_ret (se_and (se_isi (by rfl) T.m_isinstance (by rfl) T.m_tuple (by decide +kernel) (se_var 0)) (se_and (se_cmp (op_eqN (u128 hr)) ro_eq (eqG_calm false) (se_callB call_len rc_len lenG_calm (by rfl) T.m_len (by decide +kernel) (sa_cons (se_var 0) (sa_nil))) (se_var 1)) (se_one (se_cmp (op_eqN (u128 hr)) ro_eq (eqG_calm false) (se_lc [("item", 2)] rfl sc__law_is_row.nd (si_seq (se_var 0)) (blkOk_by (by kernel_rfl)) (fun _ _ _ _ _ => svi_one (sv_name 2 sc__law_is_row.nd)) (fun _ _ _ _ _ => sts_one (st_not (st_val (se_call 1 (dv__law_is_whole T) hg (hr.mono (by decide)) (by rfl) T.g__law_is_whole T.fn__law_is_whole.kp T.bn__law_is_whole pass0 (fun _ _ _ _ _ h => h) (sa_cons (se_var 2) (sa_nil)) (len_cons len_nil) rfl)))) (fun _ _ _ _ _ => se_var 2)) (se_lst (sa_nil))))))))
theorem dv__law_are_shares (T : Top K mg) : FnD P w K mg base CX0 eo0 3 T.f__law_are_shares T.fd__law_are_shares ["thing", "many"] F__law_are_shares :=
  fnD_of T.fn__law_are_shares sc__law_are_shares fun cdv hcode A outer s H E hr hg => SSs.nox (
    ss_cons (ss_if (SW.st (sw_or (st_not (st_val (se_isi (by rfl) T.m_isinstance (by rfl) T.m_tuple (by decide +kernel) (se_var 0)))) (sw_or1 (st_cmp (op_neN (u128 hr)) ro_eq (eqG_calm true) (se_callB call_len rc_len lenG_calm (by rfl) T.m_len (by decide +kernel) (sa_cons (se_var 0) (sa_nil))) (se_var 1))))) (ss_one (ss_ret (se_bl))) (ss_nil)) (ss_cons (ss_for PassesOwn.never rfl (si_seq (se_var 0)) (sgi_one (sg_name 2 sc__law_are_shares.nd)) (ss_one (ss_if (SW.st (sw_or (st_not (st_val (se_call 2 (dv__law_is_row T) hg (hr.mono (by decide)) (by rfl) T.g__law_is_row T.fn__law_is_row.kp T.bn__law_is_row pass0 (fun _ _ _ _ _ h => h) (sa_cons (se_var 2) (sa_cons (se_int) (sa_nil))) (len_cons (len_cons len_nil)) rfl))) (sw_or (st_cmp op_lt ro_cmp (cmpG_calm _) (se_ix (u128 hr) (se_var 2) (se_int)) (se_int)) (sw_or (st_cmp op_lt ro_cmp (cmpG_calm _) (se_ix (u128 hr) (se_var 2) (se_int)) (se_int)) (sw_or1 (st_cmp (op_neN (u128 hr)) ro_eq (eqG_calm true) (se_call 2 (dv__law_gcd T) hg (hr.mono (by decide)) (by rfl) T.g__law_gcd T.fn__law_gcd.kp T.bn__law_gcd pass0 (fun _ _ _ _ _ h => h) (sa_cons (se_ix (u128 hr) (se_var 2) (se_int)) (sa_cons (se_ix (u128 hr) (se_var 2) (se_int)) (sa_nil))) (len_cons (len_cons len_nil)) rfl) (se_int))))))) (ss_one (ss_ret (se_bl))) (ss_nil)))) (ss_one (ss_ret (se_bl)))))
theorem dv__law_is_shared (T : Top K mg) : FnD P w K mg base CX0 eo0 4 T.f__law_is_shared T.fd__law_is_shared ["columns", "goal", "thing"] F__law_is_shared :=
  fnD_of T.fn__law_is_shared sc__law_is_shared fun cdv hcode A outer s H E hr hg => SSs.nox (
    ss_cons (ss_if (st_not (st_val (se_call 2 (dv__law_are_shares T) hg (hr.mono (by decide)) (by rfl) T.g__law_are_shares T.fn__law_are_shares.kp T.bn__law_are_shares pass0 (fun _ _ _ _ _ h => h) (sa_cons (se_var 2) (sa_cons (se_callB call_len rc_len lenG_calm (by rfl) T.m_len (by decide +kernel) (sa_cons (se_var 0) (sa_nil))) (sa_nil))) (len_cons (len_cons len_nil)) rfl))) (ss_one (ss_ret (se_bl))) (ss_nil)) (ss_cons (ss_set 3 sc__law_is_shared.nd (se_call 1 (dv__law_den_of T) hg (hr.mono (by decide)) (by rfl) T.g__law_den_of T.fn__law_den_of.kp T.bn__law_den_of pass0 (fun _ _ _ _ _ h => h) (sa_cons (se_var 2) (sa_nil)) (len_cons len_nil) rfl)) (ss_cons (ss_set 4 sc__law_is_shared.nd (se_lc [("part", 5)] rfl sc__law_is_shared.nd (si_seq (se_var 2)) (blkOk_by (by kernel_rfl)) (fun _ _ _ _ _ => svi_one (sv_name 5 sc__law_is_shared.nd)) (fun _ _ _ _ _ => sts_nil) (fun _ _ _ _ _ => se_bin op_mulA ro_mul mulG_calm (se_ix (u128 hr) (se_var 5) (se_int)) (se_bin op_fdivW ro_fdiv fdivG_calm (se_var 3) (se_ix (u128 hr) (se_var 5) (se_int)))))) (ss_one (ss_ret (se_cmp (op_eqN (u128 hr)) ro_eq (eqG_calm false) (se_lc [("k", 6)] rfl sc__law_is_shared.nd (si_r1 (by rfl) T.m_range (sa_cons (se_callB call_len rc_len lenG_calm (by rfl) T.m_len (by decide +kernel) (sa_cons (se_var 1) (sa_nil))) (sa_nil))) (blkOk_by (by kernel_rfl)) (fun _ _ _ _ _ => svi_one (sv_name 6 sc__law_is_shared.nd)) (fun _ _ _ _ _ => sts_one (st_cmp (op_neN (u128 hr)) ro_eq (eqG_calm true) (se_callB (cr_sum rfl) rc_sum sumG_calm (by rfl) T.m_sum (by decide +kernel) (sa_cons (se_lc [("many", 7), ("column", 8)] rfl sc__law_is_shared.nd (si_zip (by rfl) T.m_zip (sa_cons (se_var 4) (sa_cons (se_var 0) (sa_nil)))) (blkOk_by (by kernel_rfl)) (fun _ _ _ _ _ => svi_pair rfl (svs_cons (sv_name 7 sc__law_is_shared.nd) (svs_cons (sv_name 8 sc__law_is_shared.nd) (svs_nil)))) (fun _ _ _ _ _ => sts_nil) (fun _ _ _ _ _ => se_bin op_mulA ro_mul mulG_calm (se_var 7) (se_ix (u128 hr) (se_var 8) (se_var 6)))) (sa_nil))) (se_bin op_mulA ro_mul mulG_calm (se_var 3) (se_ix (u128 hr) (se_var 1) (se_var 6))))) (fun _ _ _ _ _ => se_var 6)) (se_lst (sa_nil))))))))
theorem dv__law_product (T : Top K mg) : FnD P w K mg base CX0 eo0 1 T.f__law_product T.fd__law_product ["one", "other"] F__law_product :=
  fnD_of T.fn__law_product sc__law_product fun cdv hcode A outer s H E hr hg => SSs.nox (
    ss_one (ss_ret (se_callB (cr_sum rfl) rc_sum sumG_calm (by rfl) T.m_sum (by decide +kernel) (sa_cons (se_lc [("mine", 2), ("its", 3)] rfl sc__law_product.nd (si_zip (by rfl) T.m_zip (sa_cons (se_var 0) (sa_cons (se_var 1) (sa_nil)))) (blkOk_by (by kernel_rfl)) (fun _ _ _ _ _ => svi_pair rfl (svs_cons (sv_name 2 sc__law_product.nd) (svs_cons (sv_name 3 sc__law_product.nd) (svs_nil)))) (fun _ _ _ _ _ => sts_nil) (fun _ _ _ _ _ => se_bin op_mulA ro_mul mulG_calm (se_var 2) (se_var 3))) (sa_nil)))))
theorem dv__law_is_least (T : Top K mg) : FnD P w K mg base CX0 eo0 5 T.f__law_is_least T.fd__law_is_least ["columns", "goal", "costs", "shares", "dear"] F__law_is_least :=
  fnD_of T.fn__law_is_least sc__law_is_least fun cdv hcode A outer s H E hr hg => SSs.nox (
    ss_cons (ss_if (st_not (st_val (se_call 3 (dv__law_is_shared T) hg (hr.mono (by decide)) (by rfl) T.g__law_is_shared T.fn__law_is_shared.kp T.bn__law_is_shared pass0 (fun _ _ _ _ _ h => h) (sa_cons (se_var 0) (sa_cons (se_var 1) (sa_cons (se_var 3) (sa_nil)))) (len_cons (len_cons (len_cons len_nil))) rfl))) (ss_one (ss_ret (se_bl))) (ss_nil)) (ss_cons (ss_if (SW.st (sw_or (st_not (st_val (se_isi (by rfl) T.m_isinstance (by rfl) T.m_tuple (by decide +kernel) (se_var 4)))) (sw_or (st_cmp (op_neN (u128 hr)) ro_eq (eqG_calm true) (se_callB call_len rc_len lenG_calm (by rfl) T.m_len (by decide +kernel) (sa_cons (se_var 4) (sa_nil))) (se_int)) (sw_or (st_not (st_val (se_call 1 (dv__law_is_whole T) hg (hr.mono (by decide)) (by rfl) T.g__law_is_whole T.fn__law_is_whole.kp T.bn__law_is_whole pass0 (fun _ _ _ _ _ h => h) (sa_cons (se_ix (u128 hr) (se_var 4) (se_int)) (sa_nil)) (len_cons len_nil) rfl))) (sw_or1 (st_cmp op_lt ro_cmp (cmpG_calm _) (se_ix (u128 hr) (se_var 4) (se_int)) (se_int))))))) (ss_one (ss_ret (se_bl))) (ss_nil)) (ss_cons (ss_asg (se_var 4) (sg_tup rfl (sgs_cons (sg_name 5 sc__law_is_least.nd) (sgs_cons (sg_name 6 sc__law_is_least.nd) (sgs_nil))))) (ss_cons (ss_if (st_not (st_val (se_call 2 (dv__law_is_row T) hg (hr.mono (by decide)) (by rfl) T.g__law_is_row T.fn__law_is_row.kp T.bn__law_is_row pass0 (fun _ _ _ _ _ h => h) (sa_cons (se_var 6) (sa_cons (se_callB call_len rc_len lenG_calm (by rfl) T.m_len (by decide +kernel) (sa_cons (se_var 1) (sa_nil))) (sa_nil))) (len_cons (len_cons len_nil)) rfl))) (ss_one (ss_ret (se_bl))) (ss_nil)) (ss_cons (ss_if (st_cmp (op_neN (u128 hr)) ro_eq (eqG_calm true) (se_lc [("column", 9), ("cost", 10)] rfl sc__law_is_least.nd (si_zip (by rfl) T.m_zip (sa_cons (se_var 0) (sa_cons (se_var 2) (sa_nil)))) (blkOk_by (by kernel_rfl)) (fun _ _ _ _ _ => svi_pair rfl (svs_cons (sv_name 9 sc__law_is_least.nd) (svs_cons (sv_name 10 sc__law_is_least.nd) (svs_nil)))) (fun _ _ _ _ _ => sts_one (st_cmp op_gt ro_cmp (cmpG_calm _) (se_call 2 (dv__law_product T) hg (hr.mono (by decide)) (by rfl) T.g__law_product T.fn__law_product.kp T.bn__law_product pass0 (fun _ _ _ _ _ h => h) (sa_cons (se_var 9) (sa_cons (se_var 6) (sa_nil))) (len_cons (len_cons len_nil)) rfl) (se_bin op_mulA ro_mul mulG_calm (se_var 5) (se_var 10)))) (fun _ _ _ _ _ => se_var 10)) (se_lst (sa_nil))) (ss_one (ss_ret (se_bl))) (ss_nil)) (ss_cons (ss_set 7 sc__law_is_least.nd (se_call 1 (dv__law_den_of T) hg (hr.mono (by decide)) (by rfl) T.g__law_den_of T.fn__law_den_of.kp T.bn__law_den_of pass0 (fun _ _ _ _ _ h => h) (sa_cons (se_var 3) (sa_nil)) (len_cons len_nil) rfl)) (ss_cons (ss_set 8 sc__law_is_least.nd (se_callB (cr_sum rfl) rc_sum sumG_calm (by rfl) T.m_sum (by decide +kernel) (sa_cons (se_lc [("part", 11), ("cost", 10)] rfl sc__law_is_least.nd (si_zip (by rfl) T.m_zip (sa_cons (se_var 3) (sa_cons (se_var 2) (sa_nil)))) (blkOk_by (by kernel_rfl)) (fun _ _ _ _ _ => svi_pair rfl (svs_cons (sv_name 11 sc__law_is_least.nd) (svs_cons (sv_name 10 sc__law_is_least.nd) (svs_nil)))) (fun _ _ _ _ _ => sts_nil) (fun _ _ _ _ _ => se_bin op_mulA ro_mul mulG_calm (se_bin op_mulA ro_mul mulG_calm (se_ix (u128 hr) (se_var 11) (se_int)) (se_bin op_fdivW ro_fdiv fdivG_calm (se_var 7) (se_ix (u128 hr) (se_var 11) (se_int)))) (se_var 10))) (sa_nil)))) (ss_one (ss_ret (se_cmp (op_eqN (u128 hr)) ro_eq (eqG_calm false) (se_bin op_mulA ro_mul mulG_calm (se_call 2 (dv__law_product T) hg (hr.mono (by decide)) (by rfl) T.g__law_product T.fn__law_product.kp T.bn__law_product pass0 (fun _ _ _ _ _ h => h) (sa_cons (se_var 6) (sa_cons (se_var 1) (sa_nil))) (len_cons (len_cons len_nil)) rfl) (se_var 7)) (se_bin op_mulA ro_mul mulG_calm (se_var 5) (se_var 8))))))))))))
theorem dv__law_alike (T : Top K mg) : FnD P w K mg base CX0 eo0 1 T.f__law_alike T.fd__law_alike ["found", "due"] F__law_alike :=
  fnD_of T.fn__law_alike sc__law_alike fun cdv hcode A outer s H E hr hg => SSs.nox (
    ss_one (ss_ret (se_and (se_cmp (op_eqN (u128 hr)) ro_eq (eqG_calm false) (se_var 0) (se_var 1)) (se_one (se_cmp (op_eqN (u128 hr)) ro_eq (eqG_calm false) (se_callB (call_repr hg hr.units) rc_repr reprG_calm (by rfl) T.m_repr (by decide +kernel) (sa_cons (se_var 0) (sa_nil))) (se_callB (call_repr hg hr.units) rc_repr reprG_calm (by rfl) T.m_repr (by decide +kernel) (sa_cons (se_var 1) (sa_nil))))))))
theorem dv__law_bars (T : Top K mg) : FnD P w K mg base CX0 eo0 3 T.f__law_bars T.fd__law_bars ["columns", "goal", "thing"] F__law_bars :=
  fnD_of T.fn__law_bars sc__law_bars fun cdv hcode A outer s H E hr hg => SSs.nox (
    ss_cons (ss_if (SW.st (sw_or (st_not (st_val (se_call 2 (dv__law_is_row T) hg (hr.mono (by decide)) (by rfl) T.g__law_is_row T.fn__law_is_row.kp T.bn__law_is_row pass0 (fun _ _ _ _ _ h => h) (sa_cons (se_var 2) (sa_cons (se_callB call_len rc_len lenG_calm (by rfl) T.m_len (by decide +kernel) (sa_cons (se_var 1) (sa_nil))) (sa_nil))) (len_cons (len_cons len_nil)) rfl))) (sw_or1 (st_cmp (op_neN (u128 hr)) ro_eq (eqG_calm true) (se_lc [("column", 3)] rfl sc__law_bars.nd (si_seq (se_var 0)) (blkOk_by (by kernel_rfl)) (fun _ _ _ _ _ => svi_one (sv_name 3 sc__law_bars.nd)) (fun _ _ _ _ _ => sts_one (st_cmp op_gt ro_cmp (cmpG_calm _) (se_call 2 (dv__law_product T) hg (hr.mono (by decide)) (by rfl) T.g__law_product T.fn__law_product.kp T.bn__law_product pass0 (fun _ _ _ _ _ h => h) (sa_cons (se_var 3) (sa_cons (se_var 2) (sa_nil))) (len_cons (len_cons len_nil)) rfl) (se_int))) (fun _ _ _ _ _ => se_var 3)) (se_lst (sa_nil)))))) (ss_one (ss_ret (se_bl))) (ss_nil)) (ss_one (ss_ret (se_cmp op_gt ro_cmp (cmpG_calm _) (se_call 2 (dv__law_product T) hg (hr.mono (by decide)) (by rfl) T.g__law_product T.fn__law_product.kp T.bn__law_product pass0 (fun _ _ _ _ _ h => h) (sa_cons (se_var 1) (sa_cons (se_var 2) (sa_nil))) (len_cons (len_cons len_nil)) rfl) (se_int)))))
theorem dv_Equations_row_against (T : Top K mg) : FnD P w K mg base CX0 eo0 3 T.f_Equations_row_against T.fd_Equations_row_against ["self"] F_Equations_row_against :=
  fnD_of T.fn_Equations_row_against sc_Equations_row_against fun cdv hcode A outer s H E hr hg => SSs.nox (
    ss_cons (ss_set 1 sc_Equations_row_against.nd (se_slice (se_ix (u128 hr) (se_fld (se_var 0) T.cl_Equations T.na_Equations__rows) (se_neg (se_int))) (so_some (se_fld (se_var 0) T.cl_Equations T.na_Equations__many)) (so_some (se_neg (se_int))))) (ss_one (ss_ret (se_call 1 (dv_prime_row T) hg (hr.mono (by decide)) (by rfl) T.g_prime_row T.fn_prime_row.kp T.bn_prime_row pass0 (fun _ _ _ _ _ h => h) (sa_cons (se_lc [("sign", 2), ("item", 3)] rfl sc_Equations_row_against.nd (si_zip (by rfl) T.m_zip (sa_cons (se_fld (se_var 0) T.cl_Equations T.na_Equations__signs) (sa_cons (se_var 1) (sa_nil)))) (blkOk_by (by kernel_rfl)) (fun _ _ _ _ _ => svi_pair rfl (svs_cons (sv_name 2 sc_Equations_row_against.nd) (svs_cons (sv_name 3 sc_Equations_row_against.nd) (svs_nil)))) (fun _ _ _ _ _ => sts_nil) (fun _ _ _ _ _ => se_bin op_mulA ro_mul mulG_calm (se_var 2) (se_bin op_sub ro_sub subG_calm (se_fld (se_var 0) T.cl_Equations T.na_Equations__divisor) (se_var 3)))) (sa_nil)) (len_cons len_nil) rfl))))
theorem dv_row_against (T : Top K mg) : FnD P w K mg base CX0 eo0 5 T.f_row_against T.fd_row_against ["columns", "goal"] F_row_against :=
  fnD_of T.fn_row_against sc_row_against fun cdv hcode A outer s H E hr hg => SSs.nox (
    ss_cons (ss_set 2 sc_row_against.nd (se_make 3 T.ns_Equations T.mk_Equations (dv_Equations___init__ T) hg (hr.mono (by decide)) (by rfl) T.g_Equations T.bn_Equations___init__ pass0 (fun _ _ _ _ _ h => h) (sa_cons (se_var 0) (sa_cons (se_var 1) (sa_cons (se_bin op_mulA ro_mul mulG_calm (se_tup (sa_cons (se_int) (sa_nil))) (se_callB call_len rc_len lenG_calm (by rfl) T.m_len (by decide +kernel) (sa_cons (se_var 0) (sa_nil)))) (sa_nil)))) (len_cons (len_cons (len_cons len_nil))) rfl)) (ss_cons (ss_if (st_val (se_methC0 (se_var 2) T.cl_Equations T.mt_Equations_reach (dv_Equations_reach T) hg (hr.mono (by decide)) T.bn_Equations_reach pass0 (fun _ _ _ _ _ h => h) rfl)) (ss_one (ss_ret (se_non))) (ss_nil)) (ss_one (ss_ret (se_methC0 (se_var 2) T.cl_Equations T.mt_Equations_row_against (dv_Equations_row_against T) hg (hr.mono (by decide)) T.bn_Equations_row_against pass0 (fun _ _ _ _ _ h => h) rfl)))))
theorem dv_law (T : Top K mg) : FnD P w K mg base CX0 eo0 7 T.f_law T.fd_law ["script"] F_law :=
  fnD_of T.fn_law sc_law fun cdv hcode A outer s H E hr hg => SSs.nox (
    ss_cons (ss_asg (se_tup (sa_cons (se_call 1 (dv__law_bag T) hg (hr.mono (by decide)) (by rfl) T.g__law_bag T.fn__law_bag.kp T.bn__law_bag pass0 (fun _ _ _ _ _ h => h) (sa_cons (se_var 0) (sa_nil)) (len_cons len_nil) rfl) (sa_cons (se_lst (sa_nil)) (sa_nil)))) (sg_tup rfl (sgs_cons (sg_name 1 sc_law.nd) (sgs_cons (sg_name 2 sc_law.nd) (sgs_nil))))) (ss_cons (ss_for PassesOwn.never rfl (si_r1 (by rfl) T.m_range (sa_cons (se_int) (sa_nil))) (sgi_one (sg_name 3 sc_law.nd)) (ss_cons (ss_set 4 sc_law.nd (se_call 2 (dv__law_one T) hg (hr.mono (by decide)) (by rfl) T.g__law_one T.fn__law_one.kp T.bn__law_one pass0 (fun _ _ _ _ _ h => h) (sa_cons (se_var 1) (sa_cons (se_lst (sa_cons (se_int) (sa_cons (se_int) (sa_cons (se_int) (sa_cons (se_int) (sa_cons (se_int) (sa_cons (se_int) (sa_nil)))))))) (sa_nil))) (len_cons (len_cons len_nil)) rfl)) (ss_cons (ss_set 5 sc_law.nd (se_callTy call_tupleZ rc_tuple tupleG_calm (by rfl) T.m_tuple (by decide +kernel) (sa_cons (se_lc [("k", 13)] rfl sc_law.nd (si_r1 (by rfl) T.m_range (sa_cons (se_call 2 (dv__law_one T) hg (hr.mono (by decide)) (by rfl) T.g__law_one T.fn__law_one.kp T.bn__law_one pass0 (fun _ _ _ _ _ h => h) (sa_cons (se_var 1) (sa_cons (se_lst (sa_cons (se_int) (sa_cons (se_int) (sa_cons (se_int) (sa_cons (se_int) (sa_cons (se_int) (sa_cons (se_int) (sa_nil)))))))) (sa_nil))) (len_cons (len_cons len_nil)) rfl) (sa_nil))) (blkOk_by (by kernel_rfl)) (fun _ _ _ _ _ => svi_one (sv_name 13 sc_law.nd)) (fun _ _ _ _ _ => sts_nil) (fun _ _ _ _ _ => se_call 2 (dv__law_any_row T) hg (hr.mono (by decide)) (by rfl) T.g__law_any_row T.fn__law_any_row.kp T.bn__law_any_row pass0 (fun _ _ _ _ _ h => h) (sa_cons (se_var 1) (sa_cons (se_var 4) (sa_nil))) (len_cons (len_cons len_nil)) rfl)) (sa_nil)))) (ss_cons (ss_set 6 sc_law.nd (se_call 2 (dv__law_one T) hg (hr.mono (by decide)) (by rfl) T.g__law_one T.fn__law_one.kp T.bn__law_one pass0 (fun _ _ _ _ _ h => h) (sa_cons (se_var 1) (sa_cons (se_lst (sa_cons (se_lst (sa_cons (se_int) (sa_cons (se_int) (sa_cons (se_int) (sa_cons (se_int) (sa_nil)))))) (sa_cons (se_lst (sa_cons (se_int) (sa_nil))) (sa_cons (se_lst (sa_cons (se_int) (sa_nil))) (sa_cons (se_lst (sa_cons (se_int) (sa_cons (se_int) (sa_cons (se_bin op_pow ro_pow powG_calm (se_int) (se_int)) (sa_nil))))) (sa_nil)))))) (sa_nil))) (len_cons (len_cons len_nil)) rfl)) (ss_one (ss_expr (se_meth PySem.F.plainAttrs_list PySem.F.slot_list_append PySem.F.type_list_append mt_append rm_append appendG_calm (se_var 2) (sa_cons (se_tup (sa_cons (se_var 5) (sa_cons (se_call 3 (dv__law_made_goal T) hg (hr.mono (by decide)) (by rfl) T.g__law_made_goal T.fn__law_made_goal.kp T.bn__law_made_goal pass0 (fun _ _ _ _ _ h => h) (sa_cons (se_var 1) (sa_cons (se_var 5) (sa_cons (se_var 4) (sa_nil)))) (len_cons (len_cons (len_cons len_nil))) rfl) (sa_cons (se_callTy call_tupleZ rc_tuple tupleG_calm (by rfl) T.m_tuple (by decide +kernel) (sa_cons (se_lc [("column", 14)] rfl sc_law.nd (si_seq (se_var 5)) (blkOk_by (by kernel_rfl)) (fun _ _ _ _ _ => svi_one (sv_name 14 sc_law.nd)) (fun _ _ _ _ _ => sts_nil) (fun _ _ _ _ _ => se_call 2 (dv__law_one T) hg (hr.mono (by decide)) (by rfl) T.g__law_one T.fn__law_one.kp T.bn__law_one pass0 (fun _ _ _ _ _ h => h) (sa_cons (se_var 1) (sa_cons (se_var 6) (sa_nil))) (len_cons (len_cons len_nil)) rfl)) (sa_nil))) (sa_nil))))) (sa_nil))))))))) (ss_cons (ss_for PassesOwn.never rfl (si_seq (se_bin op_addA ro_add addG_calm (se_var 2) (se_slice (se_var 2) (so_none) (so_some (se_int))))) (sgi_one (sg_tup rfl (sgs_cons (sg_name 5 sc_law.nd) (sgs_cons (sg_name 7 sc_law.nd) (sgs_cons (sg_name 8 sc_law.nd) (sgs_nil)))))) (ss_cons (ss_set 9 sc_law.nd (se_callB (call_repr hg hr.units) rc_repr reprG_calm (by rfl) T.m_repr (by decide +kernel) (sa_cons (se_lst (sa_cons (se_var 5) (sa_cons (se_var 7) (sa_cons (se_var 8) (sa_nil))))) (sa_nil)))) (ss_cons (ss_par2 10 11 rfl sc_law.nd (sa_cons (se_call 3 (dv_least_shares T) hg (hr.mono (by decide)) (by rfl) T.g_least_shares T.fn_least_shares.kp T.bn_least_shares pass0 (fun _ _ _ _ _ h => h) (sa_cons (se_var 5) (sa_cons (se_var 7) (sa_cons (se_var 8) (sa_nil)))) (len_cons (len_cons (len_cons len_nil))) rfl) (sa_cons (se_call 3 (dv_dearest_row T) hg (hr.mono (by decide)) (by rfl) T.g_dearest_row T.fn_dearest_row.kp T.bn_dearest_row pass0 (fun _ _ _ _ _ h => h) (sa_cons (se_var 5) (sa_cons (se_var 7) (sa_cons (se_var 8) (sa_nil)))) (len_cons (len_cons (len_cons len_nil))) rfl) (sa_nil)))) (ss_cons (ss_if (SW.st (sw_or (st_isN (se_var 10)) (sw_or1 (st_isN (se_var 11))))) (ss_one (ss_if (SW.st (sw_or (st_notN (se_var 10)) (sw_or (st_notN (se_var 11)) (sw_or1 (st_not (st_val (se_call 3 (dv__law_bars T) hg (hr.mono (by decide)) (by rfl) T.g__law_bars T.fn__law_bars.kp T.bn__law_bars pass0 (fun _ _ _ _ _ h => h) (sa_cons (se_var 5) (sa_cons (se_var 7) (sa_cons (se_call 2 (dv_row_against T) hg (hr.mono (by decide)) (by rfl) T.g_row_against T.fn_row_against.kp T.bn_row_against pass0 (fun _ _ _ _ _ h => h) (sa_cons (se_var 5) (sa_cons (se_var 7) (sa_nil))) (len_cons (len_cons len_nil)) rfl) (sa_nil)))) (len_cons (len_cons (len_cons len_nil))) rfl))))))) (ss_one (ss_ret (se_bl))) (ss_nil))) (ss_one (ss_if (st_not (st_val (se_call 5 (dv__law_is_least T) hg (hr.mono (by decide)) (by rfl) T.g__law_is_least T.fn__law_is_least.kp T.bn__law_is_least pass0 (fun _ _ _ _ _ h => h) (sa_cons (se_var 5) (sa_cons (se_var 7) (sa_cons (se_var 8) (sa_cons (se_var 10) (sa_cons (se_var 11) (sa_nil)))))) (len_cons (len_cons (len_cons (len_cons (len_cons len_nil))))) rfl))) (ss_one (ss_ret (se_bl))) (ss_nil)))) (ss_cons (ss_set 12 sc_law.nd (se_lst (sa_cons (se_call 3 (dv_least_shares T) hg (hr.mono (by decide)) (by rfl) T.g_least_shares T.fn_least_shares.kp T.bn_least_shares pass0 (fun _ _ _ _ _ h => h) (sa_cons (se_var 5) (sa_cons (se_var 7) (sa_cons (se_var 8) (sa_nil)))) (len_cons (len_cons (len_cons len_nil))) rfl) (sa_cons (se_call 3 (dv_dearest_row T) hg (hr.mono (by decide)) (by rfl) T.g_dearest_row T.fn_dearest_row.kp T.bn_dearest_row pass0 (fun _ _ _ _ _ h => h) (sa_cons (se_var 5) (sa_cons (se_var 7) (sa_cons (se_var 8) (sa_nil)))) (len_cons (len_cons (len_cons len_nil))) rfl) (sa_nil))))) (ss_one (ss_if (SW.st (sw_or (st_not (st_val (se_call 2 (dv__law_alike T) hg (hr.mono (by decide)) (by rfl) T.g__law_alike T.fn__law_alike.kp T.bn__law_alike pass0 (fun _ _ _ _ _ h => h) (sa_cons (se_var 12) (sa_cons (se_lst (sa_cons (se_var 10) (sa_cons (se_var 11) (sa_nil)))) (sa_nil))) (len_cons (len_cons len_nil)) rfl))) (sw_or1 (st_cmp (op_neN (u128 hr)) ro_eq (eqG_calm true) (se_callB (call_repr hg hr.units) rc_repr reprG_calm (by rfl) T.m_repr (by decide +kernel) (sa_cons (se_lst (sa_cons (se_var 5) (sa_cons (se_var 7) (sa_cons (se_var 8) (sa_nil))))) (sa_nil))) (se_var 9))))) (ss_one (ss_ret (se_bl))) (ss_nil)))))))) (ss_one (ss_ret (se_bl))))))
end
/-! ### the head -/
def top_mk {K : PySem.W.Frag} {h : Heap} {mg : Str → Option Value} (X : K.In h) (G : h.Ns mainGlobals mg) {f0 f1 f2 f3 f4 f5 f6 f7 f8 f9 f10 f11 f12 f13 f14 f15 f16 f17 f18 f19 f20 f21 f22 f23 f24 f25 f26 f27 f28 f29 f30 f31 f32 f33 f34 f35 f36 : Addr}
    {od0 an0 od1 an1 od2 an2 od3 an3 od4 an4 od5 an5 od6 an6 od7 an7 od8 an8 od9 an9 od10 an10 od11 an11 od12 an12 od13 an13 od14 an14 od15 an15 od16 an16 od17 an17 od18 an18 od19 an19 od20 an20 od21 an21 od22 an22 od23 an23 od24 an24 od25 an25 od26 an26 od27 an27 od28 an28 od29 an29 od30 an30 od31 an31 od32 an32 od33 an33 od34 an34 od35 an35 od36 an36 : Option Addr} {sl0 sl1 sl2 sl3 sl4 sl5 sl6 sl7 sl8 sl9 sl10 sl11 sl12 sl13 sl14 sl15 sl16 sl17 sl18 sl19 sl20 sl21 sl22 sl23 sl24 sl25 sl26 sl27 sl28 sl29 sl30 sl31 sl32 sl33 sl34 sl35 sl36 : Array (Option Value)} {oc0 kV0 dc0 pm0 cd0 ct0 oc1 kV1 dc1 pm1 cd1 ct1 oc2 kV2 dc2 pm2 cd2 ct2 oc3 kV3 dc3 pm3 cd3 ct3 oc4 kV4 dc4 pm4 cd4 ct4 oc5 kV5 dc5 pm5 cd5 ct5 oc6 kV6 dc6 pm6 cd6 ct6 oc7 kV7 dc7 pm7 cd7 ct7 oc8 kV8 dc8 pm8 cd8 ct8 oc9 kV9 dc9 pm9 cd9 ct9 oc10 kV10 dc10 pm10 cd10 ct10 oc11 kV11 dc11 pm11 cd11 ct11 oc12 kV12 dc12 pm12 cd12 ct12 oc13 kV13 dc13 pm13 cd13 ct13 oc14 kV14 dc14 pm14 cd14 ct14 oc15 kV15 dc15 pm15 cd15 ct15 oc16 kV16 dc16 pm16 cd16 ct16 oc17 kV17 dc17 pm17 cd17 ct17 oc18 kV18 dc18 pm18 cd18 ct18 oc19 kV19 dc19 pm19 cd19 ct19 oc20 kV20 dc20 pm20 cd20 ct20 oc21 kV21 dc21 pm21 cd21 ct21 oc22 kV22 dc22 pm22 cd22 ct22 oc23 kV23 dc23 pm23 cd23 ct23 oc24 kV24 dc24 pm24 cd24 ct24 oc25 kV25 dc25 pm25 cd25 ct25 oc26 kV26 dc26 pm26 cd26 ct26 oc27 kV27 dc27 pm27 cd27 ct27 oc28 kV28 dc28 pm28 cd28 ct28 oc29 kV29 dc29 pm29 cd29 ct29 oc30 kV30 dc30 pm30 cd30 ct30 oc31 kV31 dc31 pm31 cd31 ct31 oc32 kV32 dc32 pm32 cd32 ct32 oc33 kV33 dc33 pm33 cd33 ct33 oc34 kV34 dc34 pm34 cd34 ct34 oc35 kV35 dc35 pm35 cd35 ct35 oc36 kV36 dc36 pm36 cd36 ct36 : Value}
    {B0 : Addr}
    (ba0 : PySem.W.nsIn K mainGlobals "Equations" = some (some (.ref B0)))
    (bp0 : PySem.W.plainGet K B0 Str.empty = true)
    (bh0 : PySem.W.hasDictIn K B0 = true)
    (bo0 : PySem.W.plainOver K B0 = true)
    (bs0_ : PySem.W.findIn K (.ref B0) "__setattr__" = some (some (.builtin "object.__setattr__")))
    (bm0 : PySem.W.makesIn K B0 = true)
    (bk0 : PySem.W.keepIn K (.ref B0) = true)
    (bn0_0 : PySem.W.findIn K (.ref B0) "_divisor" = some none)
    (bn0_1 : PySem.W.findIn K (.ref B0) "_many" = some none)
    (bn0_2 : PySem.W.findIn K (.ref B0) "_rows" = some none)
    (bn0_3 : PySem.W.findIn K (.ref B0) "_signs" = some none)
    (bn0_4 : PySem.W.findIn K (.ref B0) "_size" = some none)
    (bn0_5 : PySem.W.findIn K (.ref B0) "_told" = some none)
    (a0 : PySem.W.nsIn K mainGlobals "_law_bag" = some (some (.ref f0))) (l0 : K.lookup f0 = some ⟨oc0, od0, .func (PySem.W.fnOf "_law_bag" "_law_bag" (defArgs s__law_bag) (defBody s__law_bag) (defScope s__law_bag) .none kV0 dc0 pm0 an0 cd0 ct0), sl0⟩) (c0 : PySem.W.codeIn K cd0 "_law_bag" = true) (k0 : PySem.W.keepIn K (.ref f0) = true)
    (a1 : PySem.W.nsIn K mainGlobals "_law_take" = some (some (.ref f1))) (l1 : K.lookup f1 = some ⟨oc1, od1, .func (PySem.W.fnOf "_law_take" "_law_take" (defArgs s__law_take) (defBody s__law_take) (defScope s__law_take) .none kV1 dc1 pm1 an1 cd1 ct1), sl1⟩) (c1 : PySem.W.codeIn K cd1 "_law_take" = true) (k1 : PySem.W.keepIn K (.ref f1) = true)
    (a2 : PySem.W.nsIn K mainGlobals "_law_one" = some (some (.ref f2))) (l2 : K.lookup f2 = some ⟨oc2, od2, .func (PySem.W.fnOf "_law_one" "_law_one" (defArgs s__law_one) (defBody s__law_one) (defScope s__law_one) .none kV2 dc2 pm2 an2 cd2 ct2), sl2⟩) (c2 : PySem.W.codeIn K cd2 "_law_one" = true) (k2 : PySem.W.keepIn K (.ref f2) = true)
    (a3 : PySem.W.nsIn K mainGlobals "unit_row" = some (some (.ref f3))) (l3 : K.lookup f3 = some ⟨oc3, od3, .func (PySem.W.fnOf "unit_row" "unit_row" (defArgs s_unit_row) (defBody s_unit_row) (defScope s_unit_row) .none kV3 dc3 pm3 an3 cd3 ct3), sl3⟩) (c3 : PySem.W.codeIn K cd3 "unit_row" = true) (k3 : PySem.W.keepIn K (.ref f3) = true)
    (a4 : PySem.W.findIn K (.ref B0) "__init__" = some (some (.ref f4))) (l4 : K.lookup f4 = some ⟨oc4, od4, .func (PySem.W.fnOf "__init__" "Equations.__init__" (defArgs s_Equations___init__) (defBody s_Equations___init__) (defScope s_Equations___init__) .none kV4 dc4 pm4 an4 cd4 ct4), sl4⟩) (c4 : PySem.W.codeIn K cd4 "Equations.__init__" = true) (k4 : PySem.W.keepIn K (.ref f4) = true) (ft4 : PySem.W.isFn K (.ref f4) = true)
    (a5 : PySem.W.nsIn K mainGlobals "negated" = some (some (.ref f5))) (l5 : K.lookup f5 = some ⟨oc5, od5, .func (PySem.W.fnOf "negated" "negated" (defArgs s_negated) (defBody s_negated) (defScope s_negated) .none kV5 dc5 pm5 an5 cd5 ct5), sl5⟩) (c5 : PySem.W.codeIn K cd5 "negated" = true) (k5 : PySem.W.keepIn K (.ref f5) = true)
    (a6 : PySem.W.findIn K (.ref B0) "_pivot" = some (some (.ref f6))) (l6 : K.lookup f6 = some ⟨oc6, od6, .func (PySem.W.fnOf "_pivot" "Equations._pivot" (defArgs s_Equations__pivot) (defBody s_Equations__pivot) (defScope s_Equations__pivot) .none kV6 dc6 pm6 an6 cd6 ct6), sl6⟩) (c6 : PySem.W.codeIn K cd6 "Equations._pivot" = true) (k6 : PySem.W.keepIn K (.ref f6) = true) (ft6 : PySem.W.isFn K (.ref f6) = true)
    (a7 : PySem.W.findIn K (.ref B0) "_take_marks_out" = some (some (.ref f7))) (l7 : K.lookup f7 = some ⟨oc7, od7, .func (PySem.W.fnOf "_take_marks_out" "Equations._take_marks_out" (defArgs s_Equations__take_marks_out) (defBody s_Equations__take_marks_out) (defScope s_Equations__take_marks_out) .none kV7 dc7 pm7 an7 cd7 ct7), sl7⟩) (c7 : PySem.W.codeIn K cd7 "Equations._take_marks_out" = true) (k7 : PySem.W.keepIn K (.ref f7) = true) (ft7 : PySem.W.isFn K (.ref f7) = true)
    (a8 : PySem.W.findIn K (.ref B0) "_entering" = some (some (.ref f8))) (l8 : K.lookup f8 = some ⟨oc8, od8, .func (PySem.W.fnOf "_entering" "Equations._entering" (defArgs s_Equations__entering) (defBody s_Equations__entering) (defScope s_Equations__entering) .none kV8 dc8 pm8 an8 cd8 ct8), sl8⟩) (c8 : PySem.W.codeIn K cd8 "Equations._entering" = true) (k8 : PySem.W.keepIn K (.ref f8) = true) (ft8 : PySem.W.isFn K (.ref f8) = true)
    (a9 : PySem.W.findIn K (.ref B0) "_is_sooner" = some (some (.ref f9))) (l9 : K.lookup f9 = some ⟨oc9, od9, .func (PySem.W.fnOf "_is_sooner" "Equations._is_sooner" (defArgs s_Equations__is_sooner) (defBody s_Equations__is_sooner) (defScope s_Equations__is_sooner) .none kV9 dc9 pm9 an9 cd9 ct9), sl9⟩) (c9 : PySem.W.codeIn K cd9 "Equations._is_sooner" = true) (k9 : PySem.W.keepIn K (.ref f9) = true) (ft9 : PySem.W.isFn K (.ref f9) = true)
    (a10 : PySem.W.findIn K (.ref B0) "_leaving" = some (some (.ref f10))) (l10 : K.lookup f10 = some ⟨oc10, od10, .func (PySem.W.fnOf "_leaving" "Equations._leaving" (defArgs s_Equations__leaving) (defBody s_Equations__leaving) (defScope s_Equations__leaving) .none kV10 dc10 pm10 an10 cd10 ct10), sl10⟩) (c10 : PySem.W.codeIn K cd10 "Equations._leaving" = true) (k10 : PySem.W.keepIn K (.ref f10) = true) (ft10 : PySem.W.isFn K (.ref f10) = true)
    (a11 : PySem.W.findIn K (.ref B0) "_lower" = some (some (.ref f11))) (l11 : K.lookup f11 = some ⟨oc11, od11, .func (PySem.W.fnOf "_lower" "Equations._lower" (defArgs s_Equations__lower) (defBody s_Equations__lower) (defScope s_Equations__lower) .none kV11 dc11 pm11 an11 cd11 ct11), sl11⟩) (c11 : PySem.W.codeIn K cd11 "Equations._lower" = true) (k11 : PySem.W.keepIn K (.ref f11) = true) (ft11 : PySem.W.isFn K (.ref f11) = true)
    (a12 : PySem.W.findIn K (.ref B0) "cheapen" = some (some (.ref f12))) (l12 : K.lookup f12 = some ⟨oc12, od12, .func (PySem.W.fnOf "cheapen" "Equations.cheapen" (defArgs s_Equations_cheapen) (defBody s_Equations_cheapen) (defScope s_Equations_cheapen) .none kV12 dc12 pm12 an12 cd12 ct12), sl12⟩) (c12 : PySem.W.codeIn K cd12 "Equations.cheapen" = true) (k12 : PySem.W.keepIn K (.ref f12) = true) (ft12 : PySem.W.isFn K (.ref f12) = true)
    (a13 : PySem.W.findIn K (.ref B0) "reach" = some (some (.ref f13))) (l13 : K.lookup f13 = some ⟨oc13, od13, .func (PySem.W.fnOf "reach" "Equations.reach" (defArgs s_Equations_reach) (defBody s_Equations_reach) (defScope s_Equations_reach) .none kV13 dc13 pm13 an13 cd13 ct13), sl13⟩) (c13 : PySem.W.codeIn K cd13 "Equations.reach" = true) (k13 : PySem.W.keepIn K (.ref f13) = true) (ft13 : PySem.W.isFn K (.ref f13) = true)
    (a14 : PySem.W.nsIn K mainGlobals "_cheapest" = some (some (.ref f14))) (l14 : K.lookup f14 = some ⟨oc14, od14, .func (PySem.W.fnOf "_cheapest" "_cheapest" (defArgs s__cheapest) (defBody s__cheapest) (defScope s__cheapest) .none kV14 dc14 pm14 an14 cd14 ct14), sl14⟩) (c14 : PySem.W.codeIn K cd14 "_cheapest" = true) (k14 : PySem.W.keepIn K (.ref f14) = true)
    (a15 : PySem.W.nsIn K mainGlobals "lowest_terms" = some (some (.ref f15))) (l15 : K.lookup f15 = some ⟨oc15, od15, .func (PySem.W.fnOf "lowest_terms" "lowest_terms" (defArgs s_lowest_terms) (defBody s_lowest_terms) (defScope s_lowest_terms) .none kV15 dc15 pm15 an15 cd15 ct15), sl15⟩) (c15 : PySem.W.codeIn K cd15 "lowest_terms" = true) (k15 : PySem.W.keepIn K (.ref f15) = true)
    (a16 : PySem.W.findIn K (.ref B0) "shares" = some (some (.ref f16))) (l16 : K.lookup f16 = some ⟨oc16, od16, .func (PySem.W.fnOf "shares" "Equations.shares" (defArgs s_Equations_shares) (defBody s_Equations_shares) (defScope s_Equations_shares) .none kV16 dc16 pm16 an16 cd16 ct16), sl16⟩) (c16 : PySem.W.codeIn K cd16 "Equations.shares" = true) (k16 : PySem.W.keepIn K (.ref f16) = true) (ft16 : PySem.W.isFn K (.ref f16) = true)
    (a17 : PySem.W.nsIn K mainGlobals "least_shares" = some (some (.ref f17))) (l17 : K.lookup f17 = some ⟨oc17, od17, .func (PySem.W.fnOf "least_shares" "least_shares" (defArgs s_least_shares) (defBody s_least_shares) (defScope s_least_shares) .none kV17 dc17 pm17 an17 cd17 ct17), sl17⟩) (c17 : PySem.W.codeIn K cd17 "least_shares" = true) (k17 : PySem.W.keepIn K (.ref f17) = true)
    (a18 : PySem.W.nsIn K mainGlobals "common_divisor" = some (some (.ref f18))) (l18 : K.lookup f18 = some ⟨oc18, od18, .func (PySem.W.fnOf "common_divisor" "common_divisor" (defArgs s_common_divisor) (defBody s_common_divisor) (defScope s_common_divisor) .none kV18 dc18 pm18 an18 cd18 ct18), sl18⟩) (c18 : PySem.W.codeIn K cd18 "common_divisor" = true) (k18 : PySem.W.keepIn K (.ref f18) = true)
    (a19 : PySem.W.nsIn K mainGlobals "prime_row" = some (some (.ref f19))) (l19 : K.lookup f19 = some ⟨oc19, od19, .func (PySem.W.fnOf "prime_row" "prime_row" (defArgs s_prime_row) (defBody s_prime_row) (defScope s_prime_row) .none kV19 dc19 pm19 an19 cd19 ct19), sl19⟩) (c19 : PySem.W.codeIn K cd19 "prime_row" = true) (k19 : PySem.W.keepIn K (.ref f19) = true)
    (a20 : PySem.W.findIn K (.ref B0) "dearest_row" = some (some (.ref f20))) (l20 : K.lookup f20 = some ⟨oc20, od20, .func (PySem.W.fnOf "dearest_row" "Equations.dearest_row" (defArgs s_Equations_dearest_row) (defBody s_Equations_dearest_row) (defScope s_Equations_dearest_row) .none kV20 dc20 pm20 an20 cd20 ct20), sl20⟩) (c20 : PySem.W.codeIn K cd20 "Equations.dearest_row" = true) (k20 : PySem.W.keepIn K (.ref f20) = true) (ft20 : PySem.W.isFn K (.ref f20) = true)
    (a21 : PySem.W.nsIn K mainGlobals "dearest_row" = some (some (.ref f21))) (l21 : K.lookup f21 = some ⟨oc21, od21, .func (PySem.W.fnOf "dearest_row" "dearest_row" (defArgs s_dearest_row) (defBody s_dearest_row) (defScope s_dearest_row) .none kV21 dc21 pm21 an21 cd21 ct21), sl21⟩) (c21 : PySem.W.codeIn K cd21 "dearest_row" = true) (k21 : PySem.W.keepIn K (.ref f21) = true)
    (a22 : PySem.W.nsIn K mainGlobals "_law_any_row" = some (some (.ref f22))) (l22 : K.lookup f22 = some ⟨oc22, od22, .func (PySem.W.fnOf "_law_any_row" "_law_any_row" (defArgs s__law_any_row) (defBody s__law_any_row) (defScope s__law_any_row) .none kV22 dc22 pm22 an22 cd22 ct22), sl22⟩) (c22 : PySem.W.codeIn K cd22 "_law_any_row" = true) (k22 : PySem.W.keepIn K (.ref f22) = true)
    (a23 : PySem.W.nsIn K mainGlobals "_law_made_goal" = some (some (.ref f23))) (l23 : K.lookup f23 = some ⟨oc23, od23, .func (PySem.W.fnOf "_law_made_goal" "_law_made_goal" (defArgs s__law_made_goal) (defBody s__law_made_goal) (defScope s__law_made_goal) .none kV23 dc23 pm23 an23 cd23 ct23), sl23⟩) (c23 : PySem.W.codeIn K cd23 "_law_made_goal" = true) (k23 : PySem.W.keepIn K (.ref f23) = true)
    (a24 : PySem.W.nsIn K mainGlobals "_law_gcd" = some (some (.ref f24))) (l24 : K.lookup f24 = some ⟨oc24, od24, .func (PySem.W.fnOf "_law_gcd" "_law_gcd" (defArgs s__law_gcd) (defBody s__law_gcd) (defScope s__law_gcd) .none kV24 dc24 pm24 an24 cd24 ct24), sl24⟩) (c24 : PySem.W.codeIn K cd24 "_law_gcd" = true) (k24 : PySem.W.keepIn K (.ref f24) = true)
    (a25 : PySem.W.nsIn K mainGlobals "_law_den_of" = some (some (.ref f25))) (l25 : K.lookup f25 = some ⟨oc25, od25, .func (PySem.W.fnOf "_law_den_of" "_law_den_of" (defArgs s__law_den_of) (defBody s__law_den_of) (defScope s__law_den_of) .none kV25 dc25 pm25 an25 cd25 ct25), sl25⟩) (c25 : PySem.W.codeIn K cd25 "_law_den_of" = true) (k25 : PySem.W.keepIn K (.ref f25) = true)
    (a26 : PySem.W.nsIn K mainGlobals "_law_is_whole" = some (some (.ref f26))) (l26 : K.lookup f26 = some ⟨oc26, od26, .func (PySem.W.fnOf "_law_is_whole" "_law_is_whole" (defArgs s__law_is_whole) (defBody s__law_is_whole) (defScope s__law_is_whole) .none kV26 dc26 pm26 an26 cd26 ct26), sl26⟩) (c26 : PySem.W.codeIn K cd26 "_law_is_whole" = true) (k26 : PySem.W.keepIn K (.ref f26) = true)
    (a27 : PySem.W.nsIn K mainGlobals "_law_is_row" = some (some (.ref f27))) (l27 : K.lookup f27 = some ⟨oc27, od27, .func (PySem.W.fnOf "_law_is_row" "_law_is_row" (defArgs s__law_is_row) (defBody s__law_is_row) (defScope s__law_is_row) .none kV27 dc27 pm27 an27 cd27 ct27), sl27⟩) (c27 : PySem.W.codeIn K cd27 "_law_is_row" = true) (k27 : PySem.W.keepIn K (.ref f27) = true)
    (a28 : PySem.W.nsIn K mainGlobals "_law_are_shares" = some (some (.ref f28))) (l28 : K.lookup f28 = some ⟨oc28, od28, .func (PySem.W.fnOf "_law_are_shares" "_law_are_shares" (defArgs s__law_are_shares) (defBody s__law_are_shares) (defScope s__law_are_shares) .none kV28 dc28 pm28 an28 cd28 ct28), sl28⟩) (c28 : PySem.W.codeIn K cd28 "_law_are_shares" = true) (k28 : PySem.W.keepIn K (.ref f28) = true)
    (a29 : PySem.W.nsIn K mainGlobals "_law_is_shared" = some (some (.ref f29))) (l29 : K.lookup f29 = some ⟨oc29, od29, .func (PySem.W.fnOf "_law_is_shared" "_law_is_shared" (defArgs s__law_is_shared) (defBody s__law_is_shared) (defScope s__law_is_shared) .none kV29 dc29 pm29 an29 cd29 ct29), sl29⟩) (c29 : PySem.W.codeIn K cd29 "_law_is_shared" = true) (k29 : PySem.W.keepIn K (.ref f29) = true)
    (a30 : PySem.W.nsIn K mainGlobals "_law_product" = some (some (.ref f30))) (l30 : K.lookup f30 = some ⟨oc30, od30, .func (PySem.W.fnOf "_law_product" "_law_product" (defArgs s__law_product) (defBody s__law_product) (defScope s__law_product) .none kV30 dc30 pm30 an30 cd30 ct30), sl30⟩) (c30 : PySem.W.codeIn K cd30 "_law_product" = true) (k30 : PySem.W.keepIn K (.ref f30) = true)
    (a31 : PySem.W.nsIn K mainGlobals "_law_is_least" = some (some (.ref f31))) (l31 : K.lookup f31 = some ⟨oc31, od31, .func (PySem.W.fnOf "_law_is_least" "_law_is_least" (defArgs s__law_is_least) (defBody s__law_is_least) (defScope s__law_is_least) .none kV31 dc31 pm31 an31 cd31 ct31), sl31⟩) (c31 : PySem.W.codeIn K cd31 "_law_is_least" = true) (k31 : PySem.W.keepIn K (.ref f31) = true)
    (a32 : PySem.W.nsIn K mainGlobals "_law_alike" = some (some (.ref f32))) (l32 : K.lookup f32 = some ⟨oc32, od32, .func (PySem.W.fnOf "_law_alike" "_law_alike" (defArgs s__law_alike) (defBody s__law_alike) (defScope s__law_alike) .none kV32 dc32 pm32 an32 cd32 ct32), sl32⟩) (c32 : PySem.W.codeIn K cd32 "_law_alike" = true) (k32 : PySem.W.keepIn K (.ref f32) = true)
    (a33 : PySem.W.nsIn K mainGlobals "_law_bars" = some (some (.ref f33))) (l33 : K.lookup f33 = some ⟨oc33, od33, .func (PySem.W.fnOf "_law_bars" "_law_bars" (defArgs s__law_bars) (defBody s__law_bars) (defScope s__law_bars) .none kV33 dc33 pm33 an33 cd33 ct33), sl33⟩) (c33 : PySem.W.codeIn K cd33 "_law_bars" = true) (k33 : PySem.W.keepIn K (.ref f33) = true)
    (a34 : PySem.W.findIn K (.ref B0) "row_against" = some (some (.ref f34))) (l34 : K.lookup f34 = some ⟨oc34, od34, .func (PySem.W.fnOf "row_against" "Equations.row_against" (defArgs s_Equations_row_against) (defBody s_Equations_row_against) (defScope s_Equations_row_against) .none kV34 dc34 pm34 an34 cd34 ct34), sl34⟩) (c34 : PySem.W.codeIn K cd34 "Equations.row_against" = true) (k34 : PySem.W.keepIn K (.ref f34) = true) (ft34 : PySem.W.isFn K (.ref f34) = true)
    (a35 : PySem.W.nsIn K mainGlobals "row_against" = some (some (.ref f35))) (l35 : K.lookup f35 = some ⟨oc35, od35, .func (PySem.W.fnOf "row_against" "row_against" (defArgs s_row_against) (defBody s_row_against) (defScope s_row_against) .none kV35 dc35 pm35 an35 cd35 ct35), sl35⟩) (c35 : PySem.W.codeIn K cd35 "row_against" = true) (k35 : PySem.W.keepIn K (.ref f35) = true)
    (a36 : PySem.W.nsIn K mainGlobals "law" = some (some (.ref f36))) (l36 : K.lookup f36 = some ⟨oc36, od36, .func (PySem.W.fnOf "law" "law" (defArgs s_law) (defBody s_law) (defScope s_law) .none kV36 dc36 pm36 an36 cd36 ct36), sl36⟩) (c36 : PySem.W.codeIn K cd36 "law" = true) (k36 : PySem.W.keepIn K (.ref f36) = true)
    (y0 : PySem.W.nsIn K mainGlobals "gcd" = some (some (.builtin "math.gcd")))
    (z0 : PySem.W.nsIn K mainGlobals "abs" = some none)
    (z1 : PySem.W.nsIn K mainGlobals "bool" = some none)
    (z2 : PySem.W.nsIn K mainGlobals "enumerate" = some none)
    (z3 : PySem.W.nsIn K mainGlobals "int" = some none)
    (z4 : PySem.W.nsIn K mainGlobals "isinstance" = some none)
    (z5 : PySem.W.nsIn K mainGlobals "len" = some none)
    (z6 : PySem.W.nsIn K mainGlobals "list" = some none)
    (z7 : PySem.W.nsIn K mainGlobals "range" = some none)
    (z8 : PySem.W.nsIn K mainGlobals "repr" = some none)
    (z9 : PySem.W.nsIn K mainGlobals "sum" = some none)
    (z10 : PySem.W.nsIn K mainGlobals "tuple" = some none)
    (z11 : PySem.W.nsIn K mainGlobals "zip" = some none) : Top K mg :=
  {
    f__law_bag := f0, fd__law_bag := _, fn__law_bag := fun_mk (st := s__law_bag) l0 c0 k0, bn__law_bag := (fun_mk (st := s__law_bag) l0 c0 k0).binds fun _ _ _ _ _ _ us hl => match us, hl with | [_], _ => rfl, g__law_bag := PySem.W.mg_of X G a0,
    f__law_take := f1, fd__law_take := _, fn__law_take := fun_mk (st := s__law_take) l1 c1 k1, bn__law_take := (fun_mk (st := s__law_take) l1 c1 k1).binds fun _ _ _ _ _ _ us hl => match us, hl with | [_, _], _ => rfl, g__law_take := PySem.W.mg_of X G a1,
    f__law_one := f2, fd__law_one := _, fn__law_one := fun_mk (st := s__law_one) l2 c2 k2, bn__law_one := (fun_mk (st := s__law_one) l2 c2 k2).binds fun _ _ _ _ _ _ us hl => match us, hl with | [_, _], _ => rfl, g__law_one := PySem.W.mg_of X G a2,
    f_unit_row := f3, fd_unit_row := _, fn_unit_row := fun_mk (st := s_unit_row) l3 c3 k3, bn_unit_row := (fun_mk (st := s_unit_row) l3 c3 k3).binds fun _ _ _ _ _ _ us hl => match us, hl with | [_, _], _ => rfl, g_unit_row := PySem.W.mg_of X G a3,
    f_Equations___init__ := f4, fd_Equations___init__ := _, fn_Equations___init__ := fun_mk (st := s_Equations___init__) l4 c4 k4, bn_Equations___init__ := (fun_mk (st := s_Equations___init__) l4 c4 k4).binds fun _ _ _ _ _ _ us hl => match us, hl with | [_, _, _, _], _ => rfl,
    mk_Equations := ⟨bm0, a4, ft4, bk0⟩,
    f_negated := f5, fd_negated := _, fn_negated := fun_mk (st := s_negated) l5 c5 k5, bn_negated := (fun_mk (st := s_negated) l5 c5 k5).binds fun _ _ _ _ _ _ us hl => match us, hl with | [_], _ => rfl, g_negated := PySem.W.mg_of X G a5,
    f_Equations__pivot := f6, fd_Equations__pivot := _, fn_Equations__pivot := fun_mk (st := s_Equations__pivot) l6 c6 k6, bn_Equations__pivot := (fun_mk (st := s_Equations__pivot) l6 c6 k6).binds fun _ _ _ _ _ _ us hl => match us, hl with | [_, _, _], _ => rfl,
    mt_Equations__pivot := ⟨a6, ft6, k6⟩,
    f_Equations__take_marks_out := f7, fd_Equations__take_marks_out := _, fn_Equations__take_marks_out := fun_mk (st := s_Equations__take_marks_out) l7 c7 k7, bn_Equations__take_marks_out := (fun_mk (st := s_Equations__take_marks_out) l7 c7 k7).binds fun _ _ _ _ _ _ us hl => match us, hl with | [_], _ => rfl,
    mt_Equations__take_marks_out := ⟨a7, ft7, k7⟩,
    f_Equations__entering := f8, fd_Equations__entering := _, fn_Equations__entering := fun_mk (st := s_Equations__entering) l8 c8 k8, bn_Equations__entering := (fun_mk (st := s_Equations__entering) l8 c8 k8).binds fun _ _ _ _ _ _ us hl => match us, hl with | [_, _], _ => rfl,
    mt_Equations__entering := ⟨a8, ft8, k8⟩,
    f_Equations__is_sooner := f9, fd_Equations__is_sooner := _, fn_Equations__is_sooner := fun_mk (st := s_Equations__is_sooner) l9 c9 k9, bn_Equations__is_sooner := (fun_mk (st := s_Equations__is_sooner) l9 c9 k9).binds fun _ _ _ _ _ _ us hl => match us, hl with | [_, _, _, _], _ => rfl,
    mt_Equations__is_sooner := ⟨a9, ft9, k9⟩,
    f_Equations__leaving := f10, fd_Equations__leaving := _, fn_Equations__leaving := fun_mk (st := s_Equations__leaving) l10 c10 k10, bn_Equations__leaving := (fun_mk (st := s_Equations__leaving) l10 c10 k10).binds fun _ _ _ _ _ _ us hl => match us, hl with | [_, _], _ => rfl,
    mt_Equations__leaving := ⟨a10, ft10, k10⟩,
    f_Equations__lower := f11, fd_Equations__lower := _, fn_Equations__lower := fun_mk (st := s_Equations__lower) l11 c11 k11, bn_Equations__lower := (fun_mk (st := s_Equations__lower) l11 c11 k11).binds fun _ _ _ _ _ _ us hl => match us, hl with | [_, _], _ => rfl,
    mt_Equations__lower := ⟨a11, ft11, k11⟩,
    f_Equations_cheapen := f12, fd_Equations_cheapen := _, fn_Equations_cheapen := fun_mk (st := s_Equations_cheapen) l12 c12 k12, bn_Equations_cheapen := (fun_mk (st := s_Equations_cheapen) l12 c12 k12).binds fun _ _ _ _ _ _ us hl => match us, hl with | [_], _ => rfl,
    mt_Equations_cheapen := ⟨a12, ft12, k12⟩,
    f_Equations_reach := f13, fd_Equations_reach := _, fn_Equations_reach := fun_mk (st := s_Equations_reach) l13 c13 k13, bn_Equations_reach := (fun_mk (st := s_Equations_reach) l13 c13 k13).binds fun _ _ _ _ _ _ us hl => match us, hl with | [_], _ => rfl,
    mt_Equations_reach := ⟨a13, ft13, k13⟩,
    f__cheapest := f14, fd__cheapest := _, fn__cheapest := fun_mk (st := s__cheapest) l14 c14 k14, bn__cheapest := (fun_mk (st := s__cheapest) l14 c14 k14).binds fun _ _ _ _ _ _ us hl => match us, hl with | [_, _, _], _ => rfl, g__cheapest := PySem.W.mg_of X G a14,
    f_lowest_terms := f15, fd_lowest_terms := _, fn_lowest_terms := fun_mk (st := s_lowest_terms) l15 c15 k15, bn_lowest_terms := (fun_mk (st := s_lowest_terms) l15 c15 k15).binds fun _ _ _ _ _ _ us hl => match us, hl with | [_, _], _ => rfl, g_lowest_terms := PySem.W.mg_of X G a15,
    f_Equations_shares := f16, fd_Equations_shares := _, fn_Equations_shares := fun_mk (st := s_Equations_shares) l16 c16 k16, bn_Equations_shares := (fun_mk (st := s_Equations_shares) l16 c16 k16).binds fun _ _ _ _ _ _ us hl => match us, hl with | [_], _ => rfl,
    mt_Equations_shares := ⟨a16, ft16, k16⟩,
    f_least_shares := f17, fd_least_shares := _, fn_least_shares := fun_mk (st := s_least_shares) l17 c17 k17, bn_least_shares := (fun_mk (st := s_least_shares) l17 c17 k17).binds fun _ _ _ _ _ _ us hl => match us, hl with | [_, _, _], _ => rfl, g_least_shares := PySem.W.mg_of X G a17,
    f_common_divisor := f18, fd_common_divisor := _, fn_common_divisor := fun_mk (st := s_common_divisor) l18 c18 k18, bn_common_divisor := (fun_mk (st := s_common_divisor) l18 c18 k18).binds fun _ _ _ _ _ _ us hl => match us, hl with | [_], _ => rfl, g_common_divisor := PySem.W.mg_of X G a18,
    f_prime_row := f19, fd_prime_row := _, fn_prime_row := fun_mk (st := s_prime_row) l19 c19 k19, bn_prime_row := (fun_mk (st := s_prime_row) l19 c19 k19).binds fun _ _ _ _ _ _ us hl => match us, hl with | [_], _ => rfl, g_prime_row := PySem.W.mg_of X G a19,
    f_Equations_dearest_row := f20, fd_Equations_dearest_row := _, fn_Equations_dearest_row := fun_mk (st := s_Equations_dearest_row) l20 c20 k20, bn_Equations_dearest_row := (fun_mk (st := s_Equations_dearest_row) l20 c20 k20).binds fun _ _ _ _ _ _ us hl => match us, hl with | [_], _ => rfl,
    mt_Equations_dearest_row := ⟨a20, ft20, k20⟩,
    f_dearest_row := f21, fd_dearest_row := _, fn_dearest_row := fun_mk (st := s_dearest_row) l21 c21 k21, bn_dearest_row := (fun_mk (st := s_dearest_row) l21 c21 k21).binds fun _ _ _ _ _ _ us hl => match us, hl with | [_, _, _], _ => rfl, g_dearest_row := PySem.W.mg_of X G a21,
    f__law_any_row := f22, fd__law_any_row := _, fn__law_any_row := fun_mk (st := s__law_any_row) l22 c22 k22, bn__law_any_row := (fun_mk (st := s__law_any_row) l22 c22 k22).binds fun _ _ _ _ _ _ us hl => match us, hl with | [_, _], _ => rfl, g__law_any_row := PySem.W.mg_of X G a22,
    f__law_made_goal := f23, fd__law_made_goal := _, fn__law_made_goal := fun_mk (st := s__law_made_goal) l23 c23 k23, bn__law_made_goal := (fun_mk (st := s__law_made_goal) l23 c23 k23).binds fun _ _ _ _ _ _ us hl => match us, hl with | [_, _, _], _ => rfl, g__law_made_goal := PySem.W.mg_of X G a23,
    f__law_gcd := f24, fd__law_gcd := _, fn__law_gcd := fun_mk (st := s__law_gcd) l24 c24 k24, bn__law_gcd := (fun_mk (st := s__law_gcd) l24 c24 k24).binds fun _ _ _ _ _ _ us hl => match us, hl with | [_, _], _ => rfl, g__law_gcd := PySem.W.mg_of X G a24,
    f__law_den_of := f25, fd__law_den_of := _, fn__law_den_of := fun_mk (st := s__law_den_of) l25 c25 k25, bn__law_den_of := (fun_mk (st := s__law_den_of) l25 c25 k25).binds fun _ _ _ _ _ _ us hl => match us, hl with | [_], _ => rfl, g__law_den_of := PySem.W.mg_of X G a25,
    f__law_is_whole := f26, fd__law_is_whole := _, fn__law_is_whole := fun_mk (st := s__law_is_whole) l26 c26 k26, bn__law_is_whole := (fun_mk (st := s__law_is_whole) l26 c26 k26).binds fun _ _ _ _ _ _ us hl => match us, hl with | [_], _ => rfl, g__law_is_whole := PySem.W.mg_of X G a26,
    f__law_is_row := f27, fd__law_is_row := _, fn__law_is_row := fun_mk (st := s__law_is_row) l27 c27 k27, bn__law_is_row := (fun_mk (st := s__law_is_row) l27 c27 k27).binds fun _ _ _ _ _ _ us hl => match us, hl with | [_, _], _ => rfl, g__law_is_row := PySem.W.mg_of X G a27,
    f__law_are_shares := f28, fd__law_are_shares := _, fn__law_are_shares := fun_mk (st := s__law_are_shares) l28 c28 k28, bn__law_are_shares := (fun_mk (st := s__law_are_shares) l28 c28 k28).binds fun _ _ _ _ _ _ us hl => match us, hl with | [_, _], _ => rfl, g__law_are_shares := PySem.W.mg_of X G a28,
    f__law_is_shared := f29, fd__law_is_shared := _, fn__law_is_shared := fun_mk (st := s__law_is_shared) l29 c29 k29, bn__law_is_shared := (fun_mk (st := s__law_is_shared) l29 c29 k29).binds fun _ _ _ _ _ _ us hl => match us, hl with | [_, _, _], _ => rfl, g__law_is_shared := PySem.W.mg_of X G a29,
    f__law_product := f30, fd__law_product := _, fn__law_product := fun_mk (st := s__law_product) l30 c30 k30, bn__law_product := (fun_mk (st := s__law_product) l30 c30 k30).binds fun _ _ _ _ _ _ us hl => match us, hl with | [_, _], _ => rfl, g__law_product := PySem.W.mg_of X G a30,
    f__law_is_least := f31, fd__law_is_least := _, fn__law_is_least := fun_mk (st := s__law_is_least) l31 c31 k31, bn__law_is_least := (fun_mk (st := s__law_is_least) l31 c31 k31).binds fun _ _ _ _ _ _ us hl => match us, hl with | [_, _, _, _, _], _ => rfl, g__law_is_least := PySem.W.mg_of X G a31,
    f__law_alike := f32, fd__law_alike := _, fn__law_alike := fun_mk (st := s__law_alike) l32 c32 k32, bn__law_alike := (fun_mk (st := s__law_alike) l32 c32 k32).binds fun _ _ _ _ _ _ us hl => match us, hl with | [_, _], _ => rfl, g__law_alike := PySem.W.mg_of X G a32,
    f__law_bars := f33, fd__law_bars := _, fn__law_bars := fun_mk (st := s__law_bars) l33 c33 k33, bn__law_bars := (fun_mk (st := s__law_bars) l33 c33 k33).binds fun _ _ _ _ _ _ us hl => match us, hl with | [_, _, _], _ => rfl, g__law_bars := PySem.W.mg_of X G a33,
    f_Equations_row_against := f34, fd_Equations_row_against := _, fn_Equations_row_against := fun_mk (st := s_Equations_row_against) l34 c34 k34, bn_Equations_row_against := (fun_mk (st := s_Equations_row_against) l34 c34 k34).binds fun _ _ _ _ _ _ us hl => match us, hl with | [_], _ => rfl,
    mt_Equations_row_against := ⟨a34, ft34, k34⟩,
    f_row_against := f35, fd_row_against := _, fn_row_against := fun_mk (st := s_row_against) l35 c35 k35, bn_row_against := (fun_mk (st := s_row_against) l35 c35 k35).binds fun _ _ _ _ _ _ us hl => match us, hl with | [_, _], _ => rfl, g_row_against := PySem.W.mg_of X G a35,
    f_law := f36, fd_law := _, fn_law := fun_mk (st := s_law) l36 c36 k36, bn_law := (fun_mk (st := s_law) l36 c36 k36).binds fun _ _ _ _ _ _ us hl => match us, hl with | [_], _ => rfl, g_law := PySem.W.mg_of X G a36,
    C_Equations := B0, g_Equations := PySem.W.mg_of X G ba0, ns_Equations := ba0, cl_Equations := ⟨ba0, ⟨bp0, bh0, bo0, bs0_⟩⟩,
    na_Equations__divisor := bn0_0,
    na_Equations__many := bn0_1,
    na_Equations__rows := bn0_2,
    na_Equations__signs := bn0_3,
    na_Equations__size := bn0_4,
    na_Equations__told := bn0_5,
    bl_law := fun _ _ => .of_eq rfl,
    m_gcd := PySem.W.mg_of X G y0,
    m_abs := PySem.W.mg_none_of X G z0,
    m_bool := PySem.W.mg_none_of X G z1,
    m_enumerate := PySem.W.mg_none_of X G z2,
    m_int := PySem.W.mg_none_of X G z3,
    m_isinstance := PySem.W.mg_none_of X G z4,
    m_len := PySem.W.mg_none_of X G z5,
    m_list := PySem.W.mg_none_of X G z6,
    m_range := PySem.W.mg_none_of X G z7,
    m_repr := PySem.W.mg_none_of X G z8,
    m_sum := PySem.W.mg_none_of X G z9,
    m_tuple := PySem.W.mg_none_of X G z10,
    m_zip := PySem.W.mg_none_of X G z11 }
theorem fin {P : Program} {w : World} {K : PySem.W.Frag} {mg : Str → Option Value} {fa : Addr} (hfa : mg "law" = some (.ref fa)) (T : Top K mg) : ∃ fd : FuncData, (∀ (s : Shared) (u : Value), BindsTo s fd ⟨[u], []⟩ [("script", u)]) ∧ ∀ base : Heap, K.In base → base.Ns mainGlobals mg → FnD P w K mg base CX0 eo0 7 fa fd ["script"] F_law := by
  cases hfa.symm.trans T.g_law
  exact ⟨_, T.bl_law, fun base _ _ => dv_law T⟩
end K13
set_option Elab.async false
set_option linter.all false
set_option maxRecDepth 100000
set_option maxHeartbeats 4000000
namespace K13
open PySem PySem.Spec PyProof.Rows L2 Mn
theorem true_law : ∀ ns : List Int, ns.length ≤ 63 → ∃ S', F_law [.box 0] (script0 ns) = .ok (.bl true) S' := fun ns h => by
  obtain ⟨d, S', e, rfl⟩ := (Lw.law20_ok h).ok
  exact ⟨S', e⟩
end K13
open PySem PySem.W PyProof.Rows
set_option maxHeartbeats 0 in
set_option maxRecDepth 100000 in
theorem PySem.Challenge.cw_neverheaps_k13_least_shares_and_prices_holds : PySem.Challenge.rw_neverheaps_k13_least_shares_and_prices.Holds := by
  w_on; o_law; k_head; (case hw => w_witness2)
  k_fill
  refine Mn.walkD (l := PySem.Challenge.rw_neverheaps_k13_least_shares_and_prices) (n := 63) (k := 7) (x := "script") (CX := fun _ => L2.CX0) (eo := fun _ => K13.eo0) (F := K13.F_law) rfl (by decide) rfl ⟨rfl, by decide, by decide⟩ (fun w h Y => PySem.W.kIn_of Y) ?F K13.true_law (fun _ _ _ _ _ h => h)
  case F =>
    intro w mg fa h KX G hmg
    refine K13.fin (show mg "law" = some (.ref fa) from hmg) ?T
    refine' K13.top_mk KX G ?ba0 ?bp0 ?bh0 ?bo0 ?bs0_ ?bm0 ?bk0 ?bn0_0 ?bn0_1 ?bn0_2 ?bn0_3 ?bn0_4 ?bn0_5 ?a0 ?l0 ?c0 ?k0 ?a1 ?l1 ?c1 ?k1 ?a2 ?l2 ?c2 ?k2 ?a3 ?l3 ?c3 ?k3 ?a4 ?l4 ?c4 ?k4 ?ft4 ?a5 ?l5 ?c5 ?k5 ?a6 ?l6 ?c6 ?k6 ?ft6 ?a7 ?l7 ?c7 ?k7 ?ft7 ?a8 ?l8 ?c8 ?k8 ?ft8 ?a9 ?l9 ?c9 ?k9 ?ft9 ?a10 ?l10 ?c10 ?k10 ?ft10 ?a11 ?l11 ?c11 ?k11 ?ft11 ?a12 ?l12 ?c12 ?k12 ?ft12 ?a13 ?l13 ?c13 ?k13 ?ft13 ?a14 ?l14 ?c14 ?k14 ?a15 ?l15 ?c15 ?k15 ?a16 ?l16 ?c16 ?k16 ?ft16 ?a17 ?l17 ?c17 ?k17 ?a18 ?l18 ?c18 ?k18 ?a19 ?l19 ?c19 ?k19 ?a20 ?l20 ?c20 ?k20 ?ft20 ?a21 ?l21 ?c21 ?k21 ?a22 ?l22 ?c22 ?k22 ?a23 ?l23 ?c23 ?k23 ?a24 ?l24 ?c24 ?k24 ?a25 ?l25 ?c25 ?k25 ?a26 ?l26 ?c26 ?k26 ?a27 ?l27 ?c27 ?k27 ?a28 ?l28 ?c28 ?k28 ?a29 ?l29 ?c29 ?k29 ?a30 ?l30 ?c30 ?k30 ?a31 ?l31 ?c31 ?k31 ?a32 ?l32 ?c32 ?k32 ?a33 ?l33 ?c33 ?k33 ?a34 ?l34 ?c34 ?k34 ?ft34 ?a35 ?l35 ?c35 ?k35 ?a36 ?l36 ?c36 ?k36 ?y0 ?z0 ?z1 ?z2 ?z3 ?z4 ?z5 ?z6 ?z7 ?z8 ?z9 ?z10 ?z11
    (case ba0 => k_is); (case bp0 => k_is); (case bh0 => k_is); (case bo0 => k_is); (case bs0_ => k_is); (case bm0 => k_is); (case bk0 => k_is); (case bn0_0 => k_is); (case bn0_1 => k_is); (case bn0_2 => k_is); (case bn0_3 => k_is); (case bn0_4 => k_is); (case bn0_5 => k_is); (case a0 => k_is); (case l0 => k_is); (case c0 => k_is); (case k0 => k_is); (case a1 => k_is); (case l1 => k_is); (case c1 => k_is); (case k1 => k_is); (case a2 => k_is); (case l2 => k_is); (case c2 => k_is); (case k2 => k_is); (case a3 => k_is); (case l3 => k_is); (case c3 => k_is); (case k3 => k_is); (case a4 => k_is); (case l4 => k_is); (case c4 => k_is); (case k4 => k_is); (case ft4 => k_is); (case a5 => k_is); (case l5 => k_is); (case c5 => k_is); (case k5 => k_is); (case a6 => k_is); (case l6 => k_is); (case c6 => k_is); (case k6 => k_is); (case ft6 => k_is); (case a7 => k_is); (case l7 => k_is); (case c7 => k_is); (case k7 => k_is); (case ft7 => k_is); (case a8 => k_is); (case l8 => k_is); (case c8 => k_is); (case k8 => k_is); (case ft8 => k_is); (case a9 => k_is); (case l9 => k_is); (case c9 => k_is); (case k9 => k_is); (case ft9 => k_is); (case a10 => k_is); (case l10 => k_is); (case c10 => k_is); (case k10 => k_is); (case ft10 => k_is); (case a11 => k_is); (case l11 => k_is); (case c11 => k_is); (case k11 => k_is); (case ft11 => k_is); (case a12 => k_is); (case l12 => k_is); (case c12 => k_is); (case k12 => k_is); (case ft12 => k_is); (case a13 => k_is); (case l13 => k_is); (case c13 => k_is); (case k13 => k_is); (case ft13 => k_is); (case a14 => k_is); (case l14 => k_is); (case c14 => k_is); (case k14 => k_is); (case a15 => k_is); (case l15 => k_is); (case c15 => k_is); (case k15 => k_is); (case a16 => k_is); (case l16 => k_is); (case c16 => k_is); (case k16 => k_is); (case ft16 => k_is); (case a17 => k_is); (case l17 => k_is); (case c17 => k_is); (case k17 => k_is); (case a18 => k_is); (case l18 => k_is); (case c18 => k_is); (case k18 => k_is); (case a19 => k_is); (case l19 => k_is); (case c19 => k_is); (case k19 => k_is); (case a20 => k_is); (case l20 => k_is); (case c20 => k_is); (case k20 => k_is); (case ft20 => k_is); (case a21 => k_is); (case l21 => k_is); (case c21 => k_is); (case k21 => k_is); (case a22 => k_is); (case l22 => k_is); (case c22 => k_is); (case k22 => k_is); (case a23 => k_is); (case l23 => k_is); (case c23 => k_is); (case k23 => k_is); (case a24 => k_is); (case l24 => k_is); (case c24 => k_is); (case k24 => k_is); (case a25 => k_is); (case l25 => k_is); (case c25 => k_is); (case k25 => k_is); (case a26 => k_is); (case l26 => k_is); (case c26 => k_is); (case k26 => k_is); (case a27 => k_is); (case l27 => k_is); (case c27 => k_is); (case k27 => k_is); (case a28 => k_is); (case l28 => k_is); (case c28 => k_is); (case k28 => k_is); (case a29 => k_is); (case l29 => k_is); (case c29 => k_is); (case k29 => k_is); (case a30 => k_is); (case l30 => k_is); (case c30 => k_is); (case k30 => k_is); (case a31 => k_is); (case l31 => k_is); (case c31 => k_is); (case k31 => k_is); (case a32 => k_is); (case l32 => k_is); (case c32 => k_is); (case k32 => k_is); (case a33 => k_is); (case l33 => k_is); (case c33 => k_is); (case k33 => k_is); (case a34 => k_is); (case l34 => k_is); (case c34 => k_is); (case k34 => k_is); (case ft34 => k_is); (case a35 => k_is); (case l35 => k_is); (case c35 => k_is); (case k35 => k_is); (case a36 => k_is); (case l36 => k_is); (case c36 => k_is); (case k36 => k_is); (case y0 => k_is); (case z0 => k_is); (case z1 => k_is); (case z2 => k_is); (case z3 => k_is); (case z4 => k_is); (case z5 => k_is); (case z6 => k_is); (case z7 => k_is); (case z8 => k_is); (case z9 => k_is); (case z10 => k_is); (case z11 => k_is)
