import PyProof.Rows.All
import Wide.All
import OpenK.AllK
import Wide.FinOn
import HandS.ForMost
import HandS.Walk
import HandS.Zip
import HandS.Wide
import HandS.TupAny
import HandS.TupMul
import HandS.Flow
import HandS.Style
import HandS.Comp
import HandS.Strs
import HandS.Dict
import HandS.Deep
import KE.GoesZip
import KE.GoesEnum
import KE.GoesMore
import HandS.Ends
import HandS.Words
import PyProof.WalksMore
import PyProof.WalkInts
import HandS.SortKw
import KE.SortKeyHeap
import PyProof.TupleOfSeq
import HandS.IsInst
import KE.KDictZip
import HandS.Conv
import HandS.ExcInit
import HandS.ExcField
import HandS.TryMany
import HandS.ExcOwn
import HandS.WordsExc
import HandS.Text
import HandS.Iter
import HandS.SetFor
import PyProof.ReprLen
import PyProof.Rows.StrBin
import HandS.More
import PySem.Challenge.RW_neverheaps_k16_worth_pay_and_fair
set_option Elab.async false
set_option linter.all false
set_option maxRecDepth 100000
set_option maxHeartbeats 4000000
/-! MnA: values as plain data with numbered boxes, their tie to the abstract heap. -/
namespace Mn
open PySem PySem.Spec PyProof.Rows L2

/-- plain data; box n is the n-th mutable thing -/
inductive Dt where
  | non | bl (b : Bool) | int (i : Int) | str (x : Str) | tup (xs : List Dt) | box (n : Nat)
  deriving Inhabited

/-- what a box holds: a list, a list that nobody changes, a dict by ints and texts, an instance of the class at C -/
inductive MBox where
  | lst (xs : List Dt) | ro (xs : List Dt) | dk (kvs : List (Key × Dt)) | obj (C : Addr) (fs : List (Str × Dt))
def MBox.mu : MBox → Bool
  | .ro _ => false
  | _ => true

abbrev Bxs := List MBox

/-- a result -/
inductive Rs (α : Type) where
  | ok (a : α) (s : Bxs) | ex (c : Nat) (ds : List Dt) (s : Bxs) | no

def Rs.bind {α β : Type} (r : Rs α) (k : α → Bxs → Rs β) : Rs β := match r with
  | .ok a s => k a s
  | .ex c ds s => .ex c ds s
  | .no => .no
@[simp] theorem Rs.bind_ok {α β : Type} (a : α) (s : Bxs) (k : α → Bxs → Rs β) : (Rs.ok a s).bind k = k a s := rfl
@[simp] theorem Rs.bind_ex {α β : Type} (c : Nat) (ds : List Dt) (s : Bxs) (k : α → Bxs → Rs β) : (Rs.ex c ds s).bind k = .ex c ds s := rfl
@[simp] theorem Rs.bind_no {α β : Type} (k : α → Bxs → Rs β) : (Rs.no).bind k = .no := rfl

def Rs.Sat {α : Type} (r : Rs α) (P : α → Bxs → Prop) (E : Nat → List Dt → Bxs → Prop) : Prop := match r with
  | .ok a s => P a s
  | .ex c ds s => E c ds s
  | .no => False
theorem Rs.sat_bind {α β : Type} {r : Rs α} {k : α → Bxs → Rs β} {P : β → Bxs → Prop} {E : Nat → List Dt → Bxs → Prop} :
    (r.bind k).Sat P E ↔ r.Sat (fun a s => (k a s).Sat P E) E := by
  cases r <;> rfl
theorem Rs.Sat.mono {α : Type} {r : Rs α} {P P' : α → Bxs → Prop} {E E' : Nat → List Dt → Bxs → Prop} (h : r.Sat P E) (hp : ∀ a s, P a s → P' a s) (he : ∀ c ds s, E c ds s → E' c ds s) : r.Sat P' E' := by
  cases r with
  | ok a s => exact hp _ _ h
  | ex c ds s => exact he _ _ _ h
  | no => exact h

/-! ### the tie -/
/-- a plain tuple's object -/
def PT0 (o : Obj) : Prop := o.cls = .type "tuple" ∧ o.dict = none
/-- a tuple that is known to have no dict -/
def Tp (K : PySem.W.Frag) (H : Hp) (a : Addr) (vs : List V) : Prop :=
  (∃ o, H a = some (.frz o (.tup vs)) ∧ PT0 o) ∨ ∃ (o : Obj) (its : Array Value) (n : Nat), K.lookup a = some o ∧ PT0 o ∧ o.data = .seq its n ∧ its.size ≤ sizeLine ∧ Vals vs its.toList
theorem Tp.sqt {K : PySem.W.Frag} {H : Hp} {a : Addr} {vs : List V} (h : Tp K H a vs) : SqT K H a vs := by
  rcases h with ⟨o, h, _⟩ | ⟨o, its, n, h, p, d, z, r⟩
  · exact .inl (.inr ⟨o, h⟩)
  · exact .inr ⟨o, its, n, h, p.1, d, z, r⟩
mutual
inductive DV (K : PySem.W.Frag) (H : Hp) (ρ : List Addr) : Dt → V → Prop
  | non : DV K H ρ .non .non
  | bl (b : Bool) : DV K H ρ (.bl b) (.bl b)
  | int (i : Int) : DV K H ρ (.int i) (.int i)
  | str (x : Str) : DV K H ρ (.str x) (.str x)
  | tup {a : Addr} {ds : List Dt} {vs : List V} : Tp K H a vs → DVs K H ρ ds vs → DV K H ρ (.tup ds) (.ref a)
  | box {n : Nat} {a : Addr} : ρ[n]? = some a → DV K H ρ (.box n) (.ref a)
inductive DVs (K : PySem.W.Frag) (H : Hp) (ρ : List Addr) : List Dt → List V → Prop
  | nil : DVs K H ρ [] []
  | cons {d : Dt} {v : V} {ds : List Dt} {vs : List V} : DV K H ρ d v → DVs K H ρ ds vs → DVs K H ρ (d :: ds) (v :: vs)
end

/-- what never changes stays: tuples, locked things -/
structure Ext (H H' : Hp) : Prop where
  tup : ∀ a xs, H a = some (.tup xs) → H' a = some (.tup xs)
  frz : ∀ a o u, H a = some (.frz o u) → H' a = some (.frz o u)
theorem Ext.refl (H : Hp) : Ext H H := ⟨fun _ _ h => h, fun _ _ _ h => h⟩
theorem Ext.trans {H H1 H2 : Hp} (a : Ext H H1) (b : Ext H1 H2) : Ext H H2 := ⟨fun x o h => b.tup x o (a.tup x o h), fun x o u h => b.frz x o u (a.frz x o u h)⟩
theorem Ext.new {H : Hp} {p : Addr} {o : HO} (h : H p = none) : Ext H (upd H p o) :=
  ⟨fun a xs e => by rw [upd_ne (ne_of_none e h)]; exact e, fun a o u e => by rw [upd_ne (ne_of_none e h)]; exact e⟩
theorem Ext.set {H : Hp} {p : Addr} {xs : List V} {o : HO} (h : H p = some (.lst xs)) : Ext H (upd H p o) :=
  ⟨fun a ys e => by rw [upd_ne (ne_of e h (fun z => nomatch z))]; exact e, fun a o u e => by rw [upd_ne (ne_of e h (fun z => nomatch z))]; exact e⟩
theorem Ext.tp {K : PySem.W.Frag} {H H' : Hp} {a : Addr} {xs : List V} (e : Ext H H') (h : Tp K H a xs) : Tp K H' a xs := by
  rcases h with ⟨o, h, p⟩ | h
  · exact .inl ⟨o, e.frz _ _ _ h, p⟩
  · exact .inr h
theorem pre_get {α : Type} {l m : List α} {n : Nat} {a : α} (p : l <+: m) (h : l[n]? = some a) : m[n]? = some a := by
  obtain ⟨t, rfl⟩ := p
  rw [List.getElem?_append_left (List.getElem?_eq_some_iff.mp h).1]
  exact h

mutual
theorem DV.mono {K : PySem.W.Frag} {H H' : Hp} {ρ ρ' : List Addr} (e : Ext H H') (p : ρ <+: ρ') : ∀ {d : Dt} {v : V}, DV K H ρ d v → DV K H' ρ' d v
  | _, _, .non => .non
  | _, _, .bl b => .bl b
  | _, _, .int i => .int i
  | _, _, .str x => .str x
  | _, _, .tup h hs => .tup (e.tp h) (DVs.mono e p hs)
  | _, _, .box h => .box (pre_get p h)
theorem DVs.mono {K : PySem.W.Frag} {H H' : Hp} {ρ ρ' : List Addr} (e : Ext H H') (p : ρ <+: ρ') : ∀ {ds : List Dt} {vs : List V}, DVs K H ρ ds vs → DVs K H' ρ' ds vs
  | _, _, .nil => .nil
  | _, _, .cons h hs => .cons (DV.mono e p h) (DVs.mono e p hs)
end
section
variable {K : PySem.W.Frag} {H : Hp} {ρ : List Addr}
theorem DVs.length : ∀ {ds : List Dt} {vs : List V}, DVs K H ρ ds vs → ds.length = vs.length
  | _, _, .nil => rfl
  | _, _, .cons _ t => congrArg (· + 1) (DVs.length t)
theorem DVs.get : ∀ {ds : List Dt} {vs : List V} {i : Nat} {d : Dt}, DVs K H ρ ds vs → ds[i]? = some d → ∃ v, vs[i]? = some v ∧ DV K H ρ d v
  | _, _, _, _, .nil, e => by simp at e
  | _, _, 0, _, .cons r _, e => by simp at e; subst e; exact ⟨_, rfl, r⟩
  | _, _, i + 1, d, .cons _ t, e => by
    obtain ⟨u, h1, h2⟩ := DVs.get (i := i) (d := d) t (by simpa using e)
    exact ⟨u, by simpa using h1, h2⟩
theorem DVs.get' : ∀ {ds : List Dt} {vs : List V} {i : Nat} {v : V}, DVs K H ρ ds vs → vs[i]? = some v → ∃ d, ds[i]? = some d ∧ DV K H ρ d v
  | _, _, _, _, .nil, e => by simp at e
  | _, _, 0, _, .cons r _, e => by simp at e; subst e; exact ⟨_, rfl, r⟩
  | _, _, i + 1, d, .cons _ t, e => by
    obtain ⟨u, h1, h2⟩ := DVs.get' (i := i) (v := d) t (by simpa using e)
    exact ⟨u, by simpa using h1, h2⟩
theorem DVs.app : ∀ {ds es : List Dt} {vs ws : List V}, DVs K H ρ ds vs → DVs K H ρ es ws → DVs K H ρ (ds ++ es) (vs ++ ws)
  | _, _, _, _, .nil, s => s
  | _, _, _, _, .cons r t, s => .cons r (DVs.app t s)
theorem DVs.set {d : Dt} {v : V} (r : DV K H ρ d v) : ∀ {ds : List Dt} {vs : List V} (i : Nat), DVs K H ρ ds vs → DVs K H ρ (ds.set i d) (vs.set i v)
  | _, _, _, .nil => .nil
  | _, _, 0, .cons _ t => .cons r t
  | _, _, i + 1, .cons q t => .cons q (DVs.set r i t)
theorem DVs.take : ∀ {ds : List Dt} {vs : List V} (n : Nat), DVs K H ρ ds vs → DVs K H ρ (ds.take n) (vs.take n)
  | _, _, 0, _ => by rw [List.take_zero, List.take_zero]; exact .nil
  | _, _, _ + 1, .nil => .nil
  | _, _, n + 1, .cons r t => .cons r (DVs.take n t)
theorem DVs.drop : ∀ {ds : List Dt} {vs : List V} (n : Nat), DVs K H ρ ds vs → DVs K H ρ (ds.drop n) (vs.drop n)
  | _, _, 0, r => r
  | _, _, _ + 1, .nil => .nil
  | _, _, n + 1, .cons _ t => DVs.drop n t
theorem DVs.insertIdx {d : Dt} {v : V} (r : DV K H ρ d v) : ∀ {ds : List Dt} {vs : List V} (i : Nat), DVs K H ρ ds vs → DVs K H ρ (ds.insertIdx i d) (vs.insertIdx i v)
  | _, _, 0, t => .cons r t
  | _, _, _ + 1, .nil => .nil
  | _, _, i + 1, .cons q t => .cons q (DVs.insertIdx r i t)
theorem DVs.rep {d : Dt} {v : V} (r : DV K H ρ d v) : ∀ n : Nat, DVs K H ρ (List.replicate n d) (List.replicate n v)
  | 0 => .nil
  | n + 1 => .cons r (DVs.rep r n)
end

/-- a list that nobody changes -/
def Ro (K : PySem.W.Frag) (H : Hp) (a : Addr) (vs : List V) : Prop := (∃ o, H a = some (.frz o (.lst vs))) ∨ ∀ H', SqL K H' a vs
theorem Ro.mono {K : PySem.W.Frag} {H H' : Hp} {a : Addr} {vs : List V} (e : Ext H H') (h : Ro K H a vs) : Ro K H' a vs := by
  rcases h with ⟨o, h⟩ | h
  · exact .inl ⟨o, e.frz _ _ _ h⟩
  · exact .inr h
theorem Ro.sql {K : PySem.W.Frag} {H : Hp} {a : Addr} {vs : List V} (h : Ro K H a vs) : SqL K H a vs := by
  rcases h with ⟨o, h⟩ | h
  · exact .inl (.inr ⟨o, h⟩)
  · exact h H
/-- pairs, their second parts data -/
inductive DPs {κ : Type} (K : PySem.W.Frag) (H : Hp) (ρ : List Addr) : List (κ × Dt) → List (κ × V) → Prop
  | nil : DPs K H ρ [] []
  | cons {k : κ} {d : Dt} {v : V} {ds : List (κ × Dt)} {vs : List (κ × V)} : DV K H ρ d v → DPs K H ρ ds vs → DPs K H ρ ((k, d) :: ds) ((k, v) :: vs)
theorem DPs.mono {κ : Type} {K : PySem.W.Frag} {H H' : Hp} {ρ ρ' : List Addr} (e : Ext H H') (p : ρ <+: ρ') : ∀ {ds : List (κ × Dt)} {vs : List (κ × V)}, DPs K H ρ ds vs → DPs K H' ρ' ds vs
  | _, _, .nil => .nil
  | _, _, .cons h hs => .cons (h.mono e p) (DPs.mono e p hs)
theorem DPs.length {κ : Type} {K : PySem.W.Frag} {H : Hp} {ρ : List Addr} : ∀ {ds : List (κ × Dt)} {vs : List (κ × V)}, DPs K H ρ ds vs → ds.length = vs.length
  | _, _, .nil => rfl
  | _, _, .cons _ t => congrArg (· + 1) (DPs.length t)
/-- what a box holds stands at a -/
def BoxAt (K : PySem.W.Frag) (H : Hp) (ρ : List Addr) (a : Addr) : MBox → Prop
  | .lst xs => ∃ vs, H a = some (.lst vs) ∧ DVs K H ρ xs vs
  | .ro xs => ∃ vs, Ro K H a vs ∧ DVs K H ρ xs vs
  | .dk kvs => ∃ ws, H a = some (.dK ws) ∧ DPs K H ρ kvs ws
  | .obj C fs => ∃ dx ws, H a = some (.ins C dx ws) ∧ DPs K H ρ fs ws
/-- the part of the heap that a box leans on -/
theorem BoxAt.mono {K : PySem.W.Frag} {H H' : Hp} {ρ ρ' : List Addr} {a : Addr} {b : MBox} (e : Ext H H') (p : ρ <+: ρ') (ha : b.mu = true → H' a = H a) (h : BoxAt K H ρ a b) : BoxAt K H' ρ' a b := by
  cases b with
  | lst xs => obtain ⟨vs, h1, h2⟩ := h; exact ⟨vs, (ha rfl).trans h1, h2.mono e p⟩
  | ro xs => obtain ⟨vs, h1, h2⟩ := h; exact ⟨vs, h1.mono e, h2.mono e p⟩
  | dk kvs => obtain ⟨vs, h1, h2⟩ := h; exact ⟨vs, (ha rfl).trans h1, h2.mono e p⟩
  | obj C fs => obtain ⟨dx, vs, h1, h2⟩ := h; exact ⟨dx, vs, (ha rfl).trans h1, h2.mono e p⟩
theorem BoxAt.some {K : PySem.W.Frag} {H : Hp} {ρ : List Addr} {a : Addr} {b : MBox} (h : BoxAt K H ρ a b) (hb : b.mu = true) : ∃ o, H a = .some o := by
  cases b with
  | lst xs => obtain ⟨vs, h1, _⟩ := h; exact ⟨_, h1⟩
  | ro xs => cases hb
  | dk kvs => obtain ⟨vs, h1, _⟩ := h; exact ⟨_, h1⟩
  | obj C fs => obtain ⟨dx, vs, h1, _⟩ := h; exact ⟨_, h1⟩
/-- the boxes stand in the heap -/
structure HR (K : PySem.W.Frag) (H : Hp) (ρ : List Addr) (S : Bxs) : Prop where
  len : ρ.length = S.length
  at_ : ∀ (n : Nat) b, S[n]? = some b → ∃ a, ρ[n]? = some a ∧ BoxAt K H ρ a b
  inj : ∀ (n m : Nat) b c a, S[n]? = some b → S[m]? = some c → b.mu = true → c.mu = true → ρ[n]? = some a → ρ[m]? = some a → n = m
theorem HR.lst {K : PySem.W.Frag} {H : Hp} {ρ : List Addr} {S : Bxs} (h : HR K H ρ S) (n : Nat) (xs : List Dt) (e : S[n]? = some (MBox.lst xs)) : ∃ a vs, ρ[n]? = some a ∧ H a = some (.lst vs) ∧ DVs K H ρ xs vs := by
  obtain ⟨a, h1, vs, h2, h3⟩ := h.at_ n _ e
  exact ⟨a, vs, h1, h2, h3⟩
theorem HR.ro {K : PySem.W.Frag} {H : Hp} {ρ : List Addr} {S : Bxs} (h : HR K H ρ S) (n : Nat) (xs : List Dt) (e : S[n]? = some (MBox.ro xs)) : ∃ a vs, ρ[n]? = some a ∧ Ro K H a vs ∧ DVs K H ρ xs vs := by
  obtain ⟨a, h1, vs, h2, h3⟩ := h.at_ n _ e
  exact ⟨a, vs, h1, h2, h3⟩
theorem HR.dk {K : PySem.W.Frag} {H : Hp} {ρ : List Addr} {S : Bxs} (h : HR K H ρ S) (n : Nat) (xs : List (Key × Dt)) (e : S[n]? = some (MBox.dk xs)) : ∃ a vs, ρ[n]? = some a ∧ H a = some (.dK vs) ∧ DPs K H ρ xs vs := by
  obtain ⟨a, h1, vs, h2, h3⟩ := h.at_ n _ e
  exact ⟨a, vs, h1, h2, h3⟩

/-- a new box -/
theorem HR.grown {K : PySem.W.Frag} {H H' : Hp} {ρ : List Addr} {S : Bxs} {p : Addr} {b : MBox} (h : HR K H ρ S) (hk : ∀ a u, H a = some u → H' a = some u) (hp : H p = none) (hb : BoxAt K H' (ρ ++ [p]) p b) :
    HR K H' (ρ ++ [p]) (S ++ [b]) := by
  have e : Ext H H' := ⟨fun a xs z => hk _ _ z, fun a o u z => hk _ _ z⟩
  have pre : ρ <+: ρ ++ [p] := List.prefix_append _ _
  have cut : ∀ (n : Nat) (x : MBox), (S ++ [b])[n]? = some x → (n < S.length ∧ S[n]? = some x) ∨ (n = S.length ∧ x = b) := fun n x hx => by
    by_cases hn : n < S.length
    · rw [List.getElem?_append_left hn] at hx
      exact .inl ⟨hn, hx⟩
    · rw [List.getElem?_append_right (by omega)] at hx
      by_cases h0 : n - S.length = 0
      · rw [h0] at hx
        exact .inr ⟨by omega, (Option.some.inj hx).symm⟩
      · rw [List.getElem?_eq_none (by simp; omega)] at hx
        cases hx
  have last : (ρ ++ [p])[S.length]? = some p := by
    rw [← h.len, List.getElem?_append_right (Nat.le_refl _), Nat.sub_self]; rfl
  have old : ∀ (n : Nat) (x : MBox), S[n]? = some x → x.mu = true → ∃ a, ρ[n]? = some a ∧ a ≠ p := fun n x hx hm => by
    obtain ⟨a, h1, h2⟩ := h.at_ n x hx
    obtain ⟨u, hu⟩ := h2.some hm
    exact ⟨a, h1, ne_of_none hu hp⟩
  refine ⟨by simp [h.len], fun n x hx => ?_, fun n m x y a h1 h2 mx my h3 h4 => ?_⟩
  · rcases cut n _ hx with ⟨hn, hx⟩ | ⟨en, ex⟩
    · obtain ⟨a, h1, h2⟩ := h.at_ n x hx
      refine ⟨a, pre_get pre h1, h2.mono e pre fun hm => ?_⟩
      obtain ⟨u, hu⟩ := h2.some hm
      rw [hu]; exact hk _ _ hu
    · subst en; subst ex
      exact ⟨p, last, hb⟩
  · rcases cut n x h1 with ⟨hn, g1⟩ | ⟨rfl, _⟩
    · rcases cut m y h2 with ⟨hm, g2⟩ | ⟨rfl, _⟩
      · obtain ⟨a1, q1, _⟩ := old n x g1 mx
        obtain ⟨a2, q2, _⟩ := old m y g2 my
        rw [pre_get pre q1] at h3
        rw [pre_get pre q2] at h4
        cases h3; cases h4
        exact h.inj n m x y a g1 g2 mx my q1 q2
      · obtain ⟨a1, q1, q2⟩ := old n x g1 mx
        rw [pre_get pre q1] at h3
        rw [last] at h4
        cases h3; cases h4
        exact absurd rfl q2
    · rcases cut m y h2 with ⟨hm, g2⟩ | ⟨rfl, _⟩
      · obtain ⟨a1, q1, q2⟩ := old m y g2 my
        rw [pre_get pre q1] at h4
        rw [last] at h3
        cases h3; cases h4
        exact absurd rfl q2
      · rfl
theorem upd_keeps {H : Hp} {p : Addr} {o : HO} (hp : H p = none) : ∀ a u, H a = some u → upd H p o a = some u := fun a u e => by rw [upd_ne (ne_of_none e hp)]; exact e
theorem HR.newB {K : PySem.W.Frag} {H : Hp} {ρ : List Addr} {S : Bxs} {p : Addr} {b : MBox} {o : HO} (h : HR K H ρ S) (hp : H p = none) (hb : BoxAt K (upd H p o) (ρ ++ [p]) p b) :
    HR K (upd H p o) (ρ ++ [p]) (S ++ [b]) := h.grown (upd_keeps hp) hp hb
theorem HR.new {K : PySem.W.Frag} {H : Hp} {ρ : List Addr} {S : Bxs} {p : Addr} {xs : List Dt} {vs : List V} (h : HR K H ρ S) (hp : H p = none) (hd : DVs K H ρ xs vs) :
    HR K (upd H p (.lst vs)) (ρ ++ [p]) (S ++ [MBox.lst xs]) := h.newB hp ⟨vs, upd_same, hd.mono (Ext.new hp) (List.prefix_append _ _)⟩
/-- a box changed; what changes is no tuple, nothing locked -/
theorem HR.setB {K : PySem.W.Frag} {H : Hp} {ρ : List Addr} {S : Bxs} {n : Nat} {a : Addr} {b c : MBox} {o : HO} (h : HR K H ρ S) (hn : S[n]? = some b) (mb : b.mu = true) (mc : c.mu = true) (ha : ρ[n]? = some a) (e : Ext H (upd H a o)) (hc : BoxAt K (upd H a o) ρ a c) :
    HR K (upd H a o) ρ (S.set n c) := by
  have hl : n < S.length := (List.getElem?_eq_some_iff.mp hn).1
  have same : ∀ (m : Nat) y, (S.set n c)[m]? = some y → y.mu = true → ∃ z, S[m]? = some z ∧ z.mu = true := fun m y hy hm => by
    by_cases hmn : n = m
    · subst hmn; exact ⟨b, hn, mb⟩
    · rw [List.getElem?_set_ne hmn] at hy
      exact ⟨y, hy, hm⟩
  refine ⟨by simp [h.len], fun m y hy => ?_, fun k m y z x h1 h2 my mz h3 h4 => ?_⟩
  · by_cases hm : n = m
    · subst hm
      rw [List.getElem?_set_self hl] at hy
      cases hy
      exact ⟨a, ha, hc⟩
    · rw [List.getElem?_set_ne hm] at hy
      obtain ⟨x, h1, h2⟩ := h.at_ m y hy
      exact ⟨x, h1, h2.mono e (List.prefix_refl _) fun my => upd_ne fun q => hm (h.inj n m b y a hn hy mb my ha (q ▸ h1))⟩
  · obtain ⟨y', h1', m1⟩ := same k y h1 my
    obtain ⟨z', h2', m2⟩ := same m z h2 mz
    exact h.inj k m y' z' x h1' h2' m1 m2 h3 h4
/-- a box's list changed -/
theorem HR.set {K : PySem.W.Frag} {H : Hp} {ρ : List Addr} {S : Bxs} {n : Nat} {a : Addr} {xs0 xs : List Dt} {vs0 vs : List V} (h : HR K H ρ S) (hn : S[n]? = some (MBox.lst xs0)) (ha : ρ[n]? = some a) (hH : H a = some (.lst vs0)) (hd : DVs K H ρ xs vs) :
    HR K (upd H a (.lst vs)) ρ (S.set n (MBox.lst xs)) := h.setB hn rfl rfl ha (Ext.set hH) ⟨vs, upd_same, hd.mono (Ext.set hH) (List.prefix_refl _)⟩
theorem Ext.setD {H : Hp} {p : Addr} {xs : List (Key × V)} {o : HO} (h : H p = some (.dK xs)) : Ext H (upd H p o) :=
  ⟨fun a ys e => by rw [upd_ne (ne_of e h (fun z => nomatch z))]; exact e, fun a o u e => by rw [upd_ne (ne_of e h (fun z => nomatch z))]; exact e⟩
theorem Ext.setO {H : Hp} {p C dx : Addr} {fs : List (Str × V)} {o : HO} (h : H p = some (.ins C dx fs)) : Ext H (upd H p o) :=
  ⟨fun a ys e => by rw [upd_ne (ne_of e h (fun z => nomatch z))]; exact e, fun a o u e => by rw [upd_ne (ne_of e h (fun z => nomatch z))]; exact e⟩
/-- a box's dict changed -/
theorem HR.setD {K : PySem.W.Frag} {H : Hp} {ρ : List Addr} {S : Bxs} {n : Nat} {a : Addr} {xs0 xs : List (Key × Dt)} {vs0 vs : List (Key × V)} (h : HR K H ρ S) (hn : S[n]? = some (MBox.dk xs0)) (ha : ρ[n]? = some a) (hH : H a = some (.dK vs0)) (hd : DPs K H ρ xs vs) :
    HR K (upd H a (.dK vs)) ρ (S.set n (MBox.dk xs)) := h.setB hn rfl rfl ha (Ext.setD hH) ⟨vs, upd_same, hd.mono (Ext.setD hH) (List.prefix_refl _)⟩
/-- the heap grows otherwise (a new tuple) -/
theorem HR.tup {K : PySem.W.Frag} {H : Hp} {ρ : List Addr} {S : Bxs} {p : Addr} {o : HO} (h : HR K H ρ S) (hp : H p = none) : HR K (upd H p o) ρ S := by
  refine ⟨h.len, fun n y hy => ?_, h.inj⟩
  obtain ⟨a, h1, h2⟩ := h.at_ n y hy
  refine ⟨a, h1, h2.mono (Ext.new hp) (List.prefix_refl _) fun hm => ?_⟩
  obtain ⟨u, hu⟩ := h2.some hm
  exact upd_ne (ne_of_none hu hp)

/-! ### the slots -/
abbrev Sg := List (Option Dt)
structure Sl (K : PySem.W.Frag) (H : Hp) (ρ : List Addr) (σ : Sg) (τ : L2.St) : Prop where
  len : σ.length = τ.length
  at_ : ∀ (i : Nat) d, σ[i]? = some (some d) → ∃ v, τ[i]? = some (some v) ∧ DV K H ρ d v
theorem Sl.mono {K : PySem.W.Frag} {H H' : Hp} {ρ ρ' : List Addr} {σ : Sg} {τ : L2.St} (e : Ext H H') (p : ρ <+: ρ') (h : Sl K H ρ σ τ) : Sl K H' ρ' σ τ :=
  ⟨h.len, fun i d q => let ⟨v, h1, h2⟩ := h.at_ i d q; ⟨v, h1, h2.mono e p⟩⟩
theorem Sl.set {K : PySem.W.Frag} {H : Hp} {ρ : List Addr} {σ : Sg} {τ : L2.St} (h : Sl K H ρ σ τ) {d : Dt} {v : V} (i : Nat) (r : DV K H ρ d v) : Sl K H ρ (σ.set i (some d)) (τ.set i (some v)) := by
  refine ⟨by simp [h.len], fun j e q => ?_⟩
  by_cases hj : i = j
  · subst hj
    by_cases hi : i < σ.length
    · rw [List.getElem?_set_self hi] at q
      cases q
      exact ⟨v, by rw [List.getElem?_set_self (by rw [← h.len]; exact hi)], r⟩
    · rw [List.getElem?_eq_none (by simpa using hi)] at q
      cases q
  · rw [List.getElem?_set_ne hj] at q
    rw [List.getElem?_set_ne hj]
    exact h.at_ j e q
theorem Sl.forget {K : PySem.W.Frag} {H : Hp} {ρ : List Addr} {σ : Sg} {τ : L2.St} (h : Sl K H ρ σ τ) (i : Nat) : Sl K H ρ (σ.set i none) (τ.set i none) := by
  refine ⟨by simp [h.len], fun j e q => ?_⟩
  by_cases hj : i = j
  · subst hj
    by_cases hi : i < σ.length
    · rw [List.getElem?_set_self hi] at q
      cases q
    · rw [List.getElem?_eq_none (by simpa using hi)] at q
      cases q
  · rw [List.getElem?_set_ne hj] at q
    rw [List.getElem?_set_ne hj]
    exact h.at_ j e q
def wipeD (σ : Sg) : List Nat → Sg
  | [] => σ
  | v :: vs => (wipeD σ vs).set v none
theorem Sl.wipe {K : PySem.W.Frag} {H : Hp} {ρ : List Addr} {σ : Sg} {τ : L2.St} (h : Sl K H ρ σ τ) : ∀ vs : List Nat, Sl K H ρ (wipeD σ vs) (L2.wipe τ vs)
  | [] => h
  | v :: vs => (Sl.wipe h vs).forget v

/-- the state of both sides -/
structure Ty (K : PySem.W.Frag) (H : Hp) (ρ : List Addr) (σ : Sg) (S : Bxs) (τ : L2.St) : Prop where
  hr : HR K H ρ S
  sl : Sl K H ρ σ τ
/-- a way on -/
structure To (H H' : Hp) (ρ ρ' : List Addr) : Prop where
  ext : Ext H H'
  pre : ρ <+: ρ'
theorem To.refl (H : Hp) (ρ : List Addr) : To H H ρ ρ := ⟨Ext.refl H, List.prefix_refl _⟩
theorem To.trans {H H1 H2 : Hp} {ρ ρ1 ρ2 : List Addr} (a : To H H1 ρ ρ1) (b : To H1 H2 ρ1 ρ2) : To H H2 ρ ρ2 := ⟨a.ext.trans b.ext, a.pre.trans b.pre⟩
theorem DV.to {K : PySem.W.Frag} {H H' : Hp} {ρ ρ' : List Addr} {d : Dt} {v : V} (t : To H H' ρ ρ') (h : DV K H ρ d v) : DV K H' ρ' d v := h.mono t.ext t.pre
theorem DVs.to {K : PySem.W.Frag} {H H' : Hp} {ρ ρ' : List Addr} {d : List Dt} {v : List V} (t : To H H' ρ ρ') (h : DVs K H ρ d v) : DVs K H' ρ' d v := h.mono t.ext t.pre
theorem Sl.to {K : PySem.W.Frag} {H H' : Hp} {ρ ρ' : List Addr} {σ : Sg} {τ : L2.St} (t : To H H' ρ ρ') (h : Sl K H ρ σ τ) : Sl K H' ρ' σ τ := h.mono t.ext t.pre
end Mn

set_option Elab.async false
set_option linter.all false
set_option maxRecDepth 100000
set_option maxHeartbeats 4000000
/-! MnT: tuples that are tracked with their object: no dict. -/
namespace Mn
open PySem PySem.Spec PyProof.Rows L2
/-- «for a new tuple of ys» -/
def NewT (ys : List V) (H : Hp) (Q : VK) : Prop := ∀ p o, H p = none → PT0 o → Q (.ref p) (upd H p (.frz o (.tup ys)))
section
variable {X : Cx} {pins : List (Addr × Obj)} {σ : L2.St} {H : Hp} {s : Shared}
theorem laidT {ys : List V} {us : List Value} {tk : Nat} {Q : VK} (I : Inv X pins σ H s) (r : Vals ys us) (hz : ys.length ≤ sizeLine) (q : NewT ys H Q) :
    EP X pins σ Q (.ref s.heap.objs.size) { s with heap := s.heap.push { cls := .type "tuple", data := .seq us.toArray }, toks := tk } := by
  have nf : H s.heap.objs.size = none := I.hok.fresh (Nat.le_refl _)
  refine ⟨.ref s.heap.objs.size, _, ?_, rfl, q _ { cls := .type "tuple", data := .seq us.toArray } nf ⟨rfl, rfl⟩⟩
  refine I.laid (t' := tk) (fun b u e => Heap.get?_push_of_some _ e) (Nat.le_refl _) ?_
  exact ⟨Heap.get?_push_size _ rfl, hz, us, r, ⟨_, Heap.get?_push_size _ rfl, rfl, _, rfl⟩⟩
def tTupZ (t : TA) : TE := fun σ H Q => t σ H fun xs H1 => xs.length ≤ sizeLine ∧ NewT xs H1 Q
theorem pe_tupZ {es : List Expr} {k : Nat} {pos : Pos} {t : TA} (h : PA X es t) : PE X (.Tuple es k pos) (tTupZ t) := by
  constructor
  intro pins s σ H Q I hq
  refine wpAny_Tuple_spliced (thn (h.run pos pins s σ H _ I hq) ?_)
  rintro us s1 ⟨xs, H1, I1, r, z, q⟩
  exact ⟨by rw [← r.length]; exact z, laidT I1 r z q⟩
/-- tuple(x) -/
def rTupZ (K : PySem.W.Frag) : List V → Hp → VK → Prop := fun xs H Q => ∃ p ys, xs = [.ref p] ∧ ((SqL K H p ys ∧ NewT ys H Q) ∨ (SqT K H p ys ∧ Q (.ref p) H))
theorem call_tupleZ : CallR X (.type "tuple") (rTupZ X.K) := by
  rintro pins s σ H xs us Q I r ⟨p, ys, rfl, h⟩
  obtain ⟨u, rfl, rx⟩ := vals1 r
  cases rx
  rcases h with ⟨hq, q⟩ | ⟨hq, q⟩
  · obtain ⟨its, r', pl, hz⟩ := I.list hq
    have hn := r'.length
    refine call_tuple_list pl.isList (fun h' kp => ?_) (by rw [List.size_toArray]; omega)
    have I1 : Inv X pins σ H { s with heap := h' } := I.kept (t' := s.toks) kp
    exact laidT (tk := s.toks) I1 r' hz q
  · obtain ⟨its, r', pl, hz⟩ := I.tuple hq
    exact call_tuple_same pl ⟨.ref p, H, I, rfl, q⟩
/-- t + u -/
def rCatZ (K : PySem.W.Frag) : R2 := fun x y H Q => ∃ a b xs ys, x = .ref a ∧ y = .ref b ∧ SqT K H a xs ∧ SqT K H b ys ∧ xs.length + ys.length ≤ sizeLine ∧
  (xs = [] → Q (.ref b) H) ∧ (xs ≠ [] → ys = [] → Q (.ref a) H) ∧ (xs ≠ [] → ys ≠ [] → NewT (xs ++ ys) H Q)
theorem op_catZ : OpR X (binaryOp .Add) (rCatZ X.K) := by
  rintro pins s σ H x y v u Q I rx ry ⟨a, b, xs, ys, rfl, rfl, ha, hb, hz, q0, q1, q2⟩
  cases rx
  cases ry
  obtain ⟨its, r1, p1, _⟩ := I.tuple ha
  obtain ⟨its2, r2, p2, _⟩ := I.tuple hb
  by_cases hx : xs = []
  · subst hx
    cases r1
    exact cat_tup0 p1 p2 ⟨.ref b, H, I, rfl, q0 rfl⟩
  · have hx' : its ≠ [] := fun z => hx (r1.nil_iff.mp z)
    have hsz : its.length + its2.length ≤ sizeLine := by rw [← r1.length, ← r2.length]; exact hz
    refine HT.cat_tup p1 p2 hx' (fun z => ⟨.ref a, H, I, rfl, q1 hx (r2.nil_iff.mp z)⟩) (fun z => ?_) hsz
    exact laidT (tk := s.toks) I (r1.append r2) (by rw [List.length_append]; exact hz) (q2 hx fun w => z (r2.nil_iff.mpr w))
/-- t[lo:hi] -/
def wholeCut (n : Nat) (lo hi : Option Int) : Bool := decide (HT.sIx n 0 lo = 0) && decide (HT.sIx n n hi = n)
def rSlZ (K : PySem.W.Frag) : V → Option Int → Option Int → Hp → VK → Prop := fun x lo hi H Q => ∃ a xs, x = .ref a ∧ SqT K H a xs ∧
  (wholeCut xs.length lo hi = true → Q (.ref a) H) ∧ (wholeCut xs.length lo hi = false → NewT (cutV xs lo hi) H Q)
theorem sl_tupZ : SlR X (rSlZ X.K) := by
  rintro pins s σ H x v vl vu lo hi sl Q I rx hs pl pu ⟨a, xs, rfl, hx, q1, q2⟩
  cases rx
  obtain ⟨its, r, ht, hz⟩ := I.tuple hx
  have hlen : its.toArray.size = xs.length := by rw [List.size_toArray]; exact r.length.symm
  refine ⟨"tuple", _, PyProof.Rows.slot_tuple_getitem.lookup, ht.typeIs, ?_⟩
  cases hw : wholeCut xs.length lo hi with
  | true =>
    have hw' : HT.sIx xs.length 0 lo = 0 ∧ HT.sIx xs.length xs.length hi = xs.length := by
      unfold wholeCut at hw
      rw [Bool.and_eq_true, decide_eq_true_eq, decide_eq_true_eq] at hw
      exact hw
    exact getItem_tuple_whole ht hs pl pu (by rw [hlen]; exact hw') ⟨.ref a, H, I, rfl, q1 hw⟩
  | false =>
    have hw' : ¬ (HT.sIx xs.length 0 lo = 0 ∧ HT.sIx xs.length xs.length hi = xs.length) := fun z => by
      unfold wholeCut at hw
      rw [decide_eq_true z.1, decide_eq_true z.2] at hw
      cases hw
    refine HT.getItem_tuple_cut ht hs pl pu (by rw [hlen]; exact hw') ?_ (by rw [hlen]; exact hz)
    rw [hlen]
    have rr : Vals (cutV xs lo hi) ((its.drop (HT.sIx xs.length 0 lo)).take (HT.sIx xs.length xs.length hi - HT.sIx xs.length 0 lo)) := (r.drop _).take _
    exact laidT (tk := s.toks) I rr (Nat.le_trans (cutV_length xs lo hi) hz) (q2 hw)
end

/-! ### t * k -/
section
theorem tmul_same (l : Addr) (items : Array Value) (n : Nat) (dd : Option Addr) (sl : Array (Option Value)) (x : Int) (u : Tok)
    (c0 : (decide (x < -(2 ^ 63)) || decide (x ≥ 2 ^ 63)) = false) (c1 : (items.isEmpty || x == 1) = true) :
    Meets (Builtin.«tuple.__mul__» ⟨[.ref l, .int x u], []⟩) (fun _ Z s =>
      s.heap.get? l = some { cls := .type "tuple", dict := dd, data := .seq items n, slots := sl } ∧ Z (.ok (.ret (Value.ref l))) s) :=
  .of_wp fun prog w A Z s h => by
    obtain ⟨hp, g, d, tk, os⟩ := s
    obtain ⟨hl, h⟩ := h
    have f1 := AutoSeq1.idx_int
    wp_walk using wpAny_loadPart' hl
    repeat (first
      | (refine wpAny_ite_false (decide_eq_false (by rw [c0]; exact Bool.false_ne_true)) ?_; wp_walk using wpAny_loadPart' hl)
      | (refine wpAny_ite_true (decide_eq_true c1) ?_; wp_walk using wpAny_loadPart' hl))
    exact ⟨_, rfl, h⟩
theorem tmul_none (l : Addr) (items : Array Value) (n : Nat) (dd : Option Addr) (sl : Array (Option Value)) (x : Int) (u : Tok)
    (c0 : (decide (x < -(2 ^ 63)) || decide (x ≥ 2 ^ 63)) = false) (c1 : (items.isEmpty || x == 1) = false) (c2 : (decide (x ≤ 0) || items.isEmpty) = true) :
    Meets (Builtin.«tuple.__mul__» ⟨[.ref l, .int x u], []⟩) (fun _ Z s =>
      s.heap.get? l = some { cls := .type "tuple", dict := dd, data := .seq items n, slots := sl } ∧
        Z (.ok (.ret (Value.ref s.heap.objs.size))) { s with heap := s.heap.push { cls := Value.type "tuple", data := Data.seq #[] }, toks := s.toks }) :=
  .of_wp fun prog w A Z s h => by
    obtain ⟨hp, g, d, tk, os⟩ := s
    obtain ⟨hl, h⟩ := h
    have f1 := AutoSeq1.idx_int
    wp_walk using wpAny_loadPart' hl
    repeat (first
      | (refine wpAny_ite_false (decide_eq_false (by rw [c0]; exact Bool.false_ne_true)) ?_; wp_walk using wpAny_loadPart' hl)
      | (refine wpAny_ite_false (decide_eq_false (by rw [c1]; exact Bool.false_ne_true)) ?_; wp_walk using wpAny_loadPart' hl)
      | (refine wpAny_ite_true (decide_eq_true c2) ?_; wp_walk using wpAny_loadPart' hl))
    exact ⟨_, rfl, h⟩
def rRepZ (K : PySem.W.Frag) : R2 := fun x y H Q => ∃ l k xs, x = .ref l ∧ y = .int k ∧ SqT K H l xs ∧ xs ≠ [] ∧ -1000 ≤ k ∧ k ≤ 1000 ∧ xs.length ≤ 100 ∧
  (k = 1 → Q (.ref l) H) ∧ (k ≤ 0 → NewT [] H Q) ∧ (2 ≤ k → NewT (List.replicate k.toNat xs).flatten H Q)
variable {X : Cx}
theorem op_repZ : OpR X (binaryOp .Mult) (rRepZ X.K) := by
  rintro pins s σ H x y v u Q I rx ry ⟨l, k, xs, rfl, rfl, hT, hne, h1, h2, hz, q1, q0, q2⟩
  cases rx
  obtain ⟨t, rfl⟩ := ry
  obtain ⟨its, r, ⟨⟨cls, dd, data, sl⟩, ho, hc, n, hd⟩, hs⟩ := I.tuple hT
  simp only at hc hd
  subst hc hd
  have hle : its.length = xs.length := r.length.symm
  have hi : its.toArray.isEmpty = false := by
    cases its with
    | nil => exact absurd (List.eq_nil_of_length_eq_zero hle.symm) hne
    | cons a b => rfl
  have c0 : (decide (k < -(2 ^ 63)) || decide (k ≥ 2 ^ 63)) = false := by
    rw [decide_eq_false (by omega), decide_eq_false (by omega)] <;> rfl
  by_cases hk1 : k = 1
  · have c1 : (its.toArray.isEmpty || k == 1) = true := by rw [hk1]; simp
    refine wpAny_binaryOp_repeat_ref (T := "tuple") (U := "int") (by decide) ⟨_, ho, rfl⟩ (fun s' => typeIs_int s' k t) noFill_tuple_mul F.fills_int_mul F.slot_int_rmul repeat_tuple F.slot_int_index.lookup
      (call_meets F.slot_int_rmul (typeIs_int s k t) F.entry_int_rmul (F.args_int_rmul_2 _ _) (int_rmul_tuple k t l its.toArray n dd sl)
        ⟨ho, rfl, ⟨_, ho, rfl⟩, call_meets F.slot_tuple_mul ⟨_, ho, rfl⟩ F.entry_tuple_mul (F.args_tuple_mul_2 _ _) (tmul_same l its.toArray n dd sl k t c0 c1) ⟨ho, ?_⟩⟩)
    exact ⟨.ref l, H, I, rfl, q1 hk1⟩
  · have c1 : (its.toArray.isEmpty || k == 1) = false := by
      rw [hi, Bool.false_or]
      exact beq_eq_false_iff_ne.mpr hk1
    by_cases hk0 : k ≤ 0
    · have c2 : (decide (k ≤ 0) || its.toArray.isEmpty) = true := by rw [decide_eq_true hk0]; rfl
      refine wpAny_binaryOp_repeat_ref (T := "tuple") (U := "int") (by decide) ⟨_, ho, rfl⟩ (fun s' => typeIs_int s' k t) noFill_tuple_mul F.fills_int_mul F.slot_int_rmul repeat_tuple F.slot_int_index.lookup
        (call_meets F.slot_int_rmul (typeIs_int s k t) F.entry_int_rmul (F.args_int_rmul_2 _ _) (int_rmul_tuple k t l its.toArray n dd sl)
          ⟨ho, rfl, ⟨_, ho, rfl⟩, call_meets F.slot_tuple_mul ⟨_, ho, rfl⟩ F.entry_tuple_mul (F.args_tuple_mul_2 _ _) (tmul_none l its.toArray n dd sl k t c0 c1 c2) ⟨ho, ?_⟩⟩)
      exact laidT (us := []) (tk := s.toks) I .nil (by decide) (q0 hk0)
    · have hsz0 : its.toArray.size = xs.length := by rw [List.size_toArray, hle]
      have hm : ((its.toArray.size : Nat) : Int) * k ≤ 100000 := by
        rw [hsz0]
        have a1 : ((xs.length : Nat) : Int) * k ≤ 100 * k := Int.mul_le_mul_of_nonneg_right (by omega) (by omega)
        omega
      have a2 : k.toNat * xs.length ≤ 1000 * 100 := Nat.mul_le_mul (by omega) hz
      have flen : (List.replicate k.toNat its).flatten.length ≤ sizeLine := by
        rw [PyProof.Rows.lm_len_rep_flat, hle, sizeLine_eq]
        omega
      have c2 : (decide (k ≤ 0) || its.toArray.isEmpty) = false := by
        rw [hi, Bool.or_false]
        exact decide_eq_false hk0
      have c4 : Builtin.Tuple.tupleTooMany (((its.toArray.size : Nat) : Int) * k) = false := by
        unfold Builtin.Tuple.tupleTooMany
        rw [sizeLine_eq]
        exact decide_eq_false (by omega)
      refine wpAny_binaryOp_repeat_ref (T := "tuple") (U := "int") (by decide) ⟨_, ho, rfl⟩ (fun s' => typeIs_int s' k t) noFill_tuple_mul F.fills_int_mul F.slot_int_rmul repeat_tuple F.slot_int_index.lookup
        (call_meets F.slot_int_rmul (typeIs_int s k t) F.entry_int_rmul (F.args_int_rmul_2 _ _) (int_rmul_tuple k t l its.toArray n dd sl)
          ⟨ho, rfl, ⟨_, ho, rfl⟩, call_meets F.slot_tuple_mul ⟨_, ho, rfl⟩ F.entry_tuple_mul (F.args_tuple_mul_2 _ _) (tuple_mulW l its.toArray n dd sl k t c0 c1 c2 (by omega) c4 (by rw [size_rep, List.size_toArray]; exact flen)) ⟨ho, ?_⟩⟩)
      rw [size_rep]
      exact laidT (tk := s.toks) I (r.rep k.toNat) (by rw [PyProof.Rows.lm_len_rep_flat, sizeLine_eq]; omega) (q2 (by omega))
end
end Mn

set_option Elab.async false
set_option linter.all false
set_option maxRecDepth 100000
set_option maxHeartbeats 4000000
/-! MnB: what an expression comes to, on plain data. -/
namespace Mn
open PySem PySem.Spec PyProof.Rows L2

/-- what is wanted of an exception, at the data: its class's number, its fields, the boxes; the heap, the boxes' places -/
abbrev ER := Nat → List Dt → Bxs → Hp → List Addr → Prop

def KO (K : PySem.W.Frag) (H : Hp) (ρ : List Addr) (Q : VK) : Dt → Bxs → Prop := fun d S' => ∀ v H' ρ', To H H' ρ ρ' → HR K H' ρ' S' → DV K H' ρ' d v → Q v H'
def KB (K : PySem.W.Frag) (H : Hp) (ρ : List Addr) (Q : Bool → Hp → Prop) : Bool → Bxs → Prop := fun b S' => ∀ H' ρ', To H H' ρ ρ' → HR K H' ρ' S' → Q b H'
def KA (K : PySem.W.Frag) (H : Hp) (ρ : List Addr) (Q : List V → Hp → Prop) : List Dt → Bxs → Prop := fun ds S' => ∀ vs H' ρ', To H H' ρ ρ' → HR K H' ρ' S' → DVs K H' ρ' ds vs → Q vs H'
def KX (Er : ER) (H : Hp) (ρ : List Addr) : Nat → List Dt → Bxs → Prop := fun c ds S' => ∀ H' ρ', To H H' ρ ρ' → Er c ds S' H' ρ'
theorem KX.to {Er : ER} {H H1 : Hp} {ρ ρ1 : List Addr} (t : To H H1 ρ ρ1) {c : Nat} {ds : List Dt} {S : Bxs} (h : KX Er H ρ c ds S) : KX Er H1 ρ1 c ds S := fun H' ρ' t' => h H' ρ' (t.trans t')
abbrev noX : Nat → List Dt → Bxs → Prop := fun _ _ _ => False

abbrev FE := Sg → Bxs → Rs Dt
abbrev FB := Sg → Bxs → Rs Bool
abbrev FA := Sg → Bxs → Rs (List Dt)

structure SE (X : Cx) (Er : ER) (e : Expr) (f : FE) : Prop where
  ex : ∃ te, PE X e te ∧ ∀ τ H ρ σ S Q, Ty X.K H ρ σ S τ → (f σ S).Sat (KO X.K H ρ Q) (KX Er H ρ) → te τ H Q
structure ST (X : Cx) (Er : ER) (e : Expr) (f : FB) : Prop where
  ex : ∃ tt, PT X e tt ∧ ∀ τ H ρ σ S Q, Ty X.K H ρ σ S τ → (f σ S).Sat (KB X.K H ρ Q) (KX Er H ρ) → tt τ H Q
structure SA (X : Cx) (Er : ER) (es : List Expr) (f : FA) : Prop where
  ex : ∃ ta, PA X es ta ∧ ∀ τ H ρ σ S Q, Ty X.K H ρ σ S τ → (f σ S).Sat (KA X.K H ρ Q) (KX Er H ρ) → ta τ H Q

/-- one step of a chain: from the first part's answer to the second's -/
theorem link {α β : Type} {r : Rs α} {k : α → Bxs → Rs β} {P : β → Bxs → Prop} {E : Nat → List Dt → Bxs → Prop} (h : (r.bind k).Sat P E) : r.Sat (fun a s => (k a s).Sat P E) E := Rs.sat_bind.mp h

section
variable {X : Cx} {Er : ER} {K : PySem.W.Frag} {H H1 : Hp} {ρ ρ1 : List Addr} {σ : Sg} {S S1 : Bxs} {τ : L2.St}
theorem Ty.to (t : To H H1 ρ ρ1) (h : Ty K H ρ σ S τ) (hr : HR K H1 ρ1 S1) : Ty K H1 ρ1 σ S1 τ := ⟨hr, h.sl.to t⟩
theorem Rs.Sat.toO {r : Rs Dt} {Q : VK} (t : To H H1 ρ ρ1) (h : r.Sat (KO K H ρ Q) (KX Er H ρ)) : r.Sat (KO K H1 ρ1 Q) (KX Er H1 ρ1) :=
  h.mono (fun _ _ q v H' ρ' t' => q v H' ρ' (t.trans t')) fun _ _ _ q => q.to t
theorem Rs.Sat.toB {r : Rs Bool} {Q : Bool → Hp → Prop} (t : To H H1 ρ ρ1) (h : r.Sat (KB K H ρ Q) (KX Er H ρ)) : r.Sat (KB K H1 ρ1 Q) (KX Er H1 ρ1) :=
  h.mono (fun _ _ q H' ρ' t' => q H' ρ' (t.trans t')) fun _ _ _ q => q.to t
theorem Rs.Sat.toA {r : Rs (List Dt)} {Q : List V → Hp → Prop} (t : To H H1 ρ ρ1) (h : r.Sat (KA K H ρ Q) (KX Er H ρ)) : r.Sat (KA K H1 ρ1 Q) (KX Er H1 ρ1) :=
  h.mono (fun _ _ q v H' ρ' t' => q v H' ρ' (t.trans t')) fun _ _ _ q => q.to t

/-! ### names, constants -/
def dVar (i : Nat) : FE := fun σ S => match σ[i]? with
  | some (some d) => .ok d S
  | _ => .no
theorem se_var (i : Nat) {x : Str} {pos : Pos} (hN : X.N[i]? = some x := by rfl) (hv : Vis X.env.scope x := by first | exact Or.inl rfl | exact Or.inr (Or.inl rfl) | exact Or.inr (Or.inr rfl)) (hd : (x == ("__debug__" : Str)) = false := by decide)
    (hcd : (x == ("__classdict__" : Str)) = false := by decide) : SE X Er (.Name x pos) (dVar i) := by
  refine ⟨_, pe_var hN hv hd hcd, fun τ H ρ σ S Q T h => ?_⟩
  unfold dVar at h
  cases e : σ[i]? with
  | none => rw [e] at h; exact h.elim
  | some o =>
    cases o with
    | none => rw [e] at h; exact h.elim
    | some d =>
      rw [e] at h
      obtain ⟨v, h1, h2⟩ := T.sl.at_ i d e
      exact ⟨v, h1, h v H ρ (To.refl _ _) T.hr h2⟩
def dC (d : Dt) : FE := fun _ S => .ok d S
theorem se_int {i j pos} : SE X Er (.Constant (.int i) j pos) (dC (.int i)) := ⟨_, pe_int, fun τ H ρ σ S Q T h => h _ H ρ (To.refl _ _) T.hr (.int i)⟩
theorem se_bl {b j pos} : SE X Er (.Constant (.bool b) j pos) (dC (.bl b)) := ⟨_, pe_bl, fun τ H ρ σ S Q T h => h _ H ρ (To.refl _ _) T.hr (.bl b)⟩
theorem se_non {j pos} : SE X Er (.Constant .none j pos) (dC .non) := ⟨_, pe_non, fun τ H ρ σ S Q T h => h _ H ρ (To.refl _ _) T.hr .non⟩
theorem se_str {x j pos} : SE X Er (.Constant (.str x) j pos) (dC (.str x)) := ⟨_, pe_str, fun τ H ρ σ S Q T h => h _ H ρ (To.refl _ _) T.hr (.str x)⟩
/-- a module's constant -/
theorem se_glob {x : Str} {i : Int} {t : Tok} {pos : Pos} (hg : Gl X x) (hm : X.mg x = some (.int i t)) (hd : (x == ("__debug__" : Str)) = false := by decide) : SE X Er (.Name x pos) (dC (.int i)) :=
  ⟨_, pe_glob (v := .int i) hg hm ⟨t, rfl⟩ hd, fun τ H ρ σ S Q T h => h _ H ρ (To.refl _ _) T.hr (.int i)⟩

/-! ### two places -/
abbrev G2 := Dt → Dt → Bxs → Rs Dt
def dBin (g : G2) (a b : FE) : FE := fun σ S => (a σ S).bind fun x S1 => (b σ S1).bind fun y S2 => g x y S2
/-- the operation by values keeps to g -/
def RO (K : PySem.W.Frag) (r : R2) (g : G2) : Prop := ∀ H ρ S x y xv yv Q, HR K H ρ S → DV K H ρ x xv → DV K H ρ y yv → (g x y S).Sat (KO K H ρ Q) noX → r xv yv H Q
/-- nothing is raised by g -/
def Calm2 (g : G2) : Prop := ∀ x y S c ds S', g x y S ≠ .ex c ds S'
theorem sat_calm {α : Type} {r : Rs α} {P : α → Bxs → Prop} {E : Nat → List Dt → Bxs → Prop} (hc : ∀ c ds S', r ≠ .ex c ds S') (h : r.Sat P E) : r.Sat P noX := by
  cases r with
  | ok a s => exact h
  | ex c ds s => exact absurd rfl (hc c ds s)
  | no => exact h
theorem bin_sat {fa fb : FE} {g : G2} {ta tb : TE} {r : R2} (ha : ∀ τ H ρ σ S Q, Ty X.K H ρ σ S τ → (fa σ S).Sat (KO X.K H ρ Q) (KX Er H ρ) → ta τ H Q) (hb : ∀ τ H ρ σ S Q, Ty X.K H ρ σ S τ → (fb σ S).Sat (KO X.K H ρ Q) (KX Er H ρ) → tb τ H Q)
    (hr : RO X.K r g) (hc : Calm2 g) {τ : L2.St} {Q : VK} (T : Ty X.K H ρ σ S τ) (h : (dBin g fa fb σ S).Sat (KO X.K H ρ Q) (KX Er H ρ)) : ta τ H fun x H1 => tb τ H1 fun y H2 => r x y H2 Q := by
  refine ha τ H ρ σ S _ T ((link h).mono (fun x S1 h1 => ?_) fun _ _ _ q => q)
  intro xv H1 ρ1 t1 hr1 dx
  refine hb τ H1 ρ1 σ S1 _ (T.to t1 hr1) ((link h1).mono (fun y S2 h2 => ?_) fun _ _ _ q => q.to t1)
  intro yv H2 ρ2 t2 hr2 dy
  exact hr H2 ρ2 S2 x y xv yv Q hr2 (dx.to t2) dy (sat_calm (hc x y S2) (Rs.Sat.toO (t1.trans t2) h2))
theorem se_bin {a b : Expr} {op : Operator} {pos : Pos} {fa fb : FE} {g : G2} {r : R2} (ho : OpR X (binaryOp op) r) (hr : RO X.K r g) (hc : Calm2 g) (ha : SE X Er a fa) (hb : SE X Er b fb) : SE X Er (.BinOp a op b pos) (dBin g fa fb) := by
  obtain ⟨ta, pa, qa⟩ := ha.ex
  obtain ⟨tb, pb, qb⟩ := hb.ex
  exact ⟨_, pe_op ho pa pb, fun τ H ρ σ S Q T h => bin_sat qa qb hr hc T h⟩
theorem se_cmp {a b : Expr} {op : CmpOp} {pos : Pos} {fa fb : FE} {g : G2} {r : R2} (ho : OpR X (compareOp op) r) (hr : RO X.K r g) (hc : Calm2 g) (ha : SE X Er a fa) (hb : SE X Er b fb) (hm : behindInMarks op b = false := by rfl) : SE X Er (.Compare a [op] [b] pos) (dBin g fa fb) := by
  obtain ⟨ta, pa, qa⟩ := ha.ex
  obtain ⟨tb, pb, qb⟩ := hb.ex
  exact ⟨_, pe_cmpR ho pa pb hm, fun τ H ρ σ S Q T h => bin_sat qa qb hr hc T h⟩
/-- a comparison as a test -/
def dTrue (f : FE) : FB := fun σ S => (f σ S).bind fun d S1 => match d with
  | .bl b => .ok b S1
  | _ => .no
theorem true_sat {f : FE} {Q : Bool → Hp → Prop} (h : (dTrue f σ S).Sat (KB K H ρ Q) (KX Er H ρ)) : (f σ S).Sat (KO K H ρ fun x H1 => ∃ c, x = V.bl c ∧ Q c H1) (KX Er H ρ) :=
  (link h).mono (fun d S1 h1 => by
    intro v H' ρ' t hr dv
    cases dv with
    | bl b => exact ⟨b, rfl, h1 H' ρ' t hr⟩
    | _ => exact h1.elim) fun _ _ _ q => q
theorem st_cmp {a b : Expr} {op : CmpOp} {pos : Pos} {fa fb : FE} {g : G2} {r : R2} (ho : OpR X (compareOp op) r) (hr : RO X.K r g) (hc : Calm2 g) (ha : SE X Er a fa) (hb : SE X Er b fb) (hm : behindInMarks op b = false := by rfl) : ST X Er (.Compare a [op] [b] pos) (dTrue (dBin g fa fb)) := by
  obtain ⟨ta, pa, qa⟩ := ha.ex
  obtain ⟨tb, pb, qb⟩ := hb.ex
  exact ⟨_, pt_cmpR ho pa pb hm, fun τ H ρ σ S Q T h => bin_sat qa qb hr hc T (true_sat h)⟩
/-- an expression that gives True or False, as a test -/
theorem st_val {e : Expr} {f : FE} (h : SE X Er e f) (he : ∀ whole, isTrue e X.env whole = (do let v ← whole; standAt e.pos; holding [v] (truthy v)) := by intro _; rfl) : ST X Er e (dTrue f) := by
  obtain ⟨te, p, q⟩ := h.ex
  exact ⟨_, pt_val p he, fun τ H ρ σ S Q T h => q τ H ρ σ S _ T (true_sat h)⟩
/-- is None, is not None -/
def Dt.isN : Dt → Bool
  | .non => true
  | _ => false
def dIsN (a : FE) : FE := fun σ S => (a σ S).bind fun d S1 => .ok (.bl d.isN) S1
def dNotN (a : FE) : FE := fun σ S => (a σ S).bind fun d S1 => .ok (.bl (!d.isN)) S1
theorem non_iff {d : Dt} {v : V} (h : DV K H ρ d v) : decide (v = .non) = d.isN := by
  cases h <;> first | rfl | exact decide_eq_false (fun z => nomatch z)
theorem se_isN {a : Expr} {fa : FE} {pos pos' : Pos} {j : Nat} (ha : SE X Er a fa) : SE X Er (.Compare a [.Is] [.Constant .none j pos'] pos) (dIsN fa) := by
  obtain ⟨te, p, q⟩ := ha.ex
  refine ⟨_, pe_cmp (pc_isN p) rfl, fun τ H ρ σ S Q T h => q τ H ρ σ S _ T ((link h).mono (fun d S1 h1 => ?_) fun _ _ _ q => q)⟩
  intro v H' ρ' t hr dv
  show Q (.bl (decide (v = .non))) H'
  rw [non_iff dv]
  exact h1 _ H' ρ' t hr (.bl _)
theorem se_notN {a : Expr} {fa : FE} {pos pos' : Pos} {j : Nat} (ha : SE X Er a fa) : SE X Er (.Compare a [.IsNot] [.Constant .none j pos'] pos) (dNotN fa) := by
  obtain ⟨te, p, q⟩ := ha.ex
  refine ⟨_, pe_cmp (pc_notN p) rfl, fun τ H ρ σ S Q T h => q τ H ρ σ S _ T ((link h).mono (fun d S1 h1 => ?_) fun _ _ _ q => q)⟩
  intro v H' ρ' t hr dv
  show Q (.bl (!decide (v = .non))) H'
  rw [non_iff dv]
  exact h1 _ H' ρ' t hr (.bl _)

/-! ### and, or, not, if else -/
def dAnd (a b : FB) : FB := fun σ S => (a σ S).bind fun c S1 => if c = true then b σ S1 else .ok false S1
def dOr (a b : FB) : FB := fun σ S => (a σ S).bind fun c S1 => if c = true then .ok true S1 else b σ S1
def dNot (a : FB) : FB := fun σ S => (a σ S).bind fun c S1 => .ok (!c) S1
structure SW (X : Cx) (Er : ER) (e : Expr) (f : FB) : Prop where
  ex : ∃ tt, PW X e tt ∧ ∀ τ H ρ σ S Q, Ty X.K H ρ σ S τ → (f σ S).Sat (KB X.K H ρ Q) (KX Er H ρ) → tt τ H Q
theorem SW.st {e : Expr} {f : FB} (h : SW X Er e f) : ST X Er e f := let ⟨t, p, q⟩ := h.ex; ⟨t, p.pt, q⟩
theorem sw_and1 {a : Expr} {fa : FB} {pos : Pos} (h : ST X Er a fa) : SW X Er (.BoolOp .And [a] pos) fa := let ⟨_, p, q⟩ := h.ex; ⟨_, pw_and1 p, q⟩
theorem sw_or1 {a : Expr} {fa : FB} {pos : Pos} (h : ST X Er a fa) : SW X Er (.BoolOp .Or [a] pos) fa := let ⟨_, p, q⟩ := h.ex; ⟨_, pw_or1 p, q⟩
theorem sw_and {a b : Expr} {rest : List Expr} {fa fb : FB} {pos : Pos} (ha : ST X Er a fa) (hb : SW X Er (.BoolOp .And (b :: rest) pos) fb) : SW X Er (.BoolOp .And (a :: b :: rest) pos) (dAnd fa fb) := by
  obtain ⟨ta, pa, qa⟩ := ha.ex
  obtain ⟨tb, pb, qb⟩ := hb.ex
  refine ⟨_, pw_and pa pb, fun τ H ρ σ S Q T h => qa τ H ρ σ S _ T ((link h).mono (fun c S1 h1 => ?_) fun _ _ _ q => q)⟩
  intro H' ρ' t hr
  cases c with
  | true =>
    rw [if_pos rfl] at h1 ⊢
    exact qb τ H' ρ' σ S1 Q (T.to t hr) (Rs.Sat.toB t h1)
  | false =>
    rw [if_neg Bool.false_ne_true] at h1 ⊢
    exact h1 H' ρ' t hr
theorem sw_or {a b : Expr} {rest : List Expr} {fa fb : FB} {pos : Pos} (ha : ST X Er a fa) (hb : SW X Er (.BoolOp .Or (b :: rest) pos) fb) : SW X Er (.BoolOp .Or (a :: b :: rest) pos) (dOr fa fb) := by
  obtain ⟨ta, pa, qa⟩ := ha.ex
  obtain ⟨tb, pb, qb⟩ := hb.ex
  refine ⟨_, pw_or pa pb, fun τ H ρ σ S Q T h => qa τ H ρ σ S _ T ((link h).mono (fun c S1 h1 => ?_) fun _ _ _ q => q)⟩
  intro H' ρ' t hr
  cases c with
  | false =>
    rw [if_neg Bool.false_ne_true] at h1 ⊢
    exact qb τ H' ρ' σ S1 Q (T.to t hr) (Rs.Sat.toB t h1)
  | true =>
    rw [if_pos rfl] at h1 ⊢
    exact h1 H' ρ' t hr
theorem st_not {a : Expr} {fa : FB} {pos : Pos} (ha : ST X Er a fa) : ST X Er (.UnaryOp .Not a pos) (dNot fa) := by
  obtain ⟨ta, pa, qa⟩ := ha.ex
  refine ⟨_, pt_not pa, fun τ H ρ σ S Q T h => qa τ H ρ σ S _ T ((link h).mono (fun c S1 h1 => ?_) fun _ _ _ q => q)⟩
  intro H' ρ' t hr
  exact h1 H' ρ' t hr
/-- the same as values: of truths -/
def dVal (a : FB) : FE := fun σ S => (a σ S).bind fun c S1 => .ok (.bl c) S1
def dAndV (a b : FE) : FE := fun σ S => (a σ S).bind fun d S1 => match d with
  | .bl true => b σ S1
  | .bl false => .ok (.bl false) S1
  | _ => .no
def dOrV (a b : FE) : FE := fun σ S => (a σ S).bind fun d S1 => match d with
  | .bl true => .ok (.bl true) S1
  | .bl false => b σ S1
  | _ => .no
def dNotV (a : FE) : FE := fun σ S => (a σ S).bind fun d S1 => match d with
  | .bl b => .ok (.bl (!b)) S1
  | _ => .no
theorem se_one {op} {a : Expr} {fa : FE} {pos : Pos} (h : SE X Er a fa) : SE X Er (.BoolOp op [a] pos) fa := let ⟨_, p, q⟩ := h.ex; ⟨_, pe_one p, q⟩
theorem se_and {a b : Expr} {rest : List Expr} {fa fb : FE} {pos : Pos} (ha : SE X Er a fa) (hb : SE X Er (.BoolOp .And (b :: rest) pos) fb) : SE X Er (.BoolOp .And (a :: b :: rest) pos) (dAndV fa fb) := by
  obtain ⟨ta, pa, qa⟩ := ha.ex
  obtain ⟨tb, pb, qb⟩ := hb.ex
  refine ⟨_, pe_and pa pb, fun τ H ρ σ S Q T h => qa τ H ρ σ S _ T ((link h).mono (fun d S1 h1 => ?_) fun _ _ _ q => q)⟩
  intro v H' ρ' t hr dv
  cases dv with
  | bl b =>
    refine ⟨b, rfl, ?_⟩
    cases b with
    | true =>
      rw [if_pos rfl]
      exact qb τ H' ρ' σ S1 Q (T.to t hr) (Rs.Sat.toO t h1)
    | false =>
      rw [if_neg Bool.false_ne_true]
      exact h1 _ H' ρ' t hr (.bl _)
  | _ => exact h1.elim
theorem se_or {a b : Expr} {rest : List Expr} {fa fb : FE} {pos : Pos} (ha : SE X Er a fa) (hb : SE X Er (.BoolOp .Or (b :: rest) pos) fb) : SE X Er (.BoolOp .Or (a :: b :: rest) pos) (dOrV fa fb) := by
  obtain ⟨ta, pa, qa⟩ := ha.ex
  obtain ⟨tb, pb, qb⟩ := hb.ex
  refine ⟨_, pe_or pa pb, fun τ H ρ σ S Q T h => qa τ H ρ σ S _ T ((link h).mono (fun d S1 h1 => ?_) fun _ _ _ q => q)⟩
  intro v H' ρ' t hr dv
  cases dv with
  | bl b =>
    refine ⟨b, rfl, ?_⟩
    cases b with
    | true =>
      rw [if_pos rfl]
      exact h1 _ H' ρ' t hr (.bl _)
    | false =>
      rw [if_neg Bool.false_ne_true]
      exact qb τ H' ρ' σ S1 Q (T.to t hr) (Rs.Sat.toO t h1)
  | _ => exact h1.elim
theorem se_not {a : Expr} {fa : FE} {pos : Pos} (ha : SE X Er a fa) : SE X Er (.UnaryOp .Not a pos) (dNotV fa) := by
  obtain ⟨ta, pa, qa⟩ := ha.ex
  refine ⟨_, pe_not pa, fun τ H ρ σ S Q T h => qa τ H ρ σ S _ T ((link h).mono (fun d S1 h1 => ?_) fun _ _ _ q => q)⟩
  intro v H' ρ' t hr dv
  cases dv with
  | bl b => exact ⟨b, rfl, h1 _ H' ρ' t hr (.bl _)⟩
  | _ => exact h1.elim
def dIf (c : FB) (a b : FE) : FE := fun σ S => (c σ S).bind fun k S1 => if k = true then a σ S1 else b σ S1
theorem se_if {c a b : Expr} {fc : FB} {fa fb : FE} {pos : Pos} (hc : ST X Er c fc) (ha : SE X Er a fa) (hb : SE X Er b fb) : SE X Er (.IfExp c a b pos) (dIf fc fa fb) := by
  obtain ⟨tc, pc, qc⟩ := hc.ex
  obtain ⟨ta, pa, qa⟩ := ha.ex
  obtain ⟨tb, pb, qb⟩ := hb.ex
  refine ⟨_, pe_ifExp pc pa pb, fun τ H ρ σ S Q T h => qc τ H ρ σ S _ T ((link h).mono (fun k S1 h1 => ?_) fun _ _ _ q => q)⟩
  intro H' ρ' t hr
  cases k with
  | true =>
    rw [if_pos rfl] at h1 ⊢
    exact qa τ H' ρ' σ S1 Q (T.to t hr) (Rs.Sat.toO t h1)
  | false =>
    rw [if_neg Bool.false_ne_true] at h1 ⊢
    exact qb τ H' ρ' σ S1 Q (T.to t hr) (Rs.Sat.toO t h1)

/-! ### argument lists, displays -/
def aNil : FA := fun _ S => .ok [] S
def aCons (a : FE) (r : FA) : FA := fun σ S => (a σ S).bind fun d S1 => (r σ S1).bind fun ds S2 => .ok (d :: ds) S2
theorem sa_nil : SA X Er [] aNil := ⟨_, pa_nil, fun τ H ρ σ S Q T h => h [] H ρ (To.refl _ _) T.hr .nil⟩
theorem sa_cons {e : Expr} {es : List Expr} {f : FE} {g : FA} (ha : SE X Er e f) (hr : SA X Er es g) (hs : starEach (e :: es) X.env = (false, eval e X.env) :: starEach es X.env := by rfl) : SA X Er (e :: es) (aCons f g) := by
  obtain ⟨ta, pa, qa⟩ := ha.ex
  obtain ⟨tr, pr, qr⟩ := hr.ex
  refine ⟨_, pa_cons pa pr hs, fun τ H ρ σ S Q T h => qa τ H ρ σ S _ T ((link h).mono (fun d S1 h1 => ?_) fun _ _ _ q => q)⟩
  intro v H1 ρ1 t1 hr1 dv
  refine qr τ H1 ρ1 σ S1 _ (T.to t1 hr1) ((link h1).mono (fun ds S2 h2 => ?_) fun _ _ _ q => q.to t1)
  intro vs H2 ρ2 t2 hr2 dvs
  exact h2 (v :: vs) H2 ρ2 (t1.trans t2) hr2 (.cons (dv.to t2) dvs)
/-- lists of this length may stand anywhere -/
def LIM : Nat := 100000
theorem lim_le {n : Nat} (h : n ≤ LIM) : n ≤ sizeLine := Nat.le_trans h (by decide)
theorem lim_lt {n : Nat} (h : n < LIM) : n < sizeLine := Nat.lt_of_lt_of_le h (by decide)
def dTup (a : FA) : FE := fun σ S => (a σ S).bind fun ds S1 => if ds.length ≤ LIM then .ok (.tup ds) S1 else .no
/-- a new list -/
def newL (ds : List Dt) (S : Bxs) : Rs Dt := if ds.length ≤ LIM then .ok (.box S.length) (S ++ [.lst ds]) else .no
def dLst (a : FA) : FE := fun σ S => (a σ S).bind newL
theorem new_tup {Q : VK} {ds : List Dt} {vs : List V} (hr : HR K H ρ S) (dvs : DVs K H ρ ds vs) (h : KO K H ρ Q (.tup ds) S) : NewT vs H Q := fun p o hp po =>
  h _ _ ρ ⟨Ext.new hp, List.prefix_refl _⟩ (hr.tup hp) (.tup (.inl ⟨o, upd_same, po⟩) (dvs.mono (Ext.new hp) (List.prefix_refl _)))
theorem new_lst {Q : VK} {ds : List Dt} {vs : List V} {p : Addr} (hr : HR K H ρ S) (dvs : DVs K H ρ ds vs) (hp : H p = none) (h : KO K H ρ Q (.box S.length) (S ++ [.lst ds])) : Q (.ref p) (upd H p (.lst vs)) := by
  refine h _ _ (ρ ++ [p]) ⟨Ext.new hp, List.prefix_append _ _⟩ (hr.new hp dvs) (.box ?_)
  rw [← hr.len, List.getElem?_append_right (Nat.le_refl _), Nat.sub_self]; rfl
theorem se_tup {es : List Expr} {x1} {f : FA} {pos : Pos} (h : SA X Er es f) : SE X Er (.Tuple es x1 pos) (dTup f) := by
  obtain ⟨ta, pa, qa⟩ := h.ex
  refine ⟨_, pe_tupZ pa, fun τ H ρ σ S Q T h => qa τ H ρ σ S _ T ((link h).mono (fun ds S1 h1 => ?_) fun _ _ _ q => q)⟩
  intro vs H1 ρ1 t1 hr1 dvs
  by_cases hl : ds.length ≤ LIM
  · rw [if_pos hl] at h1
    refine ⟨by rw [← dvs.length]; exact lim_le hl, new_tup hr1 dvs ?_⟩
    exact fun v H' ρ' t' => h1 v H' ρ' (t1.trans t')
  · rw [if_neg hl] at h1
    exact h1.elim
theorem se_lst {es : List Expr} {f : FA} {pos : Pos} (h : SA X Er es f) : SE X Er (.List es pos) (dLst f) := by
  obtain ⟨ta, pa, qa⟩ := h.ex
  refine ⟨_, pe_lst pa, fun τ H ρ σ S Q T h => qa τ H ρ σ S _ T ((link h).mono (fun ds S1 h1 => ?_) fun _ _ _ q => q)⟩
  intro vs H1 ρ1 t1 hr1 dvs
  unfold newL at h1
  by_cases hl : ds.length ≤ LIM
  · rw [if_pos hl] at h1
    refine ⟨by rw [← dvs.length]; exact lim_le hl, fun p hp => new_lst hr1 dvs hp ?_⟩
    exact fun v H' ρ' t' => h1 v H' ρ' (t1.trans t')
  · rw [if_neg hl] at h1
    exact h1.elim
end
end Mn

set_option Elab.async false
set_option linter.all false
set_option maxRecDepth 100000
set_option maxHeartbeats 4000000
/-! MnC: the operations on plain data. -/
namespace Mn
open PySem PySem.Spec PyProof.Rows L2
section
variable {X : Cx} {Er : ER} {K : PySem.W.Frag} {H H1 : Hp} {ρ ρ1 : List Addr} {σ : Sg} {S S1 : Bxs} {τ : L2.St}

/-! ### what a box holds -/
def Bxs.lst (S : Bxs) (n : Nat) : Option (List Dt) := match S[n]? with
  | some (.lst xs) => some xs
  | _ => none
/-- .. to be read -/
def Bxs.seq (S : Bxs) (n : Nat) : Option (List Dt) := match S[n]? with
  | some (.lst xs) => some xs
  | some (.ro xs) => some xs
  | _ => none
theorem lst_get {n : Nat} {xs : List Dt} (h : S.lst n = some xs) : S[n]? = some (MBox.lst xs) := by
  unfold Bxs.lst at h
  cases e : S[n]? with
  | none => rw [e] at h; cases h
  | some b =>
    rw [e] at h
    cases b <;> cases h
    rfl
theorem HR.rd {n : Nat} {a : Addr} {xs : List Dt} (hr : HR K H ρ S) (ha : ρ[n]? = some a) (h : S.seq n = some xs) : ∃ vs, SqL K H a vs ∧ DVs K H ρ xs vs := by
  unfold Bxs.seq at h
  cases e : S[n]? with
  | none => rw [e] at h; cases h
  | some b =>
    rw [e] at h
    cases b with
    | lst ys =>
      cases h
      obtain ⟨a', vs, h1, h2, h3⟩ := hr.lst n _ e
      rw [ha] at h1; cases h1
      exact ⟨vs, SqL.of h2, h3⟩
    | ro ys =>
      cases h
      obtain ⟨a', vs, h1, h2, h3⟩ := hr.ro n _ e
      rw [ha] at h1; cases h1
      exact ⟨vs, h2.sql, h3⟩
    | dk _ => cases h
    | obj _ _ => cases h
theorem HR.mu {n : Nat} {a : Addr} {xs : List Dt} (hr : HR K H ρ S) (ha : ρ[n]? = some a) (h : S.lst n = some xs) : ∃ vs, H a = some (.lst vs) ∧ DVs K H ρ xs vs := by
  obtain ⟨a', vs, h1, h2, h3⟩ := hr.lst n _ (lst_get h)
  rw [ha] at h1; cases h1
  exact ⟨vs, h2, h3⟩
theorem newL_ok {ds : List Dt} {P : Dt → Bxs → Prop} {E : Nat → List Dt → Bxs → Prop} (h : (newL ds S).Sat P E) : ds.length ≤ LIM ∧ P (.box S.length) (S ++ [.lst ds]) := by
  unfold newL at h
  by_cases hl : ds.length ≤ LIM
  · rw [if_pos hl] at h; exact ⟨hl, h⟩
  · rw [if_neg hl] at h; exact h.elim
theorem newL_calm (ds : List Dt) (S : Bxs) (c : Nat) (es : List Dt) (S' : Bxs) : newL ds S ≠ .ex c es S' := by
  unfold newL
  split <;> (intro z; cases z)

/-! ### numbers -/
def mulOk (i j : Int) : Prop := CMul i j ∨ CMulW i j
instance (i j : Int) : Decidable (mulOk i j) := by unfold mulOk CMul CMulW; infer_instance
theorem mulOk.small {i j : Int} (h1 : -(2 ^ 64) < i) (h2 : i < 2 ^ 64) : mulOk i j := .inl (.inl ⟨h1, h2⟩)
theorem mulOk.small2 {i j : Int} (h1 : -(2 ^ 64) < j) (h2 : j < 2 ^ 64) : mulOk i j := .inl (.inr ⟨h1, h2⟩)
def divOk (j : Int) : Prop := 0 < j ∧ j.natAbs.log2 < 9000
instance (j : Int) : Decidable (divOk j) := by unfold divOk; infer_instance
def powOk (i j : Int) : Prop := CPow i j
instance (i j : Int) : Decidable (powOk i j) := by unfold powOk CPow; infer_instance
def strLim : Nat := 1000000
def addG : G2 := fun x y S => match x, y with
  | .int i, .int j => .ok (.int (i + j)) S
  | .str a, .str b => if a.length + b.length ≤ strLim then .ok (.str (a ++ b)) S else .no
  | .box m, .box n => match S.lst m, S.lst n with
    | some xs, some ys => newL (xs ++ ys) S
    | _, _ => .no
  | .tup xs, .tup ys => if xs.length + ys.length ≤ LIM then .ok (.tup (xs ++ ys)) S else .no
  | _, _ => .no
def subG : G2 := fun x y S => match x, y with
  | .int i, .int j => .ok (.int (i - j)) S
  | _, _ => .no
def mulG : G2 := fun x y S => match x, y with
  | .int i, .int j => if mulOk i j then .ok (.int (i * j)) S else .no
  | .box n, .int k => match S.lst n with
    | some xs => if -1000 ≤ k ∧ k ≤ 1000 ∧ xs.length ≤ 100 then newL (List.replicate k.toNat xs).flatten S else .no
    | none => .no
  | .tup xs, .int k => if xs ≠ [] ∧ -1000 ≤ k ∧ k ≤ 1000 ∧ xs.length ≤ 100 then .ok (.tup (List.replicate k.toNat xs).flatten) S else .no
  | _, _ => .no
def fdivG : G2 := fun x y S => match x, y with
  | .int i, .int j => if divOk j then .ok (.int (i / j)) S else .no
  | _, _ => .no
def modG : G2 := fun x y S => match x, y with
  | .int i, .int j => if 0 < j then .ok (.int (i % j)) S else .no
  | _, _ => .no
def powG : G2 := fun x y S => match x, y with
  | .int i, .int j => if powOk i j then .ok (.int (i ^ j.toNat)) S else .no
  | _, _ => .no
def cmpG (p : Int → Int → Bool) : G2 := fun x y S => match x, y with
  | .int i, .int j => .ok (.bl (p i j)) S
  | _, _ => .no
abbrev ltG := cmpG fun i j => decide (i < j)
abbrev leG := cmpG fun i j => decide (i ≤ j)
abbrev gtG := cmpG fun i j => decide (j < i)
abbrev geG := cmpG fun i j => decide (j ≤ i)

theorem calm_ite {α : Type} {c : Prop} [Decidable c] {r : Rs α} (h : ∀ k ds S', r ≠ .ex k ds S') : ∀ k ds S', (if c then r else .no) ≠ .ex k ds S' := fun k ds S' => by
  split
  · exact h k ds S'
  · intro z; cases z
theorem calm_ok {α : Type} (a : α) (S : Bxs) : ∀ k ds S', (Rs.ok a S) ≠ .ex k ds S' := fun _ _ _ z => nomatch z
theorem calm_no {α : Type} : ∀ k ds S', (Rs.no : Rs α) ≠ .ex k ds S' := fun _ _ _ z => nomatch z
theorem cmpG_calm (p) : Calm2 (cmpG p) := by
  intro x y S
  unfold cmpG
  split <;> first | exact calm_ok _ _ | exact calm_no
theorem subG_calm : Calm2 subG := by
  intro x y S
  unfold subG
  split <;> first | exact calm_ok _ _ | exact calm_no
theorem fdivG_calm : Calm2 fdivG := by
  intro x y S
  unfold fdivG
  split <;> first | exact calm_ite (calm_ok _ _) | exact calm_no
theorem modG_calm : Calm2 modG := by
  intro x y S
  unfold modG
  split <;> first | exact calm_ite (calm_ok _ _) | exact calm_no
theorem powG_calm : Calm2 powG := by
  intro x y S
  unfold powG
  split <;> first | exact calm_ite (calm_ok _ _) | exact calm_no
theorem mulG_calm : Calm2 mulG := by
  intro x y S
  unfold mulG
  split
  · exact calm_ite (calm_ok _ _)
  · split
    · exact calm_ite (newL_calm _ _)
    · exact calm_no
  · exact calm_ite (calm_ok _ _)
  · exact calm_no
theorem addG_calm : Calm2 addG := by
  intro x y S
  unfold addG
  split
  · exact calm_ok _ _
  · exact calm_ite (calm_ok _ _)
  · split
    · exact newL_calm _ _
    · exact calm_no
  · exact calm_ite (calm_ok _ _)
  · exact calm_no

theorem ko_here {Q : VK} {d : Dt} {v : V} (hr : HR K H ρ S) (h : KO K H ρ Q d S) (dv : DV K H ρ d v) : Q v H := h v H ρ (To.refl _ _) hr dv
theorem ite_sat {α : Type} {c : Prop} [Decidable c] {r : Rs α} {P : α → Bxs → Prop} {E : Nat → List Dt → Bxs → Prop} (h : (if c then r else .no).Sat P E) : c ∧ r.Sat P E := by
  by_cases hc : c
  · rw [if_pos hc] at h; exact ⟨hc, h⟩
  · rw [if_neg hc] at h; exact h.elim
theorem ro_cmp {p : Int → Int → Bool} : RO K (rI0 fun i j => .bl (p i j)) (cmpG p) := by
  intro H ρ S x y xv yv Q hr dx dy h
  cases dx <;> first | exact h.elim | skip
  cases dy <;> first | exact h.elim | skip
  exact ⟨_, _, rfl, rfl, ko_here hr h (.bl _)⟩
theorem ro_sub : RO K (rI0 fun i j => .int (i - j)) subG := by
  intro H ρ S x y xv yv Q hr dx dy h
  cases dx <;> first | exact h.elim | skip
  cases dy <;> first | exact h.elim | skip
  exact ⟨_, _, rfl, rfl, ko_here hr h (.int _)⟩
theorem ro_fdiv : RO K (rI CDivW fun i j => .int (i / j)) fdivG := by
  intro H ρ S x y xv yv Q hr dx dy h
  cases dx <;> first | exact h.elim | skip
  cases dy <;> first | exact h.elim | skip
  obtain ⟨c, h⟩ := ite_sat h
  exact ⟨_, _, rfl, rfl, c, ko_here hr h (.int _)⟩
theorem ro_mod : RO K (rI (fun _ j => 0 < j) fun i j => .int (i % j)) modG := by
  intro H ρ S x y xv yv Q hr dx dy h
  cases dx <;> first | exact h.elim | skip
  cases dy <;> first | exact h.elim | skip
  obtain ⟨c, h⟩ := ite_sat h
  exact ⟨_, _, rfl, rfl, c, ko_here hr h (.int _)⟩
theorem ro_pow : RO K (rI CPow fun i j => .int (i ^ j.toNat)) powG := by
  intro H ρ S x y xv yv Q hr dx dy h
  cases dx <;> first | exact h.elim | skip
  cases dy <;> first | exact h.elim | skip
  obtain ⟨c, h⟩ := ite_sat h
  exact ⟨_, _, rfl, rfl, c, ko_here hr h (.int _)⟩
def rMulA (K : PySem.W.Frag) : R2 := fun x y H Q => rI CMul (fun i j => .int (i * j)) x y H Q ∨ (rI CMulW (fun i j => .int (i * j)) x y H Q ∨ (rRep x y H Q ∨ rRepZ K x y H Q))
theorem op_mulA : OpR X (binaryOp .Mult) (rMulA X.K) := op_mul.or (op_mulW.or (op_rep.or op_repZ))
theorem DVs.flat {ds : List Dt} {vs : List V} (h : DVs K H ρ ds vs) : ∀ n : Nat, DVs K H ρ (List.replicate n ds).flatten (List.replicate n vs).flatten
  | 0 => .nil
  | n + 1 => by
    rw [List.replicate_succ, List.replicate_succ, List.flatten_cons, List.flatten_cons]
    exact h.app (DVs.flat h n)
theorem ro_mul : RO K (rMulA K) mulG := by
  intro H ρ S x y xv yv Q hr dx dy h
  cases dx <;> first | exact h.elim | skip
  · cases dy <;> first | exact h.elim | skip
    obtain ⟨c, h⟩ := ite_sat h
    have q := ko_here hr h (.int _)
    rcases c with c | c
    · exact .inl ⟨_, _, rfl, rfl, c, q⟩
    · exact .inr (.inl ⟨_, _, rfl, rfl, c, q⟩)
  · rename_i a ds vs ht hd
    cases dy <;> first | exact h.elim | skip
    rename_i k
    obtain ⟨⟨c0, c1, c2, c3⟩, h⟩ := ite_sat h
    have hl := hd.length
    refine .inr (.inr (.inr ⟨a, k, vs, rfl, rfl, ht.sqt, fun z => c0 (List.eq_nil_of_length_eq_zero (by rw [hl, z]; rfl)), c1, c2, by rw [← hl]; exact c3, fun hk => ?_, fun hk => ?_, fun hk => ?_⟩))
    · have e : (List.replicate k.toNat ds).flatten = ds := by rw [hk]; simp
      rw [e] at h
      exact ko_here hr h (.tup ht hd)
    · have e : (List.replicate k.toNat ds).flatten = [] := by rw [show k.toNat = 0 by omega]; rfl
      rw [e] at h
      exact new_tup hr .nil h
    · exact new_tup hr (hd.flat k.toNat) h
  · rename_i n a ha
    cases dy <;> first | exact h.elim | skip
    rename_i k
    unfold mulG at h
    simp only at h
    cases e : S.lst n with
    | none => rw [e] at h; exact h.elim
    | some xs =>
      rw [e] at h
      obtain ⟨⟨c1, c2, c3⟩, h⟩ := ite_sat h
      obtain ⟨hl, h⟩ := newL_ok h
      obtain ⟨vs, h1, h2⟩ := hr.mu ha e
      have hv := (h2.flat k.toNat).length
      have hz : vs.length * k.toNat ≤ sizeLine := by
        have := h2.length
        have a2 : vs.length * k.toNat ≤ 100 * 1000 := Nat.mul_le_mul (by omega) (by omega)
        exact Nat.le_trans a2 (by decide)
      exact .inr (.inr (.inl ⟨a, k, vs, rfl, rfl, h1, by omega, by omega, hz, fun p hp => new_lst hr (h2.flat k.toNat) hp h⟩))
def rAddA (K : PySem.W.Frag) : R2 := fun x y H Q => rI0 (fun i j => .int (i + j)) x y H Q ∨
  ((∃ i j, x = .str i ∧ y = .str j ∧ i.length + j.length ≤ sizeLine ∧ Q (.str (i ++ j)) H) ∨ (rCat x y H Q ∨ rCatZ K x y H Q))
theorem op_addA : OpR X (binaryOp .Add) (rAddA X.K) := op_add.or (op_add_str.or (op_cat.or op_catZ))
theorem ro_add : RO K (rAddA K) addG := by
  intro H ρ S x y xv yv Q hr dx dy h
  cases dx <;> first | exact h.elim | skip
  · cases dy <;> first | exact h.elim | skip
    exact .inl ⟨_, _, rfl, rfl, ko_here hr h (.int _)⟩
  · cases dy <;> first | exact h.elim | skip
    obtain ⟨c, h⟩ := ite_sat h
    exact .inr (.inl ⟨_, _, rfl, rfl, Nat.le_trans c (by decide), ko_here hr h (.str _)⟩)
  · rename_i a ds vs ht hd
    cases dy <;> first | exact h.elim | skip
    rename_i b es ws ht2 hd2
    obtain ⟨c, h⟩ := ite_sat h
    have hl := hd.length
    have hl2 := hd2.length
    refine .inr (.inr (.inr ⟨a, b, vs, ws, rfl, rfl, ht.sqt, ht2.sqt, by rw [← hl, ← hl2]; exact lim_le c, fun z => ?_, fun _ z => ?_, fun _ _ => new_tup hr (hd.app hd2) h⟩))
    · subst z
      cases hd
      exact ko_here hr h (.tup ht2 hd2)
    · subst z
      cases hd2
      rw [List.append_nil] at h
      exact ko_here hr h (.tup ht hd)
  · rename_i m a ha
    cases dy <;> first | exact h.elim | skip
    rename_i n b hb
    unfold addG at h
    simp only at h
    cases e : S.lst m with
    | none => rw [e] at h; exact h.elim
    | some xs =>
      cases e2 : S.lst n with
      | none => rw [e, e2] at h; exact h.elim
      | some ys =>
        rw [e, e2] at h
        obtain ⟨hl, h⟩ := newL_ok h
        obtain ⟨vs, h1, h2⟩ := hr.mu ha e
        obtain ⟨ws, h3, h4⟩ := hr.mu hb e2
        rw [List.length_append] at hl
        have := h2.length
        have := h4.length
        exact .inr (.inr (.inl ⟨a, b, vs, ws, rfl, rfl, h1, h3, lim_le (by omega), fun p hp => new_lst hr (h2.app h4) hp h⟩))

/-! ### one place -/
def dNeg (a : FE) : FE := fun σ S => (a σ S).bind fun d S1 => match d with
  | .int i => .ok (.int (-i)) S1
  | _ => .no
theorem se_neg {a : Expr} {fa : FE} {pos : Pos} (ha : SE X Er a fa) : SE X Er (.UnaryOp .USub a pos) (dNeg fa) := by
  obtain ⟨ta, pa, qa⟩ := ha.ex
  refine ⟨_, pe_un un_neg pa, fun τ H ρ σ S Q T h => qa τ H ρ σ S _ T ((link h).mono (fun d S1 h1 => ?_) fun _ _ _ q => q)⟩
  intro v H' ρ' t hr dv
  cases dv <;> first | exact h1.elim | skip
  exact ⟨_, rfl, h1 _ H' ρ' t hr (.int _)⟩

/-! ### x in xs -/
def Dt.flat : Dt → Bool
  | .tup _ => false
  | .box _ => false
  | _ => true
def Dt.eqf : Dt → Dt → Bool
  | .non, .non => true
  | .bl a, .bl b => a == b
  | .int a, .int b => a == b
  | .str a, .str b => decide (a = b)
  | .bl a, .int b => (if a then 1 else 0) == b
  | .int a, .bl b => a == (if b then 1 else 0)
  | _, _ => false
/-! ### dicts by ints and texts -/
def keyOf : Dt → Option Key
  | .int i => some (.inl i)
  | .str x => some (.inr x)
  | _ => none
def valD (kvs : List (Key × Dt)) (k : Key) : Option Dt := (kvs.find? fun kv => decide (kv.1 = k)).map (·.2)
def putD (kvs : List (Key × Dt)) (k : Key) (d : Dt) : List (Key × Dt) :=
  if (kvs.any fun kv => decide (kv.1 = k)) = true then kvs.map fun kv => if kv.1 = k then (kv.1, d) else kv else kvs ++ [(k, d)]
def Bxs.dk (S : Bxs) (n : Nat) : Option (List (Key × Dt)) := match S[n]? with
  | some (.dk kvs) => some kvs
  | _ => none
/-- the dict that a value is -/
def dkO (S : Bxs) : Dt → Option (List (Key × Dt))
  | .box n => S.dk n
  | _ => none
theorem dk_get {n : Nat} {kvs : List (Key × Dt)} (h : S.dk n = some kvs) : S[n]? = some (MBox.dk kvs) := by
  unfold Bxs.dk at h
  cases e : S[n]? with
  | none => rw [e] at h; cases h
  | some b =>
    rw [e] at h
    cases b <;> cases h
    rfl
theorem dkO_some {d : Dt} {v : V} {kvs : List (Key × Dt)} (hr : HR K H ρ S) (dv : DV K H ρ d v) (h : dkO S d = some kvs) : ∃ n a ws, d = .box n ∧ v = .ref a ∧ ρ[n]? = some a ∧ S[n]? = some (MBox.dk kvs) ∧ H a = some (.dK ws) ∧ DPs K H ρ kvs ws := by
  cases dv <;> first | (cases h; done) | skip
  rename_i n a ha
  have e := dk_get h
  obtain ⟨a', ws, h1, h2, h3⟩ := hr.dk n _ e
  rw [ha] at h1; cases h1
  exact ⟨n, a, ws, rfl, rfl, ha, e, h2, h3⟩
theorem key_dv {d : Dt} {v : V} {k : Key} (dv : DV K H ρ d v) (h : keyOf d = some k) : v = kV k := by
  cases dv <;> cases h <;> rfl
theorem dps_val (k : Key) : ∀ {kvs : List (Key × Dt)} {ws : List (Key × V)}, DPs K H ρ kvs ws → (∃ d v, valD kvs k = some d ∧ valV ws k = some v ∧ DV K H ρ d v) ∨ (valD kvs k = none ∧ valV ws k = none)
  | _, _, .nil => .inr ⟨rfl, rfl⟩
  | _, _, .cons (k := j) (ds := ds) (vs := vs) h t => by
    by_cases e : j = k
    · exact .inl ⟨_, _, by simp [valD, List.find?_cons, e], by simp [valV, List.find?_cons, e], h⟩
    · have e1 : ∀ d : Dt, valD ((j, d) :: ds) k = valD ds k := fun d => by simp [valD, List.find?_cons, e]
      have e2 : ∀ v : V, valV ((j, v) :: vs) k = valV vs k := fun v => by simp [valV, List.find?_cons, e]
      rw [e1, e2]
      exact dps_val k t
theorem dps_isSome {kvs : List (Key × Dt)} {ws : List (Key × V)} (h : DPs K H ρ kvs ws) (k : Key) : (valD kvs k).isSome = (valV ws k).isSome := by
  rcases dps_val k h with ⟨d, v, e1, e2, _⟩ | ⟨e1, e2⟩ <;> rw [e1, e2] <;> rfl
theorem dps_any (k : Key) : ∀ {kvs : List (Key × Dt)} {ws : List (Key × V)}, DPs K H ρ kvs ws → (kvs.any fun kv => decide (kv.1 = k)) = (ws.any fun kv => decide (kv.1 = k))
  | _, _, .nil => rfl
  | _, _, .cons _ t => by rw [List.any_cons, List.any_cons, dps_any k t]
theorem dps_snoc {k : Key} {d : Dt} {v : V} (r : DV K H ρ d v) : ∀ {kvs : List (Key × Dt)} {ws : List (Key × V)}, DPs K H ρ kvs ws → DPs K H ρ (kvs ++ [(k, d)]) (ws ++ [(k, v)])
  | _, _, .nil => .cons r .nil
  | _, _, .cons h t => .cons h (dps_snoc r t)
theorem dps_map {k : Key} {d : Dt} {v : V} (r : DV K H ρ d v) : ∀ {kvs : List (Key × Dt)} {ws : List (Key × V)}, DPs K H ρ kvs ws →
    DPs K H ρ (kvs.map fun kv => if kv.1 = k then (kv.1, d) else kv) (ws.map fun kv => if kv.1 = k then (kv.1, v) else kv)
  | _, _, .nil => .nil
  | _, _, .cons (k := j) h t => by
    rw [List.map_cons, List.map_cons]
    by_cases e : j = k
    · rw [if_pos e, if_pos e]; exact .cons r (dps_map r t)
    · rw [if_neg e, if_neg e]; exact .cons h (dps_map r t)
theorem dps_put {k : Key} {d : Dt} {v : V} (r : DV K H ρ d v) {kvs : List (Key × Dt)} {ws : List (Key × V)} (h : DPs K H ρ kvs ws) : DPs K H ρ (putD kvs k d) (putK ws k v) := by
  unfold putD putK
  rw [dps_any k h]
  split
  · exact dps_map r h
  · exact dps_snoc r h
/-- v = d[k] -/
def dgetG (kvs : List (Key × Dt)) (y : Dt) (S : Bxs) : Rs Dt := match keyOf y with
  | some k => match valD kvs k with
    | some d => .ok d S
    | none => .no
  | none => .no
theorem dgetG_calm (kvs : List (Key × Dt)) (y : Dt) (S : Bxs) : ∀ c es S', dgetG kvs y S ≠ .ex c es S' := by
  intro c es S'
  unfold dgetG
  split
  · split
    · exact calm_ok _ _ _ _ _
    · exact calm_no _ _ _
  · exact calm_no _ _ _
def rDGet : R2 := fun x y H Q => ∃ a v, x = .ref a ∧ DGet H a y (some v) ∧ Q v H
theorem dget_sat {x y : Dt} {xv yv : V} {kvs : List (Key × Dt)} {Q : VK} (hr : HR K H ρ S) (dx : DV K H ρ x xv) (dy : DV K H ρ y yv) (e : dkO S x = some kvs) (h : (dgetG kvs y S).Sat (KO K H ρ Q) noX) : rDGet xv yv H Q := by
  obtain ⟨n, a, ws, rfl, rfl, ha, hn, hH, hd⟩ := dkO_some hr dx e
  unfold dgetG at h
  cases ek : keyOf y with
  | none => rw [ek] at h; exact h.elim
  | some k =>
    rw [ek] at h
    simp only at h
    rcases dps_val k hd with ⟨d, v, e1, e2, dv⟩ | ⟨e1, e2⟩
    · rw [e1] at h
      rw [key_dv dy ek]
      exact ⟨a, v, rfl, e2 ▸ DGet.k hH, ko_here hr h dv⟩
    · rw [e1] at h; exact h.elim
theorem ix_dict (hu : X.A.units + 1 < cLine) : IxR X rDGet := by
  rintro value slice pins s σ H x y v u Q I rx ry ⟨a, z, rfl, g, q⟩ hs
  cases rx
  unfold subscriptTail
  refine wpAny_bind ?_
  rw [getitemInPython_of_ne (dict_typeIs I g).not_modules]
  refine wpAny_bind (wpAny_specialOf (dict_typeIs I g) PySem.F.slot_dict_getitem.lookup ?_)
  have fin : wpAny (model X.prog X.w) X.A (subscripted slice false (.ref a) u) (fun r s₃ => wpAny (model X.prog X.w) X.A (letTemporaryGo value (.ref a) r >>= fun _ => pure r) (EP X pins σ Q) X.xe s₃) X.xe s := by
    rw [hs]
    refine wpAny_operating (wpAny_mono (d_getItem hu I g ry (Q := fun w' s' => ∃ H', Inv X pins σ H' s' ∧ RelV z w' ∧ H' = H) fun w' s3 I3 rw' => ⟨H, I3, rw', rfl⟩) (fun r s₃ h₃ => ?_) fun _ _ x => x)
    obtain ⟨H', I3, rw', rfl⟩ := h₃
    exact wpAny_bind (wpAny_letTemporaryGo (wpAny_pure ⟨z, _, I3, rw', q⟩))
  first
    | exact wpAny_pure (wpAny_bind fin)
    | exact wpAny_bind (wpAny_pure (wpAny_bind fin))
    | exact wpAny_bind fin
theorem get_dict (hu : X.A.units + 1 < cLine) : PGet X rDGet := by
  rintro pins s τ H o i ov iv Q I ro ri ⟨a, z, rfl, g, q⟩
  cases ro
  exact d_getItem hu I g ri fun w' s3 I3 rw' => ⟨z, H, I3, rw', q⟩
def rDIn (neg : Bool) : R2 := fun x y H Q => ∃ a o, y = .ref a ∧ DGet H a x o ∧ Q (.bl (if neg then !o.isSome else o.isSome)) H
theorem op_din (hu : X.A.units + 1 < cLine) : OpR X (compareOp .In) (rDIn false) := by
  rintro pins s σ H x y v u Q I rx ry ⟨a, o, rfl, g, q⟩
  cases ry
  exact d_in hu I g rx fun s3 I3 => ⟨.bl o.isSome, H, I3, rfl, q⟩
theorem op_dnin (hu : X.A.units + 1 < cLine) : OpR X (compareOp .NotIn) (rDIn true) := by
  rintro pins s σ H x y v u Q I rx ry ⟨a, o, rfl, g, q⟩
  cases ry
  exact d_notIn hu I g rx fun s3 I3 => ⟨.bl (!o.isSome), H, I3, rfl, q⟩
def rDSet : V → V → V → Hp → (Hp → Prop) → Prop := fun o i v H Q => ∃ a H', o = .ref a ∧ DPut H a i v H' ∧ Q H'
theorem set_dict (hu : X.A.units + 1 < cLine) : PSet X rDSet := by
  rintro pins s σ H o i v ov iv u Q I ro ri rv ⟨a, H', rfl, g, q⟩
  cases ro
  exact d_setItem hu I g ri rv fun s4 I4 => ⟨H', I4, q⟩
theorem PSet.or {t t' : TSet} (h : PSet X t) (h' : PSet X t') : PSet X (fun o i v H Q => t o i v H Q ∨ t' o i v H Q) := by
  intro pins s σ H o i v ov iv u Q I ro ri rv q
  rcases q with q | q
  · exact h pins s σ H o i v ov iv u Q I ro ri rv q
  · exact h' pins s σ H o i v ov iv u Q I ro ri rv q
theorem PGet.or {t t' : V → V → Hp → VK → Prop} (h : PGet X t) (h' : PGet X t') : PGet X (fun o i H Q => t o i H Q ∨ t' o i H Q) := by
  intro pins s σ H o i ov iv Q I ro ri q
  rcases q with q | q
  · exact h pins s σ H o i ov iv Q I ro ri q
  · exact h' pins s σ H o i ov iv Q I ro ri q
end
end Mn

set_option Elab.async false
set_option linter.all false
set_option maxRecDepth 100000
set_option maxHeartbeats 4000000
/-! MnD: equality, in, subscripts, slices, calls of built-ins, repr. -/
namespace Mn
open PySem PySem.Spec PyProof.Rows L2
section
variable {X : Cx} {Er : ER} {K : PySem.W.Frag} {H H1 : Hp} {ρ ρ1 : List Addr} {σ : Sg} {S S1 : Bxs} {τ : L2.St}

/-! ### x in xs, flat items -/
theorem flat_of {d : Dt} {v : V} (h : DV K H ρ d v) (hd : d.flat = true) : flatV v = true := by
  cases h <;> first | rfl | exact hd
theorem eqf_of {d e : Dt} {v w : V} (h : DV K H ρ d v) (h' : DV K H ρ e w) (hd : d.flat = true) (he : e.flat = true) : eqV v w = d.eqf e := by
  cases h <;> first | (exact absurd hd Bool.false_ne_true) | skip
  all_goals (cases h' <;> first | (exact absurd he Bool.false_ne_true) | rfl)
theorem flats_of : ∀ {ds : List Dt} {vs : List V}, DVs K H ρ ds vs → ds.all Dt.flat = true → vs.all flatV = true
  | _, _, .nil, _ => rfl
  | _, _, .cons h t, q => by
    rw [List.all_cons, Bool.and_eq_true] at q
    rw [List.all_cons, flat_of h q.1, flats_of t q.2]
    rfl
theorem ins_of {d : Dt} {v : V} (h : DV K H ρ d v) (hd : d.flat = true) : ∀ {ds : List Dt} {vs : List V}, DVs K H ρ ds vs → ds.all Dt.flat = true → inV v vs = ds.any fun e => e.eqf d
  | _, _, .nil, _ => rfl
  | _, _, .cons q t, z => by
    rw [List.all_cons, Bool.and_eq_true] at z
    unfold inV
    rw [List.any_cons, List.any_cons, eqf_of q h z.1 hd]
    congr 1
    exact ins_of h hd t z.2
/-- the items of a sequence -/
def seqOf (S : Bxs) : Dt → Option (List Dt)
  | .tup xs => some xs
  | .box n => S.seq n
  | _ => none
theorem seq_of {d : Dt} {v : V} {xs : List Dt} (hr : HR K H ρ S) (h : DV K H ρ d v) (hs : seqOf S d = some xs) : ∃ a vs, v = .ref a ∧ (SqL K H a vs ∨ SqT K H a vs) ∧ DVs K H ρ xs vs := by
  cases h <;> first | (cases hs; done) | skip
  · rename_i a ds vs ht hd
    cases hs
    exact ⟨a, vs, rfl, .inr ht.sqt, hd⟩
  · rename_i n a ha
    obtain ⟨vs, h1, h2⟩ := hr.rd ha hs
    exact ⟨a, vs, rfl, .inl h1, h2⟩
def inF (neg : Bool) : G2 := fun x y S => match seqOf S y with
  | some ys => if x.flat = true ∧ ys.all Dt.flat = true then .ok (.bl (if neg then !(ys.any fun e => e.eqf x) else ys.any fun e => e.eqf x)) S else .no
  | none => .no
theorem inF_calm (neg : Bool) : Calm2 (inF neg) := by
  intro x y S
  unfold inF
  split
  · exact calm_ite (calm_ok _ _)
  · exact calm_no
theorem ro_inF {neg : Bool} : RO K (rIn K neg) (inF neg) := by
  intro H ρ S x y xv yv Q hr dx dy h
  unfold inF at h
  cases e : seqOf S y with
  | none => rw [e] at h; exact h.elim
  | some ys =>
    rw [e] at h
    obtain ⟨⟨c1, c2⟩, h⟩ := ite_sat h
    obtain ⟨a, vs, rfl, hs, hd⟩ := seq_of hr dy e
    refine ⟨a, vs, rfl, hs, flat_of dx c1, flats_of hd c2, ?_⟩
    rw [ins_of dx c1 hd c2]
    exact ko_here hr h (.bl _)

/-! ### data as a whole -/
def optAll {α : Type} : List (Option α) → Option (List α)
  | [] => some []
  | none :: _ => none
  | some a :: r => (optAll r).map (a :: ·)
/-- the data, boxes opened, so deep at most -/
def pd (S : Bxs) : Nat → Dt → Option PyData
  | 0, _ => none
  | _ + 1, .non => some .none
  | _ + 1, .bl b => some (.bool b)
  | _ + 1, .int i => some (.int i)
  | _ + 1, .str x => some (.str x)
  | n + 1, .tup xs => (optAll (xs.map (pd S n))).map .tuple
  | n + 1, .box m => match S.seq m with
    | some xs => (optAll (xs.map (pd S n))).map .list
    | none => none
theorem dps_of {n : Nat} (ih : ∀ (d : Dt) (v : V) (p : PyData), DV K H ρ d v → pd S n d = some p → Dp K H v p) : ∀ (ds : List Dt) (vs : List V) (ps : List PyData), DVs K H ρ ds vs → optAll (ds.map (pd S n)) = some ps → DpAll K H vs ps
  | [], _, _, .nil, h => by cases h; exact .nil
  | x :: xs, _, ps, .cons hx hs, h => by
    rw [List.map_cons] at h
    cases e : pd S n x with
    | none => rw [e] at h; cases h
    | some p =>
      rw [e] at h
      unfold optAll at h
      cases e2 : optAll (xs.map (pd S n)) with
      | none => rw [e2] at h; cases h
      | some qs =>
        rw [e2] at h
        cases h
        exact .cons (ih x _ p hx e) (dps_of ih xs _ qs hs e2)
theorem dp_of (hr : HR K H ρ S) : ∀ (n : Nat) (d : Dt) (v : V) (p : PyData), DV K H ρ d v → pd S n d = some p → Dp K H v p
  | 0, _, _, _, _, h => by unfold pd at h; cases h
  | n + 1, .non, _, _, .non, h => by unfold pd at h; cases h; exact .non
  | n + 1, .bl b, _, _, .bl _, h => by unfold pd at h; cases h; exact .bl b
  | n + 1, .int i, _, _, .int _, h => by unfold pd at h; cases h; exact .int i
  | n + 1, .str x, _, _, .str _, h => by unfold pd at h; cases h; exact .str x
  | n + 1, .tup xs, _, p, .tup ht hd, h => by
    unfold pd at h
    cases e : optAll (xs.map (pd S n)) with
    | none => rw [e] at h; cases h
    | some ps =>
      rw [e] at h
      cases h
      exact .tup ht.sqt (dps_of (dp_of hr n) xs _ ps hd e)
  | n + 1, .box m, _, p, .box ha, h => by
    unfold pd at h
    cases e : S.seq m with
    | none => rw [e] at h; cases h
    | some xs =>
      rw [e] at h
      simp only at h
      cases e2 : optAll (xs.map (pd S n)) with
      | none => rw [e2] at h; cases h
      | some ps =>
        rw [e2] at h
        cases h
        obtain ⟨vs, h1, h2⟩ := hr.rd ha e
        exact .lst h1 (dps_of (dp_of hr n) xs vs ps h2 e2)
/-- so deep data may be -/
def DEEP : Nat := 60
def pdo (S : Bxs) (d : Dt) : Option PyData := pd S DEEP d
/-- x in a list of any data -/
def inDp (neg : Bool) : G2 := fun x y S => match y with
  | .box _ => match pdo S x, pdo S y with
    | some p, some (.list qs) => if SeqAt.shaped p = true ∧ SeqAt.shaped (.list qs) = true then .ok (.bl (if neg then !(qs.any fun z => PyData.eqv z p) else qs.any fun z => PyData.eqv z p)) S else .no
    | _, _ => .no
  | _ => .no
theorem inDp_calm (neg : Bool) : Calm2 (inDp neg) := by
  intro x y S
  unfold inDp
  split
  · split
    · exact calm_ite (calm_ok _ _)
    · exact calm_no
  · exact calm_no
def rInDN (K : PySem.W.Frag) (neg : Bool) : R2 := fun x y H Q => ∃ d ds, Dp K H x d ∧ Dp K H y (.list ds) ∧ SeqAt.shaped d = true ∧ SeqAt.shaped (.list ds) = true ∧ Q (.bl (if neg then !(ds.any fun z => PyData.eqv z d) else ds.any fun z => PyData.eqv z d)) H
theorem ro_inDp {neg : Bool} : RO K (rInDN K neg) (inDp neg) := by
  intro H ρ S x y xv yv Q hr dx dy h
  unfold inDp at h
  split at h
  · split at h
    · rename_i p qs e1 e2
      obtain ⟨⟨c1, c2⟩, h⟩ := ite_sat h
      exact ⟨p, qs, dp_of hr _ x xv p dx e1, dp_of hr _ _ yv _ dy e2, c1, c2, ko_here hr h (.bl _)⟩
    · exact h.elim
  · exact h.elim
/-- x in y -/
def inG (neg : Bool) : G2 := fun x y S => match dkO S y with
  | some kvs => match keyOf x with
    | some k => .ok (.bl (if neg then !(valD kvs k).isSome else (valD kvs k).isSome)) S
    | none => .no
  | none => if x.flat = true then inF neg x y S else inDp neg x y S
theorem inG_calm (neg : Bool) : Calm2 (inG neg) := by
  intro x y S
  unfold inG
  split
  · split
    · exact calm_ok _ _
    · exact calm_no
  · split
    · exact inF_calm neg x y S
    · exact inDp_calm neg x y S
def rInA (K : PySem.W.Frag) (neg : Bool) : R2 := fun x y H Q => rIn K neg x y H Q ∨ (rDIn neg x y H Q ∨ rInDN K neg x y H Q)
theorem u128 {k : Nat} {A : Around} (r : Room k A) : A.units + 128 < cLine := by have := r.un; omega
theorem op_inA (hu : X.A.units + 128 < cLine) : OpR X (compareOp .In) (rInA X.K false) := op_in_seq.or ((op_din (by omega)).or (op_inD (by omega)))
theorem op_ninA (hu : X.A.units + 128 < cLine) : OpR X (compareOp .NotIn) (rInA X.K true) := op_notIn_seq.or ((op_dnin (by omega)).or (op_notInD (by omega)))
theorem ro_in {neg : Bool} : RO K (rInA K neg) (inG neg) := by
  intro H ρ S x y xv yv Q hr dx dy h
  unfold inG at h
  cases e : dkO S y with
  | none =>
    rw [e] at h
    simp only at h
    by_cases hf : x.flat = true
    · rw [if_pos hf] at h
      exact .inl (ro_inF H ρ S x y xv yv Q hr dx dy h)
    · rw [if_neg hf] at h
      exact .inr (.inr (ro_inDp H ρ S x y xv yv Q hr dx dy h))
  | some kvs =>
    rw [e] at h
    simp only at h
    cases ek : keyOf x with
    | none => rw [ek] at h; exact h.elim
    | some k =>
      rw [ek] at h
      obtain ⟨n, a, ws, rfl, rfl, ha, hn, hH, hd⟩ := dkO_some hr dy e
      refine .inr (.inl ⟨a, valV ws k, rfl, by rw [key_dv dx ek]; exact DGet.k hH, ?_⟩)
      rw [← dps_isSome hd k]
      exact ko_here hr h (.bl _)
def eqG (neg : Bool) : G2 := fun x y S => match pdo S x, pdo S y with
  | some p, some q => if SeqAt.shaped p = true ∧ SeqAt.shaped q = true then .ok (.bl (if neg then !PyData.eqv p q else PyData.eqv p q)) S else .no
  | _, _ => .no
theorem eqG_calm (neg : Bool) : Calm2 (eqG neg) := by
  intro x y S
  unfold eqG
  split
  · exact calm_ite (calm_ok _ _)
  · exact calm_no
def rEqN (K : PySem.W.Frag) (neg : Bool) : R2 := fun x y H Q => ∃ d e, Dp K H x d ∧ Dp K H y e ∧ SeqAt.shaped d = true ∧ SeqAt.shaped e = true ∧ Q (.bl (if neg then !PyData.eqv d e else PyData.eqv d e)) H
theorem op_eqN (hu : X.A.units + 128 < cLine) : OpR X (compareOp .Eq) (rEqN X.K false) := op_eqD (by omega)
theorem op_neN (hu : X.A.units + 128 < cLine) : OpR X (compareOp .NotEq) (rEqN X.K true) := op_neD (by omega)
theorem ro_eq {neg : Bool} : RO K (rEqN K neg) (eqG neg) := by
  intro H ρ S x y xv yv Q hr dx dy h
  unfold eqG at h
  cases e : pdo S x with
  | none => rw [e] at h; exact h.elim
  | some p =>
    cases e2 : pdo S y with
    | none => rw [e, e2] at h; exact h.elim
    | some q =>
      rw [e, e2] at h
      obtain ⟨⟨c1, c2⟩, h⟩ := ite_sat h
      exact ⟨p, q, dp_of hr _ x xv p dx e, dp_of hr _ y yv q dy e2, c1, c2, ko_here hr h (.bl _)⟩

/-! ### x[i], x[a:b] -/
def ixL : G2 := fun x y S => match y with
  | .int i => match x with
    | .str z => if z.length ≤ strLim then match atI z.cps.toList i with
      | some c => .ok (.str ⟨#[c]⟩) S
      | none => .no else .no
    | _ => match seqOf S x with
      | some xs => match atI xs i with
        | some d => .ok d S
        | none => .no
      | none => .no
  | _ => .no
theorem DVs.atI {ds : List Dt} {vs : List V} {i : Int} {d : Dt} (h : DVs K H ρ ds vs) (e : L2.atI ds i = some d) : ∃ v, L2.atI vs i = some v ∧ DV K H ρ d v := by
  unfold L2.atI at e ⊢
  rw [← h.length]
  cases hj : ixN ds.length i with
  | none => rw [hj] at e; cases e
  | some j =>
    rw [hj] at e
    exact h.get e
theorem ro_ixL : RO K (rIx K) ixL := by
  intro H ρ S x y xv yv Q hr dx dy h
  cases dy <;> first | exact h.elim | skip
  rename_i i
  unfold ixL at h
  simp only at h
  cases dx
  case str z =>
    simp only at h
    obtain ⟨c, h⟩ := ite_sat h
    cases e : atI z.cps.toList i with
    | none => rw [e] at h; exact h.elim
    | some c' =>
      rw [e] at h
      exact .inr (.inr ⟨z, i, c', rfl, rfl, Nat.le_trans c (by decide), e, ko_here hr h (.str _)⟩)
  case tup a ds vs ht hd =>
    simp only [seqOf] at h
    cases e : L2.atI ds i with
    | none => rw [e] at h; exact h.elim
    | some d =>
      rw [e] at h
      obtain ⟨v, h1, h2⟩ := hd.atI e
      exact .inr (.inl ⟨a, vs, i, v, rfl, rfl, ht.sqt, h1, ko_here hr h h2⟩)
  case box n a ha =>
    simp only [seqOf] at h
    cases e0 : S.seq n with
    | none => rw [e0] at h; exact h.elim
    | some xs =>
      rw [e0] at h
      simp only at h
      obtain ⟨vs, h1, h2⟩ := hr.rd ha e0
      cases e : L2.atI xs i with
      | none => rw [e] at h; exact h.elim
      | some d =>
        rw [e] at h
        obtain ⟨v, h3, h4⟩ := h2.atI e
        exact .inl ⟨a, vs, i, v, rfl, rfl, h1, h3, ko_here hr h h4⟩
  all_goals (simp only [seqOf] at h; exact h.elim)
theorem ixL_calm : Calm2 ixL := by
  intro x y S c ds S'
  unfold ixL
  split <;> try exact calm_no _ _ _
  split
  · split
    · split
      · exact calm_ok _ _ _ _ _
      · exact calm_no _ _ _
    · exact calm_no _ _ _
  · split
    · split
      · exact calm_ok _ _ _ _ _
      · exact calm_no _ _ _
    · exact calm_no _ _ _
def ixG : G2 := fun x y S => match dkO S x with
  | some kvs => dgetG kvs y S
  | none => ixL x y S
theorem ixG_calm : Calm2 ixG := by
  intro x y S
  unfold ixG
  split
  · exact dgetG_calm _ _ _
  · exact ixL_calm x y S
theorem ro_ix : RO K (fun x y H Q => rIx K x y H Q ∨ rDGet x y H Q) ixG := by
  intro H ρ S x y xv yv Q hr dx dy h
  unfold ixG at h
  cases e : dkO S x with
  | none =>
    rw [e] at h
    exact .inl (ro_ixL H ρ S x y xv yv Q hr dx dy h)
  | some kvs =>
    rw [e] at h
    exact .inr (dget_sat hr dx dy e h)
theorem se_ix {a b : Expr} {pos : Pos} {fa fb : FE} (hu : X.A.units + 128 < cLine) (ha : SE X Er a fa) (hb : SE X Er b fb) (hs : PlainIx b := by intro _ _; rfl) : SE X Er (.Subscript a b pos) (dBin ixG fa fb) := by
  obtain ⟨ta, pa, qa⟩ := ha.ex
  obtain ⟨tb, pb, qb⟩ := hb.ex
  exact ⟨_, pe_ix (ix_seq.or (ix_dict (by omega))) pa pb hs, fun τ H ρ σ S Q T h => bin_sat qa qb ro_ix ixG_calm T h⟩
abbrev FO := Sg → Bxs → Rs (Option Int)
structure SO (X : Cx) (Er : ER) (e : Option Expr) (f : FO) : Prop where
  ex : ∃ t, PO X e t ∧ ∀ τ H ρ σ S (Q : Option Int → Hp → Prop), Ty X.K H ρ σ S τ → (f σ S).Sat (fun o S' => ∀ H' ρ', To H H' ρ ρ' → HR X.K H' ρ' S' → Q o H') (KX Er H ρ) → t τ H Q
def oNone : FO := fun _ S => .ok none S
def oSome (f : FE) : FO := fun σ S => (f σ S).bind fun d S1 => match d with
  | .int i => .ok (some i) S1
  | _ => .no
theorem so_none : SO X Er none oNone := ⟨_, po_none, fun τ H ρ σ S Q T h => h H ρ (To.refl _ _) T.hr⟩
theorem so_some {e : Expr} {f : FE} (h : SE X Er e f) : SO X Er (some e) (oSome f) := by
  obtain ⟨te, p, q⟩ := h.ex
  refine ⟨_, po_some p, fun τ H ρ σ S Q T h => q τ H ρ σ S _ T ((link h).mono (fun d S1 h1 => ?_) fun _ _ _ q => q)⟩
  intro v H' ρ' t hr dv
  cases dv <;> first | exact h1.elim | skip
  exact ⟨_, rfl, h1 H' ρ' t hr⟩
def cutD (xs : List Dt) (lo hi : Option Int) : List Dt := (xs.drop (HT.sIx xs.length 0 lo)).take (HT.sIx xs.length xs.length hi - HT.sIx xs.length 0 lo)
theorem DVs.cut {ds : List Dt} {vs : List V} (h : DVs K H ρ ds vs) (lo hi : Option Int) : DVs K H ρ (cutD ds lo hi) (cutV vs lo hi) := by
  unfold cutD cutV
  rw [← h.length]
  exact (h.drop _).take _
theorem cutD_length (xs : List Dt) (lo hi : Option Int) : (cutD xs lo hi).length ≤ xs.length := by
  unfold cutD
  rw [List.length_take, List.length_drop]
  omega
theorem cutD_whole {xs : List Dt} {lo hi : Option Int} (h : wholeCut xs.length lo hi = true) : cutD xs lo hi = xs := by
  unfold wholeCut at h
  rw [Bool.and_eq_true, decide_eq_true_eq, decide_eq_true_eq] at h
  unfold cutD
  rw [h.1, h.2, List.drop_zero, Nat.sub_zero, List.take_length]
def slG (lo hi : Option Int) (x : Dt) (S : Bxs) : Rs Dt := match x with
  | .str z => if z.length ≤ strLim then .ok (.str (cutS z lo hi)) S else .no
  | .tup xs => .ok (.tup (cutD xs lo hi)) S
  | .box n => match S.seq n with
    | some xs => newL (cutD xs lo hi) S
    | none => .no
  | _ => .no
def dSl (f : FE) (lo hi : FO) : FE := fun σ S => (f σ S).bind fun d S1 => (lo σ S1).bind fun l S2 => (hi σ S2).bind fun u S3 => slG l u d S3
def rSlAll (K : PySem.W.Frag) : V → Option Int → Option Int → Hp → VK → Prop := fun x lo hi H Q => rSlL K x lo hi H Q ∨ (rSlZ K x lo hi H Q ∨ rSlS x lo hi H Q)
theorem sl_all : SlR X (rSlAll X.K) := sl_list.or (sl_tupZ.or sl_str)
theorem slG_calm (lo hi : Option Int) (x : Dt) (S : Bxs) (c : Nat) (es : List Dt) (S' : Bxs) : slG lo hi x S ≠ .ex c es S' := by
  unfold slG
  split
  · exact calm_ite (calm_ok _ _) _ _ _
  · exact calm_ok _ _ _ _ _
  · split
    · exact newL_calm _ _ _ _ _
    · exact calm_no _ _ _
  · exact calm_no _ _ _
theorem sl_sat {lo hi : Option Int} {d : Dt} {v : V} {Q : VK} (hr : HR K H ρ S) (dv : DV K H ρ d v) (h : (slG lo hi d S).Sat (KO K H ρ Q) noX) : rSlAll K v lo hi H Q := by
  cases dv <;> first | exact h.elim | skip
  · obtain ⟨c, h⟩ := ite_sat h
    exact .inr (.inr ⟨_, rfl, Nat.le_trans c (by decide), ko_here hr h (.str _)⟩)
  · rename_i a ds vs ht hd
    refine .inr (.inl ⟨a, vs, rfl, ht.sqt, fun z => ?_, fun _ => new_tup hr (hd.cut lo hi) h⟩)
    have h' : KO K H ρ Q (.tup (cutD ds lo hi)) S := h
    rw [cutD_whole (by rw [hd.length]; exact z)] at h'
    exact ko_here hr h' (.tup ht hd)
  · rename_i n a ha
    unfold slG at h
    simp only at h
    cases e : S.seq n with
    | none => rw [e] at h; exact h.elim
    | some xs =>
      rw [e] at h
      obtain ⟨hl, h⟩ := newL_ok h
      obtain ⟨vs, h1, h2⟩ := hr.rd ha e
      exact .inl ⟨a, vs, rfl, h1, fun p hp => new_lst hr (h2.cut lo hi) hp h⟩
theorem se_slice {e : Expr} {lo hi : Option Expr} {f : FE} {fl fh : FO} {p2 pos : Pos} (he : SE X Er e f) (hl : SO X Er lo fl) (hh : SO X Er hi fh) : SE X Er (.Subscript e (.Slice lo hi none p2) pos) (dSl f fl fh) := by
  obtain ⟨te, pe, qe⟩ := he.ex
  obtain ⟨tl, pl, ql⟩ := hl.ex
  obtain ⟨th, ph, qh⟩ := hh.ex
  refine ⟨_, pe_slice sl_all pe pl ph, fun τ H ρ σ S Q T h => qe τ H ρ σ S _ T ((link h).mono (fun d S1 h1 => ?_) fun _ _ _ q => q)⟩
  intro v H1 ρ1 t1 hr1 dv
  refine ql τ H1 ρ1 σ S1 _ (T.to t1 hr1) ((link h1).mono (fun l S2 h2 => ?_) fun _ _ _ q => q.to t1)
  intro H2 ρ2 t2 hr2
  refine qh τ H2 ρ2 σ S2 _ (T.to (t1.trans t2) hr2) ((link h2).mono (fun u S3 h3 => ?_) fun _ _ _ q => q.to (t1.trans t2))
  intro H3 ρ3 t3 hr3
  exact sl_sat hr3 (dv.to (t2.trans t3)) (sat_calm (slG_calm _ _ _ _) (Rs.Sat.toO ((t1.trans t2).trans t3) h3))

/-! ### calls of built-ins -/
abbrev GC := List Dt → Bxs → Rs Dt
def CalmC (g : GC) : Prop := ∀ ds S c es S', g ds S ≠ .ex c es S'
def RCo (K : PySem.W.Frag) (r : List V → Hp → VK → Prop) (g : GC) : Prop := ∀ H ρ S ds vs Q, HR K H ρ S → DVs K H ρ ds vs → (g ds S).Sat (KO K H ρ Q) noX → r vs H Q
def dCall (g : GC) (a : FA) : FE := fun σ S => (a σ S).bind g
theorem call_sat {fa : FA} {g : GC} {ta : TA} {r : List V → Hp → VK → Prop} (ha : ∀ τ H ρ σ S Q, Ty X.K H ρ σ S τ → (fa σ S).Sat (KA X.K H ρ Q) (KX Er H ρ) → ta τ H Q)
    (hr : RCo X.K r g) (hc : CalmC g) {τ : L2.St} {Q : VK} (T : Ty X.K H ρ σ S τ) (h : (dCall g fa σ S).Sat (KO X.K H ρ Q) (KX Er H ρ)) : ta τ H fun vs H1 => r vs H1 Q := by
  refine ha τ H ρ σ S _ T ((link h).mono (fun ds S1 h1 => ?_) fun _ _ _ q => q)
  intro vs H1 ρ1 t1 hr1 dvs
  exact hr H1 ρ1 S1 ds vs Q hr1 dvs (sat_calm (hc ds S1) (Rs.Sat.toO t1 h1))
theorem se_callB {x : Str} {p pos : Pos} {e : Expr} {es : List Expr} {id : String} {r : List V → Hp → VK → Prop} {g : GC} {fa : FA} (hc : CallR X (.builtin id) r) (hr : RCo X.K r g) (hcalm : CalmC g) (hg : Gl X x) (hm : X.mg x = none) (hv : bootBuiltins x = some (.builtin id))
    (ha : SA X Er (e :: es) fa) (hn : x ≠ "__name__" := by decide) (hdb : (x == ("__debug__" : Str)) = false := by decide)
    (he : starEach (e :: es) X.env = (false, eval e X.env) :: starEach es X.env := by rfl) (hpl : (backTo pos (starEach es X.env)).any (·.1) = false := by rfl) : SE X Er (.Call (.Name x p) (e :: es) [] pos) (dCall g fa) := by
  obtain ⟨ta, pa, qa⟩ := ha.ex
  exact ⟨_, pe_callB hc hg hm hv pa hn hdb he hpl, fun τ H ρ σ S Q T h => call_sat qa hr hcalm T h⟩
theorem se_callTy {x : Str} {p pos : Pos} {e : Expr} {es : List Expr} {tn : String} {r : List V → Hp → VK → Prop} {g : GC} {fa : FA} (hc : CallR X (.type tn) r) (hr : RCo X.K r g) (hcalm : CalmC g) (hg : Gl X x) (hm : X.mg x = none) (hv : bootBuiltins x = some (.type tn))
    (ha : SA X Er (e :: es) fa) (hn : x ≠ "__name__" := by decide) (hdb : (x == ("__debug__" : Str)) = false := by decide)
    (he : starEach (e :: es) X.env = (false, eval e X.env) :: starEach es X.env := by rfl) (hpl : (backTo pos (starEach es X.env)).any (·.1) = false := by rfl) : SE X Er (.Call (.Name x p) (e :: es) [] pos) (dCall g fa) := by
  obtain ⟨ta, pa, qa⟩ := ha.ex
  exact ⟨_, pe_callTy hc hg hm hv pa hn hdb he hpl, fun τ H ρ σ S Q T h => call_sat qa hr hcalm T h⟩
end
end Mn

set_option Elab.async false
set_option linter.all false
set_option maxRecDepth 100000
set_option maxHeartbeats 4000000
/-! MnE: targets, statements, loops, comprehensions. -/
namespace Mn
open PySem PySem.Spec PyProof.Rows L2
section
variable {X : Cx} {Er : ER} {K : PySem.W.Frag} {H H1 : Hp} {ρ ρ1 : List Addr} {σ : Sg} {S S1 : Bxs} {τ : L2.St}

/-! ### one form for each judgement -/
def canE (K : PySem.W.Frag) (Er : ER) (f : FE) : TE := fun τ H Q => ∃ ρ σ S, Ty K H ρ σ S τ ∧ (f σ S).Sat (KO K H ρ Q) (KX Er H ρ)
def canT (K : PySem.W.Frag) (Er : ER) (f : FB) : TT := fun τ H Q => ∃ ρ σ S, Ty K H ρ σ S τ ∧ (f σ S).Sat (KB K H ρ Q) (KX Er H ρ)
theorem SE.can {e : Expr} {f : FE} (h : SE X Er e f) : PE X e (canE X.K Er f) := by
  obtain ⟨te, p, q⟩ := h.ex
  exact ⟨fun pins s σ H Q I ⟨ρ, σ', S, T, hs⟩ => p.run pins s σ H Q I (q _ _ _ _ _ _ T hs)⟩
theorem ST.can {e : Expr} {f : FB} (h : ST X Er e f) : PT X e (canT X.K Er f) := by
  obtain ⟨te, p, q⟩ := h.ex
  exact ⟨fun pins s σ H Q I ⟨ρ, σ', S, T, hs⟩ => p.run pins s σ H Q I (q _ _ _ _ _ _ T hs)⟩

/-! ### targets -/
abbrev FT := Dt → Sg → Bxs → Rs Sg
abbrev FTs := List Dt → Sg → Bxs → Rs Sg
def KS (K : PySem.W.Frag) (H : Hp) (ρ : List Addr) (Q : L2.St → Hp → Prop) : Sg → Bxs → Prop := fun σ' S' => ∀ τ' H' ρ', To H H' ρ ρ' → Ty K H' ρ' σ' S' τ' → Q τ' H'
structure SG (X : Cx) (Er : ER) (tg : Expr) (g : FT) : Prop where
  ex : ∃ t, PG X tg t ∧ ∀ v d τ H ρ σ S Q, Ty X.K H ρ σ S τ → DV X.K H ρ d v → (g d σ S).Sat (KS X.K H ρ Q) (KX Er H ρ) → t v τ H Q
structure SGs (X : Cx) (Er : ER) (ts : List Expr) (g : FTs) : Prop where
  ex : ∃ t, PGs X ts t ∧ ∀ vs ds τ H ρ σ S Q, Ty X.K H ρ σ S τ → DVs X.K H ρ ds vs → (g ds σ S).Sat (KS X.K H ρ Q) (KX Er H ρ) → t vs τ H Q
theorem Rs.Sat.toS {r : Rs Sg} {Q : L2.St → Hp → Prop} (t : To H H1 ρ ρ1) (h : r.Sat (KS K H ρ Q) (KX Er H ρ)) : r.Sat (KS K H1 ρ1 Q) (KX Er H1 ρ1) :=
  h.mono (fun _ _ q τ' H' ρ' t' => q τ' H' ρ' (t.trans t')) fun _ _ _ q => q.to t
def tName (i : Nat) : FT := fun d σ S => .ok (σ.set i (some d)) S
theorem sg_name (i : Nat) {x : Str} {pos : Pos} (hN : X.N.Nodup) (hi : X.N[i]? = some x := by rfl) (hx : Loc X.env.scope x := by first | exact .inl rfl | exact .inr rfl) (hf : X.fn x = true ∨ X.env.scope.names.lookup x = some .local := by first | exact .inl rfl | exact .inr rfl) : SG X Er (.Name x pos) (tName i) :=
  ⟨_, pg_name hN hi hx hf, fun v d τ H ρ σ S Q T dv h => h _ H ρ (To.refl _ _) ⟨T.hr, T.sl.set i dv⟩⟩
def tNilG : FTs := fun ds σ S => match ds with
  | [] => .ok σ S
  | _ => .no
def tConsG (g : FT) (r : FTs) : FTs := fun ds σ S => match ds with
  | d :: ds => (g d σ S).bind fun σ1 S1 => r ds σ1 S1
  | [] => .no
theorem sgs_nil : SGs X Er [] tNilG := by
  refine ⟨_, pgs_nil, fun vs ds τ H ρ σ S Q T dv h => ?_⟩
  cases dv with
  | nil => exact ⟨rfl, h τ H ρ (To.refl _ _) T⟩
  | cons _ _ => exact h.elim
theorem sgs_cons {e : Expr} {es : List Expr} {g : FT} {r : FTs} (h1 : SG X Er e g) (h2 : SGs X Er es r) (hs : (assignEach (e :: es) X.env).map (·.2) = assign e X.env :: (assignEach es X.env).map (·.2) := by rfl) : SGs X Er (e :: es) (tConsG g r) := by
  obtain ⟨t1, p1, q1⟩ := h1.ex
  obtain ⟨t2, p2, q2⟩ := h2.ex
  refine ⟨_, pgs_cons p1 p2 hs, fun vs ds τ H ρ σ S Q T dv h => ?_⟩
  cases dv with
  | nil => exact h.elim
  | cons dx dxs =>
    refine ⟨_, _, rfl, q1 _ _ τ H ρ σ S _ T dx ((link h).mono (fun σ1 S1 h1 => ?_) fun _ _ _ q => q)⟩
    intro τ1 H1 ρ1 t T1
    exact q2 _ _ τ1 H1 ρ1 σ1 S1 Q T1 (dxs.to t) (Rs.Sat.toS t h1)
/-- (a, b, ..) = a tuple -/
def tTupG (n : Nat) (g : FTs) : FT := fun d σ S => match d with
  | .tup xs => if xs.length = n then g xs σ S else .no
  | _ => .no
theorem sg_tup {es : List Expr} {k n : Nat} {pos : Pos} {g : FTs} (hc : X.calm = true) (h : SGs X Er es g) (hn : (assignEach es X.env).length = n := by rfl) (hst : (assignEach es X.env).findIdx? (·.1) = none := by rfl) : SG X Er (.Tuple es k pos) (tTupG n g) := by
  obtain ⟨t, p, q⟩ := h.ex
  refine ⟨_, pg_tup hc p hn hst, fun v d τ H ρ σ S Q T dv h => ?_⟩
  cases dv <;> first | exact h.elim | skip
  rename_i a ds vs ht hd
  obtain ⟨c, h⟩ := ite_sat h
  exact ⟨a, vs, rfl, ht.sqt, by rw [← hd.length]; exact c, q _ _ τ H ρ σ S Q T hd h⟩
/-- xs[i] = .. of a list -/
def setL (o i d : Dt) (S : Bxs) : Rs Unit := match o, i with
  | .box n, .int k => match S.lst n with
    | some xs => match ixN xs.length k with
      | some j => .ok () (S.set n (.lst (xs.set j d)))
      | none => .no
    | none => .no
  | _, _ => .no
theorem setL_sat {o i d : Dt} {ov iv v : V} {Q : Hp → Prop} (hr : HR K H ρ S) (dO : DV K H ρ o ov) (di : DV K H ρ i iv) (dv : DV K H ρ d v)
    (h : (setL o i d S).Sat (fun _ S' => ∀ H' , To H H' ρ ρ → HR K H' ρ S' → Q H') noX) : rSetL ov iv v H Q := by
  cases dO <;> first | exact h.elim | skip
  rename_i n a ha
  cases di <;> first | exact h.elim | skip
  rename_i k
  unfold setL at h
  simp only at h
  cases e : S.lst n with
  | none => rw [e] at h; exact h.elim
  | some xs =>
    rw [e] at h
    simp only at h
    cases e2 : ixN xs.length k with
    | none => rw [e2] at h; exact h.elim
    | some j =>
      rw [e2] at h
      obtain ⟨vs, h1, h2⟩ := hr.mu ha e
      exact ⟨a, vs, k, j, rfl, rfl, h1, by rw [← h2.length]; exact e2, h _ ⟨Ext.set h1, List.prefix_refl _⟩ (hr.set (lst_get e) ha h1 (h2.set dv j))⟩
theorem setL_calm (o i d : Dt) (S : Bxs) : ∀ c es S', setL o i d S ≠ .ex c es S' := by
  intro c es S'
  unfold setL
  split
  · split
    · split
      · exact calm_ok _ _ _ _ _
      · exact calm_no _ _ _
    · exact calm_no _ _ _
  · exact calm_no _ _ _
/-- d[k] = .. of a dict -/
def dsetG (o i d : Dt) (kvs : List (Key × Dt)) (S : Bxs) : Rs Unit := match o, keyOf i with
  | .box n, some k => if kvs.length < LIM then .ok () (S.set n (.dk (putD kvs k d))) else .no
  | _, _ => .no
/-- x[i] = .. -/
def setG (o i d : Dt) (S : Bxs) : Rs Unit := match dkO S o with
  | some kvs => dsetG o i d kvs S
  | none => setL o i d S
theorem setG_calm (o i d : Dt) (S : Bxs) : ∀ c es S', setG o i d S ≠ .ex c es S' := by
  intro c es S'
  unfold setG
  split
  · unfold dsetG
    split
    · exact calm_ite (calm_ok _ _) _ _ _
    · exact calm_no _ _ _
  · exact setL_calm _ _ _ _ _ _ _
theorem set_sat {o i d : Dt} {ov iv v : V} {Q : Hp → Prop} (hr : HR K H ρ S) (dO : DV K H ρ o ov) (di : DV K H ρ i iv) (dv : DV K H ρ d v)
    (h : (setG o i d S).Sat (fun _ S' => ∀ H' , To H H' ρ ρ → HR K H' ρ S' → Q H') noX) : rSetL ov iv v H Q ∨ rDSet ov iv v H Q := by
  unfold setG at h
  cases e : dkO S o with
  | none =>
    rw [e] at h
    exact .inl (setL_sat hr dO di dv h)
  | some kvs =>
    rw [e] at h
    simp only at h
    obtain ⟨n, a, ws, rfl, rfl, ha, hn, hH, hd⟩ := dkO_some hr dO e
    unfold dsetG at h
    cases ek : keyOf i with
    | none => rw [ek] at h; exact h.elim
    | some k =>
      rw [ek] at h
      obtain ⟨c, h⟩ := ite_sat h
      refine .inr ⟨a, _, rfl, by rw [key_dv di ek]; exact DPut.k hH (by rw [← hd.length]; exact lim_lt c), h _ ⟨Ext.setD hH, List.prefix_refl _⟩ (hr.setD hn ha hH (dps_put dv hd))⟩
def tSubG (o i : FE) : FT := fun d σ S => (o σ S).bind fun a S1 => (i σ S1).bind fun b S2 => (setG a b d S2).bind fun _ S3 => .ok σ S3
theorem sg_sub {o i : Expr} {fo fi : FE} {pos : Pos} (hu : X.A.units + 128 < cLine) (ho : SE X Er o fo) (hi : SE X Er i fi)
    (ha : ∀ v, assign (.Subscript o i pos) X.env v = (do
      let ov ← holding [v] (eval o X.env)
      let iv ← holding [v, ov] (eval i X.env)
      standAt pos
      holding [v, ov, iv] (setItem ov iv v)
      release [v, ov, iv] []) := by intro _; rfl) : SG X Er (.Subscript o i pos) (tSubG fo fi) := by
  obtain ⟨to, po, qo⟩ := ho.ex
  obtain ⟨ti, pi, qi⟩ := hi.ex
  refine ⟨_, pg_sub po pi (PSet.or set_list (set_dict (by omega))) ha, fun v d τ H ρ σ S Q T dv h => qo τ H ρ σ S _ T ((link h).mono (fun a S1 h1 => ?_) fun _ _ _ q => q)⟩
  intro ov H1 ρ1 t1 hr1 da
  refine qi τ H1 ρ1 σ S1 _ (T.to t1 hr1) ((link h1).mono (fun b S2 h2 => ?_) fun _ _ _ q => q.to t1)
  intro iv H2 ρ2 t2 hr2 db
  refine set_sat hr2 (da.to t2) db (dv.to (t1.trans t2)) (sat_calm (setG_calm _ _ _ _) ((link h2).mono (fun _ S3 h3 => ?_) fun _ _ _ q => q))
  intro H3 t3 hr3
  exact h3 τ H3 ρ2 ((t1.trans t2).trans t3) (T.to ((t1.trans t2).trans t3) hr3)

/-! ### statements -/
inductive Fl where
  | nx | rt (d : Dt) | bk | ct
abbrev FS := Sg → Bxs → Rs (Fl × Sg)
def KF (K : PySem.W.Frag) (H : Hp) (ρ : List Addr) (D : Ends) : Fl × Sg → Bxs → Prop := fun r S' => match r.1 with
  | .nx => KS K H ρ D.nx r.2 S'
  | .rt d => KO K H ρ D.rt d S'
  | .bk => KS K H ρ D.bk r.2 S'
  | .ct => KS K H ρ D.ct r.2 S'
theorem KF.to {D : Ends} {r : Fl × Sg} {S' : Bxs} (t : To H H1 ρ ρ1) (h : KF K H ρ D r S') : KF K H1 ρ1 D r S' := by
  obtain ⟨fl, σ'⟩ := r
  cases fl with
  | nx => exact fun τ' H' ρ' t' => h τ' H' ρ' (t.trans t')
  | rt d => exact fun v H' ρ' t' => h v H' ρ' (t.trans t')
  | bk => exact fun τ' H' ρ' t' => h τ' H' ρ' (t.trans t')
  | ct => exact fun τ' H' ρ' t' => h τ' H' ρ' (t.trans t')
theorem Rs.Sat.toF {r : Rs (Fl × Sg)} {D : Ends} (t : To H H1 ρ ρ1) (h : r.Sat (KF K H ρ D) (KX Er H ρ)) : r.Sat (KF K H1 ρ1 D) (KX Er H1 ρ1) :=
  h.mono (fun _ _ q => q.to t) fun _ _ _ q => q.to t
structure SS (X : Cx) (Er : ER) (st : Stmt) (f : FS) : Prop where
  ex : ∃ ts, PS X st ts ∧ ∀ τ H ρ σ S D, Ty X.K H ρ σ S τ → (f σ S).Sat (KF X.K H ρ D) (KX Er H ρ) → ts D τ H
structure SSs (X : Cx) (Er : ER) (st : List Stmt) (f : FS) : Prop where
  ex : ∃ ts, PSs X st ts ∧ ∀ τ H ρ σ S D, Ty X.K H ρ σ S τ → (f σ S).Sat (KF X.K H ρ D) (KX Er H ρ) → ts D τ H
def sNil : FS := fun σ S => .ok (.nx, σ) S
def sCons (f g : FS) : FS := fun σ S => (f σ S).bind fun r S1 => match r.1 with
  | .nx => g r.2 S1
  | _ => .ok r S1
theorem ss_nil : SSs X Er [] sNil := ⟨_, pss_nil, fun τ H ρ σ S D T h => h τ H ρ (To.refl _ _) T⟩
theorem ss_cons {st : Stmt} {rest : List Stmt} {f g : FS} (h1 : SS X Er st f) (h2 : SSs X Er rest g) : SSs X Er (st :: rest) (sCons f g) := by
  obtain ⟨t1, p1, q1⟩ := h1.ex
  obtain ⟨t2, p2, q2⟩ := h2.ex
  refine ⟨_, pss_cons p1 p2, fun τ H ρ σ S D T h => q1 τ H ρ σ S _ T ((link h).mono (fun r S1 h1 => ?_) fun _ _ _ q => q)⟩
  obtain ⟨fl, σ1⟩ := r
  cases fl with
  | nx =>
    intro τ1 H1 ρ1 t T1
    exact q2 τ1 H1 ρ1 σ1 S1 D T1 (Rs.Sat.toF t h1)
  | rt d => exact h1
  | bk => exact h1
  | ct => exact h1
theorem ss_one {st : Stmt} {f : FS} (h1 : SS X Er st f) : SSs X Er [st] f := let ⟨_, p, q⟩ := h1.ex; ⟨_, pss_one p, q⟩
def sPass : FS := fun σ S => .ok (.nx, σ) S
def sBreak : FS := fun σ S => .ok (.bk, σ) S
def sCont : FS := fun σ S => .ok (.ct, σ) S
theorem ss_pass {pos} : SS X Er (.Pass pos) sPass := ⟨_, ps_pass, fun τ H ρ σ S D T h => h τ H ρ (To.refl _ _) T⟩
theorem ss_break {pos} : SS X Er (.Break pos) sBreak := ⟨_, ps_break, fun τ H ρ σ S D T h => h τ H ρ (To.refl _ _) T⟩
theorem ss_cont {pos} : SS X Er (.Continue pos) sCont := ⟨_, ps_continue, fun τ H ρ σ S D T h => h τ H ρ (To.refl _ _) T⟩
def sExpr (f : FE) : FS := fun σ S => (f σ S).bind fun _ S1 => .ok (.nx, σ) S1
theorem ss_expr {e : Expr} {f : FE} {pos : Pos} (he : SE X Er e f) (hs : swapsWith e none pos.line X.env = pure false := by rfl) : SS X Er (.Expr e pos) (sExpr f) := by
  obtain ⟨te, p, q⟩ := he.ex
  refine ⟨_, ps_expr p hs, fun τ H ρ σ S D T h => q τ H ρ σ S _ T ((link h).mono (fun d S1 h1 => ?_) fun _ _ _ q => q)⟩
  intro v H' ρ' t hr _
  exact h1 τ H' ρ' t (T.to t hr)
def sRet (f : FE) : FS := fun σ S => (f σ S).bind fun d S1 => .ok (.rt d, σ) S1
theorem ss_ret {e : Expr} {f : FE} {pos : Pos} (he : SE X Er e f) : SS X Er (.Return (some e) pos) (sRet f) := by
  obtain ⟨te, p, q⟩ := he.ex
  exact ⟨_, ps_ret p, fun τ H ρ σ S D T h => q τ H ρ σ S _ T ((link h).mono (fun d S1 h1 => h1) fun _ _ _ q => q)⟩
def sRetN : FS := fun σ S => .ok (.rt .non, σ) S
theorem ss_retN {pos} : SS X Er (.Return none pos) sRetN := ⟨_, ps_retN, fun τ H ρ σ S D T h => h _ H ρ (To.refl _ _) T.hr .non⟩
def sAsg (f : FE) (g : FT) : FS := fun σ S => (f σ S).bind fun d S1 => (g d σ S1).bind fun σ1 S2 => .ok (.nx, σ1) S2
theorem ss_asg {tg e : Expr} {f : FE} {g : FT} {pos : Pos} (he : SE X Er e f) (hg : SG X Er tg g) (hs : swapsWithSole [tg] e pos.line X.env = pure false := by rfl) (hw : swappedStores [tg] e X.env = pure none := by rfl)
    (h1 : (assignEach [tg] X.env).map (·.2) = [assign tg X.env] := by rfl) : SS X Er (.Assign [tg] e pos) (sAsg f g) := by
  obtain ⟨te, p, q⟩ := he.ex
  obtain ⟨t, pg, qg⟩ := hg.ex
  refine ⟨_, ps_asg p pg hs hw h1, fun τ H ρ σ S D T h => q τ H ρ σ S _ T ((link h).mono (fun d S1 h1 => ?_) fun _ _ _ q => q)⟩
  intro v H1 ρ1 t1 hr1 dv
  refine qg v d τ H1 ρ1 σ S1 _ (T.to t1 hr1) dv ((link h1).mono (fun σ1 S2 h2 => ?_) fun _ _ _ q => q.to t1)
  intro τ2 H2 ρ2 t2 T2
  exact h2 τ2 H2 ρ2 (t1.trans t2) T2
/-- name = e -/
def sSet (i : Nat) (f : FE) : FS := fun σ S => (f σ S).bind fun d S1 => .ok (.nx, σ.set i (some d)) S1
theorem ss_set (i : Nat) {x : Str} {e : Expr} {f : FE} {pos pos' : Pos} (hN : X.N.Nodup) (he : SE X Er e f) (hi : X.N[i]? = some x := by rfl) (hx : Loc X.env.scope x := by first | exact .inl rfl | exact .inr rfl)
    (hs : swapsWith e (some (.Name x pos')) pos.line X.env = pure false := by rfl) (hf : X.fn x = true ∨ X.env.scope.names.lookup x = some .local := by first | exact .inl rfl | exact .inr rfl) : SS X Er (.Assign [.Name x pos'] e pos) (sSet i f) := by
  obtain ⟨te, p, q⟩ := he.ex
  refine ⟨_, ps_set (i := i) hN hi hx p hs hf, fun τ H ρ σ S D T h => q τ H ρ σ S _ T ((link h).mono (fun d S1 h1 => ?_) fun _ _ _ q => q)⟩
  intro v H1 ρ1 t1 hr1 dv
  exact h1 _ H1 ρ1 t1 ⟨hr1, (T.sl.to t1).set i dv⟩
/-- a, b = x, y by plain local names -/
def sPar2 (i j : Nat) (a : FA) : FS := fun σ S => (a σ S).bind fun ds S1 => match ds with
  | [d, e] => .ok (.nx, (σ.set i (some d)).set j (some e)) S1
  | _ => .no
theorem ss_par2 (i j : Nat) {x y : Str} {a b : Expr} {fa : FA} {px py pt pos : Pos} {kt k2 pt2} (hc : X.calm = true) (hN : X.N.Nodup) (ha : SA X Er [a, b] fa) (hi : X.N[i]? = some x := by rfl) (hj : X.N[j]? = some y := by rfl) (hij : i ≠ j := by decide)
    (hx : X.env.scope.names.lookup x = some .local := by rfl) (hy : X.env.scope.names.lookup y = some .local := by rfl)
    (hw : swappedStores [.Tuple [.Name x px, .Name y py] kt pt] (.Tuple [a, b] k2 pt2) X.env = pure (some [x, y]) := by rfl)
    (hs : swapsWithSole [.Tuple [.Name x px, .Name y py] kt pt] (.Tuple [a, b] k2 pt2) pos.line X.env = pure false := by rfl) :
    SS X Er (.Assign [.Tuple [.Name x px, .Name y py] kt pt] (.Tuple [a, b] k2 pt2) pos) (sPar2 i j fa) := by
  obtain ⟨ta, pa, qa⟩ := ha.ex
  refine ⟨_, ps_par hc hN hi hj hij hx hy pa hw hs, fun τ H ρ σ S D T h => qa τ H ρ σ S _ T ((link h).mono (fun ds S1 h1 => ?_) fun _ _ _ q => q)⟩
  intro vs H1 ρ1 t1 hr1 dvs
  cases dvs with
  | nil => exact h1.elim
  | cons d1 r1 =>
    cases r1 with
    | nil => exact h1.elim
    | cons d2 r2 =>
      cases r2 with
      | nil => exact ⟨_, _, rfl, h1 _ H1 ρ1 t1 ⟨hr1, ((T.sl.to t1).set i d1).set j d2⟩⟩
      | cons _ _ => exact h1.elim
def sIf (c : FB) (a b : FS) : FS := fun σ S => (c σ S).bind fun k S1 => if k = true then a σ S1 else b σ S1
theorem ss_if {c : Expr} {a b : List Stmt} {fc : FB} {fa fb : FS} {pos : Pos} (hc : ST X Er c fc) (ha : SSs X Er a fa) (hb : SSs X Er b fb) : SS X Er (.If c a b pos) (sIf fc fa fb) := by
  obtain ⟨tc, pc, qc⟩ := hc.ex
  obtain ⟨ta, pa, qa⟩ := ha.ex
  obtain ⟨tb, pb, qb⟩ := hb.ex
  refine ⟨_, ps_if pc pa pb, fun τ H ρ σ S D T h => qc τ H ρ σ S _ T ((link h).mono (fun k S1 h1 => ?_) fun _ _ _ q => q)⟩
  intro H1 ρ1 t1 hr1
  cases k with
  | true =>
    rw [if_pos rfl] at h1 ⊢
    exact qa τ H1 ρ1 σ S1 D (T.to t1 hr1) (Rs.Sat.toF t1 h1)
  | false =>
    rw [if_neg Bool.false_ne_true] at h1 ⊢
    exact qb τ H1 ρ1 σ S1 D (T.to t1 hr1) (Rs.Sat.toF t1 h1)
/-- name op= e, ints or texts -/
def sAug (i : Nat) (g : G2) (f : FE) : FS := fun σ S => match σ[i]? with
  | some (some d) => (f σ S).bind fun e S1 => (g d e S1).bind fun z S2 => .ok (.nx, σ.set i (some z)) S2
  | _ => .no
theorem ss_aug (i : Nat) {x : Str} {e : Expr} {f : FE} {g : G2} {op : Operator} {ti : TIp} {pos pos' : Pos} (hN : X.N.Nodup) (ho : PIp X op ti) (hr : RO X.K ti g) (hcalm : Calm2 g) (he : SE X Er e f) (hi : X.N[i]? = some x := by rfl)
    (hx : Loc X.env.scope x := by first | exact .inl rfl | exact .inr rfl) (hf : X.fn x = true ∨ X.env.scope.names.lookup x = some .local := by first | exact .inl rfl | exact .inr rfl) : SS X Er (.AugAssign (.Name x pos') op e pos) (sAug i g f) := by
  obtain ⟨te, p, q⟩ := he.ex
  refine ⟨_, ps_aug hN hi hx p ho hf, fun τ H ρ σ S D T h => ?_⟩
  unfold sAug at h
  cases e0 : σ[i]? with
  | none => rw [e0] at h; exact h.elim
  | some o =>
    cases o with
    | none => rw [e0] at h; exact h.elim
    | some d =>
      rw [e0] at h
      simp only at h
      obtain ⟨v, h1, h2⟩ := T.sl.at_ i d e0
      refine ⟨v, h1, q τ H ρ σ S _ T ((link h).mono (fun e S1 h3 => ?_) fun _ _ _ q => q)⟩
      intro w H1 ρ1 t1 hr1 dw
      refine hr H1 ρ1 S1 d e v w _ hr1 (h2.to t1) dw (sat_calm (hcalm _ _ _) ((link h3).mono (fun z S2 h4 => ?_) fun _ _ _ q => q))
      intro zv H2 ρ2 t2 hr2 dz
      exact h4 _ H2 ρ2 (t1.trans t2) ⟨hr2, ((T.sl.to (t1.trans t2))).set i dz⟩
theorem ip_addI : PIp X .Add (rI0 fun i j => .int (i + j)) := ip_add
theorem ip_subI : PIp X .Sub (rI0 fun i j => .int (i - j)) := ip_sub
def addI : G2 := fun x y S => match x, y with
  | .int i, .int j => .ok (.int (i + j)) S
  | _, _ => .no
theorem addI_calm : Calm2 addI := by
  intro x y S
  unfold addI
  split <;> first | exact calm_ok _ _ | exact calm_no
theorem ro_addI : RO K (rI0 fun i j => .int (i + j)) addI := by
  intro H ρ S x y xv yv Q hr dx dy h
  cases dx <;> first | exact h.elim | skip
  cases dy <;> first | exact h.elim | skip
  exact ⟨_, _, rfl, rfl, ko_here hr h (.int _)⟩
end
end Mn

set_option Elab.async false
set_option linter.all false
set_option maxRecDepth 100000
set_option maxHeartbeats 4000000
/-! MnZ: zip and enumerate over lists and tuples in any mix. -/
namespace Mn
open PySem PySem.Spec PyProof.Rows L2
/-- a list (false) or a tuple (true), to be read -/
def SqX (k : Bool) (K : PySem.W.Frag) (H : Hp) (a : Addr) (xs : List V) : Prop := match k with
  | true => SqT K H a xs
  | false => SqL K H a xs
def HIt (k : Bool) (h : Heap) (it a : Addr) (i : Nat) : Prop := match k with
  | true => h.IsTupleIter it a i
  | false => h.IsListIter it a i
def HSq (k : Bool) (h : Heap) (a : Addr) (vs : Array Value) : Prop := match k with
  | true => h.IsTuple a vs
  | false => h.IsList a vs
def itObj (k : Bool) (a : Addr) : Obj := match k with
  | true => { cls := .type "tuple_iterator", data := .fields #[.ref a, .int 0 0] }
  | false => { cls := .type "list_iterator", data := .fields #[.ref a, .int 0 0] }
section
variable {X : Cx} {pins : List (Addr × Obj)} {σ : L2.St} {H : Hp} {s : Shared} {a : Addr} {xs ys : List V} {k : Bool}
theorem sqx_inv (I : Inv X pins σ H s) (h : SqX k X.K H a xs) : ∃ its : List Value, Vals xs its ∧ HSq k s.heap a its.toArray ∧ a < s.heap.objs.size := by
  cases k with
  | true =>
    obtain ⟨its, r, p, _⟩ := I.tuple h
    exact ⟨its, r, p, p.lt⟩
  | false =>
    obtain ⟨its, r, p, _⟩ := I.list h
    exact ⟨its, r, p.isList, p.lt⟩
theorem sqx_inj (I : Inv X pins σ H s) (h : SqX k X.K H a xs) (h' : SqX k X.K H a ys) : xs = ys := by
  cases k with
  | true => exact I.tuple_inj h h'
  | false => exact I.list_inj h h'
theorem drawsX {prog : Program} {w : World} {A : Around} (k : Bool) (hh : A.handled = none) (it l : Addr) (hne : l ≠ it) (items : Array Value) :
    Draws prog w A it [it, l] items.size (fun i v => items[i]? = some v) (fun i h => HIt k h it l i ∧ HSq k h l items) := by
  cases k with
  | true => exact Draws.tuple hh it l hne items
  | false => exact Draws.list hh it l hne items
theorem HIt.at {h h' : Heap} {it : Addr} {i : Nat} (x : HIt k h it a i) (f : ∀ o, h.get? it = some o → h'.get? it = some o) : HIt k h' it a i := by
  cases k with
  | true => exact Heap.IsTupleIter.at x f
  | false => exact Heap.IsListIter.at x f
theorem HIt.obj {h : Heap} {it : Addr} {i : Nat} (x : HIt k h it a i) : ∃ o, h.get? it = some o ∧ ∀ v, o.data ≠ .cell v := by
  cases k with
  | true =>
    obtain ⟨o, e, _, d⟩ := x
    exact ⟨o, e, fun v q => by rw [d] at q; cases q⟩
  | false =>
    obtain ⟨o, e, _, d⟩ := x
    exact ⟨o, e, fun v q => by rw [d] at q; cases q⟩
theorem beginsX (k : Bool) (l : Addr) (items : Array Value) : Begins (.ref l) (itObj k l) fun h => HSq k h l items := by
  cases k with
  | true => exact begins_tuple l items
  | false => exact begins_list l items
theorem hit_new {h : Heap} {it : Addr} (e : h.get? it = some (itObj k a)) : HIt k h it a 0 := by
  cases k with
  | true => exact ⟨_, e, rfl, rfl⟩
  | false => exact ⟨_, e, rfl, rfl⟩
end

/-! ### zip -/
def ItzX (k1 k2 : Bool) (K : PySem.W.Frag) (a b : Addr) : It where
  go := fun i H => ∃ (xs ys : List V) (x y : V), SqX k1 K H a xs ∧ SqX k2 K H b ys ∧ xs[i]? = some x ∧ ys[i]? = some y
  yld := fun i H v H' => ∃ T x y, v = .ref T ∧ H T = none ∧ H' = upd H T (.tup [x, y]) ∧ (∀ xs, SqX k1 K H a xs → xs[i]? = some x) ∧ ∀ ys, SqX k2 K H b ys → ys[i]? = some y
  stop := fun i H => ∃ xs ys : List V, SqX k1 K H a xs ∧ SqX k2 K H b ys ∧ i ≤ xs.length ∧ i ≤ ys.length ∧ (i = xs.length ∨ i = ys.length)
/-- the cells apart -/
structure ZA (z TI TO i1 i2 a b : Addr) : Prop where
  sep : ZipSep2 z TI TO i1 i2 [i1, a] [i2, b]
  ai1 : a ≠ i1
  bi2 : b ≠ i2
  TIi2 : TI ≠ i2
theorem turn_zipX {P : Program} {w : World} {K : PySem.W.Frag} {elts : List Expr} {kk : Nat} {tpos : Pos} {k1 k2 : Bool} {a b z TI TO i1 i2 : Addr} (D : ZA z TI TO i1 i2 a b) :
    Turn P w K (.Tuple elts kk tpos) (ItzX k1 k2 K a b) [z, TI, TO, i1, i2] z
      (fun i h => IsZip h z TI TO .none ∧ IsTupOf2 h TI (.ref i1) (.ref i2) ∧ (∃ x y, IsTupOf2 h TO x y) ∧ HIt k1 h i1 a i ∧ HIt k2 h i2 b i) where
  mem := by simp
  obj := fun i h st c hc => by
    obtain ⟨hz, hTI, ⟨x, y, hTO⟩, h1, h2⟩ := st
    have e' : c = z ∨ c = TI ∨ c = TO ∨ c = i1 ∨ c = i2 := by simpa using hc
    rcases e' with rfl | rfl | rfl | rfl | rfl
    · exact ⟨_, hz, fun v q => nomatch q⟩
    · exact ⟨_, hTI, fun v q => nomatch q⟩
    · exact ⟨_, hTO, fun v q => nomatch q⟩
    · exact h1.obj
    · exact h2.obj
  keep := fun i h h' st f => by
    obtain ⟨hz, hTI, ⟨x, y, hTO⟩, h1, h2⟩ := st
    exact ⟨f z (by simp) _ hz, f TI (by simp) _ hTI, ⟨x, y, f TO (by simp) _ hTO⟩, h1.at fun o q => f i1 (by simp) o q, h2.at fun o q => f i2 (by simp) o q⟩
  item := by
    intro X hP hw hK hc i pins s σ H E I hf st hg
    subst hP hw hK
    obtain ⟨hz, hTI, ⟨x0, y0, hTO⟩, h1, h2⟩ := st
    obtain ⟨xs, ys, x, y, hqx, hqy, hx, hy⟩ := hg
    obtain ⟨its, rv, p, _⟩ := sqx_inv I hqx
    obtain ⟨its2, rv2, p2, _⟩ := sqx_inv I hqy
    obtain ⟨u, hu, ru⟩ := rv.get hx
    obtain ⟨u2, hu2, ru2⟩ := rv2.get hy
    have hzl : z < s.heap.objs.size := Heap.lt_size hz
    have l1 : i < its.toArray.size := by rw [List.size_toArray]; exact (List.getElem?_eq_some_iff.mp hu).1
    have l2 : i < its2.toArray.size := by rw [List.size_toArray]; exact (List.getElem?_eq_some_iff.mp hu2).1
    have d1 := drawsX (prog := X.prog) (w := X.w) (A := X.A.in1) k1 (I.ok.hd hc) i1 a D.ai1 its.toArray
    have d2 := drawsX (prog := X.prog) (w := X.w) (A := X.A.in1) k2 (I.ok.hd hc) i2 b D.bi2 its2.toArray
    refine wpAny_pyNext_zipD2_item D.sep d1 d2 hz hTI hTO ⟨h1, p⟩ ⟨h2, p2⟩ l1 l2 fun x1 x2 h' tk y1 y2 z' TO' s1 s2 hT hsz hk => ?_
    obtain rfl : u = x1 := Option.some.inj ((show its[i]? = some u from hu).symm.trans (by simpa using y1))
    obtain rfl : u2 = x2 := Option.some.inj ((show its2[i]? = some u2 from hu2).symm.trans (by simpa using y2))
    refine ⟨_, rfl, wpAny_letOwnedTupleGo_zip (s := { s with heap := h', toks := tk }) z' fun h'' z'' sb => ?_⟩
    have hT2 : h''.get? s.heap.objs.size = some { cls := .type "tuple", data := .seq #[u, u2] } := (sb.2 _ (Nat.ne_of_gt hzl)).trans hT
    have new : ObjOk X.prog X.w (upd H s.heap.objs.size (.tup [x, y])) h'' s.heap.objs.size (.tup [x, y]) :=
      ⟨by show 2 ≤ sizeLine; decide, [u, u2], .cons ru (.cons ru2 .nil), ⟨_, hT2, rfl, _, rfl⟩⟩
    have hk' : ∀ c o, c ∉ [z, TI, TO, i1, i2] → s.heap.get? c = some o → h''.get? c = some o := fun c o hb q => by
      simp only [List.mem_cons, List.not_mem_nil, or_false, not_or] at hb
      exact (sb.2 c hb.1).trans (hk c o hb.1 hb.2.2.1 hb.2.2.2.1 hb.2.2.2.2 q)
    have I1 : Inv X pins σ (upd H s.heap.objs.size (.tup [x, y])) { s with heap := h'', toks := tk } := I.turnedNew (t' := tk) (ch := [z, TI, TO, i1, i2]) hk' hf (Nat.le_refl _) new
    refine ⟨.ref s.heap.objs.size, _, I1, rfl, ⟨_, x, y, rfl, I.hok.fresh (Nat.le_refl _), rfl, fun l hl => by rw [sqx_inj I hl hqx]; exact hx, fun l hl => by rw [sqx_inj I hl hqy]; exact hy⟩, ⟨z'', ?_, ⟨u, u2, ?_⟩, ?_, ?_⟩, fun c hcm => ?_⟩
    · exact (sb.2 _ D.sep.TIz).trans (hk _ _ D.sep.TIz D.sep.TITO D.sep.TIi1 D.TIi2 hTI)
    · exact (sb.2 _ D.sep.TOz).trans TO'
    · exact s1.1.at fun o q => (sb.2 _ D.sep.zi1.symm).trans q
    · exact s2.1.at fun o q => (sb.2 _ D.sep.zi2.symm).trans q
    · rw [upd_ne]
      · exact (hf c hcm).1
      · have e' : c = z ∨ c = TI ∨ c = TO ∨ c = i1 ∨ c = i2 := by simpa using hcm
        refine Nat.ne_of_lt ?_
        rcases e' with rfl | rfl | rfl | rfl | rfl
        · exact hzl
        · exact Heap.lt_size hTI
        · exact Heap.lt_size hTO
        · obtain ⟨_, e1, _⟩ := h1.obj; exact Heap.lt_size e1
        · obtain ⟨_, e2, _⟩ := h2.obj; exact Heap.lt_size e2
  done := by
    intro X hP hw hK hc i pins s σ H E I hf st hg
    subst hP hw hK
    obtain ⟨hz, hTI, ⟨x0, y0, hTO⟩, h1, h2⟩ := st
    obtain ⟨xs, ys, hqx, hqy, hl1, hl2, hend⟩ := hg
    obtain ⟨its, rv, p, _⟩ := sqx_inv I hqx
    obtain ⟨its2, rv2, p2, _⟩ := sqx_inv I hqy
    have l1 := rv.length
    have l2 := rv2.length
    have d1 := drawsX (prog := X.prog) (w := X.w) (A := X.A.in1) k1 (I.ok.hd hc) i1 a D.ai1 its.toArray
    have d2 := drawsX (prog := X.prog) (w := X.w) (A := X.A.in1) k2 (I.ok.hd hc) i2 b D.bi2 its2.toArray
    refine wpAny_pyNext_zipD2_end D.sep d1 d2 hz hTI hTO ⟨h1, p⟩ ⟨h2, p2⟩
      (by rw [List.size_toArray]; omega) (by rw [List.size_toArray]; omega) (by rw [List.size_toArray, List.size_toArray]; omega) fun h' tk hk => ⟨rfl, I.turnedL (t' := tk) (ch := [z, TI, TO, i1, i2]) (fun c o hb q => ?_) hf⟩
    simp only [List.mem_cons, List.not_mem_nil, or_false, not_or] at hb
    exact hk c o hb.1 hb.2.2.1 hb.2.2.2.1 hb.2.2.2.2 q
  self := fun A i s Q E st h => wpAny_pyIter_zip st.1 h
def iZipX (k1 k2 : Bool) (K : PySem.W.Frag) (ta : TA) : TI := fun σ H R => ta σ H fun vs H1 => ∃ a b xs ys, vs = [.ref a, .ref b] ∧ SqX k1 K H1 a xs ∧ SqX k2 K H1 b ys ∧ R (ItzX k1 k2 K a b) H1
theorem pi_zipX {X : Cx} {e e2 : Expr} {ta : TA} {p pos tpos : Pos} {elts : List Expr} {kk : Nat} (k1 k2 : Bool) (hg : Gl X "zip") (hm : X.mg "zip" = none) (ha : PA X [e, e2] ta)
    (hs : starEach [e, e2] X.env = (false, eval e X.env) :: starEach [e2] X.env := by rfl) (hpl : (backTo pos (starEach [e2] X.env)).any (·.1) = false := by rfl) :
    PI X (.Tuple elts kk tpos) (.Call (.Name "zip" p) [e, e2] [] pos) (iZipX k1 k2 X.K ta) := by
  constructor
  intro pins s σ H R I h
  refine Call_ (ld_blt I hg hm PyProof.Rows.boot_zip (PyProof.Rows.callWith_type1 (thn (ha.run pos pins s σ H _ I h) ?_) hs hpl))
  rintro us s1 ⟨vs, H1, I1, r1, a, b, xs, ys, rfl, hqx, hqy, q⟩
  obtain ⟨u1, u2, rfl, ra, rb⟩ := r1.two
  cases ra
  cases rb
  obtain ⟨its, rv, p1, la⟩ := sqx_inv I1 hqx
  obtain ⟨its2, rv2, p2, lb⟩ := sqx_inv I1 hqy
  refine zip_begins2 (beginsX k1 a its.toArray) (beginsX k2 b its2.toArray) p1 p2 fun h' hz hTI hTO g1 g2 hsz hk => wpAny_pyIter_zip hz ?_
  have I2 : Inv X pins σ H1 { s1 with heap := h' } := I1.kept (t' := s1.toks) hk
  have dz : ZA (s1.heap.objs.size + 4) (s1.heap.objs.size + 2) (s1.heap.objs.size + 3) s1.heap.objs.size (s1.heap.objs.size + 1) a b :=
    ⟨zip_sep2 (fp1 := [a]) (fp2 := [b]) (by intro c hc; rw [List.mem_singleton.mp hc]; exact la) (by intro c hc; rw [List.mem_singleton.mp hc]; exact lb),
      Nat.ne_of_lt la, Nat.ne_of_lt (Nat.lt_succ_of_lt lb), Nat.ne_of_gt (Nat.lt_succ_self _)⟩
  refine ⟨s1.heap.objs.size + 4, [s1.heap.objs.size + 4, s1.heap.objs.size + 2, s1.heap.objs.size + 3, s1.heap.objs.size, s1.heap.objs.size + 1], _, _, H1, rfl, I2, turn_zipX dz, ⟨hz, hTI, ⟨_, _, hTO⟩, hit_new g1, hit_new g2⟩, fun c hcm => ?_, q⟩
  have hle : s1.heap.objs.size ≤ c := by
    have e' : c = s1.heap.objs.size + 4 ∨ c = s1.heap.objs.size + 2 ∨ c = s1.heap.objs.size + 3 ∨ c = s1.heap.objs.size ∨ c = s1.heap.objs.size + 1 := by simpa using hcm
    rcases e' with z | z | z | z | z <;> rw [z] <;> first | exact Nat.le_add_right _ _ | exact Nat.le_refl _
  exact I1.fpOk hle (I1.hok.fresh hle)
theorem walk_zipX {K : PySem.W.Frag} {k1 k2 : Bool} {a b : Addr} {xs ys : List V} {n : Nat} (hn : n = min xs.length ys.length) :
    Walk (ItzX k1 k2 K a b) n (fun H => SqX k1 K H a xs ∧ SqX k2 K H b ys) (YPair (fun i => xs[i]?) (fun i => ys[i]?)) := by
  subst hn
  refine ⟨fun i _ hi q => ?_, fun _ q => ⟨xs, ys, q.1, q.2, by omega, by omega, by omega⟩, fun i H v H' _ q y => ?_⟩
  · have h1 : i < xs.length := by omega
    have h2 : i < ys.length := by omega
    exact ⟨xs, ys, xs[i], ys[i], q.1, q.2, by simp [h1], by simp [h2]⟩
  · obtain ⟨T, x, z, h1, h2, h3, h4, h5⟩ := y
    exact ⟨T, x, z, h1, h2, h3, h4 xs q.1, h5 ys q.2⟩
end Mn

set_option Elab.async false
set_option linter.all false
set_option maxRecDepth 100000
set_option maxHeartbeats 4000000
/-! MnF: what is walked, loops, comprehensions. -/
namespace Mn
open PySem PySem.Spec PyProof.Rows L2
section
variable {X : Cx} {Er : ER} {K : PySem.W.Frag} {H H1 : Hp} {ρ ρ1 : List Addr} {σ : Sg} {S S1 : Bxs} {τ : L2.St}

/-! ### items -/
/-- how an item of a walk comes, told at the heap ahead: the item, the value that is yielded, the heap behind -/
abbrev IRel (α : Type) := PySem.W.Frag → Hp → List Addr → α → V → Hp → Prop
def itS : IRel Dt := fun K H ρ a x H' => H' = H ∧ DV K H ρ a x
def itP : IRel (Dt × Dt) := fun K H ρ a x H' => ∃ T x1 x2, x = .ref T ∧ H T = none ∧ H' = upd H T (.tup [x1, x2]) ∧ DV K H ρ a.1 x1 ∧ DV K H ρ a.2 x2
abbrev Src (α : Type) := Sg → Bxs → Rs (List α × (Bxs → Prop))
/-- a walk: its items, and what must stand all the while -/
def KI {α : Type} (K : PySem.W.Frag) (H : Hp) (ρ : List Addr) (it : IRel α) (R : It → Hp → Prop) : List α × (Bxs → Prop) → Bxs → Prop := fun r S1 =>
  ∀ H1 ρ1 J G Y, To H H1 ρ ρ1 → HR K H1 ρ1 S1 → Walk J r.1.length G Y → (∀ H' ρ' S', To H1 H' ρ1 ρ' → HR K H' ρ' S' → r.2 S' → G H') →
    (∀ i a x H' H'' ρ' S', To H1 H' ρ1 ρ' → HR K H' ρ' S' → r.2 S' → r.1[i]? = some a → Y i H' x H'' → it K H' ρ' a x H'') → R J H1
structure SI {α : Type} (X : Cx) (Er : ER) (it : IRel α) (tg iter : Expr) (src : Src α) : Prop where
  ex : ∃ wi, PI X tg iter wi ∧ ∀ τ H ρ σ S R, Ty X.K H ρ σ S τ → (src σ S).Sat (KI X.K H ρ it R) (KX Er H ρ) → wi τ H R
theorem PI.or {tg iter : Expr} {w1 w2 : TI} (h1 : PI X tg iter w1) (h2 : PI X tg iter w2) : PI X tg iter (fun σ H R => w1 σ H R ∨ w2 σ H R) :=
  ⟨fun pins s σ H R I h => h.elim (h1.run pins s σ H R I) (h2.run pins s σ H R I)⟩

/-- tuple (true) or list (false) -/
def Dt.isT : Dt → Bool
  | .tup _ => true
  | _ => false
theorem sqx_of {d : Dt} {v : V} {xs : List Dt} (hr : HR K H ρ S) (h : DV K H ρ d v) (hs : seqOf S d = some xs) : ∃ a vs, v = .ref a ∧ SqX d.isT K H a vs ∧ DVs K H ρ xs vs := by
  cases h <;> first | (cases hs; done) | skip
  · rename_i a ds vs ht hd
    cases hs
    exact ⟨a, vs, rfl, ht.sqt, hd⟩
  · rename_i n a ha
    obtain ⟨vs, h1, h2⟩ := hr.rd ha hs
    exact ⟨a, vs, rfl, h1, h2⟩
def ItX (k : Bool) (K : PySem.W.Frag) (a : Addr) : It := match k with
  | true => Itt K a
  | false => Itl K a
theorem walkX {k : Bool} {a : Addr} {n : Nat} : Walk (ItX k K a) n (fun H => ∃ vs, SqX k K H a vs ∧ vs.length = n) (fun i H x H' => H' = H ∧ ∀ vs, SqX k K H a vs → vs[i]? = some x) := by
  cases k with
  | true =>
    exact ⟨fun i _ hi ⟨vs, q, hl⟩ => ⟨vs, vs[i]'(by omega), q, by simp [hl, hi]⟩, fun _ ⟨vs, q, hl⟩ => ⟨vs, q, by omega⟩, fun _ _ _ _ _ _ y => y⟩
  | false =>
    exact ⟨fun i _ hi ⟨vs, q, hl⟩ => ⟨vs, vs[i]'(by omega), q, by simp [hl, hi]⟩, fun _ ⟨vs, q, hl⟩ => ⟨vs, q, by omega⟩, fun _ _ _ _ _ _ y => y⟩
theorem walkZ {k1 k2 : Bool} {a b : Addr} {n1 n2 : Nat} :
    Walk (ItzX k1 k2 K a b) (min n1 n2) (fun H => ∃ vs ws, SqX k1 K H a vs ∧ SqX k2 K H b ws ∧ vs.length = n1 ∧ ws.length = n2)
      (fun i H v H' => ∃ T x y, v = .ref T ∧ H T = none ∧ H' = upd H T (.tup [x, y]) ∧ (∀ xs, SqX k1 K H a xs → xs[i]? = some x) ∧ ∀ ys, SqX k2 K H b ys → ys[i]? = some y) := by
  refine ⟨fun i _ hi ⟨vs, ws, q1, q2, l1, l2⟩ => ?_, fun _ ⟨vs, ws, q1, q2, l1, l2⟩ => ⟨vs, ws, q1, q2, by omega, by omega, by omega⟩, fun i H v H' _ _ y => y⟩
  · exact ⟨vs, ws, vs[i]'(by omega), ws[i]'(by omega), q1, q2, by simp [show i < vs.length by omega], by simp [show i < ws.length by omega]⟩

/-- a list, a tuple -/
def srcSeq (f : FE) : Src Dt := fun σ S => (f σ S).bind fun d S1 => match seqOf S1 d with
  | some xs => .ok (xs, fun S' => seqOf S' d = some xs) S1
  | none => .no
theorem si_seq {tg iter : Expr} {f : FE} (h : SE X Er iter f) : SI X Er itS tg iter (srcSeq f) := by
  obtain ⟨te, p, q⟩ := h.ex
  refine ⟨_, PI.or (pi_list p) (pi_tup p), fun τ H ρ σ S R T h => ?_⟩
  have h := link h
  cases e : f σ S with
  | no => rw [e] at h; exact h.elim
  | ex c ds s' =>
    rw [e] at h
    exact .inl (q τ H ρ σ S _ T (by rw [e]; exact h))
  | ok d S1 =>
    rw [e] at h
    have h : (match seqOf S1 d with
      | some xs => Rs.ok (xs, fun S' => seqOf S' d = some xs) S1
      | none => Rs.no).Sat (KI X.K H ρ itS R) (KX Er H ρ) := h
    cases e2 : seqOf S1 d with
    | none => rw [e2] at h; exact h.elim
    | some xs =>
      rw [e2] at h
      have h : KI X.K H ρ itS R (xs, fun S' => seqOf S' d = some xs) S1 := h
      have core : ∀ v H1 ρ1, To H H1 ρ ρ1 → HR X.K H1 ρ1 S1 → DV X.K H1 ρ1 d v → ∃ a, v = .ref a ∧ (∃ vs, SqX d.isT X.K H1 a vs) ∧ R (ItX d.isT X.K a) H1 := by
        intro v H1 ρ1 t1 hr1 dv
        obtain ⟨a, vs, rfl, hs, hd⟩ := sqx_of hr1 dv e2
        refine ⟨a, rfl, ⟨vs, hs⟩, h H1 ρ1 _ _ _ t1 hr1 walkX (fun H' ρ' S' t hr' st => ?_) fun i x y H' H'' ρ' S' t hr' st hi hy => ?_⟩
        · obtain ⟨a', vs', ea, hs', hd'⟩ := sqx_of hr' (dv.to t) st
          cases ea
          exact ⟨vs', hs', hd'.length.symm⟩
        · obtain ⟨e3, hx⟩ := hy
          obtain ⟨a', vs', ea, hs', hd'⟩ := sqx_of hr' (dv.to t) st
          cases ea
          obtain ⟨v', h3, h4⟩ := hd'.get hi
          rw [hx vs' hs'] at h3
          cases h3
          exact ⟨e3, h4⟩
      cases hk : d.isT with
      | true =>
        refine .inr (q τ H ρ σ S _ T ?_)
        rw [e]
        intro v H1 ρ1 t1 hr1 dv
        have := core v H1 ρ1 t1 hr1 dv
        rw [hk] at this
        exact this
      | false =>
        refine .inl (q τ H ρ σ S _ T ?_)
        rw [e]
        intro v H1 ρ1 t1 hr1 dv
        have := core v H1 ρ1 t1 hr1 dv
        rw [hk] at this
        exact this
/-- range(n), range(a, b) -/
def rgD (lo : Int) (n : Nat) : List Dt := (List.range n).map fun (i : Nat) => Dt.int (lo + (i : Int))
theorem rgD_get {lo : Int} {n i : Nat} {a : Dt} (h : (rgD lo n)[i]? = some a) : a = .int (lo + (i : Int)) := by
  unfold rgD at h
  rw [List.getElem?_map] at h
  by_cases hi : i < n
  · rw [List.getElem?_range hi] at h
    exact (Option.some.inj h).symm
  · rw [List.getElem?_eq_none (by rw [List.length_range]; omega)] at h
    cases h
def inR (j : Int) : Prop := -(2 ^ 62) ≤ j ∧ j < 2 ^ 62
instance (j : Int) : Decidable (inR j) := by unfold inR; infer_instance
def srcR1 (f : FA) : Src Dt := fun σ S => (f σ S).bind fun ds S1 => match ds with
  | [.int j] => if inR j then .ok (rgD 0 j.toNat, fun _ => True) S1 else .no
  | _ => .no
def srcR2 (f : FA) : Src Dt := fun σ S => (f σ S).bind fun ds S1 => match ds with
  | [.int i, .int j] => if inR i ∧ inR j then .ok (rgD i (j - i).toNat, fun _ => True) S1 else .no
  | _ => .no
theorem range_ki {R : It → Hp → Prop} {lo : Int} {n : Nat} {st : Bxs → Prop} (h : KI K H ρ itS R (rgD lo n, st) S1) (t : To H H1 ρ ρ1) (hr : HR K H1 ρ1 S1) : R (Itr lo n) H1 := by
  have hl : (rgD lo n).length = n := by unfold rgD; rw [List.length_map, List.length_range]
  refine h H1 ρ1 (Itr lo n) (fun _ => True) (YFn fun i => .int (lo + i)) t hr (by rw [hl]; exact walk_range) (fun _ _ _ _ _ _ => trivial) fun i a x H' H'' ρ' S' _ _ _ hi hy => ?_
  obtain ⟨e1, e2⟩ := hy
  rw [rgD_get hi, e2]
  exact ⟨e1, .int _⟩
theorem si_r1 {tg a : Expr} {fa : FA} {p pos : Pos} (hg : Gl X "range") (hm : X.mg "range" = none) (ha : SA X Er [a] fa) (hs : starEach [a] X.env = [(false, eval a X.env)] := by rfl) : SI X Er itS tg (.Call (.Name "range" p) [a] [] pos) (srcR1 fa) := by
  obtain ⟨ta, pa, qa⟩ := ha.ex
  refine ⟨_, pi_range1 hg hm pa hs, fun τ H ρ σ S R T h => qa τ H ρ σ S _ T ((link h).mono (fun ds S1 h1 => ?_) fun _ _ _ q => q)⟩
  intro vs H1 ρ1 t1 hr1 dvs
  split at h1
  · rename_i j
    obtain ⟨c, h1⟩ := ite_sat h1
    cases dvs with
    | cons d r =>
      cases r
      cases d
      exact ⟨_, rfl, c.1, c.2, range_ki h1 t1 hr1⟩
  · exact h1.elim
theorem si_r2 {tg a b : Expr} {fa : FA} {p pos : Pos} (hg : Gl X "range") (hm : X.mg "range" = none) (ha : SA X Er [a, b] fa) (hs : starEach [a, b] X.env = [(false, eval a X.env), (false, eval b X.env)] := by rfl) (hs2 : starEach [b] X.env = [(false, eval b X.env)] := by rfl) :
    SI X Er itS tg (.Call (.Name "range" p) [a, b] [] pos) (srcR2 fa) := by
  obtain ⟨ta, pa, qa⟩ := ha.ex
  refine ⟨_, pi_range2 hg hm pa hs hs2, fun τ H ρ σ S R T h => qa τ H ρ σ S _ T ((link h).mono (fun ds S1 h1 => ?_) fun _ _ _ q => q)⟩
  intro vs H1 ρ1 t1 hr1 dvs
  split at h1
  · rename_i i j
    obtain ⟨c, h1⟩ := ite_sat h1
    cases dvs with
    | cons d r =>
      cases r with
      | cons d2 r =>
        cases r
        cases d
        cases d2
        exact ⟨_, _, rfl, ⟨c.1.1, c.1.2, c.2.1, c.2.2⟩, range_ki h1 t1 hr1⟩
  · exact h1.elim
/-- zip -/
def srcZip (f : FA) : Src (Dt × Dt) := fun σ S => (f σ S).bind fun ds S1 => match ds with
  | [d, e] => match seqOf S1 d, seqOf S1 e with
    | some xs, some ys => .ok (xs.zip ys, fun S' => seqOf S' d = some xs ∧ seqOf S' e = some ys) S1
    | _, _ => .no
  | _ => .no
theorem PI.or4 {tg iter : Expr} {w : Bool → Bool → TI} (h : ∀ a b, PI X tg iter (w a b)) : PI X tg iter (fun σ H R => ∃ a b, w a b σ H R) :=
  ⟨fun pins s σ H R I ⟨a, b, q⟩ => (h a b).run pins s σ H R I q⟩
theorem si_zip {elts : List Expr} {kk : Nat} {tpos : Pos} {a b : Expr} {fa : FA} {p pos : Pos} (hg : Gl X "zip") (hm : X.mg "zip" = none) (ha : SA X Er [a, b] fa)
    (hs : starEach [a, b] X.env = (false, eval a X.env) :: starEach [b] X.env := by rfl) (hpl : (backTo pos (starEach [b] X.env)).any (·.1) = false := by rfl) :
    SI X Er itP (.Tuple elts kk tpos) (.Call (.Name "zip" p) [a, b] [] pos) (srcZip fa) := by
  obtain ⟨ta, pa, qa⟩ := ha.ex
  refine ⟨_, PI.or4 fun k1 k2 => pi_zipX k1 k2 hg hm pa hs hpl, fun τ H ρ σ S R T h => ?_⟩
  have h := link h
  cases e : fa σ S with
  | no => rw [e] at h; exact h.elim
  | ex c ds s' =>
    rw [e] at h
    exact ⟨true, true, qa τ H ρ σ S _ T (by rw [e]; exact h)⟩
  | ok ds S1 =>
    rw [e] at h
    rcases ds with _ | ⟨d, _ | ⟨d2, _ | ⟨d3, dr⟩⟩⟩
    · exact h.elim
    · exact h.elim
    · cases e1 : seqOf S1 d with
      | none =>
        simp only [Rs.Sat, e1] at h
      | some xs =>
       cases e2 : seqOf S1 d2 with
       | none =>
        simp only [Rs.Sat, e1, e2] at h
       | some ys =>
        have h : KI X.K H ρ itP R (xs.zip ys, fun S' => seqOf S' d = some xs ∧ seqOf S' d2 = some ys) S1 := by
          simpa only [Rs.Sat, e1, e2] using h
        refine ⟨d.isT, d2.isT, qa τ H ρ σ S _ T ?_⟩
        rw [e]
        intro vs H1 ρ1 t1 hr1 dvs
        cases dvs with
        | cons dv r =>
          cases r with
          | cons dv2 r =>
            cases r
            obtain ⟨a, us, rfl, hs1, hd1⟩ := sqx_of hr1 dv e1
            obtain ⟨b, ws, rfl, hs2, hd2⟩ := sqx_of hr1 dv2 e2
            refine ⟨a, b, us, ws, rfl, hs1, hs2, h H1 ρ1 _ _ _ t1 hr1 (by rw [List.length_zip]; exact walkZ (n1 := xs.length) (n2 := ys.length)) (fun H' ρ' S' t hr' st => ?_) fun i x y H' H'' ρ' S' t hr' st hi hy => ?_⟩
            · obtain ⟨a', us', ea, q1, q2⟩ := sqx_of hr' (dv.to t) st.1
              obtain ⟨b', ws', eb, q3, q4⟩ := sqx_of hr' (dv2.to t) st.2
              cases ea
              cases eb
              exact ⟨us', ws', q1, q3, q2.length.symm, q4.length.symm⟩
            · obtain ⟨U, x1, x2, h1, h2, h3, h4, h5⟩ := hy
              obtain ⟨a', us', ea, q1, q2⟩ := sqx_of hr' (dv.to t) st.1
              obtain ⟨b', ws', eb, q3, q4⟩ := sqx_of hr' (dv2.to t) st.2
              cases ea
              cases eb
              obtain ⟨p1, p2⟩ := x
              have hz := List.getElem?_zip_eq_some.mp hi
              obtain ⟨v1, g1, g2⟩ := q2.get hz.1
              obtain ⟨v2, g3, g4⟩ := q4.get hz.2
              rw [h4 us' q1] at g1
              rw [h5 ws' q3] at g3
              cases g1
              cases g3
              exact ⟨U, _, _, h1, h2, h3, g2, g4⟩
    · exact h.elim

/-! ### targets of walks -/
structure SGi {α : Type} (X : Cx) (Er : ER) (it : IRel α) (tg : Expr) (g : α → Sg → Bxs → Rs Sg) : Prop where
  ex : ∃ t, PG X tg t ∧ ∀ v a τ H H' ρ σ S Q, Ty X.K H ρ σ S τ → it X.K H ρ a v H' → (g a σ S).Sat (KS X.K H ρ Q) (KX Er H ρ) → t v τ H' Q
theorem sgi_one {tg : Expr} {g : FT} (h : SG X Er tg g) : SGi X Er itS tg g := by
  obtain ⟨t, p, q⟩ := h.ex
  refine ⟨t, p, fun v a τ H H' ρ σ S Q T hi hs => ?_⟩
  obtain ⟨rfl, dv⟩ := hi
  exact q v a τ _ ρ σ S Q T dv hs
def tPairG (g : FTs) : Dt × Dt → Sg → Bxs → Rs Sg := fun a σ S => g [a.1, a.2] σ S
theorem sgi_pair {es : List Expr} {k : Nat} {pos : Pos} {g : FTs} (hc : X.calm = true) (h : SGs X Er es g) (hn : (assignEach es X.env).length = 2 := by rfl) (hst : (assignEach es X.env).findIdx? (·.1) = none := by rfl) : SGi X Er itP (.Tuple es k pos) (tPairG g) := by
  obtain ⟨t, p, q⟩ := h.ex
  refine ⟨_, pg_tup hc p hn hst, fun v a τ H H' ρ σ S Q T hi hs => ?_⟩
  obtain ⟨U, x1, x2, rfl, hU, rfl, d1, d2⟩ := hi
  have t1 : To H (upd H U (.tup [x1, x2])) ρ ρ := ⟨Ext.new hU, List.prefix_refl _⟩
  exact ⟨U, [x1, x2], rfl, SqT.of upd_same, rfl, q _ _ τ _ ρ σ S Q (T.to t1 (T.hr.tup hU)) (.cons (d1.to t1) (.cons (d2.to t1) .nil)) (Rs.Sat.toS t1 hs)⟩
def canG {α : Type} (K : PySem.W.Frag) (Er : ER) (it : IRel α) (g : α → Sg → Bxs → Rs Sg) : TG := fun v τ H' Q => ∃ H a ρ σ S, Ty K H ρ σ S τ ∧ it K H ρ a v H' ∧ (g a σ S).Sat (KS K H ρ Q) (KX Er H ρ)
theorem SGi.can {α : Type} {it : IRel α} {tg : Expr} {g : α → Sg → Bxs → Rs Sg} (h : SGi X Er it tg g) : PG X tg (canG X.K Er it g) := by
  obtain ⟨t, p, q⟩ := h.ex
  exact ⟨fun pins s τ H' v u Q I r ⟨H, a, ρ, σ, S, T, hi, hs⟩ => p.run pins s τ H' v u Q I r (q _ _ _ _ _ _ _ _ _ T hi hs)⟩

/-! ### for -/
open Classical in
noncomputable def loopF {α : Type} (st : Bxs → Prop) (g : α → Sg → Bxs → Rs Sg) (body : FS) : List α → Sg → Bxs → Rs (Fl × Sg)
  | [], σ, S => if st S then .ok (.nx, σ) S else .no
  | x :: xs, σ, S => if st S then (g x σ S).bind fun σ1 S1 => (body σ1 S1).bind fun r S2 => match r.1 with
      | .nx => loopF st g body xs r.2 S2
      | .ct => loopF st g body xs r.2 S2
      | .bk => .ok (.nx, r.2) S2
      | .rt d => .ok (.rt d, r.2) S2 else .no
noncomputable def sFor {α : Type} (src : Src α) (g : α → Sg → Bxs → Rs Sg) (body : FS) : FS := fun σ S => (src σ S).bind fun r S1 => loopF r.2 g body r.1 σ S1
theorem iteC_sat {α : Type} {c : Prop} {dc : Decidable c} {r : Rs α} {P : α → Bxs → Prop} {E : Nat → List Dt → Bxs → Prop} (h : (@ite _ c dc r .no).Sat P E) : c ∧ r.Sat P E := by
  by_cases hc : c
  · rw [if_pos hc] at h; exact ⟨hc, h⟩
  · rw [if_neg hc] at h; exact h.elim
theorem loop_st {α : Type} {st : Bxs → Prop} {g : α → Sg → Bxs → Rs Sg} {body : FS} {xs : List α} {P : Fl × Sg → Bxs → Prop} {E : Nat → List Dt → Bxs → Prop} (h : (loopF st g body xs σ S).Sat P E) : st S := by
  cases xs with
  | nil => unfold loopF at h; exact (iteC_sat h).1
  | cons x xs => unfold loopF at h; exact (iteC_sat h).1
theorem ss_for {α : Type} {it : IRel α} {tg iter : Expr} {body : List Stmt} {src : Src α} {g : α → Sg → Bxs → Rs Sg} {fb : FS} {pos : Pos} (hp : PassesOwn (model X.prog X.w) X.A X.env X.xe) (hc : X.calm = true) (hi : SI X Er it tg iter src) (hg : SGi X Er it tg g) (hb : SSs X Er body fb)
    (hs : ∀ x, foldedSetIterable iter X.env x = pure x := by intro _; rfl) : SS X Er (.For tg iter body [] pos) (sFor src g fb) := by
  obtain ⟨wi, pi, qi⟩ := hi.ex
  obtain ⟨t, pg, qg⟩ := hg.ex
  obtain ⟨tb, pb, qb⟩ := hb.ex
  refine ⟨_, ps_for hp hc pi pg pb hs, fun τ H ρ σ S D T h => qi τ H ρ σ S _ T ((link h).mono (fun r S1 h1 => ?_) fun _ _ _ q => q)⟩
  obtain ⟨xs, st⟩ := r
  intro H1 ρ1 J G Y t1 hr1 w hG hY
  refine for_it w (fun i τ' H' => ∃ ρ' σ' S', To H1 H' ρ1 ρ' ∧ Ty X.K H' ρ' σ' S' τ' ∧ (loopF st g fb (xs.drop i) σ' S').Sat (KF X.K H' ρ' D) (KX Er H' ρ'))
    ⟨ρ1, σ, S1, To.refl _ _, T.to t1 hr1, Rs.Sat.toF t1 h1⟩ (fun i τ' H' _ ⟨ρ', σ', S', t', T', h'⟩ => hG H' ρ' S' t' T'.hr (loop_st h')) (fun i x τ' H' H'' hlt ⟨ρ', σ', S', t', T', h'⟩ hy => ?_) fun τ' H' ⟨ρ', σ', S', t', T', h'⟩ => ?_
  · have hi : xs[i]? = some xs[i] := List.getElem?_eq_getElem hlt
    have hd : xs.drop i = xs[i] :: xs.drop (i + 1) := List.drop_eq_getElem_cons hlt
    rw [hd] at h'
    have hst := loop_st h'
    unfold loopF at h'
    obtain ⟨_, h'⟩ := iteC_sat h'
    refine qg x xs[i] τ' H' H'' ρ' σ' S' _ T' (hY i _ x H' H'' ρ' S' t' T'.hr hst hi hy) ((link h').mono (fun σ1 S2 h2 => ?_) fun _ _ _ q => q)
    intro τ2 H2 ρ2 t2 T2
    refine qb τ2 H2 ρ2 σ1 S2 _ T2 ((link h2).mono (fun r S3 h3 => ?_) fun _ _ _ q => q.to t2)
    obtain ⟨fl, σ3⟩ := r
    cases fl with
    | nx =>
      intro τ3 H3 ρ3 t3 T3
      exact ⟨ρ3, σ3, S3, (t'.trans t2).trans t3, T3, Rs.Sat.toF (t2.trans t3) h3⟩
    | ct =>
      intro τ3 H3 ρ3 t3 T3
      exact ⟨ρ3, σ3, S3, (t'.trans t2).trans t3, T3, Rs.Sat.toF (t2.trans t3) h3⟩
    | bk =>
      intro τ3 H3 ρ3 t3 T3
      exact h3 τ3 H3 ρ3 (t2.trans t3) T3
    | rt d =>
      intro v H3 ρ3 t3 hr3 dv
      exact h3 v H3 ρ3 (t2.trans t3) hr3 dv
  · rw [List.drop_length] at h'
    unfold loopF at h'
    obtain ⟨_, h'⟩ := iteC_sat h'
    exact h' τ' H' ρ' (To.refl _ _) T'
end
end Mn

set_option Elab.async false
set_option linter.all false
set_option maxRecDepth 100000
set_option maxHeartbeats 4000000
/-! MnG: comprehensions. -/
namespace Mn
open PySem PySem.Spec PyProof.Rows L2
/-- nothing leaves a comprehension -/
abbrev noEr : ER := fun _ _ _ _ _ => False
section
variable {X : Cx} {Er : ER} {K : PySem.W.Frag} {H H1 : Hp} {ρ ρ1 : List Addr} {σ : Sg} {S S1 : Bxs} {τ : L2.St}

/-! ### targets that keep to the block's own slots -/
def KW (K : PySem.W.Frag) (H : Hp) (ρ : List Addr) (vs : List Nat) (τ : L2.St) (Q : L2.St → Hp → Prop) : Sg → Bxs → Prop := fun σ' S' => ∀ τ' H' ρ', To H H' ρ ρ' → Ty K H' ρ' σ' S' τ' → L2.wipe τ' vs = L2.wipe τ vs → Q τ' H'
structure SV (X : Cx) (vs : List Nat) (tg : Expr) (g : FT) : Prop where
  ex : ∃ t, PG X tg t ∧ ∀ v d τ H ρ σ S Q, Ty X.K H ρ σ S τ → DV X.K H ρ d v → (g d σ S).Sat (KW X.K H ρ vs τ Q) noX → t v τ H Q
structure SVs (X : Cx) (vs : List Nat) (ts : List Expr) (g : FTs) : Prop where
  ex : ∃ t, PGs X ts t ∧ ∀ us ds τ H ρ σ S Q, Ty X.K H ρ σ S τ → DVs X.K H ρ ds us → (g ds σ S).Sat (KW X.K H ρ vs τ Q) noX → t us τ H Q
theorem wipe_set {i : Nat} {o : Option V} : ∀ {vs : List Nat} {τ : L2.St}, i ∈ vs → L2.wipe (τ.set i o) vs = L2.wipe τ vs
  | v :: vs, τ, h => by
    by_cases hv : v = i
    · subst hv
      have key : ∀ (ws : List Nat) (τ : L2.St), (L2.wipe (τ.set v o) ws).set v none = (L2.wipe τ ws).set v none := by
        intro ws
        induction ws with
        | nil => intro τ; show (τ.set v o).set v none = τ.set v none; rw [List.set_set]
        | cons w ws ih =>
          intro τ
          show ((L2.wipe (τ.set v o) ws).set w none).set v none = ((L2.wipe τ ws).set w none).set v none
          by_cases hw : w = v
          · subst hw
            rw [List.set_set, List.set_set]
            exact ih τ
          · rw [List.set_comm _ _ hw, List.set_comm _ _ hw, ih τ]
      exact key vs τ
    · have h' : i ∈ vs := by
        rcases List.mem_cons.mp h with e | e
        · exact absurd e.symm hv
        · exact e
      show (L2.wipe (τ.set i o) vs).set v none = (L2.wipe τ vs).set v none
      rw [wipe_set h']
theorem sv_name (i : Nat) {x : Str} {pos : Pos} {vs : List Nat} (hN : X.N.Nodup) (hi : X.N[i]? = some x := by rfl) (hx : Loc X.env.scope x := by first | exact .inl rfl | exact .inr rfl) (hf : X.fn x = true ∨ X.env.scope.names.lookup x = some .local := by first | exact .inl rfl | exact .inr rfl)
    (hv : i ∈ vs := by decide) : SV X vs (.Name x pos) (tName i) :=
  ⟨_, pg_name hN hi hx hf, fun v d τ H ρ σ S Q T dv h => h _ H ρ (To.refl _ _) ⟨T.hr, T.sl.set i dv⟩ (wipe_set hv)⟩
theorem svs_nil {vs : List Nat} : SVs X vs [] tNilG := by
  refine ⟨_, pgs_nil, fun us ds τ H ρ σ S Q T dv h => ?_⟩
  cases dv with
  | nil => exact ⟨rfl, h τ H ρ (To.refl _ _) T rfl⟩
  | cons _ _ => exact h.elim
theorem svs_cons {vs : List Nat} {e : Expr} {es : List Expr} {g : FT} {r : FTs} (h1 : SV X vs e g) (h2 : SVs X vs es r) (hs : (assignEach (e :: es) X.env).map (·.2) = assign e X.env :: (assignEach es X.env).map (·.2) := by rfl) : SVs X vs (e :: es) (tConsG g r) := by
  obtain ⟨t1, p1, q1⟩ := h1.ex
  obtain ⟨t2, p2, q2⟩ := h2.ex
  refine ⟨_, pgs_cons p1 p2 hs, fun us ds τ H ρ σ S Q T dv h => ?_⟩
  cases dv with
  | nil => exact h.elim
  | cons dx dxs =>
    refine ⟨_, _, rfl, q1 _ _ τ H ρ σ S _ T dx ((link h).mono (fun σ1 S1 h1 => ?_) fun _ _ _ q => q)⟩
    intro τ1 H1 ρ1 t T1 w1
    exact q2 _ _ τ1 H1 ρ1 σ1 S1 Q T1 (dxs.to t) (h1.mono (fun σ2 S2 k τ2 H2 ρ2 t2 T2 w2 => k τ2 H2 ρ2 (t.trans t2) T2 (w2.trans w1)) fun _ _ _ q => q)
theorem sv_tup {vs : List Nat} {es : List Expr} {k n : Nat} {pos : Pos} {g : FTs} (hc : X.calm = true) (h : SVs X vs es g) (hn : (assignEach es X.env).length = n := by rfl) (hst : (assignEach es X.env).findIdx? (·.1) = none := by rfl) : SV X vs (.Tuple es k pos) (tTupG n g) := by
  obtain ⟨t, p, q⟩ := h.ex
  refine ⟨_, pg_tup hc p hn hst, fun v d τ H ρ σ S Q T dv h => ?_⟩
  cases dv <;> first | exact h.elim | skip
  rename_i a ds us ht hd
  obtain ⟨c, h⟩ := ite_sat h
  exact ⟨a, us, rfl, ht.sqt, by rw [← hd.length]; exact c, q _ _ τ H ρ σ S Q T hd h⟩
structure SVi {α : Type} (X : Cx) (vs : List Nat) (it : IRel α) (tg : Expr) (g : α → Sg → Bxs → Rs Sg) : Prop where
  ex : ∃ t, PG X tg t ∧ ∀ v a τ H H' ρ σ S Q, Ty X.K H ρ σ S τ → it X.K H ρ a v H' → (g a σ S).Sat (KW X.K H ρ vs τ Q) noX → t v τ H' Q
theorem svi_one {vs : List Nat} {tg : Expr} {g : FT} (h : SV X vs tg g) : SVi X vs itS tg g := by
  obtain ⟨t, p, q⟩ := h.ex
  refine ⟨t, p, fun v a τ H H' ρ σ S Q T hi hs => ?_⟩
  obtain ⟨rfl, dv⟩ := hi
  exact q v a τ _ ρ σ S Q T dv hs
theorem svi_pair {vs : List Nat} {es : List Expr} {k : Nat} {pos : Pos} {g : FTs} (hc : X.calm = true) (h : SVs X vs es g) (hn : (assignEach es X.env).length = 2 := by rfl) (hst : (assignEach es X.env).findIdx? (·.1) = none := by rfl) : SVi X vs itP (.Tuple es k pos) (tPairG g) := by
  obtain ⟨t, p, q⟩ := h.ex
  refine ⟨_, pg_tup hc p hn hst, fun v a τ H H' ρ σ S Q T hi hs => ?_⟩
  obtain ⟨U, x1, x2, rfl, hU, rfl, d1, d2⟩ := hi
  have t1 : To H (upd H U (.tup [x1, x2])) ρ ρ := ⟨Ext.new hU, List.prefix_refl _⟩
  exact ⟨U, [x1, x2], rfl, SqT.of upd_same, rfl, q _ _ τ _ ρ σ S Q (T.to t1 (T.hr.tup hU)) (.cons (d1.to t1) (.cons (d2.to t1) .nil)) (hs.mono (fun σ2 S2 k τ2 H2 ρ2 t2 T2 w2 => k τ2 H2 ρ2 (t1.trans t2) T2 w2) fun _ _ _ q => q)⟩
def canV {α : Type} (K : PySem.W.Frag) (vs : List Nat) (it : IRel α) (g : α → Sg → Bxs → Rs Sg) : TG := fun v τ H' Q => ∃ H a ρ σ S, Ty K H ρ σ S τ ∧ it K H ρ a v H' ∧ (g a σ S).Sat (KW K H ρ vs τ Q) noX
theorem SVi.can {α : Type} {vs : List Nat} {it : IRel α} {tg : Expr} {g : α → Sg → Bxs → Rs Sg} (h : SVi X vs it tg g) : PG X tg (canV X.K vs it g) := by
  obtain ⟨t, p, q⟩ := h.ex
  exact ⟨fun pins s τ H' v u Q I r ⟨H, a, ρ, σ, S, T, hi, hs⟩ => p.run pins s τ H' v u Q I r (q _ _ _ _ _ _ _ _ _ T hi hs)⟩

/-! ### tests of a clause -/
structure STs (X : Cx) (ifs : List Expr) (f : FB) : Prop where
  can : PTs X ifs (canT X.K noEr f)
def bYes : FB := fun _ S => .ok true S
theorem sts_nil : STs X [] bYes := ⟨⟨fun pins s σ H Q I ⟨ρ, σ', S, T, h⟩ => pts_nil.run pins s σ H Q I (h H ρ (To.refl _ _) T.hr)⟩⟩
theorem sts_one {c : Expr} {f : FB} (h : ST X noEr c f) : STs X [c] f := ⟨pts_one h.can⟩

/-! ### the loop -/
open Classical in
noncomputable def lcF {α : Type} (st : Bxs → Prop) (g : α → Sg → Bxs → Rs Sg) (tt : FB) (te : FE) (σw : Sg) (n : Nat) : List α → Bxs → Rs Unit
  | [], S => if st S then .ok () S else .no
  | x :: xs, S => if st S then (g x σw S).bind fun σ1 S1 => (tt σ1 S1).bind fun b S2 => if b = true then (te σ1 S2).bind fun d S3 => match S3.lst n with
      | some acc => if acc.length < LIM then lcF st g tt te σw n xs (S3.set n (.lst (acc ++ [d]))) else .no
      | none => .no else lcF st g tt te σw n xs S2 else .no
/-- what raises is not told -/
def Rs.quiet {α : Type} : Rs α → Rs α
  | .ok a s => .ok a s
  | _ => .no
@[simp] theorem Rs.quiet_ok {α : Type} (a : α) (s : Bxs) : (Rs.ok a s).quiet = .ok a s := rfl
theorem quiet_sat {α : Type} {r : Rs α} {P : α → Bxs → Prop} {E E' : Nat → List Dt → Bxs → Prop} (h : r.quiet.Sat P E) : r.Sat P E' := by
  cases r with
  | ok a s => exact h
  | ex c ds s => exact h.elim
  | no => exact h.elim
noncomputable def dLc {α : Type} (src : Src α) (g : α → Sg → Bxs → Rs Sg) (tt : FB) (te : FE) (vs : List Nat) : FE := fun σ S => (src σ S).bind fun r S1 =>
  (lcF r.2 g tt te (wipeD σ vs) S1.length r.1 (S1 ++ [.lst []])).quiet.bind fun _ S2 => .ok (.box S1.length) S2
theorem lcF_st {α : Type} {st : Bxs → Prop} {g : α → Sg → Bxs → Rs Sg} {tt : FB} {te : FE} {n : Nat} {xs : List α} {P : Unit → Bxs → Prop} {E : Nat → List Dt → Bxs → Prop} (h : (lcF st g tt te σ n xs S).Sat P E) : st S := by
  cases xs with
  | nil => unfold lcF at h; exact (iteC_sat h).1
  | cons x xs => unfold lcF at h; exact (iteC_sat h).1
/-- what the reading of a comprehension asks, from the plain one -/
theorem lc_sat {α : Type} {it : IRel α} {src : Src α} {g : α → Sg → Bxs → Rs Sg} {ft : FB} {fe : FE} {vs : List Nat} {wi : TI} (qi : ∀ τ H ρ σ S R, Ty X.K H ρ σ S τ → (src σ S).Sat (KI X.K H ρ it R) (KX Er H ρ) → wi τ H R)
    {Q : VK} (T : Ty X.K H ρ σ S τ) (h : (dLc src g ft fe vs σ S).Sat (KO X.K H ρ Q) (KX Er H ρ)) : tLc wi (canV X.K vs it g) (canT X.K noEr ft) (canE X.K noEr fe) vs τ H Q := by
  refine qi τ H ρ σ S _ T ((link h).mono (fun r S1 h1 => ?_) fun _ _ _ q => q)
  obtain ⟨xs, st⟩ := r
  intro H1 ρ1 J G Y t1 hr1 w hG hY
  intro D hD
  have h2 : (lcF st g ft fe (wipeD σ vs) S1.length xs (S1 ++ [MBox.lst []])).Sat (fun _ S2 => KO X.K H ρ Q (.box S1.length) S2) noX := quiet_sat (link h1)
  have tD : To H1 (upd H1 D (.lst [])) ρ1 (ρ1 ++ [D]) := ⟨Ext.new hD, List.prefix_append _ _⟩
  have hDr : (ρ1 ++ [D])[S1.length]? = some D := by rw [← hr1.len, List.getElem?_append_right (Nat.le_refl _), Nat.sub_self]; rfl
  refine lc_it w (fun i H' => ∃ ρ' S', To (upd H1 D (.lst [])) H' (ρ1 ++ [D]) ρ' ∧ HR X.K H' ρ' S' ∧ (lcF st g ft fe (wipeD σ vs) S1.length (xs.drop i) S').Sat (fun _ S2 => KO X.K H ρ Q (.box S1.length) S2) noX)
    ⟨ρ1 ++ [D], S1 ++ [MBox.lst []], To.refl _ _, hr1.new hD .nil, h2⟩ (fun i H' _ ⟨ρ', S', t', hr', h'⟩ => hG H' ρ' S' (tD.trans t') hr' (lcF_st h')) (fun i x H' H'' hlt ⟨ρ', S', t', hr', h'⟩ hy => ?_) fun H' ⟨ρ', S', t', hr', h'⟩ => ?_
  · have hi : xs[i]? = some xs[i] := List.getElem?_eq_getElem hlt
    have hd : xs.drop i = xs[i] :: xs.drop (i + 1) := List.drop_eq_getElem_cons hlt
    rw [hd] at h'
    have hst := lcF_st h'
    unfold lcF at h'
    obtain ⟨_, h'⟩ := iteC_sat h'
    have Tw : Ty X.K H' ρ' (wipeD σ vs) S' (L2.wipe τ vs) := ⟨hr', (T.sl.to ((t1.trans tD).trans t')).wipe vs⟩
    refine ⟨H', xs[i], ρ', wipeD σ vs, S', Tw, hY i _ x H' H'' ρ' S' (tD.trans t') hr' hst hi hy, (link h').mono (fun σ1 S2 h3 => ?_) fun _ _ _ q => q⟩
    intro τ2 H2 ρ2 t2 T2 w2
    refine ⟨?_, ρ2, σ1, S2, T2, (link h3).mono (fun b S3 h4 => ?_) fun c ds s q => q.elim⟩
    · rw [w2]
      have idem : ∀ (us : List Nat) (τ : L2.St), (∀ u ∈ us, u ∈ vs) → L2.wipe (L2.wipe τ us) vs = L2.wipe τ vs := by
        intro us
        induction us with
        | nil => intro τ _; rfl
        | cons u us ih =>
          intro τ hu
          show L2.wipe ((L2.wipe τ us).set u none) vs = L2.wipe τ vs
          rw [wipe_set (hu u List.mem_cons_self)]
          exact ih τ fun x hx => hu x (List.mem_cons_of_mem _ hx)
      exact idem vs τ fun u hu => hu
    intro H3 ρ3 t3 hr3
    cases b with
    | true =>
      rw [if_pos rfl] at h4
      show if true = true then _ else _
      rw [if_pos rfl]
      refine ⟨ρ3, σ1, S3, T2.to t3 hr3, (link h4).mono (fun d S4 h5 => ?_) fun c ds s q => q.elim⟩
      intro y H4 ρ4 t4 hr4 dv
      cases e : S4.lst S1.length with
      | none => rw [e] at h5; exact h5.elim
      | some acc =>
        rw [e] at h5
        obtain ⟨hl, h5⟩ := ite_sat h5
        have ha : ρ4[S1.length]? = some D := pre_get (((t'.trans t2).trans t3).trans t4).pre hDr
        obtain ⟨us, g1, g2⟩ := hr4.mu ha e
        have tu : To H4 (upd H4 D (.lst (us ++ [y]))) ρ4 ρ4 := ⟨Ext.set g1, List.prefix_refl _⟩
        exact ⟨us, g1, by rw [← g2.length]; exact lim_lt hl, ρ4, _, (((t'.trans t2).trans t3).trans t4).trans tu, hr4.set (lst_get e) ha g1 (g2.app (.cons dv .nil)), h5⟩
    | false =>
      rw [if_neg Bool.false_ne_true] at h4
      show if false = true then _ else _
      rw [if_neg Bool.false_ne_true]
      exact ⟨ρ3, S3, (t'.trans t2).trans t3, hr3, h4⟩
  · rw [List.drop_length] at h'
    unfold lcF at h'
    obtain ⟨_, h'⟩ := iteC_sat h'
    exact h' (.ref D) H' ρ' ((t1.trans tD).trans t') hr' (.box (pre_get t'.pre hDr))
section
variable {α : Type} {it : IRel α} {elt tg iter : Expr} {ifs : List Expr} {scope : Scope} {own : List (Str × Nat)} {pos : Pos} {src : Src α} {g : α → Sg → Bxs → Rs Sg} {ft : FB} {fe : FE}
theorem se_lc (own : List (Str × Nat)) (hc : X.calm = true) (hN : X.N.Nodup) (hi : SI X Er it tg iter src) (ok : BlkOk X.N X.env.scope scope own)
    (hg : ∀ (s : Shared) (H : Hp) (C : Addr) (cl : List (Str × Addr)) (fp : List Addr), SVi (X.blk s H scope (compEnvC scope cl C X.env) fp) (own.map (·.2)) it tg g)
    (ht : ∀ (s : Shared) (H : Hp) (C : Addr) (cl : List (Str × Addr)) (fp : List Addr), STs (X.blk s H scope (compEnvC scope cl C X.env) fp) ifs ft)
    (he : ∀ (s : Shared) (H : Hp) (C : Addr) (cl : List (Str × Addr)) (fp : List Addr), SE (X.blk s H scope (compEnvC scope cl C X.env) fp) noEr elt fe)
    (hs : ∀ x, foldedSetIterable iter X.env x = pure x := by intro _; rfl) : SE X Er (.ListComp elt [⟨tg, iter, ifs, 0⟩] scope pos) (dLc src g ft fe (own.map (·.2))) := by
  obtain ⟨wi, pi, qi⟩ := hi.ex
  exact ⟨tLc wi (canV X.K (own.map (·.2)) it g) (canT X.K noEr ft) (canE X.K noEr fe) (own.map (·.2)), pe_lc hc hN pi ok (fun s H C cl fp => (hg s H C cl fp).can) (fun s H C cl fp => (ht s H C cl fp).can) (fun s H C cl fp => (he s H C cl fp).can) hs, fun τ H ρ σ S Q T h => lc_sat qi T h⟩
/-- name = [..] on one line, the name a local -/
theorem ss_setLc (i : Nat) (own : List (Str × Nat)) {y : Str} {py spos : Pos} (hc : X.calm = true) (hN : X.N.Nodup) (hi : SI X Er it tg iter src) (ok : BlkOk X.N X.env.scope scope own)
    (hsw : swapsWith (.ListComp elt [⟨tg, iter, ifs, 0⟩] scope pos) (some (.Name y py)) spos.line X.env = pure true)
    (hg : ∀ (s : Shared) (H : Hp) (C : Addr) (cl : List (Str × Addr)) (fp : List Addr), SVi (X.blk s H scope (compEnvC scope cl C X.env) fp) (own.map (·.2)) it tg g)
    (ht : ∀ (s : Shared) (H : Hp) (C : Addr) (cl : List (Str × Addr)) (fp : List Addr), STs (X.blk s H scope (compEnvC scope cl C X.env) fp) ifs ft)
    (he : ∀ (s : Shared) (H : Hp) (C : Addr) (cl : List (Str × Addr)) (fp : List Addr), SE (X.blk s H scope (compEnvC scope cl C X.env) fp) noEr elt fe)
    (hy : X.N[i]? = some y := by rfl) (hyl : X.env.scope.names.lookup y = some .local := by rfl) (hs : ∀ x, foldedSetIterable iter X.env x = pure x := by intro _; rfl) :
    SS X Er (.Assign [.Name y py] (.ListComp elt [⟨tg, iter, ifs, 0⟩] scope pos) spos) (sSet i (dLc src g ft fe (own.map (·.2)))) := by
  obtain ⟨wi, pi, qi⟩ := hi.ex
  refine ⟨tAsg (tLc wi (canV X.K (own.map (·.2)) it g) (canT X.K noEr ft) (canE X.K noEr fe) (own.map (·.2))) (gName i), ps_setLc hc hN hy hyl hsw pi ok (fun s H C cl fp => (hg s H C cl fp).can) (fun s H C cl fp => (ht s H C cl fp).can) (fun s H C cl fp => (he s H C cl fp).can) hs, fun τ H ρ σ S D T h => ?_⟩
  refine lc_sat qi T ((link h).mono (fun d S1 h1 => ?_) fun _ _ _ q => q)
  intro v H1 ρ1 t1 hr1 dv
  exact h1 _ H1 ρ1 t1 ⟨hr1, (T.sl.to t1).set i dv⟩
end
end
end Mn

set_option Elab.async false
set_option linter.all false
set_option maxRecDepth 100000
set_option maxHeartbeats 4000000
/-! MnH: defs, their calls, repr, the end of a law. -/
namespace Mn
open PySem PySem.Spec PyProof.Rows L2
abbrev FN := List Dt → Bxs → Rs Dt
/-- the def at f comes to what F tells, where no repr is under way -/
structure FnD (P : Program) (w : World) (K : PySem.W.Frag) (mg : Str → Option Value) (base : Heap) (CX : CXT) (eo : XK → ER) (k : Nat) (f : Addr) (fd : FuncData) (ps : List Str) (F : FN) : Prop where
  run : ∀ (A : Around) (outer : List Env) (s : Shared) (H : Hp) (args : Args) (us : List Value) (vs : List V) (ρ : List Addr) (S : Bxs) (ds : List Dt) (Q : VK) (E : XK), A.guards = some [] → Room k A → Env0 P w K mg base A outer s H →
    BindsTo s fd args (ps.zip us) → Vals vs us → ds.length = ps.length → HR K H ρ S → DVs K H ρ ds vs → (F ds S).Sat (KO K H ρ Q) (KX (eo E) H ρ) → codeAny (model P w) A (.call (.ref f) args) (CR CX outer P w H s Q E) s
theorem FnD.mono {P : Program} {w : World} {K : PySem.W.Frag} {mg : Str → Option Value} {base : Heap} {CX : CXT} {eo : XK → ER} {j k : Nat} {f : Addr} {fd : FuncData} {ps : List Str} {F : FN} (h : FnD P w K mg base CX eo j f fd ps F) (hk : j ≤ k) :
    FnD P w K mg base CX eo k f fd ps F := ⟨fun A outer s H args us vs ρ S ds Q E hg hr => h.run A outer s H args us vs ρ S ds Q E hg (hr.mono hk)⟩

/-! ### a def by its body -/
/-- the slots at the entry -/
def startD (n : Nat) (ds : List Dt) : Sg := ds.map some ++ List.replicate (n - ds.length) none
def bodyF (n : Nat) (f : FS) : FN := fun ds S => (f (startD n ds) S).bind fun r S1 => match r.1 with
  | .rt d => .ok d S1
  | .nx => .ok .non S1
  | _ => .no
theorem sl_start {K : PySem.W.Frag} {H : Hp} {ρ : List Addr} {N : List Str} {ds : List Dt} {vs : List V} (h : DVs K H ρ ds vs) : Sl K H ρ (startD N.length ds) (L2.start N vs) := by
  have hl := h.length
  refine ⟨by unfold startD L2.start; simp [hl], fun i d e => ?_⟩
  unfold startD at e
  unfold L2.start
  by_cases hi : i < ds.length
  · rw [List.getElem?_append_left (by simpa using hi), List.getElem?_map] at e
    cases e2 : ds[i]? with
    | none => rw [e2] at e; cases e
    | some d' =>
      rw [e2] at e
      cases e
      obtain ⟨v, h1, h2⟩ := h.get e2
      refine ⟨v, ?_, h2⟩
      rw [List.getElem?_append_left (by simpa [← hl] using hi), List.getElem?_map, h1]
      rfl
  · rw [List.getElem?_append_right (by simpa using hi), List.getElem?_replicate] at e
    split at e <;> cases e
section
variable {P : Program} {w : World} {K : PySem.W.Frag} {mg : Str → Option Value} {base : Heap}
theorem fnD_of {CX : CXT} {eo : XK → ER} {k : Nat} {x qual : Str} {st : Stmt} {f : Addr} {fd : FuncData} {N ps : List Str} {fb : FS} (F : Fun K x qual st f fd) (S0 : FnScope N ps (defScope st))
    (hbody : ∀ (cdv : Value) (A : Around) (outer : List Env) (s : Shared) (H : Hp) (E : XK), Room k (A.deeper (envOfC qual (defScope st) s.heap.objs.size f cdv)) → A.guards = some [] →
      SSs (cxOf CX P w K mg base N qual (defScope st) f cdv A outer s H E) (eo E) (defBody st) fb) : FnD P w K mg base CX eo (k + 1) f fd ps (bodyF N.length fb) := by
  obtain ⟨oc, od, kV, doc, pm, an, cdv, ct, osl, rfl, lk, hcd⟩ := F.ex
  constructor
  intro A outer s H args us vs ρ S ds Q E hgd hr e0 hb r hl hR dvs hs
  have hlv : vs.length = ps.length := by rw [← dvs.length]; exact hl
  have inK : K.In s.heap := e0.mod.kin.keeps fun b o e => (e0.bs b o e).1
  have lim : s.heap.NoLimit := e0.mod.nolimit.keeps fun b o e => (e0.bs b o e).1
  have kinds : ∀ y ∈ ps.zip us, (defScope st).names.lookup y.1 = some .local ∨ ((defScope st).names.lookup y.1 = some .cell ∧ ((cellsFrom (s.heap.objs.size + 1) (defScope st).names []).lookup y.1).isSome = true) := by
    rintro ⟨n, v⟩ hy
    rcases S0.par n (List.of_mem_zip hy).1 with q | q
    · exact .inl q
    · exact .inr ⟨q, PySem.W.cellsFrom_some _ _ _ (.inl q)⟩
  refine codeAny_call_function hr.depth (inK _ _ lk) rfl S0.co S0.gen rfl (PySem.W.codeRec_of inK hcd) (hb _ _ _ _ ?_)
  refine wpAny_newFunctionEnv_cells S0.kind kinds fun env he s1 x1 => ?_
  subst he
  refine ⟨lim.keeps x1.toInCall.keep, codeAny_func ?_⟩
  obtain ⟨t, pt, qt⟩ := (hbody cdv A outer s H E (hr.deeper _) hgd).ex
  have I := inv_start (CX := CX) (E := E) S0 hr.hd e0 hlv r x1
  have T : Ty K H ρ (startD N.length ds) S (L2.start N vs) := ⟨hR, sl_start dvs⟩
  have go : t { nx := fun _ H' => Q .non H', rt := Q } (L2.start N vs) H := by
    refine qt _ H ρ (startD N.length ds) S _ T ((link hs).mono (fun r S1 h1 => ?_) fun _ _ _ q => q)
    obtain ⟨fl, σ1⟩ := r
    cases fl with
    | nx => exact fun τ' H' ρ' t' T' => h1 _ H' ρ' t' T'.hr .non
    | rt d => exact h1
    | bk => exact h1.elim
    | ct => exact h1.elim
  refine wpAny_mono (pt.run [] s1 (L2.start N vs) H _ I go) (fun fl s' hf => ?_) fun e s' he => he
  cases fl with
  | ret u =>
    obtain ⟨v, σ', H', J, rv, q⟩ := hf
    exact ⟨v, H', J.os, J.bare, J.base, J.hok, rv, q⟩
  | next =>
    obtain ⟨σ', H', J, q⟩ := hf
    exact ⟨V.non, H', J.os, J.bare, J.base, J.hok, rfl, q⟩
  | brk =>
    obtain ⟨_, _, _, q⟩ := hf
    exact False.elim q
  | cont =>
    obtain ⟨_, _, _, q⟩ := hf
    exact False.elim q
end

/-! ### a def called -/
section
variable {X : Cx} {Er : ER} {H H1 : Hp} {ρ ρ1 : List Addr} {σ : Sg} {S S1 : Bxs} {τ : L2.St}
theorem SE.ofCan {e : Expr} {f : FE} (h : PE X e (canE X.K Er f)) : SE X Er e f := ⟨_, h, fun τ H ρ σ S Q T q => ⟨ρ, σ, S, T, q⟩⟩
theorem se_call {CX : CXT} {eo : XK → ER} {E : XK} {k : Nat} {f : Addr} {fd : FuncData} {ps : List Str} {F : FN} {x : Str} {p pos : Pos} {e : Expr} {es : List Expr} {fa : FA} (n : Nat) (FD : FnD X.prog X.w X.K X.mg X.base CX eo k f fd ps F) (hgd : X.A.guards = some []) (hr : Room k X.A) (hg : Gl X x) (hm : X.mg x = some (.ref f))
    (hk : PySem.W.keepIn X.K (.ref f) = true) (hb : Binds X.K fd ps []) (hx : Passes CX X E) (hE : ∀ c ds S H ρ, Er c ds S H ρ → eo E c ds S H ρ) (ha : SA X Er (e :: es) fa) (hn : ∀ σ S ds S', fa σ S = .ok ds S' → ds.length = n) (hps : ps.length = n)
    (hdb : (x == ("__debug__" : Str)) = false := by decide) (he : starEach (e :: es) X.env = (false, eval e X.env) :: starEach es X.env := by rfl) (hpl : (backTo pos (starEach es X.env)).any (·.1) = false := by rfl) :
    SE X Er (.Call (.Name x p) (e :: es) [] pos) (dCall F fa) := by
  obtain ⟨ta, pa, qa⟩ := ha.ex
  refine SE.ofCan ⟨fun pins s τ H Q I ⟨ρ, σ, S, T, h⟩ => ?_⟩
  refine wpAny_Call_Name_kw (ld_glob I hg hm ?_ hdb)
  have h := link h
  have h' : (fa σ S).Sat (fun ds S1 => ds.length = n ∧ (F ds S1).Sat (KO X.K H ρ Q) (KX Er H ρ)) (KX Er H ρ) := by
    cases e0 : fa σ S with
    | ok ds S1 => rw [e0] at h; exact ⟨hn σ S ds S1 e0, h⟩
    | ex c ds S1 => rw [e0] at h; exact h
    | no => rw [e0] at h; exact h
  refine PySem.W.callWith_K (h₀ := X.base) I.ok.mod.kin hk (thn (pa.run pos pins s τ H (fun vs H1 => ∃ ρ1 S1 ds, To H H1 ρ ρ1 ∧ HR X.K H1 ρ1 S1 ∧ DVs X.K H1 ρ1 ds vs ∧ ds.length = n ∧ (F ds S1).Sat (KO X.K H ρ Q) (KX Er H ρ)) I ?_) ?_) he hpl
  · exact qa τ H ρ σ S _ T (h'.mono (fun ds S1 q vs H1 ρ1 t1 hr1 dvs => ⟨ρ1, S1, ds, t1, hr1, dvs, q.1, q.2⟩) fun _ _ _ q => q)
  · rintro us s1 ⟨vs, H1, I1, r, ρ1, S1, ds, t1, hr1, dvs, hl, q⟩
    refine ⟨I1.kIn, ?_⟩
    have hlu : (us ++ []).length = ps.length := by rw [List.append_nil, ← r.length, ← dvs.length, hl, hps]
    have hq := (Rs.Sat.toO t1 q).mono (fun _ _ z => z) (fun c es S' (z : KX Er H1 ρ1 c es S') => (fun H' ρ' t' => hE _ _ _ _ _ (z H' ρ' t') : KX (eo E) H1 ρ1 c es S'))
    refine wpAny_call (codeAny_mono (FD.run X.A X.stack s1 H1 ⟨us, []⟩ (us ++ []) vs ρ1 S1 ds Q E hgd hr I1.env0 (hb s1 us I1.kIn hlu) (by rw [List.append_nil]; exact r) (hl.trans hps.symm) hr1 dvs hq) fun rr s' hq => ?_)
    cases rr with
    | error e => exact hx pins τ H1 s1 e s' I1 hq
    | ok fl =>
      cases fl with
      | ret u => exact I1.after hq
      | next => exact False.elim hq
      | brk => exact False.elim hq
      | cont => exact False.elim hq
/-- so many arguments -/
theorem len_nil : ∀ σ S ds S', aNil σ S = .ok ds S' → ds.length = 0 := fun σ S ds S' h => by cases h; rfl
theorem len_cons {a : FE} {r : FA} {n : Nat} (hr : ∀ σ S ds S', r σ S = .ok ds S' → ds.length = n) : ∀ σ S ds S', aCons a r σ S = .ok ds S' → ds.length = n + 1 := fun σ S ds S' h => by
  unfold aCons at h
  cases e : a σ S with
  | ok d S1 =>
    rw [e, Rs.bind_ok] at h
    cases e2 : r σ S1 with
    | ok es S2 =>
      rw [e2, Rs.bind_ok] at h
      cases h
      rw [List.length_cons, hr _ _ _ _ e2]
    | ex c es S2 => rw [e2] at h; cases h
    | no => rw [e2] at h; cases h
  | ex c es S1 => rw [e] at h; cases h
  | no => rw [e] at h; cases h
end

/-! ### repr -/
section
variable {X : Cx} {Er : ER} {K : PySem.W.Frag} {H H1 : Hp} {ρ ρ1 : List Addr} {σ : Sg} {S S1 : Bxs} {τ : L2.St}
def showOk (p : PyData) : Bool := PyData.showable p && !PyData.hasDict p && decide (p.depth ≤ 60) && decide (p.shown.length ≤ strLim)
def reprG : GC := fun ds S => match ds with
  | [d] => match pdo S d with
    | some p => if showOk p = true then .ok (.str p.shown) S else .no
    | none => .no
  | _ => .no
theorem reprG_calm : CalmC reprG := by
  intro ds S c es S'
  unfold reprG
  split
  · split
    · exact calm_ite (calm_ok _ _) _ _ _
    · exact calm_no _ _ _
  · exact calm_no _ _ _
def rRepr (K : PySem.W.Frag) : List V → Hp → VK → Prop := fun vs H Q => ∃ v p, vs = [v] ∧ Dp K H v p ∧ showOk p = true ∧ Q (.str p.shown) H
theorem call_repr (hg : X.A.guards = some []) (hu : X.A.units + 64 < cLine) : CallR X (.builtin "repr") (rRepr X.K) := by
  rintro pins s σ H xs us Q I r ⟨v, p, rfl, hd, hs, q⟩
  obtain ⟨u, rfl, rv⟩ := vals1 r
  unfold showOk at hs
  rw [Bool.and_eq_true, Bool.and_eq_true, Bool.and_eq_true, decide_eq_true_eq, decide_eq_true_eq] at hs
  obtain ⟨⟨⟨s1, s2⟩, s3⟩, s4⟩ := hs
  have hsz : p.shown.length ≤ sizeLine := Nat.le_trans s4 (by decide)
  have hnd : p.hasDict = true → False := fun z => by rw [z] at s2; cases s2
  obtain ⟨as, hr⟩ := Dp.reads I p v u hd rv
  cases hd with
  | non =>
    cases rv
    exact PySem.P.repr_of_none ⟨.str _, H, I.tok _, ⟨_, rfl⟩, q⟩
  | bl b =>
    cases rv
    refine PySem.P.repr_of_bool ⟨.str _, H, I.tok _, ⟨_, rfl⟩, ?_⟩
    have q' : Q (.str (PyData.shown (.bool b))) H := q
    simp only [PyData.shown] at q'
    cases b <;> exact q'
  | int i =>
    obtain ⟨t, rfl⟩ := rv
    refine PySem.P.repr_of_int ?_ ⟨.str _, H, I.tok _, ⟨_, rfl⟩, ?_⟩
    · simpa [PyData.showable] using s1
    · have q' : Q (.str (PyData.shown (.int i))) H := q
      simp only [PyData.shown] at q'
      exact q'
  | str x =>
    obtain ⟨t, rfl⟩ := rv
    have q' : Q (.str (PyData.shown (.str x))) H := q
    simp only [PyData.shown] at q' hsz
    exact PySem.P.repr_of_str ⟨.str _, H, I.tok _, ⟨_, rfl⟩, q'⟩ hsz
  | lst hq ha =>
    cases rv
    exact repr_of_reads' hr s1 (fun z => (hnd z).elim) hg (by omega) (fun _ _ e => e) (fun h' u tk hk => ⟨.str _, H, I.kept (t' := tk) hk, ⟨_, rfl⟩, q⟩) hsz
  | tup hq ha =>
    cases rv
    exact repr_of_reads' hr s1 (fun z => (hnd z).elim) hg (by omega) (fun _ _ e => e) (fun h' u tk hk => ⟨.str _, H, I.kept (t' := tk) hk, ⟨_, rfl⟩, q⟩) hsz
theorem rc_repr : RCo K (rRepr K) reprG := by
  intro H ρ S ds vs Q hr dvs h
  cases dvs with
  | nil => exact h.elim
  | cons dv r =>
    cases r with
    | cons _ _ => exact h.elim
    | nil =>
      unfold reprG at h
      simp only at h
      rename_i d v
      cases e : pdo S d with
      | none => rw [e] at h; exact h.elim
      | some p =>
        rw [e] at h
        obtain ⟨c, h⟩ := ite_sat h
        exact ⟨v, p, rfl, dp_of hr _ d v p dv e, c, ko_here hr h (.str _)⟩
end
end Mn

set_option Elab.async false
set_option linter.all false
set_option maxRecDepth 100000
set_option maxHeartbeats 4000000
/-! MnI: built-in calls and methods. -/
namespace Mn
open PySem PySem.Spec PyProof.Rows L2
section
variable {X : Cx} {Er : ER} {K : PySem.W.Frag} {H H1 : Hp} {ρ ρ1 : List Addr} {σ : Sg} {S S1 : Bxs} {τ : L2.St}
/-! ### lists of ints, of truths, of texts -/
def intsOf : List Dt → Option (List Int)
  | [] => some []
  | .int i :: r => (intsOf r).map (i :: ·)
  | _ => none
def blsOf : List Dt → Option (List Bool)
  | [] => some []
  | .bl b :: r => (blsOf r).map (b :: ·)
  | _ => none
def strsOf : List Dt → Option (List Str)
  | [] => some []
  | .str b :: r => (strsOf r).map (b :: ·)
  | _ => none
theorem ints_v : ∀ {ds : List Dt} {vs : List V} {ns : List Int}, DVs K H ρ ds vs → intsOf ds = some ns → vs = ns.map V.int
  | _, _, _, .nil, h => by cases h; rfl
  | _, _, ns, .cons dv r, h => by
    cases dv <;> first | (cases h; done) | skip
    unfold intsOf at h
    rename_i ds vs i
    cases e : intsOf ds with
    | none => rw [e] at h; cases h
    | some ms =>
      rw [e] at h
      cases h
      rw [List.map_cons, ints_v r e]
theorem bls_v : ∀ {ds : List Dt} {vs : List V} {ns : List Bool}, DVs K H ρ ds vs → blsOf ds = some ns → vs = ns.map V.bl
  | _, _, _, .nil, h => by cases h; rfl
  | _, _, ns, .cons dv r, h => by
    cases dv <;> first | (cases h; done) | skip
    unfold blsOf at h
    rename_i ds vs i
    cases e : blsOf ds with
    | none => rw [e] at h; cases h
    | some ms =>
      rw [e] at h
      cases h
      rw [List.map_cons, bls_v r e]
theorem strs_v : ∀ {ds : List Dt} {vs : List V} {ns : List Str}, DVs K H ρ ds vs → strsOf ds = some ns → vs = ns.map V.str
  | _, _, _, .nil, h => by cases h; rfl
  | _, _, ns, .cons dv r, h => by
    cases dv <;> first | (cases h; done) | skip
    unfold strsOf at h
    rename_i ds vs i
    cases e : strsOf ds with
    | none => rw [e] at h; cases h
    | some ms =>
      rw [e] at h
      cases h
      rw [List.map_cons, strs_v r e]
theorem dvs1 {d : Dt} {vs : List V} (h : DVs K H ρ [d] vs) : ∃ v, vs = [v] ∧ DV K H ρ d v := by
  cases h with
  | cons a r => cases r; exact ⟨_, rfl, a⟩
theorem dvs2 {d e : Dt} {vs : List V} (h : DVs K H ρ [d, e] vs) : ∃ v w, vs = [v, w] ∧ DV K H ρ d v ∧ DV K H ρ e w := by
  cases h with
  | cons a r =>
    cases r with
    | cons b r => cases r; exact ⟨_, _, rfl, a, b⟩

/-! ### len, list, tuple -/
def lenG : GC := fun ds S => match ds with
  | [.str z] => if z.length ≤ strLim then .ok (.int z.length) S else .no
  | [d] => match seqOf S d with
    | some xs => .ok (.int (xs.length : Int)) S
    | none => .no
  | _ => .no
theorem lenG_calm : CalmC lenG := by
  intro ds S c es S'
  unfold lenG
  split
  · exact calm_ite (calm_ok _ _) _ _ _
  · split
    · exact calm_ok _ _ _ _ _
    · exact calm_no _ _ _
  · exact calm_no _ _ _
def rLen (K : PySem.W.Frag) : List V → Hp → VK → Prop := fun xs H Q => ∃ x n, xs = [x] ∧ LenV K x H n ∧ Q (.int n) H
theorem rc_len : RCo K (rLen K) lenG := by
  intro H ρ S ds vs Q hr dvs h
  unfold lenG at h
  split at h
  · obtain ⟨v, rfl, dv⟩ := dvs1 dvs
    cases dv
    obtain ⟨c, h⟩ := ite_sat h
    exact ⟨_, _, rfl, ⟨Nat.le_trans c (by decide), rfl⟩, ko_here hr h (.int _)⟩
  · obtain ⟨v, rfl, dv⟩ := dvs1 dvs
    split at h
    · rename_i xs e
      obtain ⟨a, us, rfl, hs, hd⟩ := seq_of hr dv e
      have hl := hd.length
      rw [hl] at h
      refine ⟨_, us.length, rfl, ?_, ko_here hr h (.int _)⟩
      rcases hs with hs | hs
      · exact .inl ⟨us, hs, rfl⟩
      · exact .inr ⟨us, hs, rfl⟩
    · exact h.elim
  · exact h.elim
def listG : GC := fun ds S => match ds with
  | [d] => match seqOf S d with
    | some xs => newL xs S
    | none => .no
  | _ => .no
theorem listG_calm : CalmC listG := by
  intro ds S c es S'
  unfold listG
  split
  · split
    · exact newL_calm _ _ _ _ _
    · exact calm_no _ _ _
  · exact calm_no _ _ _
def rList (K : PySem.W.Frag) : List V → Hp → VK → Prop := fun xs H Q => ∃ p ys, xs = [.ref p] ∧ (SqL K H p ys ∨ SqT K H p ys) ∧ ∀ l, H l = none → Q (.ref l) (upd H l (.lst ys))
theorem rc_list : RCo K (rList K) listG := by
  intro H ρ S ds vs Q hr dvs h
  unfold listG at h
  split at h
  · obtain ⟨v, rfl, dv⟩ := dvs1 dvs
    split at h
    · rename_i xs e
      obtain ⟨a, us, rfl, hs, hd⟩ := seq_of hr dv e
      obtain ⟨hl, h⟩ := newL_ok h
      exact ⟨a, us, rfl, hs, fun p hp => new_lst hr hd hp h⟩
    · exact h.elim
  · exact h.elim
def tupleG : GC := fun ds S => match ds with
  | [.tup xs] => .ok (.tup xs) S
  | [.box n] => match S.seq n with
    | some xs => .ok (.tup xs) S
    | none => .no
  | _ => .no
theorem tupleG_calm : CalmC tupleG := by
  intro ds S c es S'
  unfold tupleG
  split
  · exact calm_ok _ _ _ _ _
  · split
    · exact calm_ok _ _ _ _ _
    · exact calm_no _ _ _
  · exact calm_no _ _ _
theorem rc_tuple : RCo K (rTupZ K) tupleG := by
  intro H ρ S ds vs Q hr dvs h
  unfold tupleG at h
  split at h
  · obtain ⟨v, rfl, dv⟩ := dvs1 dvs
    cases dv with
    | tup ht hd => exact ⟨_, _, rfl, .inr ⟨ht.sqt, ko_here hr h (.tup ht hd)⟩⟩
  · obtain ⟨v, rfl, dv⟩ := dvs1 dvs
    split at h
    · rename_i xs e
      cases dv with
      | box ha =>
        obtain ⟨us, h1, h2⟩ := hr.rd ha e
        exact ⟨_, us, rfl, .inl ⟨h1, new_tup hr h2 h⟩⟩
    · exact h.elim
  · exact h.elim

/-! ### numbers -/
def absG : GC := fun ds S => match ds with
  | [.int i] => .ok (.int (if i < 0 then -i else i)) S
  | _ => .no
theorem absG_calm : CalmC absG := by
  intro ds S c es S'
  unfold absG
  split <;> first | exact calm_ok _ _ _ _ _ | exact calm_no _ _ _
theorem rc_abs : RCo K (fun xs H Q => ∃ i, xs = [.int i] ∧ Q (.int (if i < 0 then -i else i)) H) absG := by
  intro H ρ S ds vs Q hr dvs h
  unfold absG at h
  split at h
  · obtain ⟨v, rfl, dv⟩ := dvs1 dvs
    cases dv
    exact ⟨_, rfl, ko_here hr h (.int _)⟩
  · exact h.elim
def intG : GC := fun ds S => match ds with
  | [.int i] => .ok (.int i) S
  | [.bl b] => .ok (.int (if b then 1 else 0)) S
  | _ => .no
theorem intG_calm : CalmC intG := by
  intro ds S c es S'
  unfold intG
  split <;> first | exact calm_ok _ _ _ _ _ | exact calm_no _ _ _
theorem rc_int : RCo K (fun xs H Q => (∃ i, xs = [.int i] ∧ Q (.int i) H) ∨ ∃ k, xs = [.bl k] ∧ Q (.int (if k then 1 else 0)) H) intG := by
  intro H ρ S ds vs Q hr dvs h
  unfold intG at h
  split at h
  · obtain ⟨v, rfl, dv⟩ := dvs1 dvs
    cases dv
    exact .inl ⟨_, rfl, ko_here hr h (.int _)⟩
  · obtain ⟨v, rfl, dv⟩ := dvs1 dvs
    cases dv
    exact .inr ⟨_, rfl, ko_here hr h (.int _)⟩
  · exact h.elim
def maxI : List Int → Int
  | [] => 0
  | [i] => i
  | i :: r => if maxI r > i then maxI r else i
theorem maxI_of : ∀ {ns : List Int} {m : Int}, m ∈ ns → (∀ y, y ∈ ns → y ≤ m) → maxI ns = m
  | [i], m, h, _ => (List.mem_singleton.mp h).symm
  | i :: j :: r, m, h, hm => by
    show (if maxI (j :: r) > i then maxI (j :: r) else i) = m
    have hmem : maxI (j :: r) ∈ j :: r := by
      have go : ∀ l : List Int, l ≠ [] → maxI l ∈ l := by
        intro l
        induction l with
        | nil => intro h; exact absurd rfl h
        | cons a l ih =>
          intro _
          cases l with
          | nil => exact List.mem_singleton.mpr rfl
          | cons b l =>
            show (if maxI (b :: l) > a then maxI (b :: l) else a) ∈ _
            split
            · exact List.mem_cons_of_mem _ (ih (List.cons_ne_nil _ _))
            · exact List.mem_cons_self
      exact go _ (List.cons_ne_nil _ _)
    have h1 := hm _ (List.mem_cons_of_mem _ hmem)
    have h2 := hm i List.mem_cons_self
    rcases List.mem_cons.mp h with e | e
    · split
      · omega
      · exact e.symm
    · have h3 : maxI (j :: r) = m := maxI_of e fun y hy => hm y (List.mem_cons_of_mem _ hy)
      split
      · exact h3
      · omega
/-! max of a tuple -/
section
variable {prog : Program} {w : World} {A : Around} {E : Value → Shared → Prop} {s : Shared} {l : Addr} {its : List Value} {ns : List Int} {Q : Value → Shared → Prop}
theorem iter_tup {xs : Array Value} {Q : Value → Shared → Prop} (hl : s.heap.IsTuple l xs)
    (h : ∀ s₂ : Shared, s₂ = { s with heap := s.heap.push { cls := .type "tuple_iterator", data := .fields #[.ref l, .int 0 0] } } →
      (s₂.heap.IsTupleIter s.heap.objs.size l 0 ∧ s₂.heap.IsTuple l xs) → (∀ b ∈ [s.heap.objs.size, l], b < s₂.heap.objs.size) → l ≠ s.heap.objs.size → Q (.ref s.heap.objs.size) s₂) :
    wpAny (model prog w) A (pyIter (.ref l)) Q E s := by
  have hlt : l < s.heap.objs.size := by obtain ⟨_, e, _⟩ := hl; exact Heap.lt_size e
  refine wpAny_pyIter_tuple hl (h _ rfl ⟨⟨_, Heap.get?_push_size _ rfl, rfl, rfl⟩, hl.at fun o e => Heap.get?_push_of_some _ e⟩ (fun b hb => ?_) (Nat.ne_of_lt hlt))
  show b < (s.heap.push _).objs.size
  rw [Heap.size_push]
  rcases List.mem_cons.mp hb with rfl | hb
  · exact Nat.lt_succ_self _
  · rcases List.mem_cons.mp hb with rfl | hb
    · exact Nat.lt_succ_of_lt hlt
    · cases hb
theorem old_keptT {h' : Heap} (hk : ∀ b o, b ∉ [s.heap.objs.size] → (s.heap.push { cls := .type "tuple_iterator", data := .fields #[.ref l, .int 0 0] }).get? b = some o → h'.get? b = some o) :
    ∀ b o, s.heap.get? b = some o → h'.get? b = some o := fun b o e => by
  refine hk b o (fun hm => ?_) (Heap.get?_push_of_some _ e)
  rcases List.mem_cons.mp hm with e1 | hm
  · exact absurd (e1 ▸ Heap.lt_size e) (Nat.lt_irrefl _)
  · cases hm
theorem max_tup_raw (hh : A.handled = none) (hl : s.heap.IsTuple l its.toArray) (hi : IntsAre its ns) (hne : 0 < ns.length)
    (h : ∀ h' tk M t', (∀ b o, s.heap.get? b = some o → h'.get? b = some o) → M ∈ ns → (∀ a, a ∈ ns → a ≤ M) → Q (.int M t') { s with heap := h', toks := tk }) : wpAny (model prog w) A (call (.builtin "max") [.ref l]) Q E s := by
  obtain ⟨xs, e⟩ := hi.allInts.items
  have hn : numsOf (intItems xs).toList = ns := by rw [← e]; exact hi.numsOf
  rw [nums_intItems] at hn
  subst hn
  rw [e] at hl
  have hsz : 0 < xs.size := by simpa using hne
  refine call_max_walk (iter_tup hl fun s₂ e st hfp hlI => ?_)
  subst e
  refine ⟨_, _, _, _, _, _, _, rfl, Walks.tuple (A := A.in1) hh _ l hlI (intItems xs), st, hfp, by simpa [intItems] using hsz, CmpOf.ints_gt (numAt xs) (fun _ _ => intItems_at), fun v h' tk hP hk => ?_⟩
  obtain ⟨t, rfl⟩ := intItems_at hP
  have hsz2 : (intItems xs).size = xs.size := by simp [intItems]
  rw [hsz2]
  obtain ⟨h1, h2⟩ := argBest_gt (numAt xs) (xs.size - 1)
  refine h h' tk _ t (old_keptT hk) ?_ fun a ha => ?_
  · rw [numAt_eq]; exact PySem.getD_mem (by rw [List.length_map, Array.length_toList]; omega)
  · obtain ⟨j, hj, rfl⟩ := mem_getD ha
    rw [List.length_map, Array.length_toList] at hj
    rw [← numAt_eq]; exact h2 j (by omega)
theorem min_tup_raw (hh : A.handled = none) (hl : s.heap.IsTuple l its.toArray) (hi : IntsAre its ns) (hne : 0 < ns.length)
    (h : ∀ h' tk M t', (∀ b o, s.heap.get? b = some o → h'.get? b = some o) → M ∈ ns → (∀ a, a ∈ ns → M ≤ a) → Q (.int M t') { s with heap := h', toks := tk }) : wpAny (model prog w) A (call (.builtin "min") [.ref l]) Q E s := by
  obtain ⟨xs, e⟩ := hi.allInts.items
  have hn : numsOf (intItems xs).toList = ns := by rw [← e]; exact hi.numsOf
  rw [nums_intItems] at hn
  subst hn
  rw [e] at hl
  have hsz : 0 < xs.size := by simpa using hne
  refine call_min_walk (iter_tup hl fun s₂ e st hfp hlI => ?_)
  subst e
  refine ⟨_, _, _, _, _, _, _, rfl, Walks.tuple (A := A.in1) hh _ l hlI (intItems xs), st, hfp, by simpa [intItems] using hsz, CmpOf.ints_lt (numAt xs) (fun _ _ => intItems_at), fun v h' tk hP hk => ?_⟩
  obtain ⟨t, rfl⟩ := intItems_at hP
  have hsz2 : (intItems xs).size = xs.size := by simp [intItems]
  rw [hsz2]
  obtain ⟨h1, h2⟩ := argBest_lt (numAt xs) (xs.size - 1)
  refine h h' tk _ t (old_keptT hk) ?_ fun a ha => ?_
  · rw [numAt_eq]; exact PySem.getD_mem (by rw [List.length_map, Array.length_toList]; omega)
  · obtain ⟨j, hj, rfl⟩ := mem_getD ha
    rw [List.length_map, Array.length_toList] at hj
    rw [← numAt_eq]; exact h2 j (by omega)
end
def rMaxT (K : PySem.W.Frag) : List V → Hp → VK → Prop := fun vs H Q => ∃ (a : Addr) (ns : List Int), vs = [V.ref a] ∧ SqT K H a (ns.map V.int) ∧ 0 < ns.length ∧ ∀ m, m ∈ ns → (∀ y, y ∈ ns → y ≤ m) → Q (.int m) H
def rMinT (K : PySem.W.Frag) : List V → Hp → VK → Prop := fun vs H Q => ∃ (a : Addr) (ns : List Int), vs = [V.ref a] ∧ SqT K H a (ns.map V.int) ∧ 0 < ns.length ∧ ∀ m, m ∈ ns → (∀ y, y ∈ ns → m ≤ y) → Q (.int m) H
theorem cr_maxT (hc : X.calm = true) : CallR X (.builtin "max") (rMaxT X.K) := by
  intro pins s σ H vs us Q I r h
  obtain ⟨a, ns, rfl, hs, hne, q⟩ := h
  obtain ⟨its, rv, hl, _⟩ := I.tuple hs
  rw [Vals.ref1 r]
  exact max_tup_raw (I.ok.hd hc) hl rv.ints hne fun h' tk m t' hk h1 h2 => ⟨.int _, H, I.kept hk, ⟨_, rfl⟩, q m h1 h2⟩
theorem cr_minT (hc : X.calm = true) : CallR X (.builtin "min") (rMinT X.K) := by
  intro pins s σ H vs us Q I r h
  obtain ⟨a, ns, rfl, hs, hne, q⟩ := h
  obtain ⟨its, rv, hl, _⟩ := I.tuple hs
  rw [Vals.ref1 r]
  exact min_tup_raw (I.ok.hd hc) hl rv.ints hne fun h' tk m t' hk h1 h2 => ⟨.int _, H, I.kept hk, ⟨_, rfl⟩, q m h1 h2⟩
def maxG : GC := fun ds S => match ds with
  | [.int i, .int j] => .ok (.int (if j > i then j else i)) S
  | [d] => match seqOf S d with
    | some xs => match intsOf xs with
      | some ns => if ns ≠ [] then .ok (.int (maxI ns)) S else .no
      | none => .no
    | none => .no
  | _ => .no
theorem maxG_calm : CalmC maxG := by
  intro ds S c es S'
  unfold maxG
  split
  · exact calm_ok _ _ _ _ _
  · split
    · split
      · exact calm_ite (calm_ok _ _) _ _ _
      · exact calm_no _ _ _
    · exact calm_no _ _ _
  · exact calm_no _ _ _
def rMaxA (K : PySem.W.Frag) : List V → Hp → VK → Prop := fun xs H Q => (∃ i j, xs = [.int i, .int j] ∧ Q (.int (if j > i then j else i)) H) ∨ (rMax K xs H Q ∨ rMaxT K xs H Q)
theorem call_maxA (hc : X.calm = true) : CallR X (.builtin "max") (rMaxA X.K) := (call_max2 hc).or ((cr_max hc).or (cr_maxT hc))
theorem rc_max : RCo K (rMaxA K) maxG := by
  intro H ρ S ds vs Q hr dvs h
  unfold maxG at h
  split at h
  · obtain ⟨v, w, rfl, dv, dw⟩ := dvs2 dvs
    cases dv
    cases dw
    exact .inl ⟨_, _, rfl, ko_here hr h (.int _)⟩
  · rename_i d
    obtain ⟨v, rfl, dv⟩ := dvs1 dvs
    cases e : seqOf S d with
    | none => rw [e] at h; exact h.elim
    | some xs =>
      rw [e] at h
      simp only at h
      cases e2 : intsOf xs with
      | none => rw [e2] at h; exact h.elim
      | some ns =>
        rw [e2] at h
        obtain ⟨hne, h⟩ := ite_sat h
        obtain ⟨a, ws, rfl, hs, hd⟩ := seq_of hr dv e
        obtain rfl := ints_v hd e2
        have hl : 0 < ns.length := List.length_pos_iff.mpr hne
        rcases hs with hs | hs
        · exact .inr (.inl ⟨a, ns, rfl, hs, hl, fun m h1 h2 => by rw [← maxI_of h1 h2]; exact ko_here hr h (.int _)⟩)
        · exact .inr (.inr ⟨a, ns, rfl, hs, hl, fun m h1 h2 => by rw [← maxI_of h1 h2]; exact ko_here hr h (.int _)⟩)
  · exact h.elim
def sumG : GC := fun ds S => match ds with
  | [.box n] => match S.seq n with
    | some xs => match intsOf xs with
      | some ns => .ok (.int ns.sum) S
      | none => .no
    | none => .no
  | _ => .no
theorem sumG_calm : CalmC sumG := by
  intro ds S c es S'
  unfold sumG
  split
  · split
    · split
      · exact calm_ok _ _ _ _ _
      · exact calm_no _ _ _
    · exact calm_no _ _ _
  · exact calm_no _ _ _
theorem rc_sum : RCo K (rSum K) sumG := by
  intro H ρ S ds vs Q hr dvs h
  unfold sumG at h
  split at h
  · obtain ⟨v, rfl, dv⟩ := dvs1 dvs
    split at h
    · rename_i xs e
      split at h
      · rename_i ns e2
        cases dv with
        | box ha =>
          obtain ⟨us, h1, h2⟩ := hr.rd ha e
          have hu := ints_v h2 e2
          subst hu
          exact ⟨_, ns, rfl, h1, ko_here hr h (.int _)⟩
      · exact h.elim
    · exact h.elim
  · exact h.elim
def allG (any : Bool) : GC := fun ds S => match ds with
  | [.box n] => match S.seq n with
    | some xs => match blsOf xs with
      | some bs => .ok (.bl (if any then bs.any id else bs.all id)) S
      | none => .no
    | none => .no
  | _ => .no
theorem allG_calm (any : Bool) : CalmC (allG any) := by
  intro ds S c es S'
  unfold allG
  split
  · split
    · split
      · exact calm_ok _ _ _ _ _
      · exact calm_no _ _ _
    · exact calm_no _ _ _
  · exact calm_no _ _ _
theorem rc_all : RCo K (rAll K) (allG false) := by
  intro H ρ S ds vs Q hr dvs h
  unfold allG at h
  split at h
  · obtain ⟨v, rfl, dv⟩ := dvs1 dvs
    split at h
    · rename_i xs e
      split at h
      · rename_i ns e2
        cases dv with
        | box ha =>
          obtain ⟨us, h1, h2⟩ := hr.rd ha e
          have hu := bls_v h2 e2
          subst hu
          exact ⟨_, ns, rfl, h1, ko_here hr h (.bl _)⟩
      · exact h.elim
    · exact h.elim
  · exact h.elim
theorem rc_any : RCo K (rAny K) (allG true) := by
  intro H ρ S ds vs Q hr dvs h
  unfold allG at h
  split at h
  · obtain ⟨v, rfl, dv⟩ := dvs1 dvs
    split at h
    · rename_i xs e
      split at h
      · rename_i ns e2
        cases dv with
        | box ha =>
          obtain ⟨us, h1, h2⟩ := hr.rd ha e
          have hu := bls_v h2 e2
          subst hu
          exact ⟨_, ns, rfl, h1, ko_here hr h (.bl _)⟩
      · exact h.elim
    · exact h.elim
  · exact h.elim

/-! ### methods -/
/-- the receiver is of that type -/
def tyD (T : String) (d : Dt) (S : Bxs) : Prop := match d with
  | .box n => T = "list" ∧ (S.seq n).isSome = true
  | .tup _ => T = "tuple"
  | _ => False
theorem ty_is {pins : List (Addr × Obj)} {s : Shared} {T : String} {d : Dt} {x : V} {v : Value} (I : Inv X pins τ H s) (hr : HR X.K H ρ S) (dv : DV X.K H ρ d x) (r : RelV x v) (ty : tyD T d S) :
    s.TypeIs v T ∧ ∀ a, v = .ref a → ∃ ob, s.heap.get? a = some ob ∧ ob.dict = none := by
  cases dv <;> first | exact ty.elim | skip
  · rename_i a ds vs ht hd
    obtain rfl : T = "tuple" := ty
    cases r
    rcases ht with ⟨o, ho, p⟩ | ⟨o, its, n, ho, p, _⟩
    · obtain ⟨e, _⟩ := I.hok a _ ho
      exact ⟨⟨o, e, p.1⟩, fun b eb => by cases eb; exact ⟨o, e, p.2⟩⟩
    · have e := I.kIn a o ho
      exact ⟨⟨o, e, p.1⟩, fun b eb => by cases eb; exact ⟨o, e, p.2⟩⟩
  · rename_i n a ha
    obtain ⟨hT, hs⟩ := ty
    subst hT
    obtain ⟨xs, hx⟩ := Option.isSome_iff_exists.mp hs
    obtain ⟨vs, h1, _⟩ := hr.rd ha hx
    exact tyV_is I r (.inl ⟨rfl, vs, h1⟩)
abbrev GM := Dt → List Dt → Bxs → Rs Dt
open Classical in
noncomputable def dMeth (T : String) (g : GM) (o : FE) (a : FA) : FE := fun σ S => (o σ S).bind fun d S1 => if tyD T d S1 then (a σ S1).bind fun ds S2 => g d ds S2 else .no
def RMo (K : PySem.W.Frag) (r : V → List V → Hp → VK → Prop) (g : GM) : Prop := ∀ H ρ S d v ds vs Q, HR K H ρ S → DV K H ρ d v → DVs K H ρ ds vs → (g d ds S).Sat (KO K H ρ Q) noX → r v vs H Q
def CalmM (g : GM) : Prop := ∀ d ds S c es S', g d ds S ≠ .ex c es S'
theorem se_meth {T id : String} {name : Str} {r : V → List V → Hp → VK → Prop} {g : GM} {o e : Expr} {es : List Expr} {fo : FE} {fa : FA} {apos cpos : Pos} (pa : PlainAttrs T) (slot : Slot T name id) (hty : typeOf (.builtin id) = pure (.type "method_descriptor")) (hm : MtR X id r) (hr : RMo X.K r g) (hc : CalmM g)
    (ho : SE X Er o fo) (ha : SA X Er (e :: es) fa) (hbase : attributeBase o name X.env (eval o X.env) = eval o X.env := by rfl)
    (hfew : ((backTo cpos (starEach (e :: es) X.env)).all (fun x => !x.1) && (backToKw cpos (keywordEach [] X.env)).all (fun x => x.1.isSome)
      && decide ((e :: es).length + ([] : List Keyword).length + (if ([] : List Keyword).isEmpty then 0 else 1) < 30)) = true := by rfl)
    (hline : (apos.endLine == cpos.line) = true := by rfl) (hs : starEach (e :: es) X.env = (false, eval e X.env) :: starEach es X.env := by rfl) (hplain : (backTo cpos (starEach es X.env)).any (·.1) = false := by rfl) :
    SE X Er (.Call (.Attribute o name apos) (e :: es) [] cpos) (dMeth T g fo fa) := by
  obtain ⟨to, po, qo⟩ := ho.ex
  obtain ⟨ta, pA, qa⟩ := ha.ex
  refine SE.ofCan ⟨fun pins s τ H Q I ⟨ρ, σ, S, Ty0, h⟩ => ?_⟩
  have h := link h
  refine wpAny_Call_method_late hbase hfew hline rfl (thn (po.run pins s τ H (fun x H1 => ∃ ρ1 S1 d, To H H1 ρ ρ1 ∧ HR X.K H1 ρ1 S1 ∧ DV X.K H1 ρ1 d x ∧ tyD T d S1 ∧ ((fa σ S1).bind fun ds S2 => g d ds S2).Sat (KO X.K H ρ Q) (KX Er H ρ)) I ?_) ?_)
  · exact qo τ H ρ σ S _ Ty0 (h.mono (fun d S1 q x H1 ρ1 t1 hr1 dv => ⟨ρ1, S1, d, t1, hr1, dv, (iteC_sat q).1, (iteC_sat q).2⟩) fun _ _ _ q => q)
  rintro v s1 ⟨x, H1, I1, r1, ρ1, S1, d, t1, hr1, dv, ty, q⟩
  obtain ⟨h1, h2⟩ := ty_is I1 hr1 dv r1 ty
  refine ⟨T, id, pa, slot, hty, h1, h2, ?_⟩
  have q := link q
  have hA := pA.run cpos pins s1 τ H1 (fun vs H2 => ∃ ρ2 S2 ds, To H1 H2 ρ1 ρ2 ∧ HR X.K H2 ρ2 S2 ∧ DVs X.K H2 ρ2 ds vs ∧ (g d ds S2).Sat (KO X.K H ρ Q) (KX Er H ρ)) I1
    (qa τ H1 ρ1 σ S1 _ (Ty0.to t1 hr1) (q.mono (fun ds S2 z vs H2 ρ2 t2 hr2 dvs => ⟨ρ2, S2, ds, t2, hr2, dvs, z⟩) fun _ _ _ z => z.to t1))
  rw [hs] at hA ⊢
  have hnn : ((false, eval e X.env) :: backTo cpos (starEach es X.env)).any (·.1) = false := by
    rw [List.any_cons, hplain]
    rfl
  refine Calls.callWith_builtin hnn (Calls.evalArgs_plain (thn hA ?_))
  rintro us s2 ⟨vs, H2, I2, r2, ρ2, S2, ds, t2, hr2, dvs, z⟩
  exact hm pins s2 τ H2 x vs v us Q I2 r1 r2 (hr H2 ρ2 S2 d x ds vs Q hr2 (dv.to t2) dvs (sat_calm (hc _ _ _) (Rs.Sat.toO (t1.trans t2) z)))
def appendG : GM := fun d ds S => match d, ds with
  | .box n, [e] => match S.lst n with
    | some xs => if xs.length < LIM then .ok .non (S.set n (.lst (xs ++ [e]))) else .no
    | none => .no
  | _, _ => .no
theorem appendG_calm : CalmM appendG := by
  intro d ds S c es S'
  unfold appendG
  split
  · split
    · exact calm_ite (calm_ok _ _) _ _ _
    · exact calm_no _ _ _
  · exact calm_no _ _ _
/-- a box's list changed, the answer None -/
theorem ko_set {Q : VK} {n : Nat} {a : Addr} {xs0 xs : List Dt} {vs0 vs : List V} (hr : HR K H ρ S) (e : S.lst n = some xs0) (ha : ρ[n]? = some a) (h1 : H a = some (.lst vs0)) (hd : DVs K H ρ xs vs)
    (h : KO K H ρ Q .non (S.set n (.lst xs))) : Q .non (upd H a (.lst vs)) := h _ _ ρ ⟨Ext.set h1, List.prefix_refl _⟩ (hr.set (lst_get e) ha h1 hd) .non
theorem rm_append : RMo K rAppend appendG := by
  intro H ρ S d v ds vs Q hr dv dvs h
  unfold appendG at h
  split at h
  · obtain ⟨w, rfl, dw⟩ := dvs1 dvs
    rename_i n e0
    cases dv with
    | box ha =>
      split at h
      · rename_i xs e
        obtain ⟨c, h⟩ := ite_sat h
        obtain ⟨us, h1, h2⟩ := hr.mu ha e
        exact ⟨_, us, w, rfl, rfl, h1, by rw [← h2.length]; exact lim_lt c, ko_set hr e ha h1 (h2.app (.cons dw .nil)) h⟩
      · exact h.elim
  · exact h.elim
def insertG : GM := fun d ds S => match d, ds with
  | .box n, [.int i, e] => match S.lst n with
    | some xs => if xs.length < LIM ∧ 0 ≤ i ∧ i < 2 ^ 63 then .ok .non (S.set n (.lst (xs.take i.toNat ++ [e] ++ xs.drop i.toNat))) else .no
    | none => .no
  | _, _ => .no
theorem insertG_calm : CalmM insertG := by
  intro d ds S c es S'
  unfold insertG
  split
  · split
    · exact calm_ite (calm_ok _ _) _ _ _
    · exact calm_no _ _ _
  · exact calm_no _ _ _
def rInsert : V → List V → Hp → VK → Prop := fun x vs H Q => ∃ (l : Addr) (xs : List V) (i : Int) (y : V), x = .ref l ∧ vs = [.int i, y] ∧ H l = some (.lst xs) ∧ xs.length < sizeLine ∧ 0 ≤ i ∧ i < 2 ^ 63 ∧
    Q .non (upd H l (.lst (xs.take i.toNat ++ [y] ++ xs.drop i.toNat)))
theorem rm_insert : RMo K rInsert insertG := by
  intro H ρ S d v ds vs Q hr dv dvs h
  unfold insertG at h
  split at h
  · obtain ⟨u, w, rfl, du, dw⟩ := dvs2 dvs
    cases du
    cases dv with
    | box ha =>
      split at h
      · rename_i xs e
        obtain ⟨⟨c1, c2, c3⟩, h⟩ := ite_sat h
        obtain ⟨us, h1, h2⟩ := hr.mu ha e
        exact ⟨_, us, _, w, rfl, rfl, h1, by rw [← h2.length]; exact lim_lt c1, c2, c3, ko_set hr e ha h1 (((h2.take _).app (.cons dw .nil)).app (h2.drop _)) h⟩
      · exact h.elim
  · exact h.elim
/-- the first place of a text -/
def strAt (z : Str) : List Str → Option Nat
  | [] => none
  | y :: r => if y = z then some 0 else (strAt z r).map (· + 1)
theorem strAt_get {z : Str} : ∀ {ys : List Str} {j : Nat}, strAt z ys = some j → ys[j]? = some z ∧ ∀ m, m < j → ys[m]? ≠ some z
  | [], _, h => by cases h
  | y :: r, j, h => by
    unfold strAt at h
    by_cases hy : y = z
    · rw [if_pos hy] at h
      cases h
      exact ⟨by rw [hy]; rfl, fun m hm => absurd hm (Nat.not_lt_zero _)⟩
    · rw [if_neg hy] at h
      cases e : strAt z r with
      | none => rw [e] at h; cases h
      | some k =>
        rw [e] at h
        obtain rfl : k + 1 = j := Option.some.inj h
        obtain ⟨h1, h2⟩ := strAt_get e
        refine ⟨by simpa using h1, fun m hm => ?_⟩
        cases m with
        | zero => intro q; exact hy (Option.some.inj q)
        | succ m => simpa using h2 m (by omega)
def tindexG : GM := fun d ds S => match d, ds with
  | .tup xs, [.str z] => match strsOf xs with
    | some ys => match strAt z ys with
      | some j => .ok (.int (j : Int)) S
      | none => .no
    | none => .no
  | _, _ => .no
theorem tindexG_calm : CalmM tindexG := by
  intro d ds S c es S'
  unfold tindexG
  split
  · split
    · split
      · exact calm_ok _ _ _ _ _
      · exact calm_no _ _ _
    · exact calm_no _ _ _
  · exact calm_no _ _ _
def rTindex (K : PySem.W.Frag) : V → List V → Hp → VK → Prop := fun x xs H Q => ∃ p, ∃ ys : List Str, ∃ z j, x = .ref p ∧ xs = [.str z] ∧ SqT K H p (ys.map V.str) ∧ ys[j]? = some z ∧ (∀ m, m < j → ys[m]? ≠ some z) ∧ Q (.int (j : Nat)) H
theorem rm_tindex : RMo K (rTindex K) tindexG := by
  intro H ρ S d v ds vs Q hr dv dvs h
  unfold tindexG at h
  split at h
  · obtain ⟨w, rfl, dw⟩ := dvs1 dvs
    cases dw
    cases dv with
    | tup ht hd =>
      split at h
      · rename_i ys e
        split at h
        · rename_i j e2
          have hu := strs_v hd e
          subst hu
          obtain ⟨g1, g2⟩ := strAt_get e2
          exact ⟨_, ys, _, j, rfl, rfl, ht.sqt, g1, g2, ko_here hr h (.int _)⟩
        · exact h.elim
      · exact h.elim
  · exact h.elim
end
end Mn

set_option Elab.async false
set_option linter.all false
set_option maxRecDepth 100000
set_option maxHeartbeats 4000000
/-! MnJ: xs[i] op= e, three names at once, the law's call, the end. -/
namespace Mn
open PySem PySem.Spec PyProof.Rows L2
section
variable {X : Cx} {Er : ER} {K : PySem.W.Frag} {H H1 : Hp} {ρ ρ1 : List Addr} {σ : Sg} {S S1 : Bxs} {τ : L2.St}
/-- xs[i] of a list, i from 0 on -/
def rGetL (K : PySem.W.Frag) : V → V → Hp → VK → Prop := fun o i H Q => ∃ a xs j v, o = .ref a ∧ i = .int j ∧ SqL K H a xs ∧ 0 ≤ j ∧ j < 2 ^ 63 ∧ xs[j.toNat]? = some v ∧ Q v H
theorem get_list : PGet X (rGetL X.K) := by
  rintro pins s τ H o i ov iv Q I ro ri ⟨a, xs, j, v, rfl, rfl, hq, h0, h1, hv, q⟩
  cases ro
  obtain ⟨t, rfl⟩ := ri
  obtain ⟨its, r, p, hz⟩ := I.list hq
  obtain ⟨u, hu, ru⟩ := r.get hv
  exact wpAny_getItem_list p.isList h0 h1 (by simpa using hu) ⟨v, H, I, ru, q⟩
def getL (o i : Dt) (S : Bxs) : Rs Dt := match o, i with
  | .box n, .int j => match S.lst n with
    | some xs => if 0 ≤ j ∧ j < 2 ^ 63 then match xs[j.toNat]? with
      | some d => .ok d S
      | none => .no else .no
    | none => .no
  | _, _ => .no
theorem getL_calm (o i : Dt) (S : Bxs) : ∀ c es S', getL o i S ≠ .ex c es S' := by
  intro c es S'
  unfold getL
  split
  · split
    · split
      · split
        · exact calm_ok _ _ _ _ _
        · exact calm_no _ _ _
      · exact calm_no _ _ _
    · exact calm_no _ _ _
  · exact calm_no _ _ _
theorem getL_sat {o i : Dt} {ov iv : V} {Q : VK} (hr : HR K H ρ S) (dO : DV K H ρ o ov) (di : DV K H ρ i iv) (h : (getL o i S).Sat (KO K H ρ Q) noX) : rGetL K ov iv H Q := by
  cases dO <;> first | exact h.elim | skip
  rename_i n a ha
  cases di <;> first | exact h.elim | skip
  rename_i j
  unfold getL at h
  simp only at h
  cases e : S.lst n with
  | none => rw [e] at h; exact h.elim
  | some xs =>
    rw [e] at h
    obtain ⟨c, h⟩ := ite_sat h
    cases e2 : xs[j.toNat]? with
    | none => rw [e2] at h; exact h.elim
    | some d =>
      rw [e2] at h
      obtain ⟨vs, h1, h2⟩ := hr.mu ha e
      obtain ⟨v, h3, h4⟩ := h2.get e2
      exact ⟨a, vs, j, v, rfl, rfl, SqL.of h1, c.1, c.2, h3, ko_here hr h h4⟩
def getG (o i : Dt) (S : Bxs) : Rs Dt := match dkO S o with
  | some kvs => dgetG kvs i S
  | none => getL o i S
theorem getG_calm (o i : Dt) (S : Bxs) : ∀ c es S', getG o i S ≠ .ex c es S' := by
  intro c es S'
  unfold getG
  split
  · exact dgetG_calm _ _ _ _ _ _
  · exact getL_calm _ _ _ _ _ _
theorem get_sat {o i : Dt} {ov iv : V} {Q : VK} (hr : HR K H ρ S) (dO : DV K H ρ o ov) (di : DV K H ρ i iv) (h : (getG o i S).Sat (KO K H ρ Q) noX) : rGetL K ov iv H Q ∨ rDGet ov iv H Q := by
  unfold getG at h
  cases e : dkO S o with
  | none =>
    rw [e] at h
    exact .inl (getL_sat hr dO di h)
  | some kvs =>
    rw [e] at h
    exact .inr (dget_sat hr dO di e h)
/-- o[i] op= e -/
def sAugS (o i : FE) (g : G2) (f : FE) : FS := fun σ S => (o σ S).bind fun a S1 => (i σ S1).bind fun b S2 => (getG a b S2).bind fun d S3 => (f σ S3).bind fun e S4 => (g d e S4).bind fun z S5 => (setG a b z S5).bind fun _ S6 => .ok (.nx, σ) S6
theorem ss_augS {o i e : Expr} {fo fi f : FE} {op : Operator} {tip : TIp} {g : G2} {tpos pos : Pos} (hu : X.A.units + 128 < cLine) (hp : PIp X op tip) (hrp : RO X.K tip g) (hcp : Calm2 g) (ho : SE X Er o fo) (hi : SE X Er i fi) (he : SE X Er e f)
    (ha : ∀ ov iv new, augStore i ov iv new = (do holding [new, ov, iv] (setItem ov iv new); release [new, ov, iv] []; pure .next) := by intros; rfl) : SS X Er (.AugAssign (.Subscript o i tpos) op e pos) (sAugS fo fi g f) := by
  obtain ⟨to, po, qo⟩ := ho.ex
  obtain ⟨ti, pi, qi⟩ := hi.ex
  obtain ⟨te, pe, qe⟩ := he.ex
  refine ⟨_, ps_augS po pi (PGet.or get_list (get_dict (by omega))) pe hp (PSet.or set_list (set_dict (by omega))) ha, fun τ H ρ σ S D T h => qo τ H ρ σ S _ T ((link h).mono (fun a S1 h1 => ?_) fun _ _ _ q => q)⟩
  intro ov H1 ρ1 t1 hr1 da
  refine qi τ H1 ρ1 σ S1 _ (T.to t1 hr1) ((link h1).mono (fun b S2 h2 => ?_) fun _ _ _ q => q.to t1)
  intro iv H2 ρ2 t2 hr2 db
  refine get_sat hr2 (da.to t2) db (sat_calm (getG_calm _ _ _) ((link h2).mono (fun d S3 h3 => ?_) fun _ _ _ q => q))
  intro dv H3 ρ3 t3 hr3 dd
  have t13 := (t1.trans t2).trans t3
  refine qe τ H3 ρ3 σ S3 _ (T.to t13 hr3) ((link h3).mono (fun e S4 h4 => ?_) fun _ _ _ q => q.to t13)
  intro ev H4 ρ4 t4 hr4 de
  refine hrp H4 ρ4 S4 d e dv ev _ hr4 (dd.to t4) de (sat_calm (hcp _ _ _) ((link h4).mono (fun z S5 h5 => ?_) fun _ _ _ q => q))
  intro zv H5 ρ5 t5 hr5 dz
  have t25 := ((t3.trans t4).trans t5)
  refine set_sat hr5 (da.to (t2.trans t25)) (db.to t25) dz (sat_calm (setG_calm _ _ _ _) ((link h5).mono (fun _ S6 h6 => ?_) fun _ _ _ q => q))
  intro H6 t6 hr6
  have tt := (t13.trans (t4.trans t5)).trans t6
  exact h6 τ H6 ρ5 tt (T.to tt hr6)
def subI : G2 := fun x y S => match x, y with
  | .int i, .int j => .ok (.int (i - j)) S
  | _, _ => .no
theorem subI_calm : Calm2 subI := by
  intro x y S
  unfold subI
  split <;> first | exact calm_ok _ _ | exact calm_no
theorem ro_subI : RO K (rI0 fun i j => .int (i - j)) subI := by
  intro H ρ S x y xv yv Q hr dx dy h
  cases dx <;> first | exact h.elim | skip
  cases dy <;> first | exact h.elim | skip
  exact ⟨_, _, rfl, rfl, ko_here hr h (.int _)⟩
/-- a, b, c = x, y, z by plain local names -/
def sPar3 (i j l : Nat) (a : FA) : FS := fun σ S => (a σ S).bind fun ds S1 => match ds with
  | [d, e, f] => .ok (.nx, ((σ.set i (some d)).set j (some e)).set l (some f)) S1
  | _ => .no
theorem ss_par3 (i j l : Nat) {x y z : Str} {a b c : Expr} {fa : FA} {px py pz pt pos : Pos} {kt k2 pt2} (hc : X.calm = true) (hN : X.N.Nodup) (ha : SA X Er [a, b, c] fa) (hi : X.N[i]? = some x := by rfl) (hj : X.N[j]? = some y := by rfl) (hl : X.N[l]? = some z := by rfl) (hij : i ≠ j := by decide) (hil : i ≠ l := by decide) (hjl : j ≠ l := by decide)
    (hx : X.env.scope.names.lookup x = some .local := by rfl) (hy : X.env.scope.names.lookup y = some .local := by rfl) (hz : X.env.scope.names.lookup z = some .local := by rfl)
    (hw : swappedStores [.Tuple [.Name x px, .Name y py, .Name z pz] kt pt] (.Tuple [a, b, c] k2 pt2) X.env = pure (some [x, y, z]) := by rfl)
    (hs : swapsWithSole [.Tuple [.Name x px, .Name y py, .Name z pz] kt pt] (.Tuple [a, b, c] k2 pt2) pos.line X.env = pure false := by rfl) :
    SS X Er (.Assign [.Tuple [.Name x px, .Name y py, .Name z pz] kt pt] (.Tuple [a, b, c] k2 pt2) pos) (sPar3 i j l fa) := by
  obtain ⟨ta, pa, qa⟩ := ha.ex
  refine ⟨_, ps_par3 hc hN hi hj hl hij hil hjl hx hy hz pa hw hs, fun τ H ρ σ S D T h => qa τ H ρ σ S _ T ((link h).mono (fun ds S1 h1 => ?_) fun _ _ _ q => q)⟩
  intro vs H1 ρ1 t1 hr1 dvs
  rcases ds with _ | ⟨d1, _ | ⟨d2, _ | ⟨d3, _ | ⟨d4, r⟩⟩⟩⟩
  · exact h1.elim
  · exact h1.elim
  · exact h1.elim
  · cases dvs with
    | cons e1 r =>
      cases r with
      | cons e2 r =>
        cases r with
        | cons e3 r =>
          cases r
          exact ⟨_, _, _, rfl, h1 _ H1 ρ1 t1 ⟨hr1, (((T.sl.to t1).set i e1).set j e2).set l e3⟩⟩
  · exact h1.elim
end

/-! ### the law's own call -/
/-- the boxes ahead: the script alone -/
def script0 (ns : List Int) : Bxs := [.ro (ns.map Dt.int)]
theorem script_dvs {K : PySem.W.Frag} {H : Hp} {ρ : List Addr} : ∀ ns : List Int, DVs K H ρ (ns.map Dt.int) (ns.map V.int)
  | [] => .nil
  | n :: ns => .cons (.int n) (script_dvs ns)
theorem hr_script {K : PySem.W.Frag} {H : Hp} {a : Addr} {ns : List Int} (h : Ro K H a (ns.map V.int)) : HR K H [a] (script0 ns) := by
  refine ⟨rfl, fun n b e => ?_, fun n m b c x h1 h2 hb hc _ _ => ?_⟩
  · cases n with
    | zero =>
      cases e
      exact ⟨a, rfl, ns.map V.int, h, script_dvs ns⟩
    | succ n => cases e
  · cases n with
    | zero => cases h1; cases hb
    | succ n => cases h1
theorem ro_of {K : PySem.W.Frag} {H : Hp} {a : Addr} {vs : List V} (hO : Only H) (h : SqL K H a vs) : Ro K H a vs := by
  rcases h with (h | ⟨o, h⟩) | h
  · rcases hO a with z | ⟨o, xs, z⟩
    · rw [z] at h; cases h
    · rw [z] at h; cases h
  · exact .inl ⟨o, h⟩
  · exact .inr fun H' => .inr h
/-- the goal that k_head leaves, from the law's plain function: FD gives its def once, then what it comes to, over every base -/
theorem walkD {l : PySem.W.OpenLaw} {n k : Nat} {q : Program} {loose : List Str} {XP : (Str → Option Value) → Heap → Prop} {YP : World → Heap → Prop} {d : DefRec} {K : Params → PySem.W.Frag} {CX : World → CXT} {eo : World → XK → ER} {F : FN} {x : Str}
    (hn : l.most = some n) (hn2 : n ≤ sizeLine) (hdf : d.params.defaults = []) (hr : Room k callerA)
    (hY : ∀ (w : World) (h : Heap), YP w h → (K w.params).In h)
    (FD : ∀ (w : World) (mg : Str → Option Value) (fa : Addr) (h : Heap), (K w.params).In h → h.Ns mainGlobals mg → mg d.name = some (.ref fa) →
      ∃ fd : FuncData, (∀ (s : Shared) (u : Value), BindsTo s fd ⟨[u], []⟩ [(x, u)]) ∧
        ∀ base : Heap, (K w.params).In base → base.Ns mainGlobals mg → FnD l.prog w (K w.params) mg base (CX w) (eo w) k fa fd [x] F)
    (hF : ∀ ns : List Int, ns.length ≤ n → ∃ S', F [.box 0] (script0 ns) = .ok (.bl true) S')
    (hCX : ∀ (w : World) (H : Hp) (s : Shared) (e : Value) (s' : Shared), CX w [] H s (fun _ _ _ => False) e s' → False) :
    PySem.W.WalkO q loose XP YP l.row.toRowW d [] (fun f vs => PySem.call f vs) := by
  refine Att.attach_call hn hdf fun w s₀ s₁ mg mb fa o pm cd doc a vs ns G Y ho hd hcd hmg hobj hints hlen hg => ?_
  have KIn := hY w _ Y
  obtain ⟨fd, hb, hFD⟩ := FD w mg fa _ KIn G.T.g hmg
  obtain ⟨S', hS⟩ := hF ns hlen
  have hl : ns.length ≤ sizeLine := Nat.le_trans hlen hn2
  have rv := vals_ints hints
  have lenV := hints.length
  have core : ∀ H : Hp, Only H → SqL (K w.params) H a (ns.map V.int) → HOk l.prog w H s₁.heap → (∀ b, H b ≠ none → b = a) → (H a ≠ none → (K w.params).lookup a = none) →
      codeAny (model l.prog w) callerA (.call (.ref fa) ⟨[.ref a], []⟩) (fun r s' => r = .ok (.ret (.bool true)) ∧ OldK s₁.heap s'.heap ∧ s'.os = s₁.os ∧ AllBare s'.gens) s₁ := by
    intro H hO hSq hok hA hK
    have notDict : ∀ {b : Addr} {ob : Obj} {es : Array DictEntry} {ep : Nat}, s₁.heap.get? b = some ob → ob.data = .dict es ep → H b = none := by
      intro b ob es ep e dd
      cases z : H b with
      | none => rfl
      | some u =>
        obtain rfl : b = a := hA b (by rw [z]; simp)
        rw [hobj] at e
        cases e
        cases dd
    have nsK : ∀ {b : Addr} {m : Str → Option Value}, s₁.heap.Ns b m → (hidT s₁.heap H).Ns b m := by
      rintro b m ⟨ob, es, ep, e, dd, rest⟩
      exact ⟨ob, es, ep, hidT_get e (notDict e dd), dd, rest⟩
    have inB : (K w.params).In (hidT s₁.heap H) := by
      intro b ob e
      refine hidT_get (KIn b ob e) ?_
      cases z : H b with
      | none => rfl
      | some u =>
        obtain rfl : b = a := hA b (by rw [z]; simp)
        rw [hK (by rw [z]; simp)] at e
        cases e
    obtain ⟨mc, m1, m2⟩ := G.T.nolimit
    have hM : Mod (K w.params) mg (hidT s₁.heap H) := ⟨inB, nsK G.T.g, ⟨mb, nsK G.T.b, G.T.builtins⟩, mc, nsK m1, m2⟩
    have e0 : Env0 l.prog w (K w.params) mg (hidT s₁.heap H) callerA [] s₁ H :=
      ⟨rfl, hM, fun b ob e => of_hidT e, Nat.le_of_eq (hidT_size _ _), trivial, fun b hb => absurd (show b ∈ ([] : List Addr) from hb) (by simp), hok, .of_eq hg⟩
    have sat : (F [.box 0] (script0 ns)).Sat (KO (K w.params) H [a] fun v _ => v = .bl true) (KX (eo w fun _ _ _ => False) H [a]) := by
      rw [hS]
      intro v H' ρ' _ _ dv
      cases dv
      rfl
    refine codeAny_mono ((hFD _ inB (nsK G.T.g)).run callerA [] s₁ H ⟨[.ref a], []⟩ [.ref a] [.ref a] [a] (script0 ns) [.box 0] _ _ rfl hr e0 (hb s₁ (.ref a)) (.cons rfl .nil) rfl (hr_script (ro_of hO hSq)) (.cons (.box rfl) .nil) sat) fun r s' h => ?_
    cases r with
    | error e => exact (hCX w H s₁ e s' h).elim
    | ok fl =>
      cases fl with
      | next => exact False.elim h
      | brk => exact False.elim h
      | cont => exact False.elim h
      | ret u =>
        obtain ⟨v, H', os, bare, un, hok', r', hv⟩ := h
        obtain rfl : v = .bl true := hv
        obtain rfl : u = Value.bool true := r'
        refine ⟨rfl, OldK.of_keep fun b ob e => ?_, os, bare⟩
        cases z : H b with
        | none => exact un.keep b ob e z (fun y => absurd (show b ∈ ([] : List Addr) from y) (by simp)) (by simp)
        | some u =>
          rcases hO b with y | ⟨o2, xs, y⟩
          · rw [z] at y; cases y
          · obtain ⟨g1, _⟩ := hok b _ y
            obtain ⟨g2, _⟩ := hok' b _ (un.frzs b o2 _ y)
            rw [e] at g1
            cases g1
            exact g2
  cases hk : (K w.params).lookup a with
  | some ob =>
    have e := KIn a ob hk
    rw [hobj] at e
    cases e
    refine core (fun _ => none) (fun _ => .inl rfl) (.inr ⟨_, vs.toArray, _, hk, rfl, rfl, rfl, by rw [List.size_toArray, lenV]; exact hl, by simpa using rv⟩) (fun b u z => nomatch z) (fun b z => absurd rfl z) fun z => absurd rfl z
  | none =>
    let H0 : Hp := fun b => if b = a then some (.frz { cls := .type "list", data := .seq vs.toArray } (.lst (ns.map V.int))) else none
    have h0a : H0 a = some (.frz { cls := .type "list", data := .seq vs.toArray } (.lst (ns.map V.int))) := if_pos rfl
    have h0n : ∀ b, b ≠ a → H0 b = none := fun b hb => if_neg hb
    have one : ∀ b, H0 b ≠ none → b = a := fun b z => by
      by_cases hb : b = a
      · exact hb
      · exact absurd (h0n b hb) z
    refine core H0 (fun b => ?_) (.inl (.inr ⟨_, h0a⟩)) (fun b u z => ?_) one fun _ => hk
    · by_cases hb : b = a
      · subst hb
        exact .inr ⟨_, _, h0a⟩
      · exact .inl (h0n b hb)
    · obtain rfl : b = a := one b (by rw [z]; simp)
      rw [h0a] at z
      cases z
      exact ⟨hobj, by rw [List.length_map]; exact hl, vs, _, rv, hobj⟩
end Mn
namespace Mn
open PySem PySem.Spec PyProof.Rows L2
section
variable {X : Cx} {Er : ER} {a : Expr} {fa : FE} {pos pos' : Pos} {j : Nat}
theorem st_isN (ha : SE X Er a fa) : ST X Er (.Compare a [.Is] [.Constant .none j pos'] pos) (dTrue (dIsN fa)) := by
  obtain ⟨te, p, q⟩ := ha.ex
  refine ⟨_, pt_cmp (pc_isN p) rfl, fun τ H ρ σ S Q T h => q τ H ρ σ S _ T ((link (true_sat h)).mono (fun d S1 h1 => ?_) fun _ _ _ q => q)⟩
  intro v H' ρ' t hr dv
  show ∃ c, V.bl (decide (v = .non)) = V.bl c ∧ Q c H'
  rw [non_iff dv]
  exact h1 _ H' ρ' t hr (.bl _)
theorem st_notN (ha : SE X Er a fa) : ST X Er (.Compare a [.IsNot] [.Constant .none j pos'] pos) (dTrue (dNotN fa)) := by
  obtain ⟨te, p, q⟩ := ha.ex
  refine ⟨_, pt_cmp (pc_notN p) rfl, fun τ H ρ σ S Q T h => q τ H ρ σ S _ T ((link (true_sat h)).mono (fun d S1 h1 => ?_) fun _ _ _ q => q)⟩
  intro v H' ρ' t hr dv
  show ∃ c, V.bl (!decide (v = .non)) = V.bl c ∧ Q c H'
  rw [non_iff dv]
  exact h1 _ H' ρ' t hr (.bl _)
end
theorem SSs.nox {X : Cx} {Er : ER} {st : List Stmt} {f : FS} (h : SSs X.nox Er st f) : SSs X Er st f := by
  obtain ⟨t, p, q⟩ := h.ex
  exact ⟨t, p.nox, q⟩
end Mn

set_option Elab.async false
set_option linter.all false
set_option maxRecDepth 100000
set_option maxHeartbeats 4000000
/-! MnK: enumerate over a list or a tuple; comparisons in a chain; truth. -/
namespace Mn
open PySem PySem.Spec PyProof.Rows L2
theorem meets_enum1 {v : Value} {o : Obj} {Z : Heap → Prop} (B : Begins v o Z) :
    Meets (Builtin.«enumerate.__new__» ⟨[.type "enumerate", v], []⟩) (fun _ R s => Z s.heap ∧
      R (.ok (.ret (.ref (s.heap.push o).objs.size))) { s with heap := (s.heap.push o).push { cls := .type "enumerate", data := .fields #[.none, .bool false, .ref s.heap.objs.size, rawInt 0, .none, .none] } }) :=
  .of_wp fun prog w A R s h => by
    obtain ⟨hp, g, d, tk, os⟩ := s
    obtain ⟨h1, h⟩ := h
    have hsub := sub_enumerate
    have q1 : ∀ {A' : Around} {E : Value → Shared → Prop} {Q : Value → Shared → Prop}, Q (.ref hp.objs.size) ⟨hp.push o, g, d, tk, os⟩ →
        wpAny (model prog w) A' (pyIter v) Q E ⟨hp, g, d, tk, os⟩ := fun q => B.iter prog w _ _ ⟨hp, g, d, tk, os⟩ _ h1 q
    wp_walk using q1
    refine wpAny_stack_any fun st => wpAny_pure ?_
    split
    · rename_i c _ _ _ _ _
      cases (c == Value.type "enumerate") <;> (wp_walk using q1; exact ⟨_, rfl, h⟩)
    · wp_walk using q1
      exact ⟨_, rfl, h⟩
section
variable {prog : Program} {w : World} {A : Around} {E : Value → Shared → Prop} {s : Shared}
theorem enum1_begins {v : Value} {o : Obj} {Z : Heap → Prop} {Q : Value → Shared → Prop} (B : Begins v o Z) (h1 : Z s.heap)
    (h : ∀ h', IsEnum h' (s.heap.objs.size + 1) s.heap.objs.size 0 .none → h'.get? s.heap.objs.size = some o → h'.objs.size = s.heap.objs.size + 2 →
      (∀ b o, s.heap.get? b = some o → h'.get? b = some o) → Q (.ref (s.heap.objs.size + 1)) { s with heap := h' }) :
    wpAny (model prog w) A (call (.type "enumerate") [v]) Q E s := by
  refine callType_new F.called_enumerate (by decide) (F.typeCall_enumerate_1 _) (F.newCall_enumerate_1 _) (fun obj => F.args_object_init_2 obj _) F.entry_enumerate_new (meets_enum1 B) ⟨h1, ?_⟩
  have hz : (s.heap.push o).objs.size = s.heap.objs.size + 1 := Heap.size_push ..
  have he0 := Heap.get?_push_size (s.heap.push o) (o := { cls := .type "enumerate", data := .fields #[.none, .bool false, .ref s.heap.objs.size, rawInt 0, .none, .none] }) rfl
  show _ ∧ _
  rw [hz] at he0 ⊢
  exact ⟨⟨_, he0, rfl⟩, h _ he0 (Heap.get?_push_of_some _ (Heap.get?_push_size _ B.free)) (by rw [Heap.size_push, hz]) fun b o x => Heap.get?_push_of_some _ (Heap.get?_push_of_some _ x)⟩
end
def IteX (k : Bool) (K : PySem.W.Frag) (a : Addr) : It where
  go := fun i H => ∃ (xs : List V) (x : V), SqX k K H a xs ∧ xs[i]? = some x
  yld := fun i H v H' => ∃ T x, v = .ref T ∧ H T = none ∧ H' = upd H T (.tup [.int (i : Nat), x]) ∧ ∀ xs, SqX k K H a xs → xs[i]? = some x
  stop := fun i H => ∃ xs : List V, SqX k K H a xs ∧ i = xs.length
theorem turn_enumX {P : Program} {w : World} {K : PySem.W.Frag} {elts : List Expr} {kk : Nat} {tpos : Pos} {k : Bool} (a e it : Addr) (hae : a ≠ it) (hea : e ≠ a) :
    Turn P w K (.Tuple elts kk tpos) (IteX k K a) [e, it] e (fun i h => (∃ old, IsEnum h e it ((i : Nat) : Int) old) ∧ HIt k h it a i ∧ e ≠ it) where
  mem := by simp
  obj := fun i h st b hb => by
    obtain ⟨⟨old, he⟩, hi, _⟩ := st
    have e' : b = e ∨ b = it := by simpa using hb
    rcases e' with rfl | rfl
    · exact ⟨_, he, fun v q => nomatch q⟩
    · exact hi.obj
  keep := fun i h h' st f => by
    obtain ⟨⟨old, he⟩, hi, hne⟩ := st
    exact ⟨⟨old, f e (by simp) _ he⟩, hi.at fun o q => f it (by simp) o q, hne⟩
  item := by
    intro X hP hw hK hc i pins s σ H E I hf st hg
    subst hP hw hK
    obtain ⟨⟨old, he⟩, hit, hne⟩ := st
    obtain ⟨xs, x, hq, hx⟩ := hg
    obtain ⟨its, rv, p, _⟩ := sqx_inv I hq
    obtain ⟨u, hu, ru⟩ := rv.get hx
    have hel : e < s.heap.objs.size := Heap.lt_size he
    have hil : it < s.heap.objs.size := by obtain ⟨_, q, _⟩ := hit.obj; exact Heap.lt_size q
    have l1 : i < its.toArray.size := by rw [List.size_toArray]; exact (List.getElem?_eq_some_iff.mp hu).1
    have d1 := drawsX (prog := X.prog) (w := X.w) (A := X.A.in1) k (I.ok.hd hc) it a hae its.toArray
    refine wpAny_pyNext_enum_itemD d1 he ⟨hit, p⟩ l1 hne (by simp [hne, hea]) fun x1 h' tk y1 ho st' hT hsz hk => ?_
    obtain rfl : u = x1 := Option.some.inj ((show its[i]? = some u from hu).symm.trans (by simpa using y1))
    refine ⟨_, rfl, wpAny_letOwnedTupleGo_enum (s := { s with heap := h', toks := tk + 1 }) ho fun h'' he' sb => ?_⟩
    have hT2 : h''.get? s.heap.objs.size = some { cls := .type "tuple", data := .seq #[.int i tk, u] } := (sb.2 _ (Nat.ne_of_gt hel)).trans hT
    have new : ObjOk X.prog X.w (upd H s.heap.objs.size (.tup [.int (i : Nat), x])) h'' s.heap.objs.size (.tup [.int (i : Nat), x]) :=
      ⟨by show 2 ≤ sizeLine; decide, [.int i tk, u], .cons ⟨_, rfl⟩ (.cons ru .nil), ⟨_, hT2, rfl, _, rfl⟩⟩
    have I1 : Inv X pins σ (upd H s.heap.objs.size (.tup [.int (i : Nat), x])) { s with heap := h'', toks := tk + 1 } :=
      I.turnedNew (ch := [e, it]) (fun b ob hb q => (sb.2 b (fun z => hb (by simp [z]))).trans (hk b ob (fun z => hb (by simp [z])) (fun z => hb (by simp [z])) q)) hf (Nat.le_refl _) new
    refine ⟨.ref s.heap.objs.size, _, I1, rfl, ⟨_, x, rfl, I.hok.fresh (Nat.le_refl _), rfl, fun ys hy => by rw [sqx_inj I hy hq]; exact hx⟩, ⟨⟨u, ?_⟩, st'.1.at fun o q => (sb.2 it (Ne.symm hne)).trans q, hne⟩, fun b hb => ?_⟩
    · rw [show ((i + 1 : Nat) : Int) = (i : Int) + 1 by omega]
      exact he'
    · have e' : b = e ∨ b = it := by simpa using hb
      have hb' : b < s.heap.objs.size := by rcases e' with rfl | rfl <;> assumption
      rw [upd_ne (Nat.ne_of_lt hb')]
      exact (hf b hb).1
  done := by
    intro X hP hw hK hc i pins s σ H E I hf st hg
    subst hP hw hK
    obtain ⟨⟨old, he⟩, hit, hne⟩ := st
    obtain ⟨xs, hq, hx⟩ := hg
    obtain ⟨its, rv, p, _⟩ := sqx_inv I hq
    obtain ⟨f0, f1, f2, f3, f4, f5⟩ := hf it (by simp)
    have hl := rv.length
    have d1 := drawsX (prog := X.prog) (w := X.w) (A := X.A.in1) k (I.ok.hd hc) it a hae its.toArray
    have hi : i = its.toArray.size := by rw [List.size_toArray]; omega
    refine wpAny_pyNext_enum_endD d1 he (by rw [← hi]; exact ⟨hit, p⟩) fun h' eb => ⟨rfl, I.turned (t' := s.toks) (fun b o hb q => eb b o hb q) f0 f1 f3 f4 f5⟩
  self := fun A i s Q E st h => let ⟨⟨_, he⟩, _⟩ := st; wpAny_pyIter_enum he h
def iEnumX (k : Bool) (K : PySem.W.Frag) (ta : TA) : TI := fun σ H R => ta σ H fun vs H1 => ∃ a xs, vs = [.ref a] ∧ SqX k K H1 a xs ∧ R (IteX k K a) H1
theorem pi_enumX {X : Cx} {e : Expr} {ta : TA} {p pos tpos : Pos} {elts : List Expr} {kk : Nat} (k : Bool) (hg : Gl X "enumerate") (hm : X.mg "enumerate" = none) (ha : PA X [e] ta) (hs : starEach [e] X.env = [(false, eval e X.env)] := by rfl) :
    PI X (.Tuple elts kk tpos) (.Call (.Name "enumerate" p) [e] [] pos) (iEnumX k X.K ta) := by
  constructor
  intro pins s σ H R I h
  refine Call_ (ld_blt I hg hm boot_enumerate (PyProof.Rows.callWith_type1 (thn (ha.run pos pins s σ H _ I h) ?_) hs rfl))
  rintro us s1 ⟨vs, H1, I1, r1, a, xs, rfl, hq, q⟩
  obtain ⟨u, rfl, ru⟩ := r1.one
  cases ru
  obtain ⟨its, rv, p', la⟩ := sqx_inv I1 hq
  refine enum1_begins (beginsX k a its.toArray) p' fun h' he g1 hsz hk => wpAny_pyIter_enum he ?_
  have I2 : Inv X pins σ H1 { s1 with heap := h' } := I1.kept (t' := s1.toks) hk
  refine ⟨s1.heap.objs.size + 1, [s1.heap.objs.size + 1, s1.heap.objs.size], _, _, H1, rfl, I2, turn_enumX a (s1.heap.objs.size + 1) s1.heap.objs.size (Nat.ne_of_lt la) (Nat.ne_of_gt (Nat.lt_succ_of_lt la)), ⟨⟨.none, he⟩, hit_new g1, Nat.succ_ne_self _⟩, fun b hb => ?_, q⟩
  have hle : s1.heap.objs.size ≤ b := by
    have e' : b = s1.heap.objs.size + 1 ∨ b = s1.heap.objs.size := by simpa using hb
    rcases e' with z | z <;> rw [z] <;> first | exact Nat.le_add_right _ _ | exact Nat.le_refl _
  exact I1.fpOk hle (I1.hok.fresh hle)
theorem walkE {K : PySem.W.Frag} {k : Bool} {a : Addr} {n : Nat} : Walk (IteX k K a) n (fun H => ∃ vs, SqX k K H a vs ∧ vs.length = n)
    (fun i H v H' => ∃ T x, v = .ref T ∧ H T = none ∧ H' = upd H T (.tup [.int (i : Nat), x]) ∧ ∀ xs, SqX k K H a xs → xs[i]? = some x) :=
  ⟨fun i _ hi ⟨vs, q, hl⟩ => ⟨vs, vs[i]'(by omega), q, by simp [hl, hi]⟩, fun _ ⟨vs, q, hl⟩ => ⟨vs, q, hl.symm⟩, fun _ _ _ _ _ _ y => y⟩
section
variable {X : Cx} {Er : ER} {K : PySem.W.Frag} {H H1 : Hp} {ρ ρ1 : List Addr} {σ : Sg} {S S1 : Bxs} {τ : L2.St}
/-- pairs of a place and an item -/
def placed (xs : List Dt) : List (Dt × Dt) := (List.range xs.length).zipWith (fun (i : Nat) x => (Dt.int (i : Int), x)) xs
theorem placed_length (xs : List Dt) : (placed xs).length = xs.length := by
  unfold placed
  rw [List.length_zipWith, List.length_range, Nat.min_self]
theorem placed_get {xs : List Dt} {i : Nat} {p : Dt × Dt} (h : (placed xs)[i]? = some p) : ∃ x, xs[i]? = some x ∧ p = (.int (i : Int), x) := by
  unfold placed at h
  rw [List.getElem?_zipWith_eq_some] at h
  obtain ⟨j, x, h1, h2, rfl⟩ := h
  have hj : i < xs.length := (List.getElem?_eq_some_iff.mp h2).1
  rw [List.getElem?_range hj] at h1
  cases h1
  exact ⟨x, h2, rfl⟩
def srcEnum (f : FA) : Src (Dt × Dt) := fun σ S => (f σ S).bind fun ds S1 => match ds with
  | [d] => match seqOf S1 d with
    | some xs => .ok (placed xs, fun S' => seqOf S' d = some xs) S1
    | none => .no
  | _ => .no
theorem PI.or2 {tg iter : Expr} {w : Bool → TI} (h : ∀ a, PI X tg iter (w a)) : PI X tg iter (fun σ H R => ∃ a, w a σ H R) :=
  ⟨fun pins s σ H R I ⟨a, q⟩ => (h a).run pins s σ H R I q⟩
theorem si_enum {elts : List Expr} {kk : Nat} {tpos : Pos} {a : Expr} {fa : FA} {p pos : Pos} (hg : Gl X "enumerate") (hm : X.mg "enumerate" = none) (ha : SA X Er [a] fa) (hs : starEach [a] X.env = [(false, eval a X.env)] := by rfl) :
    SI X Er itP (.Tuple elts kk tpos) (.Call (.Name "enumerate" p) [a] [] pos) (srcEnum fa) := by
  obtain ⟨ta, pa, qa⟩ := ha.ex
  refine ⟨_, PI.or2 fun k => pi_enumX k hg hm pa hs, fun τ H ρ σ S R T h => ?_⟩
  have h := link h
  cases e : fa σ S with
  | no => rw [e] at h; exact h.elim
  | ex c ds s' =>
    rw [e] at h
    exact ⟨true, qa τ H ρ σ S _ T (by rw [e]; exact h)⟩
  | ok ds S1 =>
    rw [e] at h
    rcases ds with _ | ⟨d, _ | ⟨d2, dr⟩⟩
    · exact h.elim
    · cases e1 : seqOf S1 d with
      | none => simp only [Rs.Sat, e1] at h
      | some xs =>
        have h : KI X.K H ρ itP R (placed xs, fun S' => seqOf S' d = some xs) S1 := by simpa only [Rs.Sat, e1] using h
        refine ⟨d.isT, qa τ H ρ σ S _ T ?_⟩
        rw [e]
        intro vs H1 ρ1 t1 hr1 dvs
        obtain ⟨v, rfl, dv⟩ := dvs1 dvs
        obtain ⟨a, us, rfl, hs1, hd1⟩ := sqx_of hr1 dv e1
        refine ⟨a, us, rfl, hs1, h H1 ρ1 _ _ _ t1 hr1 (by rw [placed_length]; exact walkE (n := xs.length)) (fun H' ρ' S' t hr' st => ?_) fun i x y H' H'' ρ' S' t hr' st hi hy => ?_⟩
        · obtain ⟨a', us', ea, q1, q2⟩ := sqx_of hr' (dv.to t) st
          cases ea
          exact ⟨us', q1, q2.length.symm⟩
        · obtain ⟨U, x1, h1, h2, h3, h4⟩ := hy
          obtain ⟨a', us', ea, q1, q2⟩ := sqx_of hr' (dv.to t) st
          cases ea
          obtain ⟨z, hz, rfl⟩ := placed_get hi
          obtain ⟨v1, g1, g2⟩ := q2.get hz
          rw [h4 us' q1] at g1
          cases g1
          exact ⟨U, _, _, h1, h2, h3, .int _, g2⟩
    · exact h.elim

/-! ### a < b < c -/
def dChain (g g' : G2) (a b c : FE) : FE := fun σ S => (a σ S).bind fun x S1 => (b σ S1).bind fun y S2 => (g x y S2).bind fun z S3 => match z with
  | .bl true => (c σ S3).bind fun w S4 => g' y w S4
  | .bl false => .ok (.bl false) S3
  | _ => .no
theorem chain_sat {fa fb fc : FE} {g g' : G2} {ta tb tc : TE} {r r' : R2} (ha : ∀ τ H ρ σ S Q, Ty X.K H ρ σ S τ → (fa σ S).Sat (KO X.K H ρ Q) (KX Er H ρ) → ta τ H Q) (hb : ∀ τ H ρ σ S Q, Ty X.K H ρ σ S τ → (fb σ S).Sat (KO X.K H ρ Q) (KX Er H ρ) → tb τ H Q)
    (hc : ∀ τ H ρ σ S Q, Ty X.K H ρ σ S τ → (fc σ S).Sat (KO X.K H ρ Q) (KX Er H ρ) → tc τ H Q) (hr : RO X.K r g) (hcalm : Calm2 g) (hr' : RO X.K r' g') (hcalm' : Calm2 g') {Q : VK} (T : Ty X.K H ρ σ S τ) (h : (dChain g g' fa fb fc σ S).Sat (KO X.K H ρ Q) (KX Er H ρ)) : tChain r r' ta tb tc τ H Q := by
  refine ha τ H ρ σ S _ T ((link h).mono (fun x S1 h1 => ?_) fun _ _ _ q => q)
  intro xv H1 ρ1 t1 hr1 dx
  refine hb τ H1 ρ1 σ S1 _ (T.to t1 hr1) ((link h1).mono (fun y S2 h2 => ?_) fun _ _ _ q => q.to t1)
  intro yv H2 ρ2 t2 hr2 dy
  refine hr H2 ρ2 S2 x y xv yv _ hr2 (dx.to t2) dy (sat_calm (hcalm x y S2) ((link h2).mono (fun z S3 h3 => ?_) fun _ _ _ q => q))
  intro zv H3 ρ3 t3 hr3 dz
  cases dz <;> first | exact h3.elim | skip
  rename_i b
  refine ⟨b, rfl, ?_⟩
  have t13 := (t1.trans t2).trans t3
  cases b with
  | true =>
    rw [if_pos rfl]
    refine hc τ H3 ρ3 σ S3 _ (T.to t13 hr3) ((link h3).mono (fun w S4 h4 => ?_) fun _ _ _ q => q.to t13)
    intro wv H4 ρ4 t4 hr4 dw
    exact hr' H4 ρ4 S4 y w yv wv Q hr4 (dy.to (t3.trans t4)) dw (sat_calm (hcalm' y w S4) (Rs.Sat.toO (t13.trans t4) h4))
  | false =>
    rw [if_neg Bool.false_ne_true]
    exact h3 _ H3 ρ3 t13 hr3 (.bl _)
theorem se_chain {a b c : Expr} {op op' : CmpOp} {pos : Pos} {fa fb fc : FE} {g g' : G2} {r r' : R2} (ho : OpR X (compareOp op) r) (hr : RO X.K r g) (hg : Calm2 g) (ho' : OpR X (compareOp op') r') (hr' : RO X.K r' g') (hg' : Calm2 g') (ha : SE X Er a fa) (hb : SE X Er b fb) (hc : SE X Er c fc)
    (hm : lastMarks [op, op'] [b, c] = false := by with_unfolding_all rfl) : SE X Er (.Compare a [op, op'] [b, c] pos) (dChain g g' fa fb fc) := by
  obtain ⟨ta, pa, qa⟩ := ha.ex
  obtain ⟨tb, pb, qb⟩ := hb.ex
  obtain ⟨tc, pc, qc⟩ := hc.ex
  exact ⟨_, pe_chain ho ho' pa pb pc hm, fun τ H ρ σ S Q T h => chain_sat qa qb qc hr hg hr' hg' T h⟩
theorem st_chain {a b c : Expr} {op op' : CmpOp} {pos : Pos} {fa fb fc : FE} {g g' : G2} {r r' : R2} (ho : OpR X (compareOp op) r) (hr : RO X.K r g) (hg : Calm2 g) (ho' : OpR X (compareOp op') r') (hr' : RO X.K r' g') (hg' : Calm2 g') (ha : SE X Er a fa) (hb : SE X Er b fb) (hc : SE X Er c fc)
    (hm : lastMarks [op, op'] [b, c] = false := by with_unfolding_all rfl) : ST X Er (.Compare a [op, op'] [b, c] pos) (dTrue (dChain g g' fa fb fc)) := by
  obtain ⟨ta, pa, qa⟩ := ha.ex
  obtain ⟨tb, pb, qb⟩ := hb.ex
  obtain ⟨tc, pc, qc⟩ := hc.ex
  exact ⟨_, pt_chain ho ho' pa pb pc hm, fun τ H ρ σ S Q T h => chain_sat qa qb qc hr hg hr' hg' T (true_sat h)⟩
end
end Mn

set_option Elab.async false
set_option linter.all false
set_option maxRecDepth 100000
set_option maxHeartbeats 4000000
/-! MnL: sorted by a def's keys. -/
namespace Mn
open PySem PySem.Spec PyProof.Rows L2
section
variable {X : Cx} {Er : ER} {K : PySem.W.Frag} {H H1 : Hp} {ρ ρ1 : List Addr} {σ : Sg} {S S1 : Bxs} {τ : L2.St}
/-- the keys that a def makes, one by one -/
def keysF (F : FN) : List Dt → Bxs → Rs (List Int)
  | [], S => .ok [] S
  | x :: xs, S => match F [x] S with
    | .ok (.int i) S1 => (keysF F xs S1).bind fun is S2 => .ok (i :: is) S2
    | _ => .no
def keyLe (b : Bool) (p q : Dt × Int) : Bool := match b with
  | true => decide (q.2 ≤ p.2)
  | false => decide (p.2 ≤ q.2)
def byKeys (b : Bool) (xs : List Dt) (ks : List Int) : List Dt := ((xs.zip ks).mergeSort (keyLe b)).map (·.1)
def sortKG (F : FN) (b : Bool) : GC := fun ds S => match ds with
  | [d] => match seqOf S d with
    | some xs => (keysF F xs S).bind fun ks S1 => newL (byKeys b xs ks) S1
    | none => .no
  | _ => .no

/-! ### the heap's side -/
section
variable {fs : List Addr} {h h1 h2 : Heap} {P : Program} {w : World}
/-- a lies above all objects -/
def Abv (h : Heap) (a : Addr) : Prop := ∀ b o, h.get? b = some o → b < a
theorem un_skip (u : Un fs [] H H1 h h1) (k : ∀ b, (∃ o, h.get? b = some o) → ∀ o, h1.get? b = some o → h2.get? b = some o) : Un fs [] H H1 h h2 :=
  ⟨fun b o e n hf hx => k b ⟨o, e⟩ o (u.keep b o e n hf hx), fun b o e n hf hx => (u.slot b o e n hf hx).imp fun sl q => k b ⟨o, e⟩ _ q, u.free,
    fun b o e hx => (u.there b o e hx).imp fun o' q => k b ⟨o, e⟩ _ q, u.tups, u.frzs, u.tbls⟩
theorem un_new {a : Addr} {o : HO} (u : Un fs [] H H1 h h1) (ha : Abv h a) (hn : H1 a = none) : Un fs [] H (upd H1 a o) h h1 :=
  ⟨u.keep, u.slot, fun b ob e n hx => by rw [upd_ne (Nat.ne_of_lt (ha b ob e))]; exact u.free b ob e n hx, u.there,
    fun b xs e => by rw [upd_ne (ne_of_none (u.tups b xs e) hn)]; exact u.tups b xs e, fun b ob v e => by rw [upd_ne (ne_of_none (u.frzs b ob v e) hn)]; exact u.frzs b ob v e,
    fun b ps e => by
      obtain ⟨m, q⟩ := u.tbls b ps e
      exact ⟨m, by rw [upd_ne (ne_of_none q hn)]; exact q⟩⟩
/-- what is not tracked may turn -/
theorem hok_skip (ok : HOk P w H h) (k : ∀ b o, H b ≠ none → h.get? b = some o → h1.get? b = some o) : HOk P w H h1 := fun b u e =>
  (ok b u e).stay (fun c v hc q => k c v (by
    rcases hc with rfl | hc
    · rw [e]; exact fun z => nomatch z
    · rw [hc]; exact fun z => nomatch z) q) (fun _ q => q) fun _ _ q => q
theorem hok_there {a : Addr} {o : HO} (ok : HOk P w H h) (e : H a = some o) : ∃ ob, h.get? a = some ob := by
  have x := ok a o e
  revert x
  cases o <;> intro x
  · obtain ⟨_, _, _, _, e⟩ := x; exact ⟨_, e⟩
  · obtain ⟨_, _, _, o, e, _⟩ := x; exact ⟨_, e⟩
  · obtain ⟨_, _, _, _, o, _, _, e, _⟩ := x; exact ⟨_, e⟩
  · obtain ⟨_, _, _, _, o, _, _, e, _⟩ := x; exact ⟨_, e⟩
  · obtain ⟨o, _, _, _, e, _⟩ := x; exact ⟨_, e⟩
  · obtain ⟨_, _, _, e, _⟩ := x; exact ⟨_, e⟩
  · obtain ⟨_, e⟩ := x; exact ⟨_, e⟩
  · obtain ⟨_, ⟨_, _, _, e, _⟩, _⟩ := x; exact ⟨_, e⟩
  · have e : h.get? a = some _ := x; exact ⟨_, e⟩
  · obtain ⟨_, _, _, e⟩ := x; exact ⟨_, e⟩
  · obtain ⟨e, _⟩ := x; exact ⟨_, e⟩
  · have e : h.get? a = some _ := x; exact ⟨_, e⟩
  · obtain ⟨_, ⟨_, e⟩, _⟩ := x; exact ⟨_, e⟩
theorem hok_new {a : Addr} {o : HO} (ok : HOk P w H h) (hn : H a = none) (new : ObjOk P w (upd H a o) h a o) : HOk P w (upd H a o) h := fun b u e => by
  by_cases hb : b = a
  · subst hb; rw [upd_same] at e; cases e; exact new
  · rw [upd_ne hb] at e
    exact (ok b u e).stay (fun _ _ _ q => q) (fun c q => by rw [upd_ne (ne_of_none q hn)]; exact q) fun c xs q => by rw [upd_ne (ne_of_none q hn)]; exact q
end
theorem ints_data {h : Heap} : ∀ {us : List Value} {ks : List Int}, IntsAre us ks → PySem.W.EachIs (fun v d => ∃ as, Reads h v d as) us (ks.map PyData.int)
  | _, _, .nil => .nil
  | _, _, .cons n t r => .cons ⟨[], .int n t⟩ (ints_data r)
theorem ints_snoc {n : Int} {t : Tok} : ∀ {us : List Value} {ks : List Int}, IntsAre us ks → IntsAre (us ++ [.int n t]) (ks ++ [n])
  | _, _, .nil => .cons n t .nil
  | _, _, .cons m t' r => .cons m t' (ints_snoc r)
theorem ints_len : ∀ {us : List Value} {ks : List Int}, IntsAre us ks → us.length = ks.length
  | _, _, .nil => rfl
  | _, _, .cons _ _ r => congrArg (· + 1) (ints_len r)
def SortR (K : PySem.W.Frag) (H : Hp) (ρ : List Addr) (u : Value) (p : Dt × Int) : Prop := ∃ v, RelV v u ∧ DV K H ρ p.1 v
theorem sortR_each : ∀ {us : List Value} {vs : List V} {ds : List Dt} {ks : List Int}, Vals vs us → DVs K H ρ ds vs → ds.length = ks.length → PySem.W.EachIs (SortR K H ρ) us (ds.zip ks)
  | _, _, _, [], r, d, hl => by cases d <;> first | (cases r; exact .nil) | cases hl
  | _, _, _, k :: ks, r, d, hl => by
    cases d with
    | nil => cases hl
    | cons dv d =>
      cases r with
      | cons rv r => exact .cons ⟨_, rv, dv⟩ (sortR_each r d (Nat.succ.inj hl))
theorem sortR_back : ∀ {us : List Value} {ps : List (Dt × Int)}, PySem.W.EachIs (SortR K H ρ) us ps → ∃ vs, Vals vs us ∧ DVs K H ρ (ps.map (·.1)) vs
  | _, _, .nil => ⟨[], .nil, .nil⟩
  | _, _, .cons ⟨v, rv, dv⟩ r => by
    obtain ⟨vs, h1, h2⟩ := sortR_back r
    exact ⟨v :: vs, .cons rv h1, .cons dv h2⟩

theorem vals_get : ∀ {vs : List V} {us : List Value} {i : Nat} {u : Value}, Vals vs us → us[i]? = some u → ∃ v, vs[i]? = some v ∧ RelV v u
  | _, _, _, _, .nil, e => by simp at e
  | _, _, 0, _, .cons r _, e => by simp at e; subst e; exact ⟨_, rfl, r⟩
  | _, _, i + 1, u, .cons _ t, e => by
    obtain ⟨v, h1, h2⟩ := vals_get (i := i) (u := u) t (by simpa using e)
    exact ⟨v, by simpa using h1, h2⟩
/-- the state between two calls of the key -/
def KJ (X : Cx) (f : Addr) (F : FN) (b : Bool) (s : Shared) (H : Hp) (ρ : List Addr) (xs : List Dt) (Q : VK) (aL kS : Addr) (e1 : Nat) (j : Nat) (s' : Shared) : Prop :=
  ∃ Hj ρj Sj kA e, s'.os = s.os ∧ AllBare s'.gens ∧ Un (frs X.stack) [] H Hj s.heap s'.heap ∧ HOk X.prog X.w Hj s'.heap ∧ To H Hj ρ ρj ∧ HR X.K Hj ρj Sj ∧
    s'.heap.get? kS = some (seqObj "list" kA e) ∧ Hj kS = none ∧ s'.heap.get? aL = some (seqObj "list" #[] e1) ∧ Hj aL = none ∧
    ∃ ks, IntsAre kA.toList ks ∧ ks.length = j ∧ (keysF F (xs.drop j) Sj).Sat (fun ks' S1 => (newL (byKeys b xs (ks ++ ks')) S1).Sat (KO X.K H ρ Q) noX) noX
theorem stack_lt {pins : List (Addr × Obj)} {σ : L2.St} {s : Shared} (I : Inv X pins σ H s) {b : Addr} (hb : Abv s.heap b) : b ∉ frs X.stack := fun z => by
  rcases List.mem_cons.mp (I.stkSub b z) with e | e
  · obtain ⟨m, ⟨o, es, ep, ho, _⟩, _⟩ := I.loc
    rw [e] at hb; exact absurd (hb _ o ho) (Nat.lt_irrefl _)
  · obtain ⟨_, o, ho, _⟩ := I.ok.funs.mem e
    obtain ⟨o', h'⟩ := I.base.there b o ho fun z => I.ok.exfs b z e
    exact absurd (hb b o' h') (Nat.lt_irrefl _)
theorem sat_ok {α : Type} {r : Rs α} {P : α → Bxs → Prop} (h : r.Sat P noX) : ∃ a s, r = .ok a s ∧ P a s := by
  cases r with
  | ok a s => exact ⟨a, s, rfl, h⟩
  | ex c ds s => exact h.elim
  | no => exact h.elim
theorem kj_call {CX : CXT} {eo : XK → ER} {E : XK} {k : Nat} {f : Addr} {fd : FuncData} {x : Str} {F : FN} {b : Bool} {pins : List (Addr × Obj)} {τ : L2.St} {s s' : Shared} {xs : List Dt} {ws : List V} {its : List Value} {Q : VK} {aL kS : Addr} {e1 j : Nat} {u : Value}
    (FD : FnD X.prog X.w X.K X.mg X.base CX eo k f fd [x] F) (hgd : X.A.guards = some []) (hr : Room (k + 1) X.A) (hb : Binds X.K fd [x] []) (hCX : ∀ o H s e s', CX o H s E e s' → False)
    (I : Inv X pins τ H s) (hv : Vals ws its) (hd : DVs X.K H ρ xs ws) (hu : its[j]? = some u) (J : KJ X f F b s H ρ xs Q aL kS e1 j s') (hka : kS ≠ aL) (ha : Abv s.heap aL) (hk : Abv s.heap kS) {E' : Value → Shared → Prop} :
    wpAny (model X.prog X.w) X.A.in1.in1 (call (.ref f) [u]) (fun r s'' => ∃ Hj ρj Sj kA e, s''.os = s.os ∧ AllBare s''.gens ∧ Un (frs X.stack) [] H Hj s.heap s''.heap ∧ HOk X.prog X.w Hj s''.heap ∧ To H Hj ρ ρj ∧ HR X.K Hj ρj Sj ∧
      s''.heap.get? kS = some (seqObj "list" kA e) ∧ Hj kS = none ∧ s''.heap.get? aL = some (seqObj "list" #[] e1) ∧ Hj aL = none ∧ kA.size = j ∧
      ∃ ks i t, r = .int i t ∧ IntsAre (kA.toList ++ [r]) (ks ++ [i]) ∧ ks.length = j ∧ (keysF F (xs.drop (j + 1)) Sj).Sat (fun ks' S1 => (newL (byKeys b xs ((ks ++ [i]) ++ ks')) S1).Sat (KO X.K H ρ Q) noX) noX) E' s' := by
  obtain ⟨Hj, ρj, Sj, kA, e, os, bare, un, hok, t1, hr1, nk, hk0, na, ha0, ks, hi, hl, hs⟩ := J
  obtain ⟨hh, g, dd, tk, os'⟩ := s'
  obtain rfl : os' = s.os := os
  have I' : Inv X pins τ Hj ⟨hh, g, dd, tk, s.os⟩ := I.call (h' := hh) (g' := g) (d' := dd) (t' := tk) (ch := []) un hok bare (fun b z => absurd z (by simp))
  obtain ⟨v, hv1, rv⟩ : ∃ v, ws[j]? = some v ∧ RelV v u := vals_get hv hu
  obtain ⟨d, hd1, dv⟩ := hd.get' hv1
  have hjl : j < xs.length := (List.getElem?_eq_some_iff.mp hd1).1
  have hdr : xs.drop j = d :: xs.drop (j + 1) := by rw [List.drop_eq_getElem_cons hjl]; congr; exact (List.getElem?_eq_some_iff.mp hd1).2
  rw [hdr] at hs
  unfold keysF at hs
  have e0 := I'.env0
  have e2 : Env0 X.prog X.w X.K X.mg X.base X.A.in1.in1 X.stack ⟨hh, g, dd, tk, s.os⟩ Hj := ⟨e0.frames, e0.mod, e0.bs, e0.bsz, e0.funs, e0.frf, e0.hok, e0.bare⟩
  have room : Room k X.A.in1.in1 := ⟨hr.hd, by have := hr.dp; show X.A.depth + 3 * k + 5 < _; omega, by have := hr.un; show X.A.units + 1 + 1 + 16 * k + 200 < _; omega⟩
  cases hF : F [d] Sj with
  | no => rw [hF] at hs; exact hs.elim
  | ex c ds S2 => rw [hF] at hs; exact hs.elim
  | ok r S2 =>
    rw [hF] at hs
    cases r with
    | int i =>
      have hs := link hs
      refine wpAny_call (codeAny_mono (FD.run X.A.in1.in1 X.stack _ Hj ⟨[u], []⟩ ([u] ++ []) [v] ρj Sj [d] (fun v' H' => v' = .int i ∧ ∃ ρ', To Hj H' ρj ρ' ∧ HR X.K H' ρ' S2) E hgd room e2 (hb _ [u] I'.kIn rfl) (.cons rv .nil) rfl hr1 (.cons (dv.to t1) .nil) ?_) fun rr s'' hq => ?_)
      · rw [hF]
        intro v' H' ρ' t' hr' dv'
        cases dv'
        exact ⟨rfl, ρ', t', hr'⟩
      · cases rr with
        | error e => exact (hCX _ _ _ _ _ hq).elim
        | ok fl =>
          cases fl with
          | ret r =>
            obtain ⟨v', H', os2, bare2, un2, hok2, rv2, rfl, ρ', t2, hr2⟩ := hq
            obtain ⟨t, rfl⟩ := rv2
            have kk : kS ∉ frs X.stack := stack_lt I hk
            have ka : aL ∉ frs X.stack := stack_lt I ha
            refine ⟨H', ρ', S2, kA, e, os2, bare2, un.trans un2, hok2, t1.trans t2, hr2, un2.keep _ _ nk hk0 kk (by simp), un2.free _ _ nk hk0 (by simp), un2.keep _ _ na ha0 ka (by simp), un2.free _ _ na ha0 (by simp), ?_, ks, i, t, rfl, ints_snoc hi, hl, ?_⟩
            · rw [← hl, ← ints_len hi, Array.length_toList]
            · refine hs.mono (fun ks' S3 q => ?_) fun _ _ _ q => q
              rw [List.append_assoc]
              exact q
          | next => exact False.elim hq
          | brk => exact False.elim hq
          | cont => exact False.elim hq
    | _ => exact hs.elim

theorem keysF_calm (F : FN) : ∀ xs S c es S', keysF F xs S ≠ .ex c es S'
  | [], S, c, es, S' => by unfold keysF; exact fun z => nomatch z
  | x :: xs, S, c, es, S' => by
    unfold keysF
    split
    · cases e : keysF F xs _ with
      | ok a s => rw [Rs.bind_ok]; exact fun z => nomatch z
      | ex c2 ds s => exact (keysF_calm F xs _ _ _ _ e).elim
      | no => rw [Rs.bind_no]; exact fun z => nomatch z
    · exact fun z => nomatch z
theorem sortKG_calm (F : FN) (b : Bool) : CalmC (sortKG F b) := by
  intro ds S c es S'
  unfold sortKG
  split
  · split
    · rename_i xs _
      cases e : keysF F xs S with
      | ok a s => rw [Rs.bind_ok]; exact newL_calm _ _ _ _ _
      | ex c2 ds s => exact (keysF_calm F _ _ _ _ _ e).elim
      | no => rw [Rs.bind_no]; exact calm_no _ _ _
    · exact calm_no _ _ _
  · exact calm_no _ _ _
theorem le_keys (b : Bool) : PySem.W.dataLe b (fun p : Dt × Int => PyData.int p.2) = keyLe b := by
  cases b with
  | false => rw [PySem.W.dataLe_int]; rfl
  | true => rw [PySem.W.dataGe_int]; rfl
theorem each_zip {R : Value → PyData → Prop} : ∀ {us : List Value} {xs : List Dt} {ks : List Int}, PySem.W.EachIs R us (ks.map PyData.int) → xs.length = ks.length → PySem.W.EachIs (fun u (p : Dt × Int) => R u (.int p.2)) us (xs.zip ks)
  | [], [], [], _, _ => .nil
  | _, x :: xs, [], _, h => by cases h
  | _, [], k :: ks, _, h => by cases h
  | [], _ :: _, _ :: _, e, _ => by cases e
  | _ :: _, [], [], e, _ => by cases e
  | u :: us, x :: xs, k :: ks, e, h => by
    cases e with
    | cons h1 t => exact .cons h1 (each_zip t (Nat.succ.inj h))
theorem freed_none {h : Heap} {a : Addr} {o : Obj} (e : h.get? a = some o) : (h.update a fun o => { o with data := .freed }).get? a = none := by
  have h1 := ((Heap.get?_eq_some h a _).mp e).1
  unfold Heap.get?
  rw [Heap.objs_update_self, h1]
  rfl
/-- behind the calls: the sort itself -/
theorem kj_end {f : Addr} {F : FN} {b : Bool} {pins : List (Addr × Obj)} {τ : L2.St} {s s' : Shared} {xs : List Dt} {ws : List V} {its : List Value} {Q : VK} {aL kS : Addr} {e1 : Nat}
    (I : Inv X pins τ H s) (hv : Vals ws its) (hd : DVs X.K H ρ xs ws) (J : KJ X f F b s H ρ xs Q aL kS e1 its.length s') (hka : kS ≠ aL) (ha : Abv s.heap aL) (hk : Abv s.heap kS) (hz : its.length ≤ sizeLine) (hu : X.A.units + 66 < cLine) {E' : Value → Shared → Prop} :
    wpAny (model X.prog X.w) X.A.in1.in1 (do
      let keys ← Builtin.List.listItems (.ref kS)
      ksk_end aL b its.toArray e1 (.ref kS) keys) (fun fin s'' => fin = .done (.ret .none) ∧ EP X pins τ Q (.ref aL) s'') E' s' := by
  obtain ⟨Hj, ρj, Sj, kA, e, os, bare, un, hok, t1, hr1, nk, hk0, na, ha0, ks, hi, hl, hs⟩ := J
  have hxl : xs.length = its.length := by rw [hd.length]; exact hv.length
  rw [← hxl, List.drop_length] at hs
  unfold keysF at hs
  have hs : (newL (byKeys b xs (ks ++ [])) Sj).Sat (KO X.K H ρ Q) noX := hs
  rw [List.append_nil] at hs
  obtain ⟨hlim, hs⟩ := newL_ok hs
  have hsz : kA.size = its.length := by rw [← hl, ← ints_len hi, Array.length_toList]
  refine wpAny_bind (listItems_at nk rfl ?_)
  have hk' := ints_data (h := s'.heap) hi
  have hal : PySem.W.AllAlike (ks.map PyData.int) := PySem.W.AllAlike.of fun _ _ => by simp [PySem.W.alike]
  have hsk : PySem.W.Sortable (ks.map PyData.int) := PySem.W.Sortable.others fun _ => ⟨(fun z => nomatch z), (fun _ z => nomatch z)⟩
  have hun : ∀ d, d ∈ ks.map PyData.int → X.A.in1.in1.units + d.depth < cLine := fun d hd => by
    obtain ⟨i, _, rfl⟩ := List.mem_map.mp hd
    show X.A.units + 1 + 1 + PyData.depth (.int i) < cLine
    have e : PyData.depth (.int i) = 0 := by simp [PyData.depth]
    omega
  have sd := PySem.W.SortsAt.data (s := s') (A := X.A.in1.in1) (prog := X.prog) (w := X.w) hk' hal hsk hun
  have hx : (s'.heap.update kS fun o => { o with data := .freed }).get? kS = none := by
    exact freed_none nk
  have kp : PySem.W.KeepsBut aL (s'.heap.update kS fun o => { o with data := .freed }) s'.heap := fun b' o hb q => by
    by_cases hbk : b' = kS
    · rw [hbk, hx] at q; cases q
    · rw [Heap.get?_update_ne _ _ _ _ hbk] at q; exact q
  refine PySem.W.keyH_end (h₁ := s'.heap.update kS fun o => { o with data := .freed }) kp hx nk na hka sd hsz hz fun h3 tk3 c k3 n3 => ⟨rfl, ?_⟩
  have hb1 : PySem.W.EachIs (SortR X.K Hj ρj) its (xs.zip ks) := sortR_each hv (hd.to t1) (by rw [hl, hxl])
  have hb2 : PySem.W.EachIs (fun v (p : Dt × Int) => (PySem.W.dataKind s'.heap (ks.map PyData.int)).keyOf v = some (PySem.W.keyToks (.int p.2))) kA.toList (xs.zip ks) := by
    exact each_zip (R := fun v d => (PySem.W.dataKind s'.heap (ks.map PyData.int)).keyOf v = some (PySem.W.keyToks d)) (PySem.W.each_keys hal hk') (by rw [hl, hxl])
  have hb3 := PySem.W.sortVals_each (rev := b) (κ := PySem.W.dataKind s'.heap (ks.map PyData.int)) (fun p : Dt × Int => PySem.W.keyToks (.int p.2)) hb1 hb2
  have hb4 : PySem.W.EachIs (SortR X.K Hj ρj) (PySem.W.sortVals (PySem.W.dataKind s'.heap (ks.map PyData.int)) b kA.toList its) ((xs.zip ks).mergeSort (keyLe b)) := by
    rw [← le_keys b]; exact hb3
  obtain ⟨vs, hv5, hd5⟩ := sortR_back hb4
  obtain ⟨hh, g, dd, tk, os'⟩ := s'
  obtain rfl : os' = s.os := os
  have hzl : vs.length ≤ sizeLine := by
    rw [← hd5.length]
    exact Nat.le_trans hlim (by decide)
  have keep3 : ∀ b' o, b' ≠ aL → b' ≠ kS → hh.get? b' = some o → h3.get? b' = some o := fun b' o h1 h2 q => k3 b' o h1 (by rw [Heap.get?_update_ne _ _ _ _ h2]; exact q)
  have un3 : Un (frs X.stack) [] H (upd Hj aL (.lst vs)) s.heap h3 := un_skip (un_new un ha ha0) fun b' ⟨ob, hb⟩ o q => keep3 b' o (Nat.ne_of_lt (ha b' ob hb)) (Nat.ne_of_lt (hk b' ob hb)) q
  have hok3 : HOk X.prog X.w Hj h3 := hok_skip hok fun b' o hn q => keep3 b' o (fun z => hn (by rw [z]; exact ha0)) (fun z => hn (by rw [z]; exact hk0)) q
  have new3 : ObjOk X.prog X.w (upd Hj aL (.lst vs)) h3 aL (.lst vs) := ⟨hzl, _, c, hv5, n3⟩
  have hok4 := hok_new hok3 ha0 new3
  have I3 : Inv X pins τ (upd Hj aL (.lst vs)) ⟨h3, g, dd, tk3, s.os⟩ := I.call (h' := h3) (g' := g) (d' := dd) (t' := tk3) (ch := []) un3 hok4 bare (fun b z => absurd z (by simp))
  refine ⟨.ref aL, _, I3, rfl, ?_⟩
  have hr5 := hr1.new ha0 hd5
  exact hs (.ref aL) _ (ρj ++ [aL]) (t1.trans ⟨Ext.new ha0, List.prefix_append _ _⟩) hr5 (.box (by rw [← hr1.len, List.getElem?_append_right (Nat.le_refl _), Nat.sub_self]; rfl))

theorem kj_rest {CX : CXT} {eo : XK → ER} {E : XK} {k : Nat} {f : Addr} {fd : FuncData} {x : Str} {F : FN} {b : Bool} {pins : List (Addr × Obj)} {τ : L2.St} {s s' : Shared} {xs : List Dt} {ws : List V} {its : List Value} {Q : VK} {aL kS : Addr} {e1 : Nat}
    (FD : FnD X.prog X.w X.K X.mg X.base CX eo k f fd [x] F) (hgd : X.A.guards = some []) (hr : Room (k + 1) X.A) (hb : Binds X.K fd [x] []) (hCX : ∀ o H s e s', CX o H s E e s' → False)
    (I : Inv X pins τ H s) (hv : Vals ws its) (hd : DVs X.K H ρ xs ws) (hka : kS ≠ aL) (ha : Abv s.heap aL) (hk : Abv s.heap kS) (hz : its.length ≤ sizeLine) (J0 : KJ X f F b s H ρ xs Q aL kS e1 0 s') {E' : Value → Shared → Prop} :
    wpAny (model X.prog X.w) X.A.in1.in1 (ksk_rest aL (.ref f) b its.toArray e1 (.ref kS)) (fun fin s'' => fin = .done (.ret .none) ∧ EP X pins τ Q (.ref aL) s'') E' s' := by
  have hu : X.A.units + 66 < cLine := by have := hr.un; omega
  unfold ksk_rest
  refine wpAny_bind (wpAny_rule ?_)
  rw [List.forIn_toArray]
  refine wpAny_bind (ksk_fold (KJ X f F b s H ρ xs Q aL kS e1) its 0 s' J0 (fun j u s2 hj J => ?_) fun s2 J => ?_)
  · rw [Nat.zero_add] at J ⊢
    have hjl : j < its.length := (List.getElem?_eq_some_iff.mp hj).1
    refine wpAny_bind (wpAny_attempt (wpAny_mono (kj_call FD hgd hr hb hCX I hv hd hj J hka ha hk (E' := fun _ _ => False)) (fun r s3 hq => ?_) fun _ _ z => z.elim))
    obtain ⟨Hj, ρj, Sj, kA, e, os, bare, un, hok, t1, hr1, nk, hk0, na, ha0, hsz, ks, i, t, rfl, hi, hl, hs⟩ := hq
    have hz2 : kA.size ≤ sizeLine := by rw [hsz]; exact Nat.le_trans (Nat.le_of_lt hjl) hz
    refine wpAny_bind (listUpdate_at nk rfl ?_ hz2 (by rw [Array.size_push]; exact Nat.succ_le_succ hz2))
    have sb := Heap.SameBut.update s3.heap kS (Obj.mapSeq (·.push (.int i t)))
    obtain ⟨c2, hc2⟩ : ∃ c2, (s3.heap.update kS (Obj.mapSeq (·.push (.int i t)))).get? kS = some (seqObj "list" (kA.push (.int i t)) c2) := ⟨_, get?_update_seq nk _⟩
    refine wpAny_pure ⟨rfl, Hj, ρj, Sj, kA.push (.int i t), c2, os, bare, ?_, ?_, t1, hr1, hc2, hk0, (sb.2 aL hka.symm).trans na, ha0, ks ++ [i], ?_, ?_, hs⟩
    · exact un_skip un fun b' ⟨ob, hb'⟩ o q => (sb.2 b' (Nat.ne_of_lt (hk b' ob hb'))).trans q
    · exact hok_skip hok fun b' o hn q => (sb.2 b' (fun z => hn (by rw [z]; exact hk0))).trans q
    · rw [show (kA.push (.int i t)).toList = kA.toList ++ [.int i t] by simp]; exact hi
    · rw [List.length_append, hl]; rfl
  · rw [Nat.zero_add] at J
    exact kj_end I hv hd J hka ha hk hz hu
/-- sorted(items, key=f, reverse=b) of a list or a tuple -/
theorem sortK_run {CX : CXT} {eo : XK → ER} {E : XK} {k : Nat} {f : Addr} {fd : FuncData} {x : Str} {F : FN} {b : Bool} {pins : List (Addr × Obj)} {τ : L2.St} {s : Shared} {xs : List Dt} {ws : List V} {its : List Value} {Q : VK} {a : Addr} {T : String} {o : Obj} {n : Nat} {kw : List (Str × Value)}
    (FD : FnD X.prog X.w X.K X.mg X.base CX eo k f fd [x] F) (hgd : X.A.guards = some []) (hr : Room (k + 1) X.A) (hb : Binds X.K fd [x] []) (hCX : ∀ o H s e s', CX o H s E e s' → False)
    (ha1 : argsOk "sorted" ⟨[.ref a], kw⟩) (ha2 : ∀ x, argsOk "list.sort" ⟨[.ref x], kw⟩) (hkw : ∀ x, Builtin.«list.sort» ⟨[.ref x], kw⟩ = ksk_tree x (.ref f) b)
    (I : Inv X pins τ H s) (hR : HR X.K H ρ S) (hT : T = "list" ∨ T = "tuple") (ho : s.heap.get? a = some o) (hc : o.cls = .type T) (hdat : o.data = .seq its.toArray n) (hv : Vals ws its) (hd : DVs X.K H ρ xs ws) (hz : its.length ≤ sizeLine)
    (hs : (keysF F xs S).Sat (fun ks S1 => (newL (byKeys b xs ks) S1).Sat (KO X.K H ρ Q) noX) noX) {E' : Value → Shared → Prop} :
    wpAny (model X.prog X.w) X.A (call (.builtin "sorted") [.ref a] kw) (EP X pins τ Q) E' s := by
  refine call_function_entry_kw kind_sorted plain_sorted entry_sorted ha1 ?_
  unfold Builtin.«sorted»
  refine wpAny_bind (m := checkCount "sorted" 1 1 _) (wpAny_pure ?_)
  refine wpAny_bind (wpAny_collect_seq a hT ho hc hdat (fun g1 hk1 => ?_) (by rw [List.size_toArray]; exact hz))
  refine wpAny_bind (wpAny_newList ?_ hz)
  have ha0 : Abv s.heap g1.objs.size := fun b o e => Heap.lt_size (hk1 b o e)
  have hoL : (g1.push (seqObj "list" its.toArray 0)).get? g1.objs.size = some (seqObj "list" its.toArray 0) := Heap.get?_push_size _ rfl
  refine wpAny_bind (wpAny_holding (wpAny_call_entry_kw slot_list_sort ⟨_, hoL, rfl⟩ entry_list_sort ?_ (ha2 _)))
  rw [hkw]
  unfold ksk_tree
  obtain ⟨e1, ho1⟩ : ∃ e1, ((g1.push (seqObj "list" its.toArray 0)).update g1.objs.size (Obj.mapSeq fun _ => #[])).get? g1.objs.size = some (seqObj "list" #[] e1) := ⟨_, get?_update_seq hoL (fun _ => #[])⟩
  refine wpAny_bind (listItems_at hoL rfl ?_)
  refine wpAny_bind (listUpdate_at hoL rfl ?_ (by rw [List.size_toArray]; exact hz) (Nat.zero_le _))
  refine wpAny_bind (seqEpoch_at ho1 rfl ?_)
  refine wpAny_bind (wpAny_newTuple ?_ (by show its.length ≤ _; exact hz))
  refine wpAny_bind (wpAny_newList ?_ (Nat.zero_le _))
  refine wpAny_holding ?_
  have z2 : ((g1.push (seqObj "list" its.toArray 0)).update g1.objs.size (Obj.mapSeq fun _ => #[])).objs.size = g1.objs.size + 1 := by rw [Heap.size_update, size_push']
  have hkS : (((g1.push (seqObj "list" its.toArray 0)).update g1.objs.size (Obj.mapSeq fun _ => #[])).push (seqObj "tuple" its.toArray 0)).objs.size = g1.objs.size + 2 := by rw [size_push', z2]
  have hk0 : Abv s.heap (((g1.push (seqObj "list" its.toArray 0)).update g1.objs.size (Obj.mapSeq fun _ => #[])).push (seqObj "tuple" its.toArray 0)).objs.size := fun b o e => by rw [hkS]; exact Nat.lt_succ_of_lt (Nat.lt_succ_of_lt (ha0 b o e))
  have fr : ∀ c, Abv s.heap c → H c = none := fun c hc => by
    cases q : H c with
    | none => rfl
    | some u =>
      obtain ⟨o, ho⟩ := hok_there I.hok q
      exact absurd (hc c o ho) (Nat.lt_irrefl _)
  have keepG : ∀ b o, s.heap.get? b = some o → ((((g1.push (seqObj "list" its.toArray 0)).update g1.objs.size (Obj.mapSeq fun _ => #[])).push (seqObj "tuple" its.toArray 0)).push (seqObj "list" #[] 0)).get? b = some o := fun b o e => by
    refine Heap.get?_push_of_some _ (Heap.get?_push_of_some _ ?_)
    rw [Heap.get?_update_ne _ _ _ _ (Nat.ne_of_lt (ha0 b o e))]
    exact Heap.get?_push_of_some _ (hk1 b o e)
  have J0 : KJ X f F b s H ρ xs Q g1.objs.size (((g1.push (seqObj "list" its.toArray 0)).update g1.objs.size (Obj.mapSeq fun _ => #[])).push (seqObj "tuple" its.toArray 0)).objs.size e1 0
      { s with heap := (((g1.push (seqObj "list" its.toArray 0)).update g1.objs.size (Obj.mapSeq fun _ => #[])).push (seqObj "tuple" its.toArray 0)).push (seqObj "list" #[] 0) } :=
    ⟨H, ρ, S, #[], 0, rfl, I.bare, Un.kept keepG, I.hok.kept keepG, To.refl _ _, hR, Heap.get?_push_size _ rfl, fr _ hk0, Heap.get?_push_of_some _ (Heap.get?_push_of_some _ ho1), fr _ ha0, [], .nil, rfl, hs⟩
  refine wpAny_mono (Q := fun fin s'' => fin = .done (.ret .none) ∧ EP X pins τ Q (.ref g1.objs.size) s'') (E := fun _ _ => False) (kj_rest (s := s) FD hgd hr hb hCX I hv hd (by rw [hkS]; exact Nat.ne_of_gt (Nat.lt_succ_of_lt (Nat.lt_succ_self _))) ha0 hk0 hz J0) (fun fin s' hq => ?_) fun _ _ z => z.elim
  obtain ⟨rfl, q⟩ := hq
  exact ⟨_, rfl, wpAny_pure ⟨_, rfl, q⟩⟩

def SortKR (X : Cx) (F : FN) (b : Bool) (f : Addr) : List V → List V → Hp → VK → Prop := fun vs zs H Q => ∃ ρ S d v xs, vs = [v] ∧ zs = [.ref f, .bl b] ∧ HR X.K H ρ S ∧ DV X.K H ρ d v ∧ seqOf S d = some xs ∧
  (keysF F xs S).Sat (fun ks S1 => (newL (byKeys b xs ks) S1).Sat (KO X.K H ρ Q) noX) noX
theorem cr_sortK {CX : CXT} {eo : XK → ER} {E : XK} {k : Nat} {f : Addr} {fd : FuncData} {x : Str} {F : FN} {b : Bool}
    (FD : FnD X.prog X.w X.K X.mg X.base CX eo k f fd [x] F) (hgd : X.A.guards = some []) (hr : Room (k + 1) X.A) (hb : Binds X.K fd [x] []) (hCX : ∀ o H s e s', CX o H s E e s' → False) :
    CallRK X (.builtin "sorted") [Str.ofString "key", Str.ofString "reverse"] (SortKR X F b f) := by
  rintro pins s τ H vs zs us ws Q I r rz ⟨ρ, S, d, v, xs, rfl, rfl, hR, dv, hq, hs⟩
  obtain ⟨u, rfl, rv⟩ := vals1 r
  obtain ⟨w1, w2, rfl, e1, e2⟩ := vals2 rz
  obtain rfl : w1 = Value.ref f := e1
  obtain rfl : w2 = Value.bool b := e2
  obtain ⟨a, vs, rfl, hx, hd⟩ := sqx_of hR dv hq
  obtain rfl : u = Value.ref a := rv
  have go : ∀ {its : List Value} {T : String} {o : Obj} {n : Nat}, (T = "list" ∨ T = "tuple") → s.heap.get? a = some o → o.cls = .type T → o.data = .seq its.toArray n → Vals vs its → vs.length ≤ sizeLine →
      wpAny (model X.prog X.w) X.A (call (.builtin "sorted") [.ref a] [(Str.ofString "key", .ref f), (Str.ofString "reverse", .bool b)]) (EP X pins τ Q) X.xe s := fun hT ho hc hdat hv hz =>
    sortK_run FD hgd hr hb hCX (ksk_s2 _ _ _) (fun _ => ksk_l2 _ _ _) (fun x => ksk_t2 f x b) I hR hT ho hc hdat hv hd (by rw [← hv.length]; exact hz) hs
  cases hk : d.isT with
  | true =>
    rw [hk] at hx
    obtain ⟨its, hv, ⟨o, ho, hc, n, hdat⟩, hz⟩ := I.tuple (show SqT X.K H a vs from hx)
    exact go (.inr rfl) ho hc hdat hv hz
  | false =>
    rw [hk] at hx
    obtain ⟨its, hv, ⟨o, n, ho, hc, _, hdat⟩, hz⟩ := I.list (show SqL X.K H a vs from hx)
    exact go (.inl rfl) ho hc hdat hv hz
theorem se_sortK {CX : CXT} {eo : XK → ER} {E : XK} {k : Nat} {f : Addr} {fd : FuncData} {x : Str} {F : FN} {b : Bool} {fn : Str} {p p1 p2 p3 p4 pos : Pos} {j : Nat} {e : Expr} {fa : FA}
    (FD : FnD X.prog X.w X.K X.mg X.base CX eo k f fd [x] F) (hgd : X.A.guards = some []) (hr : Room (k + 1) X.A) (hb : Binds X.K fd [x] []) (hCX : ∀ o H s e s', CX o H s E e s' → False)
    (hg : Gl X "sorted") (hm : X.mg "sorted" = none) (hgf : Gl X fn) (hmf : X.mg fn = some (.ref f)) (ha : SA X Er [e] fa) (hdb : (fn == ("__debug__" : Str)) = false := by decide)
    (he : backTo pos (starEach (e :: []) X.env) = (false, eval e X.env) :: backTo pos (starEach [] X.env) := by rfl) (hpl : (backTo pos (starEach (e :: []) X.env)).any (·.1) = false := by rfl)
    (hall : (backToKw pos (keywordEach [⟨some (Str.ofString "key"), .Name fn p1, p2⟩, ⟨some (Str.ofString "reverse"), .Constant (.bool b) j p3, p4⟩] X.env)).all (·.1.isSome) = true := by rfl)
    (hnone : (backToKw pos (keywordEach [⟨some (Str.ofString "key"), .Name fn p1, p2⟩, ⟨some (Str.ofString "reverse"), .Constant (.bool b) j p3, p4⟩] X.env)).any (·.1.isNone) = false := by rfl)
    (hks : (backToKw pos (keywordEach [⟨some (Str.ofString "key"), .Name fn p1, p2⟩, ⟨some (Str.ofString "reverse"), .Constant (.bool b) j p3, p4⟩] X.env)).filterMap (·.1) = [Str.ofString "key", Str.ofString "reverse"] := by rfl) :
    SE X Er (.Call (.Name "sorted" p) [e] [⟨some (Str.ofString "key"), .Name fn p1, p2⟩, ⟨some (Str.ofString "reverse"), .Constant (.bool b) j p3, p4⟩] pos) (dCall (sortKG F b) fa) := by
  obtain ⟨ta, pa, qa⟩ := ha.ex
  refine ⟨_, pe_callBK (cr_sortK (b := b) FD hgd hr hb hCX) hg hm (by rfl) pa (pk_cons (pe_glob hgf hmf (v := .ref f) rfl hdb) (pk_cons pe_bl pk_nil)) (by decide) (by decide) he hpl hall hnone hks, fun τ H ρ σ S Q T h => ?_⟩
  refine qa τ H ρ σ S _ T ((link h).mono (fun ds S1 h1 => ?_) fun _ _ _ q => q)
  intro vs H1 ρ1 t1 hr1 dvs
  have h1 := sat_calm (sortKG_calm F b ds S1) (Rs.Sat.toO t1 h1)
  show SortKR X F b f vs [.ref f, .bl b] H1 Q
  unfold sortKG at h1
  split at h1
  · obtain ⟨v, rfl, dv⟩ := dvs1 dvs
    split at h1
    · rename_i xs hq
      exact ⟨ρ1, S1, _, v, xs, rfl, rfl, hr1, dv, hq, link h1⟩
    · exact h1.elim
  · exact h1.elim
end
end Mn

set_option Elab.async false
set_option linter.all false
set_option maxRecDepth 100000
set_option maxHeartbeats 4000000
/-! MnM: min; xs.extend(ys). -/
namespace Mn
open PySem PySem.Spec PyProof.Rows L2
section
variable {X : Cx} {Er : ER} {K : PySem.W.Frag} {H H1 : Hp} {ρ ρ1 : List Addr} {σ : Sg} {S S1 : Bxs} {τ : L2.St}
def minI (ns : List Int) : Int := -(maxI (ns.map fun i => -i))
theorem minI_of {ns : List Int} {m : Int} (h : m ∈ ns) (hm : ∀ y, y ∈ ns → m ≤ y) : minI ns = m := by
  unfold minI
  rw [maxI_of (m := -m) (List.mem_map.mpr ⟨m, h, rfl⟩) fun y hy => by
    obtain ⟨z, hz, rfl⟩ := List.mem_map.mp hy
    have := hm z hz
    omega]
  omega
def minG : GC := fun ds S => match ds with
  | [.int i, .int j] => .ok (.int (if j < i then j else i)) S
  | [d] => match seqOf S d with
    | some xs => match intsOf xs with
      | some ns => if ns ≠ [] then .ok (.int (minI ns)) S else .no
      | none => .no
    | none => .no
  | _ => .no
theorem minG_calm : CalmC minG := by
  intro ds S c es S'
  unfold minG
  split
  · exact calm_ok _ _ _ _ _
  · split
    · split
      · exact calm_ite (calm_ok _ _) _ _ _
      · exact calm_no _ _ _
    · exact calm_no _ _ _
  · exact calm_no _ _ _
def rMinA (K : PySem.W.Frag) : List V → Hp → VK → Prop := fun xs H Q => (∃ i j, xs = [.int i, .int j] ∧ Q (.int (if j < i then j else i)) H) ∨ (rMin K xs H Q ∨ rMinT K xs H Q)
theorem call_minA (hc : X.calm = true) : CallR X (.builtin "min") (rMinA X.K) := (call_min2 hc).or ((cr_min hc).or (cr_minT hc))
theorem rc_min : RCo K (rMinA K) minG := by
  intro H ρ S ds vs Q hr dvs h
  unfold minG at h
  split at h
  · obtain ⟨v, w, rfl, dv, dw⟩ := dvs2 dvs
    cases dv
    cases dw
    exact .inl ⟨_, _, rfl, ko_here hr h (.int _)⟩
  · rename_i d
    obtain ⟨v, rfl, dv⟩ := dvs1 dvs
    cases e : seqOf S d with
    | none => rw [e] at h; exact h.elim
    | some xs =>
      rw [e] at h
      simp only at h
      cases e2 : intsOf xs with
      | none => rw [e2] at h; exact h.elim
      | some ns =>
        rw [e2] at h
        obtain ⟨hne, h⟩ := ite_sat h
        obtain ⟨a, ws, rfl, hs, hd⟩ := seq_of hr dv e
        obtain rfl := ints_v hd e2
        have hl : 0 < ns.length := List.length_pos_iff.mpr hne
        rcases hs with hs | hs
        · exact .inr (.inl ⟨a, ns, rfl, hs, hl, fun m h1 h2 => by rw [← minI_of h1 h2]; exact ko_here hr h (.int _)⟩)
        · exact .inr (.inr ⟨a, ns, rfl, hs, hl, fun m h1 h2 => by rw [← minI_of h1 h2]; exact ko_here hr h (.int _)⟩)
  · exact h.elim
end
end Mn

set_option Elab.async false
set_option linter.all false
set_option maxRecDepth 100000
set_option maxHeartbeats 4000000
/-! MnN: isinstance with a built-in type by its name. -/
namespace Mn
open PySem PySem.Spec PyProof.Rows L2
section
variable {X : Cx} {Er : ER} {K : PySem.W.Frag} {H H1 : Hp} {ρ ρ1 : List Addr} {σ : Sg} {S S1 : Bxs} {τ : L2.St}
def tyN (S : Bxs) : Dt → Option String
  | .non => some "NoneType"
  | .bl _ => some "bool"
  | .int _ => some "int"
  | .str _ => some "str"
  | .tup _ => some "tuple"
  | .box n => if (S.seq n).isSome = true then some "list" else none
theorem ty_of {d : Dt} {v : V} {t : String} (hr : HR K H ρ S) (dv : DV K H ρ d v) (h : tyN S d = some t) : TyX K H v (.type t) := by
  cases dv with
  | non => cases h; exact .base .non
  | bl b => cases h; exact .base (.bl b)
  | int i => cases h; exact .base (.int i)
  | str x => cases h; exact .base (.str x)
  | tup ht hd =>
    cases h
    rcases ht with ⟨o, h1, _⟩ | ⟨o, its, n, h1, p, _⟩
    · exact .fTuple h1
    · exact .kTuple h1 p.1
  | @box n a ha =>
    have h : (if (S.seq n).isSome = true then some "list" else none) = some t := h
    cases e : S.seq n with
    | none => rw [e] at h; cases h
    | some xs =>
      rw [e] at h
      cases h
      obtain ⟨vs, h1, _⟩ := hr.rd ha e
      rcases h1 with h1 | ⟨o, its, k, h1, c, _⟩
      · rcases h1 with h1 | ⟨o, h1⟩
        · exact .base (.lst h1)
        · exact .base (.frz h1)
      · exact .kList h1 c
def isiD (T : String) (S : Bxs) (d : Dt) : Option Bool := match tyN S d with
  | some t => kitB t T
  | none => none
def dIsi (T : String) (f : FE) : FE := fun σ S => (f σ S).bind fun d S1 => match isiD T S1 d with
  | some b => .ok (.bl b) S1
  | none => .no
theorem se_isi {e : Expr} {fa : FE} {x : Str} {T : String} {p q pos : Pos} (hg : Gl X "isinstance") (hm : X.mg "isinstance" = none) (hgx : Gl X x) (hmx : X.mg x = none) (hv : bootBuiltins x = some (.type T)) (ha : SE X Er e fa) (hn : x ≠ "__name__" := by decide) (hd : (x == ("__debug__" : Str)) = false := by decide)
    (he : starEach (e :: [.Name x q]) X.env = (false, eval e X.env) :: starEach [.Name x q] X.env := by rfl) (hs : starEach [.Name x q] X.env = (false, eval (.Name x q) X.env) :: starEach [] X.env := by rfl) (hpl : (backTo pos (starEach [.Name x q] X.env)).any (·.1) = false := by rfl) :
    SE X Er (.Call (.Name "isinstance" p) [e, .Name x q] [] pos) (dIsi T fa) := by
  obtain ⟨te, pe, qe⟩ := ha.ex
  refine ⟨_, pe_callB call_isi hg hm (by decide +kernel) (pa_cons pe (pa_cons (pe_bltn hgx hmx hv (v := .ty T) rfl hn hd) pa_nil hs) he) (by decide) (by decide) he hpl, fun τ H ρ σ S Q T0 h => qe τ H ρ σ S _ T0 ((link h).mono (fun d S1 h1 => ?_) fun _ _ _ q => q)⟩
  intro v H1 ρ1 t1 hr1 dv
  show rIsi X.K [v, .ty T] H1 Q
  unfold isiD at h1
  cases e1 : tyN S1 d with
  | none => rw [e1] at h1; exact h1.elim
  | some t =>
    rw [e1] at h1
    simp only at h1
    cases e2 : kitB t T with
    | none => rw [e2] at h1; exact h1.elim
    | some b =>
      rw [e2] at h1
      exact ⟨v, .ty T, _, _, b, rfl, .ty T, ty_of hr1 dv e1, kit_ty e2, h1 _ H1 ρ1 t1 hr1 (.bl b)⟩
end
end Mn

set_option Elab.async false
set_option linter.all false
set_option maxRecDepth 100000
set_option maxHeartbeats 4000000
/-! MnS: list(zip(xs, ys)) of two lists; list(range(..)). -/
namespace Mn
open PySem PySem.Spec PyProof.Rows L2
theorem zip_no_len : typeLookup (.type "zip") "__len__" = pure none := by rw [typeLookup_type, builtinLookup_eq_fast]; kernel_rfl
theorem zip_no_hint : typeLookup (.type "zip") "__length_hint__" = pure none := by rw [typeLookup_type, builtinLookup_eq_fast]; kernel_rfl
/-- the zip as it stands: nothing given out, or a tuple held -/
def ZAt (h : Heap) (z TI TO i1 i2 : Addr) : Prop := (IsZip h z TI TO .none ∧ ∃ x y, IsPair h TO x y) ∨ ∃ T f oT, IsZipHeld h z TI TO T f ∧ h.get? T = some oT ∧ T ≠ z ∧ T ≠ i1 ∧ T ≠ i2
theorem push_seq (acc : List Value) (c : Nat) (v : Value) : ∃ c', Obj.mapSeq (·.push v) { cls := .type "list", data := .seq acc.toArray c } = { cls := .type "list", data := .seq (acc ++ [v]).toArray c' } := ⟨_, by simp [Obj.mapSeq]; rfl⟩
/-- new pairs are tracked -/
inductive PrsAt (H : Hp) : List Addr → List V → List V → Prop
  | nil : PrsAt H [] [] []
  | snoc {ts : List Addr} {xs ys : List V} {T : Addr} {o : Obj} {x y : V} : PrsAt H ts xs ys → H T = some (.frz o (.tup [x, y])) → PT0 o → PrsAt H (ts ++ [T]) (xs ++ [x]) (ys ++ [y])
theorem PrsAt.mono {H H' : Hp} (k : ∀ a o u, H a = some (.frz o u) → H' a = some (.frz o u)) {ts : List Addr} {xs ys : List V} (h : PrsAt H ts xs ys) : PrsAt H' ts xs ys := by
  induction h with
  | nil => exact .nil
  | snoc _ a b ih => exact .snoc ih (k _ _ _ a) b
theorem PrsAt.len {H : Hp} {ts : List Addr} {xs ys : List V} (h : PrsAt H ts xs ys) : ts.length = xs.length := by
  induction h with
  | nil => rfl
  | snoc _ _ _ ih => simp [ih]
section
variable {X : Cx} {pins : List (Addr × Obj)} {σ : L2.St} {A : Around}
structure ZCells (X : Cx) (pins : List (Addr × Obj)) (H : Hp) (h : Heap) (z TI TO i1 i2 S : Addr) : Prop where
  fz : FpOk X pins H z
  fO : FpOk X pins H TO
  f1 : FpOk X pins H i1
  f2 : FpOk X pins H i2
  fI : H TI = none
  Sz : S ≠ z
  SI : S ≠ TI
  SO : S ≠ TO
  S1 : S ≠ i1
  S2 : S ≠ i2
theorem upd_frz {H : Hp} {p : Addr} {u : HO} (hp : H p = none ∨ ∃ xs, H p = some (.lst xs)) : ∀ a o w, H a = some (.frz o w) → upd H p u a = some (.frz o w) := fun a o w e => by
  rw [upd_ne]
  · exact e
  · rintro rfl
    rcases hp with q | ⟨xs, q⟩ <;> rw [q] at e <;> cases e
theorem zl_loop {R : Result → Shared → Prop} {z TI TO i1 i2 l1 l2 S : Addr} {vs ws : List V} {us1 us2 : List Value} {res : Value} (hh : A.in1.handled = none) (D : ZipApart z TI TO i1 i2 l1 l2)
    (r1 : Vals vs us1) (r2 : Vals ws us2) (hz1 : vs.length < sizeLine) :
    ∀ (k i : Nat) (s : Shared) (H : Hp) (ts : List Addr) (acc : List Value) (c : Nat), min vs.length ws.length - i = k → i ≤ min vs.length ws.length → Inv X pins σ H s → ZAt s.heap z TI TO i1 i2 → TO < s.heap.objs.size → IsPair s.heap TI (.ref i1) (.ref i2) → s.heap.IsListIter i1 l1 i → s.heap.IsListIter i2 l2 i →
      s.heap.IsList l1 us1.toArray → s.heap.IsList l2 us2.toArray → l1 ≠ S → l2 ≠ S → ZCells X pins H s.heap z TI TO i1 i2 S → H S = some (.lst (ts.map V.ref)) → s.heap.get? S = some { cls := .type "list", data := .seq acc.toArray c } → Vals (ts.map V.ref) acc →
      PrsAt H ts (vs.take i) (ws.take i) →
      (∀ s' H' ts', Inv X pins σ H' s' → (∀ a u, a ≠ S → H a = some u → H' a = some u) → H' S = some (.lst (ts'.map V.ref)) → PrsAt H' ts' (vs.take (min vs.length ws.length)) (ws.take (min vs.length ws.length)) → s'.os = s.os → R (.ok (.ret res)) s') →
      codeAny (model X.prog X.w) A (.builtin "list.extend.loop" ⟨[.ref S, .ref z, res], []⟩) R s := by
  have lv := r1.length
  have lw := r2.length
  intro k
  induction k with
  | zero =>
    intro i s H ts acc c hk hi I hzz hTO0 hTI h1 h2 hl1 hl2 n1 n2 Z hS hSl ra P hR
    have hin : i = min vs.length ws.length := by omega
    refine codeAny_builtin F.entry_extend_loop ?_
    rw [Around.under_plainId F.plain_extend_loop _]
    show wpAny _ A.in1 (pyNext (.ref z) >>= _) _ _ s
    have hend : us1.toArray[i]? = none ∨ us2.toArray[i]? = none := by
      rcases Nat.le_total vs.length ws.length with q | q
      · left; simp; omega
      · right; simp; omega
    refine wpAny_bind ?_
    rcases hzz with ⟨hz0, x, y, hTO⟩ | ⟨T, f, oT, hz0, hT, hTz, hT1, hT2⟩
    · refine wpAny_pyNext_zip_end hh D hz0 hTI hTO h1 h2 hl1 hl2 hend fun h' hk' => wpAny_pure ?_
      refine hR _ H ts (I.turnedL (t' := s.toks) (ch := [z, TO, i1, i2]) (fun b o hb e => ?_) fun b hb => ?_) (fun a u _ e => e) hS (by rw [← hin]; exact P) rfl
      · simp only [List.mem_cons, List.not_mem_nil, or_false, not_or] at hb
        exact hk' b o hb.1 hb.2.1 hb.2.2.1 hb.2.2.2 e
      · simp only [List.mem_cons, List.not_mem_nil, or_false] at hb
        rcases hb with rfl | rfl | rfl | rfl
        · exact Z.fz
        · exact Z.fO
        · exact Z.f1
        · exact Z.f2
    · refine wpAny_pyNext_zip_end_held hh D hz0 hT hTI h1 h2 hl1 hl2 hend fun h' hk' => wpAny_pure ?_
      refine hR _ H ts (I.turnedL (t' := s.toks) (ch := [z, i1, i2]) (fun b o hb e => ?_) fun b hb => ?_) (fun a u _ e => e) hS (by rw [← hin]; exact P) rfl
      · simp only [List.mem_cons, List.not_mem_nil, or_false, not_or] at hb
        exact hk' b o hb.1 hb.2.1 hb.2.2 e
      · simp only [List.mem_cons, List.not_mem_nil, or_false] at hb
        rcases hb with rfl | rfl | rfl
        · exact Z.fz
        · exact Z.f1
        · exact Z.f2
  | succ k ih =>
    intro i s H ts acc c hk hi I hzz hTO0 hTI h1 h2 hl1 hl2 n1 n2 Z hS hSl ra P hR
    have hlt : i < min vs.length ws.length := by omega
    have hv : vs[i]? = some vs[i] := List.getElem?_eq_getElem (by omega)
    have hw : ws[i]? = some ws[i] := List.getElem?_eq_getElem (by omega)
    obtain ⟨u1, e1, q1⟩ := r1.get hv
    obtain ⟨u2, e2, q2⟩ := r2.get hw
    refine codeAny_builtin F.entry_extend_loop ?_
    rw [Around.under_plainId F.plain_extend_loop _]
    show wpAny _ A.in1 (pyNext (.ref z) >>= _) _ _ s
    -- what follows a pair that was given out
    have rest : ∀ h' : Heap, ZAt h' z TI TO i1 i2 → h'.IsListIter i1 l1 (i + 1) → h'.IsListIter i2 l2 (i + 1) → IsPair h' s.heap.objs.size u1 u2 → h'.objs.size = s.heap.objs.size + 1 →
        (∀ b o, b ∉ [z, TO, i1, i2] → s.heap.get? b = some o → h'.get? b = some o) →
        wpAny (model X.prog X.w) A.in1 (updateSeq S (·.push (.ref s.heap.objs.size)) >>= fun _ => again (.builtin "list.extend.loop" ⟨[.ref S, .ref z, res], []⟩))
          (fun fin s' => match fin with | .done f => R (.ok f) s' | .again c' => c'.quiet = true ∧ codeAny (model X.prog X.w) A c' R s') (fun e s' => R (.error e) s') { s with heap := h' } := by
      intro h' hz' g1 g2 hp hsz kp
      have hSn : S ∉ [z, TO, i1, i2] := by
        simp only [List.mem_cons, List.not_mem_nil, or_false, not_or]
        exact ⟨Z.Sz, Z.SO, Z.S1, Z.S2⟩
      have hfp : ∀ b ∈ [z, TO, i1, i2], FpOk X pins H b := fun b hb => by
        simp only [List.mem_cons, List.not_mem_nil, or_false] at hb
        rcases hb with rfl | rfl | rfl | rfl
        · exact Z.fz
        · exact Z.fO
        · exact Z.f1
        · exact Z.f2
      have fresh : H s.heap.objs.size = none := I.hok.fresh (Nat.le_refl _)
      have I1 : Inv X pins σ (upd H s.heap.objs.size (.frz { cls := .type "tuple", data := .seq #[u1, u2] } (.tup [vs[i], ws[i]]))) { s with heap := h', toks := s.toks } :=
        I.turnedNew (t' := s.toks) (ch := [z, TO, i1, i2]) kp hfp (Nat.le_refl _) ⟨hp, by show 2 ≤ sizeLine; decide, [u1, u2], .cons q1 (.cons q2 .nil), ⟨_, hp, rfl, _, rfl⟩⟩
      have hSlt : S < s.heap.objs.size := Heap.lt_size hSl
      have hS1 : (upd H s.heap.objs.size (.frz { cls := .type "tuple", data := .seq #[u1, u2] } (.tup [vs[i], ws[i]]))) S = some (.lst (ts.map V.ref)) := by rw [upd_ne (Nat.ne_of_lt hSlt)]; exact hS
      have hSl1 : h'.get? S = some { cls := .type "list", data := .seq acc.toArray c } := kp S _ hSn hSl
      have hal : acc.length = i := by
        have a1 := ra.length
        have a2 := P.len
        rw [List.length_map] at a1
        rw [List.length_take] at a2
        omega
      refine wpAny_bind (wpAny_updateSeq (s := { s with heap := h' }) hSl1 rfl ?_ (by rw [List.size_toArray]; omega) (by show (acc.toArray.push _).size ≤ sizeLine + 1; rw [Array.size_push, List.size_toArray]; omega))
      have ra' : Vals ((ts ++ [s.heap.objs.size]).map V.ref) (acc ++ [.ref s.heap.objs.size]) := by
        rw [List.map_append]
        exact ra.append (.cons rfl .nil)
      obtain ⟨c', hc'⟩ := push_seq acc c (.ref s.heap.objs.size)
      have I2 := I1.lstUpd (f := Obj.mapSeq (·.push (.ref s.heap.objs.size))) (n' := c') hS1 hSl1 hc' ra' (by rw [ra'.length, List.length_append]; simp; omega) s.toks
      have hTS : s.heap.objs.size ≠ S := Nat.ne_of_gt hSlt
      have keepH : ∀ a u, a ≠ S → H a = some u → (upd (upd H s.heap.objs.size (.frz { cls := .type "tuple", data := .seq #[u1, u2] } (.tup [vs[i], ws[i]]))) S (.lst ((ts ++ [s.heap.objs.size]).map V.ref))) a = some u := fun a u ha e => by
        rw [upd_ne ha, upd_ne (ne_of_none e fresh)]; exact e
      have keepn : ∀ a, a ≠ S → a ≠ s.heap.objs.size → H a = none → (upd (upd H s.heap.objs.size (.frz { cls := .type "tuple", data := .seq #[u1, u2] } (.tup [vs[i], ws[i]]))) S (.lst ((ts ++ [s.heap.objs.size]).map V.ref))) a = none := fun a ha hb e => by
        rw [upd_ne ha, upd_ne hb]; exact e
      have fpk : ∀ a, a ≠ S → a < s.heap.objs.size → FpOk X pins H a → FpOk X pins (upd (upd H s.heap.objs.size (.frz { cls := .type "tuple", data := .seq #[u1, u2] } (.tup [vs[i], ws[i]]))) S (.lst ((ts ++ [s.heap.objs.size]).map V.ref))) a := fun a ha hb f =>
        ⟨keepn a ha (Nat.ne_of_lt hb) f.1, f.2⟩
      have oth : ∀ b o, b ≠ S → h'.get? b = some o → (h'.update S (Obj.mapSeq (·.push (.ref s.heap.objs.size)))).get? b = some o := fun b o hb e => (Heap.get?_update_other _ _ (Ne.symm hb)).trans e
      have lz : z < s.heap.objs.size := by rcases hzz with ⟨q, _⟩ | ⟨_, _, _, q, _⟩ <;> exact Heap.lt_size q
      have l1' : i1 < s.heap.objs.size := by obtain ⟨_, q, _⟩ := h1; exact Heap.lt_size q
      have l2' : i2 < s.heap.objs.size := by obtain ⟨_, q, _⟩ := h2; exact Heap.lt_size q
      have lTO : H TO = none := Z.fO.1
      refine wpAny_pure ⟨plainId_quiet F.plain_extend_loop _, ih (i + 1) _ _ (ts ++ [s.heap.objs.size]) (acc ++ [.ref s.heap.objs.size]) c' (by omega) hlt I2 ?_ (by show TO < (h'.update S _).objs.size; rw [Heap.size_update, hsz]; exact Nat.lt_succ_of_lt hTO0) ?_ ?_ ?_ ?_ ?_ n1 n2 ?_ upd_same ?_ ra' ?_ fun s' H' ts' I' kH hS' P' os => hR s' H' ts' I' (fun a u ha e => kH a u ha (keepH a u ha e)) hS' P' os⟩
      · rcases hz' with ⟨q, x, y, q'⟩ | ⟨T, f, oT, q, q', q''⟩
        · exact .inl ⟨oth _ _ Z.Sz.symm q, x, y, oth _ _ Z.SO.symm q'⟩
        · by_cases hT : T = S
          · subst hT
            exact .inr ⟨T, f, _, oth _ _ Z.Sz.symm q, Heap.get?_update_self _ hSl1 (by rw [hc']; rfl), q''⟩
          · exact .inr ⟨T, f, oT, oth _ _ Z.Sz.symm q, oth _ _ hT q', q''⟩
      · exact oth _ _ Z.SI.symm (kp _ _ (by
          simp only [List.mem_cons, List.not_mem_nil, or_false, not_or]
          exact ⟨D.TIz, D.TITO, D.TIi1, D.TIi2⟩) hTI)
      · exact g1.at fun o e => oth _ _ Z.S1.symm e
      · exact g2.at fun o e => oth _ _ Z.S2.symm e
      · exact hl1.at fun o e => oth _ _ n1 (kp _ _ (by
          simp only [List.mem_cons, List.not_mem_nil, or_false, not_or]
          exact ⟨D.l1z, D.l1TO, D.l1i1, D.l1i2⟩) e)
      · exact hl2.at fun o e => oth _ _ n2 (kp _ _ (by
          simp only [List.mem_cons, List.not_mem_nil, or_false, not_or]
          exact ⟨D.l2z, D.l2TO, D.l2i1, D.l2i2⟩) e)
      · refine ⟨fpk _ Z.Sz.symm lz Z.fz, ?_, fpk _ Z.S1.symm l1' Z.f1, fpk _ Z.S2.symm l2' Z.f2, ?_, Z.Sz, Z.SI, Z.SO, Z.S1, Z.S2⟩
        · exact fpk _ Z.SO.symm hTO0 Z.fO
        · exact keepn _ Z.SI.symm (Nat.ne_of_lt (Heap.lt_size hTI)) Z.fI
      · exact (Heap.get?_update_self _ hSl1 (by rw [hc']; rfl)).trans (congrArg some hc')
      · rw [List.take_add_one, List.take_add_one, hv, hw]
        refine .snoc (P.mono fun a o w e => ?_) (by rw [upd_ne hTS, upd_same]) ⟨rfl, rfl⟩
        have ha : a ≠ S := fun q => by rw [q, hS] at e; cases e
        exact keepH a _ ha e
    refine wpAny_bind ?_
    rcases hzz with ⟨hz0, x, y, hTO⟩ | ⟨T, f, oT, hz0, hT, hTz, hT1, hT2⟩
    · refine wpAny_pyNext_zip_item D hz0 hTI hTO h1 h2 hl1 hl2 (by simpa using e1) (by simpa using e2) fun h' a1 a2 a3 a4 a5 a6 a7 => ?_
      exact rest h' (.inr ⟨s.heap.objs.size, false, _, a1, a5, Nat.ne_of_gt (Heap.lt_size hz0), by obtain ⟨_, q, _⟩ := h1; exact Nat.ne_of_gt (Heap.lt_size q), by obtain ⟨_, q, _⟩ := h2; exact Nat.ne_of_gt (Heap.lt_size q)⟩) a3 a4 a5 a6 fun b o hb e => by
        simp only [List.mem_cons, List.not_mem_nil, or_false, not_or] at hb
        exact a7 b o hb.1 hb.2.1 hb.2.2.1 hb.2.2.2 e
    · refine wpAny_pyNext_zip_item_held D hz0 hT hTI h1 h2 hl1 hl2 (by simpa using e1) (by simpa using e2) fun h' a1 a3 a4 a5 a6 a7 => ?_
      exact rest h' (.inr ⟨T, true, oT, a1, a7 T oT hTz hT1 hT2 hT, hTz, hT1, hT2⟩) a3 a4 a5 a6 fun b o hb e => by
        simp only [List.mem_cons, List.not_mem_nil, or_false, not_or] at hb
        exact a7 b o hb.1 hb.2.2.1 hb.2.2.2 e

/-- list(zip) of two lists, at the call of list -/
theorem call_list_zip {z TI TO i1 i2 l1 l2 : Addr} {vs ws : List V} {us1 us2 : List Value} {s : Shared} {H : Hp} {Q : VK} (hh : X.A.handled = none) (D : ZipApart z TI TO i1 i2 l1 l2)
    (r1 : Vals vs us1) (r2 : Vals ws us2) (hz1 : vs.length < sizeLine) (I : Inv X pins σ H s) (hz : IsZip s.heap z TI TO .none) (hTO : ∃ x y, IsPair s.heap TO x y) (hTI : IsPair s.heap TI (.ref i1) (.ref i2)) (h1 : s.heap.IsListIter i1 l1 0) (h2 : s.heap.IsListIter i2 l2 0)
    (hl1 : s.heap.IsList l1 us1.toArray) (hl2 : s.heap.IsList l2 us2.toArray) (fz : FpOk X pins H z) (fO : FpOk X pins H TO) (f1 : FpOk X pins H i1) (f2 : FpOk X pins H i2) (fI : H TI = none)
    (hQ : ∀ S H' ts, H S = none → (∀ a u, H a = some u → H' a = some u) → H' S = some (.lst (ts.map V.ref)) → PrsAt H' ts (vs.take (min vs.length ws.length)) (ws.take (min vs.length ws.length)) → Q (.ref S) H') :
    wpAny (model X.prog X.w) X.A (call (.type "list") [.ref z]) (EP X pins σ Q) X.xe s := by
  refine callType_codes (Q₁ := fun obj s₁ => obj = .ref s.heap.objs.size ∧ s₁ = { s with heap := s.heap.push { cls := .type "list", data := .seq #[] } }) F.called_list (F.typeCall_list_1 _) F.entry_list_init
    (code_list_new _ ⟨rfl, rfl⟩) fun obj s₁ h₁ => ?_
  obtain ⟨rfl, rfl⟩ := h₁
  have hS : (s.heap.push { cls := .type "list", data := .seq #[] }).get? s.heap.objs.size = some { cls := .type "list", data := .seq #[] } := Heap.get?_push_size _ rfl
  refine ⟨⟨_, hS, rfl⟩, F.args_list_init_2 _ _, ?_⟩
  have lt : ∀ {b o}, s.heap.get? b = some o → b < s.heap.objs.size := fun e => Heap.lt_size e
  have lz := lt hz
  have lTI := lt hTI
  have lTO : TO < s.heap.objs.size := by obtain ⟨x, y, q⟩ := hTO; exact lt q
  have li1 : i1 < s.heap.objs.size := by obtain ⟨_, q, _⟩ := h1; exact lt q
  have li2 : i2 < s.heap.objs.size := by obtain ⟨_, q, _⟩ := h2; exact lt q
  have ll1 : l1 < s.heap.objs.size := by obtain ⟨_, q, _⟩ := hl1; exact lt q
  have ll2 : l2 < s.heap.objs.size := by obtain ⟨_, q, _⟩ := hl2; exact lt q
  generalize hSS : s.heap.objs.size = S at hS lz lTI lTO li1 li2 ll1 ll2
  have fresh : H S = none := I.hok.fresh (Nat.le_of_eq hSS)
  show wpAny _ X.A.in1.in1 (do let old ← Builtin.List.listItems (.ref S); Builtin.List.listUpdate (.ref S) (fun _ => #[]); letGo old.toList.reverse; Builtin.List.listExtendWith (.ref S) (.ref z) .none) _ _ _
  refine wpAny_bind ?_
  unfold Builtin.List.listItems
  refine wpAny_bind (wpAny_seqItems hS rfl (wpAny_pure ?_))
  show wpAny _ _ (updateSeq S (fun _ => #[]) >>= fun _ => letGo (#[] : Array Value).toList.reverse >>= fun _ => Builtin.List.listExtendWith (.ref S) (.ref z) .none) _ _ _
  refine wpAny_bind (wpAny_updateSeq hS rfl ?_)
  have hS₂ := Heap.get?_update_self (Obj.mapSeq (fun _ => (#[] : Array Value))) hS rfl
  refine wpAny_bind (wpAny_letGo ?_)
  have ot1 : ∀ b o, s.heap.get? b = some o → ((s.heap.push { cls := .type "list", data := .seq #[] }).update S (Obj.mapSeq (fun _ => (#[] : Array Value)))).get? b = some o :=
    fun b o e => (Heap.get?_update_other _ _ (Ne.symm (Nat.ne_of_lt (by rw [← hSS]; exact lt e)))).trans (Heap.get?_push_of_some _ e)
  generalize hg1 : (s.heap.push { cls := .type "list", data := .seq #[] }).update S (Obj.mapSeq (fun _ => (#[] : Array Value))) = g1 at hS₂ ot1
  have hSz : S ≠ z := Nat.ne_of_gt lz
  show wpAny _ _ (Builtin.List.listExtendWith (.ref S) (.ref z) .none) _ _ { s with heap := g1 }
  unfold Builtin.List.listExtendWith
  have hTz : ∀ t, ({ s with heap := g1, toks := t } : Shared).TypeIs (.ref z) "zip" := fun t => ⟨_, ot1 _ _ hz, rfl⟩
  refine wpAny_bind (wpAny_typeOf (hTz _) ?_)
  have e1 : Builtin.List.listSameRef (.ref S) (.ref z) = false := by simp [Builtin.List.listSameRef, hSz]
  have e2 : (Value.type "zip" == Value.type "list") = false := by decide
  have e3 : (Value.type "zip" == Value.type "tuple") = false := by decide
  simp only [e1, e2, e3, Bool.or_false, Bool.false_eq_true, if_false]
  refine wpAny_bind (wpAny_pyIter_zip (ot1 _ _ hz) ?_)
  refine wpAny_bind (wpAny_holding ?_)
  unfold Builtin.List.listLengthHint
  refine wpAny_bind (wpAny_specialOf (hTz _) zip_no_len ?_)
  show wpAny _ _ (specialOf (Value.ref z) (Str.ofString "__length_hint__") >>= _) _ _ _
  refine wpAny_bind (wpAny_specialOf (hTz _) zip_no_hint ?_)
  refine wpAny_pure ?_
  show wpAny _ _ (rule "list.extend.makes-room" >>= fun _ => Builtin.List.listTouch (.ref S) >>= fun _ => again (.builtin "list.extend.loop" ⟨[.ref S, .ref z, .none], []⟩)) _ _ _
  refine wpAny_bind (wpAny_rule ?_)
  refine wpAny_bind ?_
  show wpAny _ _ (updateSeq S (·.push .none) >>= fun _ => updateSeq S (·.pop)) _ _ _
  refine wpAny_bind (wpAny_updateSeq hS₂ rfl ?_)
  have hS₃ := Heap.get?_update_self (Obj.mapSeq (·.push Value.none)) hS₂ rfl
  refine wpAny_updateSeq (hz := by seq_fits) hS₃ rfl ?_
  have hS₄ := Heap.get?_update_self (Obj.mapSeq (·.pop)) hS₃ rfl
  have ot2 : ∀ b o, s.heap.get? b = some o → ((g1.update S (Obj.mapSeq (·.push Value.none))).update S (Obj.mapSeq (·.pop))).get? b = some o :=
    fun b o e => (Heap.get?_update_other _ _ (Ne.symm (Nat.ne_of_lt (by rw [← hSS]; exact lt e)))).trans ((Heap.get?_update_other _ _ (Ne.symm (Nat.ne_of_lt (by rw [← hSS]; exact lt e)))).trans (ot1 b o e))
  have sz2 : ((g1.update S (Obj.mapSeq (·.push Value.none))).update S (Obj.mapSeq (·.pop))).objs.size = S + 1 := by
    rw [Heap.size_update, Heap.size_update, ← hg1, Heap.size_update, Heap.size_push, hSS]
  obtain ⟨c₄, hc₄⟩ : ∃ c, ((g1.update S (Obj.mapSeq (·.push Value.none))).update S (Obj.mapSeq (·.pop))).get? S = some { cls := .type "list", data := .seq ([] : List Value).toArray c } := ⟨_, hS₄⟩
  generalize ((g1.update S (Obj.mapSeq (·.push Value.none))).update S (Obj.mapSeq (·.pop))) = g2 at ot2 sz2 hc₄
  have I2 : Inv X pins σ (upd H S (.lst [])) { s with heap := g2, toks := s.toks } := I.laid (t' := s.toks) ot2 (Nat.le_of_eq hSS) ⟨Nat.zero_le _, [], c₄, .nil, hc₄⟩
  have fpk : ∀ a, a < S → FpOk X pins H a → FpOk X pins (upd H S (.lst [])) a := fun a ha f => ⟨by rw [upd_ne (Nat.ne_of_lt ha)]; exact f.1, f.2⟩
  refine wpAny_pure ⟨plainId_quiet F.plain_extend_loop _, ?_⟩
  refine zl_loop (A := X.A.in1) hh D r1 r2 hz1 _ 0 _ _ [] [] c₄ rfl (Nat.zero_le _) I2 (.inl ⟨ot2 _ _ hz, ?_⟩) (by show TO < g2.objs.size; rw [sz2]; exact Nat.lt_succ_of_lt lTO) (ot2 _ _ hTI) (h1.at fun o e => ot2 _ _ e) (h2.at fun o e => ot2 _ _ e) (hl1.at fun o e => ot2 _ _ e) (hl2.at fun o e => ot2 _ _ e)
    (Nat.ne_of_lt ll1) (Nat.ne_of_lt ll2) ⟨fpk _ lz fz, fpk _ lTO fO, fpk _ li1 f1, fpk _ li2 f2, by rw [upd_ne (Nat.ne_of_lt lTI)]; exact fI, hSz, Nat.ne_of_gt lTI, Nat.ne_of_gt lTO, Nat.ne_of_gt li1, Nat.ne_of_gt li2⟩ upd_same hc₄ .nil (by rw [List.take_zero, List.take_zero]; exact .nil) fun s' H' ts I' kH hS' P os => ?_
  · obtain ⟨x, y, q⟩ := hTO
    exact ⟨x, y, ot2 _ _ q⟩
  · refine ⟨rfl, .ref S, H', I', rfl, hQ S H' ts fresh (fun a u e => kH a u (ne_of_none e fresh) (by rw [upd_ne (ne_of_none e fresh)]; exact e)) hS' P⟩
end

/-! ### the rules -/
section
variable {X : Cx} {Er : ER} {K : PySem.W.Frag} {H H1 : Hp} {ρ ρ1 : List Addr} {σ : Sg} {S S1 : Bxs} {τ : L2.St}
def tListZip (K : PySem.W.Frag) (ta : TA) : TE := fun σ H Q => ta σ H fun us H1 => ∃ a b vs ws, us = [.ref a, .ref b] ∧ SqL K H1 a vs ∧ SqL K H1 b ws ∧ vs.length < sizeLine ∧
  ∀ p H' ts, H1 p = none → (∀ a u, H1 a = some u → H' a = some u) → H' p = some (.lst (ts.map V.ref)) → PrsAt H' ts (vs.take (min vs.length ws.length)) (ws.take (min vs.length ws.length)) → Q (.ref p) H'
theorem pe_listZip {e e2 : Expr} {ta : TA} {p p2 pos pos2 : Pos} (hc : X.calm = true) (hgl : Gl X "list") (hml : X.mg "list" = none) (hg : Gl X "zip") (hm : X.mg "zip" = none) (ha : PA X [e, e2] ta)
    (hs : starEach [e, e2] X.env = (false, eval e X.env) :: starEach [e2] X.env := by rfl) (hpl : (backTo pos2 (starEach [e2] X.env)).any (·.1) = false := by rfl)
    (na : starEach [.Call (.Name "zip" p2) [e, e2] [] pos2] X.env = (false, eval (.Call (.Name "zip" p2) [e, e2] [] pos2) X.env) :: starEach [] X.env := by rfl) :
    PE X (.Call (.Name "list" p) [.Call (.Name "zip" p2) [e, e2] [] pos2] [] pos) (tListZip X.K ta) := by
  refine ⟨fun pins s σ H Q I h => ?_⟩
  refine Call_ (ld_blt I hgl hml boot_list (PyProof.Rows.callWith_type1 (args_cons (Call_ (ld_blt I hg hm PyProof.Rows.boot_zip (PyProof.Rows.callWith_type1 (thn (ha.run pos2 pins s σ H _ I h) ?_) hs hpl))) na) na))
  rintro us s1 ⟨vs, H1, I1, r1, a, b, xs, ys, rfl, hqx, hqy, hz, q⟩
  obtain ⟨u1, u2, rfl, ra, rb⟩ := r1.two
  cases ra
  cases rb
  obtain ⟨its, rv, p1, la⟩ := sqx_inv (k := false) I1 hqx
  obtain ⟨its2, rv2, p2, lb⟩ := sqx_inv (k := false) I1 hqy
  refine zip_begins2 (beginsX false a its.toArray) (beginsX false b its2.toArray) p1 p2 fun h' hz' hTI hTO g1 g2 hsz hk => ?_
  have I2 : Inv X pins σ H1 { s1 with heap := h' } := I1.kept (t' := s1.toks) hk
  have fp : ∀ c, s1.heap.objs.size ≤ c → FpOk X pins H1 c := fun c hle => I1.fpOk hle (I1.hok.fresh hle)
  refine args_nil (call_list_zip (I1.ok.hd hc) (z := s1.heap.objs.size + 4) (TI := s1.heap.objs.size + 2) (TO := s1.heap.objs.size + 3) (i1 := s1.heap.objs.size) (i2 := s1.heap.objs.size + 1) (l1 := a) (l2 := b) ?_ rv rv2 hz I2 hz' ⟨_, _, hTO⟩ hTI (hit_new (k := false) g1) (hit_new (k := false) g2)
    (p1.at fun o e => hk _ _ e) (p2.at fun o e => hk _ _ e) (fp _ (by omega)) (fp _ (by omega)) (fp _ (by omega)) (fp _ (by omega)) (I1.hok.fresh (by omega)) fun S H' ts q1 q2 q3 q4 => q S H' ts q1 q2 q3 q4)
  have la' : @LT.lt Nat _ a s1.heap.objs.size := la
  have lb' : @LT.lt Nat _ b s1.heap.objs.size := lb
  constructor <;> (show ¬ (@Eq Nat _ _)) <;> omega
theorem snoc_split {α : Type} {xs : List α} {n : Nat} {d : α} (h : xs.length = n + 1) (e : xs[n]? = some d) : xs = xs.take n ++ [d] := by
  have := List.take_add_one (l := xs) (i := n)
  rw [List.take_of_length_le (by omega), e] at this
  exact this
theorem prs_dv : ∀ {H : Hp} {ts : List Addr} {vs ws : List V} {xs ys : List Dt}, PrsAt H ts vs ws → DVs K H ρ xs vs → DVs K H ρ ys ws → DVs K H ρ ((xs.zip ys).map fun p => Dt.tup [p.1, p.2]) (ts.map V.ref) := by
  intro H ts vs ws xs ys h
  induction h generalizing xs ys with
  | nil =>
    intro hx hy
    cases hx
    exact .nil
  | snoc p hT po ih =>
    rename_i ts vs ws T o x y
    intro hx hy
    have lx := hx.length
    have ly := hy.length
    rw [List.length_append] at lx ly
    have l1 := p.len
    have l2 : ts.length = ws.length := by
      have : ∀ {ts : List Addr} {vs ws : List V}, PrsAt H ts vs ws → ts.length = ws.length := fun q => by
        induction q with
        | nil => rfl
        | snoc _ _ _ ih => simp [ih]
      exact this p
    obtain ⟨d, hd1, hd2⟩ := hx.get' (i := vs.length) (v := x) (by simp)
    obtain ⟨e, he1, he2⟩ := hy.get' (i := ws.length) (v := y) (by simp)
    have cx : xs = xs.take vs.length ++ [d] := snoc_split lx hd1
    have cy : ys = ys.take ws.length ++ [e] := snoc_split ly he1
    have dx : DVs K H ρ (xs.take vs.length) vs := by
      have := hx.take vs.length
      rwa [List.take_left] at this
    have dy : DVs K H ρ (ys.take ws.length) ws := by
      have := hy.take ws.length
      rwa [List.take_left] at this
    rw [cx, cy, List.zip_append (by rw [dx.length, dy.length, ← l1, l2]), List.map_append, List.map_append]
    exact (ih dx dy).app (.cons (.tup (.inl ⟨o, hT, po⟩) (.cons hd2 (.cons he2 .nil))) .nil)
def dListZip (f : FA) : FE := fun σ S => (f σ S).bind fun ds S1 => match ds with
  | [.box m, .box n] => match S1.seq m, S1.seq n with
    | some xs, some ys => if xs.length < LIM then newL ((xs.zip ys).map fun p => Dt.tup [p.1, p.2]) S1 else .no
    | _, _ => .no
  | _ => .no
theorem zip_take {α β : Type} : ∀ (xs : List α) (ys : List β), (xs.take (min xs.length ys.length)).zip (ys.take (min xs.length ys.length)) = xs.zip ys
  | [], ys => by simp
  | _ :: _, [] => by simp
  | x :: xs, y :: ys => by
    have : min (x :: xs).length (y :: ys).length = min xs.length ys.length + 1 := by simp only [List.length_cons]; omega
    rw [this, List.take_succ_cons, List.take_succ_cons, List.zip_cons_cons, List.zip_cons_cons, zip_take xs ys]
theorem se_listZip {e e2 : Expr} {fa : FA} {p p2 pos pos2 : Pos} (hc : X.calm = true) (hgl : Gl X "list") (hml : X.mg "list" = none) (hg : Gl X "zip") (hm : X.mg "zip" = none) (ha : SA X Er [e, e2] fa)
    (hs : starEach [e, e2] X.env = (false, eval e X.env) :: starEach [e2] X.env := by rfl) (hpl : (backTo pos2 (starEach [e2] X.env)).any (·.1) = false := by rfl)
    (na : starEach [.Call (.Name "zip" p2) [e, e2] [] pos2] X.env = (false, eval (.Call (.Name "zip" p2) [e, e2] [] pos2) X.env) :: starEach [] X.env := by rfl) :
    SE X Er (.Call (.Name "list" p) [.Call (.Name "zip" p2) [e, e2] [] pos2] [] pos) (dListZip fa) := by
  obtain ⟨ta, pa, qa⟩ := ha.ex
  refine ⟨_, pe_listZip hc hgl hml hg hm pa hs hpl na, fun τ H ρ σ S Q T h => qa τ H ρ σ S _ T ((link h).mono (fun ds S1 h1 => ?_) fun _ _ _ q => q)⟩
  intro vs H1 ρ1 t1 hr1 dvs
  split at h1
  · rename_i m n
    cases dvs with
    | cons d1 r =>
    cases r with
    | cons d2 r =>
    cases r
    cases d1
    rename_i a ha1
    cases d2
    rename_i b hb1
    cases e1 : S1.seq m with
    | none => rw [e1] at h1; exact h1.elim
    | some xs =>
      cases e2 : S1.seq n with
      | none => rw [e1, e2] at h1; exact h1.elim
      | some ys =>
        rw [e1, e2] at h1
        obtain ⟨c, h1⟩ := ite_sat h1
        obtain ⟨hl, h1⟩ := newL_ok h1
        obtain ⟨us, s1, q1⟩ := hr1.rd ha1 e1
        obtain ⟨ws, s2, q2⟩ := hr1.rd hb1 e2
        have z1 := q1.length
        have z2 := q2.length
        refine ⟨a, b, us, ws, rfl, s1, s2, by rw [← z1]; exact lim_lt c, fun p H' ts hp kp hS P => ?_⟩
        have ex : Ext H1 H' := ⟨fun a xs z => kp _ _ z, fun a o u z => kp _ _ z⟩
        have pre : ρ1 <+: ρ1 ++ [p] := List.prefix_append _ _
        have dz := prs_dv P ((q1.mono ex pre).take _) ((q2.mono ex pre).take _)
        rw [← z1, ← z2, zip_take] at dz
        have hr' := hr1.grown (b := .lst ((xs.zip ys).map fun p => Dt.tup [p.1, p.2])) kp hp ⟨_, hS, dz⟩
        refine h1 _ H' (ρ1 ++ [p]) (t1.trans ⟨ex, pre⟩) hr' (.box ?_)
        rw [← hr1.len, List.getElem?_append_right (Nat.le_refl _), Nat.sub_self]; rfl
  · exact h1.elim
/-- list(range(..)) -/
def dListR1 (f : FE) : FE := fun σ S => (f σ S).bind fun d S1 => match d with
  | .int j => if j ≤ 100000 ∧ -(2 ^ 62) ≤ j then newL (rgD 0 j.toNat) S1 else .no
  | _ => .no
def dListR2 (f g : FE) : FE := fun σ S => (f σ S).bind fun d S1 => (g σ S1).bind fun e S2 => match d, e with
  | .int i, .int j => if inR i ∧ inR j ∧ (j - i).toNat ≤ 100000 then newL (rgD i (j - i).toNat) S2 else .no
  | _, _ => .no
theorem rg_dvs (lo : Int) : ∀ n : Nat, DVs K H ρ (rgD lo n) ((List.range n).map fun i => V.int (lo + (i : Nat))) := by
  have : ∀ l : List Nat, DVs K H ρ (l.map fun (i : Nat) => Dt.int (lo + (i : Int))) (l.map fun i => V.int (lo + (i : Nat))) := fun l => by
    induction l with
    | nil => exact .nil
    | cons a l ih => exact .cons (.int _) ih
  exact fun n => this _
theorem se_listR1 {a : Expr} {fa : FE} {p p2 pos pos2 : Pos} (hc : X.calm = true) (hgl : Gl X "list") (hml : X.mg "list" = none) (hg : Gl X "range") (hm : X.mg "range" = none) (ha : SE X Er a fa)
    (na : starEach [.Call (.Name "range" p2) [a] [] pos2] X.env = (false, eval (.Call (.Name "range" p2) [a] [] pos2) X.env) :: starEach [] X.env := by rfl) (na2 : starEach [a] X.env = (false, eval a X.env) :: starEach [] X.env := by rfl) :
    SE X Er (.Call (.Name "list" p) [.Call (.Name "range" p2) [a] [] pos2] [] pos) (dListR1 fa) := by
  obtain ⟨ta, pa, qa⟩ := ha.ex
  refine ⟨_, pe_listRg hc hgl hml (prg_1 hg hm pa na2) na, fun τ H ρ σ S Q T h => qa τ H ρ σ S _ T ((link h).mono (fun d S1 h1 => ?_) fun _ _ _ q => q)⟩
  intro v H1 ρ1 t1 hr1 dv
  cases dv <;> first | exact h1.elim | skip
  rename_i j
  obtain ⟨c, h1⟩ := ite_sat h1
  obtain ⟨hl, h1⟩ := newL_ok h1
  refine ⟨j, rfl, ⟨by decide, by decide, c.2, by omega, by omega⟩, fun q hq => new_lst hr1 (vs := rgV 0 j) ?_ hq fun v H' ρ' t' => h1 v H' ρ' (t1.trans t')⟩
  unfold rgV
  rw [Int.sub_zero]
  exact rg_dvs 0 _
theorem se_listR2 {a b : Expr} {fa fb : FE} {p p2 pos pos2 : Pos} (hc : X.calm = true) (hgl : Gl X "list") (hml : X.mg "list" = none) (hg : Gl X "range") (hm : X.mg "range" = none) (ha : SE X Er a fa) (hb : SE X Er b fb)
    (na : starEach [.Call (.Name "range" p2) [a, b] [] pos2] X.env = (false, eval (.Call (.Name "range" p2) [a, b] [] pos2) X.env) :: starEach [] X.env := by rfl) (na2 : starEach [a, b] X.env = (false, eval a X.env) :: starEach [b] X.env := by rfl)
    (nb : starEach [b] X.env = (false, eval b X.env) :: starEach [] X.env := by rfl) (hp : (backTo pos2 (starEach [b] X.env)).any (·.1) = false := by rfl) :
    SE X Er (.Call (.Name "list" p) [.Call (.Name "range" p2) [a, b] [] pos2] [] pos) (dListR2 fa fb) := by
  obtain ⟨ta, pa, qa⟩ := ha.ex
  obtain ⟨tb, pb, qb⟩ := hb.ex
  refine ⟨_, pe_listRg hc hgl hml (prg_2 hg hm pa pb na2 nb hp) na, fun τ H ρ σ S Q T h => qa τ H ρ σ S _ T ((link h).mono (fun d S1 h1 => ?_) fun _ _ _ q => q)⟩
  intro v H1 ρ1 t1 hr1 dv
  refine qb τ H1 ρ1 σ S1 _ (T.to t1 hr1) ((link h1).mono (fun e S2 h2 => ?_) fun _ _ _ q => q.to t1)
  intro w H2 ρ2 t2 hr2 dw
  split at h2
  · rename_i i j
    cases dv.to t2
    cases dw
    obtain ⟨c, h2⟩ := ite_sat h2
    obtain ⟨hl, h2⟩ := newL_ok h2
    exact ⟨i, j, rfl, rfl, ⟨c.1.1, c.1.2, c.2.1.1, c.2.1.2, by have := c.2.2; omega⟩, fun q hq => new_lst hr2 (vs := rgV i j) (rg_dvs i _) hq fun v H' ρ' t' => h2 v H' ρ' ((t1.trans t2).trans t')⟩
  · exact h2.elim
/-- {} -/
def dNewD : FE := fun _ S => .ok (.box S.length) (S ++ [.dk []])
theorem se_newD {pos : Pos} : SE X Er (.Dict [] [] pos) dNewD := by
  refine ⟨_, pe_dnewK, fun τ H ρ σ S Q T h p hp => ?_⟩
  have hr' := T.hr.newB (b := .dk []) (o := .dK []) hp ⟨[], upd_same, .nil⟩
  refine h _ _ (ρ ++ [p]) ⟨Ext.new hp, List.prefix_append _ _⟩ hr' (.box ?_)
  rw [← T.hr.len, List.getElem?_append_right (Nat.le_refl _), Nat.sub_self]; rfl
end
end Mn

set_option Elab.async false
set_option linter.all false
set_option maxRecDepth 100000
set_option maxHeartbeats 4000000
/-! MnX: raise, try, on plain data. -/
namespace Mn
open PySem PySem.Spec PyProof.Rows L2
/-- one except clause: the class that it names, the slot of its own name, what its suite reads -/
structure Clause where
  cls : Value
  slot : Option Nat
  ts : Addr → Value → Option Addr → TS
def goneE (D : Ends) (i : Nat) : Ends := { nx := fun τ H => D.nx (τ.set i none) H, rt := D.rt, bk := fun τ H => D.bk (τ.set i none) H, ct := fun τ H => D.ct (τ.set i none) H }
/-- what clauses ask of an exception that one of them meets -/
def wishC (K : PySem.W.Frag) (D : Ends) : List Clause → WX
  | [] => fun _ _ _ _ => False
  | c :: r => fun cls d τ H => ∃ b, PySem.W.exmOne K cls c.cls = some b ∧ (b = false → wishC K D r cls d τ H) ∧ (b = true → ∀ a, H a = none → match c.slot with
    | none => c.ts a cls d D τ H
    | some i => c.ts a cls d (goneE D i) (τ.set i (some (.ref a))) H)
/-- a suite's reading, for whatever exception is held -/
def SuiteOk (X : Cx) (b : List Stmt) (ts : Addr → Value → Option Addr → TS) : Prop :=
  ∀ (a : Addr) (o : Obj) (cls : Value) (d : Option Addr) (pn : List (Addr × Obj)), Zc cls d o → (∃ vs, o.data = .fields vs) → PSs (X.suite a ((a, o) :: pn)) b (ts a cls d)
inductive ClOk (X : Cx) : ExceptHandler → Clause → Prop
  | only {x : Str} {c : Value} {ts : Addr → Value → Option Addr → TS} {b : Stmt} {r : List Stmt} {p1 p2 : Pos} (hc : Names X x c) (hs : SuiteOk X (b :: r) ts) : ClOk X (.ExceptHandler (some (.Name x p1)) none (b :: r) p2) ⟨c, none, ts⟩
  | named {x n : Str} {i : Nat} {c : Value} {ts : Addr → Value → Option Addr → TS} {b : Stmt} {r : List Stmt} {p1 p2 : Pos} (hc : Names X x c) (hN : X.N.Nodup) (hi : X.N[i]? = some n) (hn : X.env.kindOf n = some .local) (hs : SuiteOk X (b :: r) ts) :
      ClOk X (.ExceptHandler (some (.Name x p1)) (some n) (b :: r) p2) ⟨c, some i, ts⟩
inductive ClsOk (X : Cx) : List ExceptHandler → List Clause → Prop
  | nil : ClsOk X [] []
  | cons {h : ExceptHandler} {c : Clause} {hs : List ExceptHandler} {cs : List Clause} : ClOk X h c → ClsOk X hs cs → ClsOk X (h :: hs) (c :: cs)
section
variable {X : Cx} {body : List Stmt} {h0 : ExceptHandler} {hr : List ExceptHandler} {cl : List Clause} {pos : Pos} {tb : WX → TS}
/-- an exception that has landed where X stands, its ground B -/
structure Down (X : Cx) (pins : List (Addr × Obj)) (a : Addr) (B : Heap) (cls : Value) (d : Option Addr) (τ : L2.St) (H : Hp) (s : Shared) : Prop where
  inv : Inv X pins τ H s
  fly : HandSPX.FlyingZ B (X.env :: X.outer) a (Zc cls d) s.heap
  na : H a = none
  nl : a ≠ X.env.locals
  nf : a ∉ X.fs
  go : ∀ h', HandSPX.FlyingZ B (X.env :: X.outer) a (Zc cls d) h' → s.heap.UpToSlots h' → Inv X pins τ H { s with heap := h' }
/-- the clauses, one behind the other -/
theorem clauses_ok {pins : List (Addr × Obj)} {D : Ends} {a : Addr} {B : Heap} {cls : Value} {d : Option Addr} {τ : L2.St} {H : Hp} {s : Shared} (G : Down X pins a B cls d τ H s) :
    ∀ {hs : List ExceptHandler} {cs : List Clause}, ClsOk X hs cs → wishC X.K D cs cls d τ H → wpAny (model X.prog X.w) X.A (handleBy (.ref a) X.env hs) (SP X pins D) X.xe s := by
  intro hs cs hk
  induction hk with
  | nil => exact fun w => w.elim
  | @cons h c hs cs hc hr ih =>
    rintro ⟨b, hb, no, yes⟩
    have ok := G.inv.ok
    obtain ⟨o3, v3, e3, z3, q3⟩ := G.fly.there
    have S3 := G.inv.suite e3 q3 G.na G.nl G.nf
    have ty : PySem.W.Looks (model X.prog X.w) s.heap (typeOf (.ref a)) cls := fun _ _ _ _ k q => wpAny_typeOf_ref (k _ _ e3) (by rw [z3.1]; exact q)
    have meets := PySem.W.exm_one (M := model X.prog X.w) G.inv.kIn ty hb
    have name : ∀ {x : Str} {v : Value} {p1 : Pos} {Q E : Value → Shared → Prop}, Names X x v → Q v s → wpAny (model X.prog X.w) (X.A.mark (some (.ref a))) (eval (.Name x p1) X.env) Q E s := fun {x v p1 Q E} hv q => by
      obtain ⟨g, hdb, m | ⟨m, bt, nn⟩⟩ := hv
      · exact ld_glob (X := X.suite a ((a, o3) :: (X.pn ++ pins))) S3 g m q hdb
      · exact ld_blt (X := X.suite a ((a, o3) :: (X.pn ++ pins))) S3 g m bt q nn hdb
    cases hc with
    | only hv hsu =>
      refine wpAny_handleBy_cons (codeAny_handlers_test (name hv (meets.here ?_))) (by intro z; cases z)
      cases b with
      | false => exact ih (no rfl)
      | true =>
        refine codeAny_handlers_suite (HandSPX.lands_againZ G.fly fun h4 f4 u4 => ?_)
        have J := G.go h4 f4 u4
        obtain ⟨o4, v4, e4, z4, q4⟩ := f4.there
        have S4 := J.suite e4 q4 G.na G.nl G.nf
        refine wpAny_mono ((hsu a o4 cls d (X.pn ++ pins) z4 ⟨_, q4⟩).run [] _ _ H _ S4 (yes rfl a G.na)) (fun f s6 hsp => ?_) fun _ _ z => z.elim
        cases f with
        | next => obtain ⟨τ6, H6, J6, k6⟩ := hsp; exact ⟨τ6, H6, J6.unsuite ok, k6⟩
        | brk => obtain ⟨τ6, H6, J6, k6⟩ := hsp; exact ⟨τ6, H6, J6.unsuite ok, k6⟩
        | cont => obtain ⟨τ6, H6, J6, k6⟩ := hsp; exact ⟨τ6, H6, J6.unsuite ok, k6⟩
        | ret u => obtain ⟨v, τ6, H6, J6, r6, k6⟩ := hsp; exact ⟨v, τ6, H6, J6.unsuite ok, r6, k6⟩
    | @named x n i v ts b₀ r p1 p2 hv hN hi hn hsu =>
      refine wpAny_handleBy_cons (codeAny_handlers_test (name hv (meets.here ?_))) (by intro z; cases z)
      cases b with
      | false => exact ih (no rfl)
      | true =>
        refine codeAny_handlers_suite_as (HandSPX.lands_againZ G.fly fun h4 f4 u4 => ?_)
        have J := G.go h4 f4 u4
        obtain ⟨o4, v4, e4, z4, q4⟩ := f4.there
        have S4 := J.suite e4 q4 G.na G.nl G.nf
        refine store_ok (X := X.suite a ((a, o4) :: (X.pn ++ pins))) (v := .ref a) S4 hN hi (.inl hn) rfl (fun s5 S5 => ?_) (.inr hn)
        refine wpAny_mono ((hsu a o4 cls d (X.pn ++ pins) z4 ⟨_, q4⟩).run [] s5 _ H _ S5 (yes rfl a G.na)) (fun f s6 hsp => ?_) fun _ _ z => z.elim
        have off : ∀ {τ6 : L2.St} {H6 : Hp} {Q : Shared → Prop}, Inv (X.suite a ((a, o4) :: (X.pn ++ pins))) [] τ6 H6 s6 → (∀ s7, Inv X pins (τ6.set i none) H6 s7 → Q s7) →
          wpAny (model X.prog X.w) X.A (do bindName X.env n .none; unbindBehindTheSuite X.env n p2) (fun _ s7 => Q s7) X.xe s6 := fun J6 k => gone_ok (J6.unsuite ok) hN hi hn k
        cases f with
        | next => obtain ⟨τ6, H6, J6, k6⟩ := hsp; exact off J6 fun s7 J7 => ⟨_, _, J7, k6⟩
        | brk => obtain ⟨τ6, H6, J6, k6⟩ := hsp; exact off J6 fun s7 J7 => ⟨_, _, J7, k6⟩
        | cont => obtain ⟨τ6, H6, J6, k6⟩ := hsp; exact off J6 fun s7 J7 => ⟨_, _, J7, k6⟩
        | ret u => obtain ⟨v, τ6, H6, J6, r6, k6⟩ := hsp; exact off J6 fun s7 J7 => ⟨v, _, _, J7, r6, k6⟩
/-- try: body, then clauses of which one meets whatever the body raises -/
theorem ps_tryC (hst : X.stack = X.env :: X.outer) (hfr : X.env.frame = some X.env.locals)
    (hb : ∀ (W : WX) (pn : List (Addr × Obj)) (xe : Value → Shared → Prop), Takes (X.tr pn xe) W → PassesOwn (model X.prog X.w) X.A X.env xe → PSs (X.tr pn xe) body (tb W))
    (hc : ClsOk X (h0 :: hr) cl) : PS X (.Try body (h0 :: hr) [] [] pos) (fun D τ H => tb (wishC X.K D cl) D τ H) := by
  constructor
  intro pins s τ H D I w
  have ok := I.ok
  have fr : X.A.frames = some (X.env :: X.outer) := by rw [ok.frames, hst]
  refine wpAny_Try_except (wpAny_mono ((hb (wishC X.K D cl) (X.pn ++ pins) (fun e s1 => wpAny (model X.prog X.w) X.A (noteFrame e X.env) (fun _ s2 => wpAny (model X.prog X.w) X.A (setFlight e none) (fun _ s3 => wpAny (model X.prog X.w) X.A (handleBy e X.env (h0 :: hr)) (SP X pins D) X.xe s3) X.xe s2) X.xe s1)
    (fun u s1 x => ?_) PassesOwn.looking).run [] s τ H D (I.toTry _) w) (fun f s1 hsp => ?_) fun e s1 z => z)
  · obtain ⟨a, B, sI, ps', τ1, H1, cls, d, rfl, J0, nb, up, sky, na, os, ag, w1⟩ := x
    have J : Inv X pins τ1 H1 sI := J0.ofTry ok
    rw [show (X.tr (X.pn ++ pins) _).stack = X.stack from rfl, hst] at sky
    show wpAny (model X.prog X.w) X.A (noteFrame (.ref a) X.env) _ _ _
    refine Sky.land Zc.steady fr hfr sky fun h3 f3 u3 => ?_
    obtain ⟨o3, v3, e3, z3, q3⟩ := f3.there
    have off : a ∉ frs (X.env :: X.outer) := fun hm => by
      obtain ⟨_, o', e', k'⟩ := f3.2.2.1.mem hm
      rw [e3] at e'; cases e'
      exact k' _ q3
    refine clauses_ok (s := { s1 with heap := h3 }) ⟨J.landed nb f3.1 (up.trans u3) os ag, f3, na, fun z => off (List.mem_filterMap.mpr ⟨X.env, List.mem_cons_self, by rw [hfr, z]⟩), fun hm => ?_, fun h4 f4 u4 => J.landed nb f4.1 ((up.trans u3).trans u4) os ag⟩ hc w1
    obtain ⟨e, he, q⟩ := List.mem_filterMap.mp hm
    exact off (List.mem_filterMap.mpr ⟨e, List.mem_cons_of_mem _ he, q⟩)
  · cases f with
    | next => obtain ⟨τ1, H1, J1, k1⟩ := hsp; exact wpAny_execs_nil ⟨τ1, H1, J1.ofTry ok, k1⟩
    | brk => obtain ⟨τ1, H1, J1, k1⟩ := hsp; exact ⟨τ1, H1, J1.ofTry ok, k1⟩
    | cont => obtain ⟨τ1, H1, J1, k1⟩ := hsp; exact ⟨τ1, H1, J1.ofTry ok, k1⟩
    | ret u => obtain ⟨v, τ1, H1, J1, r1, k1⟩ := hsp; exact ⟨v, τ1, H1, J1.ofTry ok, r1, k1⟩
end

/-! ### the classes; an exception's fields -/
/-- the classes by number: where each stands, its fields -/
abbrev CT := Nat → Option (Addr × List Str)
/-- 18 is the base of all others -/
def subC (c k : Nat) : Bool := c == k || k == 18
def FldR (K : PySem.W.Frag) (H : Hp) (ρ : List Addr) (ns : List Str) (fs : List (Str × V)) (es : List Dt) : Prop := ∀ (j : Nat) f d, ns[j]? = some f → es[j]? = some d → ∃ v, fs.lookup f = some v ∧ DV K H ρ d v
/-- an exception of the class c with these fields, its dict at dd -/
def ExR (K : PySem.W.Frag) (ct : CT) (H : Hp) (ρ : List Addr) (c : Nat) (es : List Dt) (C dd : Addr) : Prop := ∃ ns fs, ct c = some (C, ns) ∧ H dd = some (.xd fs) ∧ FldR K H ρ ns fs es
def eoX (K : PySem.W.Frag) (ct : CT) (E : XK) : ER := fun c es S H ρ => ∀ C dd, HR K H ρ S → ExR K ct H ρ c es C dd → E (.ref C) (some dd) H
/-- a method of a class's text -/
def methS (st : Stmt) (j : Nat) : Stmt := match st with
  | .ClassDef _ _ _ b _ _ _ _ _ _ _ => b.getD j (.Pass ⟨0, 0, 0, 0⟩)
  | _ => .Pass ⟨0, 0, 0, 0⟩
/-- what __init__ of such a class does -/
def spI (C : Addr) (ns : List Str) : Sp := fun vs H Q _ => ∃ a ws, vs = .ref a :: ws ∧ ws.length = ns.length ∧ H a = some (exo a C none) ∧
  ∀ d fs H', H d = none → d ≠ a → H' a = some (exo a C (some d)) → H' d = some (exd d fs) → (∀ b, b ≠ a → b ≠ d → H' b = H b) → (∀ (j : Nat) f w, ns[j]? = some f → ws[j]? = some w → fs.lookup f = some w) → Q .non H'
theorem init_pure1 {K : PySem.W.Frag} {C : Addr} {f : Str} {vs : List V} {H : Hp} {Q : VK} {E : XK} (T : OexC K C) (hno : PySem.W.findIn K (.ref C) f = some none) (h : spI C [f] vs H Q E) :
    tOst K f (tVar 0) (tVar 1) { nx := fun _ H' => Q .non H', rt := Q } (L2.start ["self", f] vs) H := by
  obtain ⟨a, ws, rfl, hl, ha, k⟩ := h
  match ws, hl with
  | [y], _ =>
    refine ⟨y, rfl, .ref a, rfl, a, C, rfl, T, hno, .inl ⟨ha, fun dx n ne => k dx [(f, y)] _ n ne upd_same ?_ (fun b h1 h2 => ?_) fun j g w hg hw => ?_⟩⟩
    · rw [upd_ne ne]; exact upd_same
    · rw [upd_ne h1, upd_ne h2]
    · cases j with
      | zero => simp at hg hw; subst hg; subst hw; simp [List.lookup]
      | succ j => simp at hg
section
variable {X : Cx} {ct : CT} {E : XK} {H H1 : Hp} {ρ ρ1 : List Addr} {σ : Sg} {S S1 : Bxs} {τ : L2.St}
def sRaise (c : Nat) (fa : FA) : FS := fun σ S => (fa σ S).bind fun ds S1 => .ex c ds S1
theorem ss_raise (n c : Nat) {C fI : Addr} {ns : List Str} {fd : FuncData} {ps : List Str} {x : Str} {e : Expr} {es : List Expr} {fa : FA} {k : Nat} {p pos pos2 : Pos} (hc : X.calm = true) (tk : Takes X (fun cls d _ H => E cls d H)) (T : OexC X.K C)
    (iC : PySem.W.findIn X.K (.ref C) "__init__" = some (some (.ref fI))) (tI : PySem.W.typeIn X.K (.ref fI) = some (.type "function")) (FI : FnOk X.prog X.w X.K X.mg X.base CX0 k fI fd ps (spI C ns)) (hr : Room (k + 1) X.A) (hb : Binds X.K fd ps [])
    (hg : Gl X x) (hm : X.mg x = some (.ref C)) (hct : ct c = some (C, ns)) (ha : SA X (eoX X.K ct E) (e :: es) fa) (hn : ∀ σ S ds S', fa σ S = .ok ds S' → ds.length = n) (hl : ns.length = n) (h1 : n ≤ 1000)
    (hdb : (x == ("__debug__" : Str)) = false := by decide) (he : starEach (e :: es) X.env = (false, eval e X.env) :: starEach es X.env := by rfl) (hpl : (backTo pos (starEach es X.env)).any (·.1) = false := by rfl) :
    SS X (eoX X.K ct E) (.Raise (some (.Call (.Name x p) (e :: es) [] pos)) none pos2) (sRaise c fa) := by
  obtain ⟨ta, pa, qa⟩ := ha.ex
  refine ⟨_, ps_raise hc tk (pmk_oex T iC tI FI hr hb .nil pass0 hg hm pa hdb he hpl), fun τ H ρ σ S D Ty h => ?_⟩
  have h := link h
  have h' : (fa σ S).Sat (fun ds S1 => ds.length = n ∧ KX (eoX X.K ct E) H ρ c ds S1) (KX (eoX X.K ct E) H ρ) := by
    cases e0 : fa σ S with
    | ok ds S1 => rw [e0] at h; exact ⟨hn σ S ds S1 e0, h⟩
    | ex c ds S1 => rw [e0] at h; exact h
    | no => rw [e0] at h; exact h
  refine qa τ H ρ σ S _ Ty (h'.mono (fun ds S1 q => ?_) fun _ _ _ q => q)
  obtain ⟨q1, q2⟩ := q
  intro vs H1 ρ1 t1 hr1 dvs
  have vl : vs.length = n := by rw [← dvs.length]; exact q1
  refine ⟨by rw [vl]; exact h1, fun a hna => ⟨a, vs ++ [], rfl, by rw [List.append_nil, vl, hl], upd_same, fun d fs H' hd hda ea ed hk hf => ⟨rfl, d, fs, ea, ed, ?_, ?_⟩⟩⟩
  · rw [upd_ne hda] at hd; exact hd
  · have hd1 : H1 d = none := by rw [upd_ne hda] at hd; exact hd
    have eq : upd (L2.del H' a) d (.xd fs) = upd H1 d (.xd fs) := by
      funext b
      by_cases hbd : b = d
      · rw [hbd, upd_same, upd_same]
      · rw [upd_ne hbd, upd_ne hbd]
        by_cases hba : b = a
        · rw [hba, L2.del_same, hna]
        · rw [L2.del_ne hba, hk b hba hbd, upd_ne hba]
    show E (.ref C) (some d) (upd (L2.del H' a) d (.xd fs))
    rw [eq]
    refine q2 _ ρ1 (t1.trans ⟨Ext.new hd1, List.prefix_refl _⟩) C d (hr1.tup hd1) ⟨ns, fs, hct, upd_same, fun j f x hj hx => ?_⟩
    obtain ⟨v, hv, dv⟩ := dvs.get hx
    exact ⟨v, hf j f v hj (by rw [List.append_nil]; exact hv), dv.mono (Ext.new hd1) (List.prefix_refl _)⟩
/-! ### calls -/
def quietF (F : FN) : FN := fun ds S => (F ds S).quiet
theorem FnD.quiet {P : Program} {w : World} {K : PySem.W.Frag} {mg : Str → Option Value} {base : Heap} {CX : CXT} {eo : XK → ER} {k : Nat} {f : Addr} {fd : FuncData} {ps : List Str} {F : FN} (Er : ER) (h : FnD P w K mg base CX eo k f fd ps F) :
    FnD P w K mg base CX (fun _ => Er) k f fd ps (quietF F) := ⟨fun A outer s H args us vs ρ S ds Q E hg hr e0 b r hl hR dvs hs => h.run A outer s H args us vs ρ S ds Q E hg hr e0 b r hl hR dvs (quiet_sat hs)⟩
/-- of a def that lets nothing out, where exceptions may fly -/
theorem se_callQ {Er : ER} {eo : XK → ER} {k : Nat} {f : Addr} {fd : FuncData} {ps : List Str} {F : FN} {x : Str} {p pos : Pos} {e : Expr} {es : List Expr} {fa : FA} (n : Nat) (FD : FnD X.prog X.w X.K X.mg X.base CX0 eo k f fd ps F) (hgd : X.A.guards = some []) (hr : Room k X.A) (hg : Gl X x) (hm : X.mg x = some (.ref f))
    (hk : PySem.W.keepIn X.K (.ref f) = true) (hb : Binds X.K fd ps []) (ha : SA X Er (e :: es) fa) (hn : ∀ σ S ds S', fa σ S = .ok ds S' → ds.length = n) (hps : ps.length = n)
    (hdb : (x == ("__debug__" : Str)) = false := by decide) (he : starEach (e :: es) X.env = (false, eval e X.env) :: starEach es X.env := by rfl) (hpl : (backTo pos (starEach es X.env)).any (·.1) = false := by rfl) :
    SE X Er (.Call (.Name x p) (e :: es) [] pos) (dCall (quietF F) fa) := se_call n (FD.quiet Er) hgd hr hg hm hk hb (E := E0) pass0 (fun _ _ _ _ _ h => h) ha hn hps hdb he hpl
/-! ### a try -/
def enc (σ : Sg) : Dt := .tup (σ.map fun o => match o with | none => .non | some d => .tup [d])
def dec : Dt → Sg
  | .tup xs => xs.map fun d => match d with | .tup [x] => some x | _ => none
  | _ => []
theorem dec_enc (σ : Sg) : dec (enc σ) = σ := by
  show (σ.map _).map _ = σ
  rw [List.map_map]
  conv => rhs; rw [← List.map_id σ]
  apply List.map_congr_left
  intro o _
  cases o <;> rfl
/-- a call in a try's body: the slots go with what is raised -/
def dCallT (F : FN) (fa : FA) : FE := fun σ S => (fa σ S).bind fun ds S1 => match F ds S1 with
  | .ok d S2 => .ok d S2
  | .ex c es S2 => .ex c (enc σ :: es) S2
  | .no => .no
/-- what is wished within a try's body -/
def ErT (K : PySem.W.Frag) (ct : CT) (W : WX) : ER := fun c es S H ρ => match es with
  | [] => False
  | e :: es => ∀ C dd τ, Ty K H ρ (dec e) S τ → ExR K ct H ρ c es C dd → W (.ref C) (some dd) τ H
abbrev Hds := List (Nat × (List Dt → FS))
def pickH : Hds → Nat → List Dt → FS
  | [], _, _ => fun _ _ => .no
  | (k, h) :: r, c, es => if subC c k = true then h es else pickH r c es
def sTry (b : FS) (hs : Hds) : FS := fun σ S => match b σ S with
  | .ok r S1 => .ok r S1
  | .ex c (e :: es) S1 => (pickH hs c es (dec e) S1).quiet
  | _ => .no

theorem se_callT {W : WX} {k : Nat} {f : Addr} {fd : FuncData} {ps : List Str} {F : FN} {x : Str} {p pos : Pos} {e : Expr} {es : List Expr} {fa : FA} (n : Nat) (FD : FnD X.prog X.w X.K X.mg X.base (L2.CX X.prog X.w) (eoX X.K ct) k f fd ps F) (tk : Takes X W) (hgd : X.A.guards = some []) (hr : Room k X.A) (hg : Gl X x) (hm : X.mg x = some (.ref f))
    (hk : PySem.W.keepIn X.K (.ref f) = true) (hb : Binds X.K fd ps []) (ha : SA X (ErT X.K ct W) (e :: es) fa) (hn : ∀ σ S ds S', fa σ S = .ok ds S' → ds.length = n) (hps : ps.length = n)
    (hdb : (x == ("__debug__" : Str)) = false := by decide) (he : starEach (e :: es) X.env = (false, eval e X.env) :: starEach es X.env := by rfl) (hpl : (backTo pos (starEach es X.env)).any (·.1) = false := by rfl) :
    SE X (ErT X.K ct W) (.Call (.Name x p) (e :: es) [] pos) (dCallT F fa) := by
  obtain ⟨ta, pa, qa⟩ := ha.ex
  refine SE.ofCan ⟨fun pins s τ H Q I ⟨ρ, σ, S, T, h⟩ => ?_⟩
  refine wpAny_Call_Name_kw (ld_glob I hg hm ?_ hdb)
  have h := link h
  have h' : (fa σ S).Sat (fun ds S1 => ds.length = n ∧ (match F ds S1 with
      | .ok d S2 => Rs.ok d S2
      | .ex c es S2 => .ex c (enc σ :: es) S2
      | .no => .no).Sat (KO X.K H ρ Q) (KX (ErT X.K ct W) H ρ)) (KX (ErT X.K ct W) H ρ) := by
    cases e0 : fa σ S with
    | ok ds S1 => rw [e0] at h; exact ⟨hn σ S ds S1 e0, h⟩
    | ex c ds S1 => rw [e0] at h; exact h
    | no => rw [e0] at h; exact h
  refine PySem.W.callWith_K (h₀ := X.base) I.ok.mod.kin hk (thn (pa.run pos pins s τ H (fun vs H1 => ∃ ρ1 S1 ds, To H H1 ρ ρ1 ∧ HR X.K H1 ρ1 S1 ∧ DVs X.K H1 ρ1 ds vs ∧ ds.length = n ∧ (F ds S1).Sat (KO X.K H1 ρ1 Q) (KX (eoX X.K ct (WE W τ)) H1 ρ1)) I ?_) ?_) he hpl
  · refine qa τ H ρ σ S _ T (h'.mono (fun ds S1 q vs H1 ρ1 t1 hr1 dvs => ⟨ρ1, S1, ds, t1, hr1, dvs, q.1, ?_⟩) fun _ _ _ q => q)
    obtain ⟨_, q⟩ := q
    cases e1 : F ds S1 with
    | ok d S2 =>
      rw [e1] at q
      exact fun v H' ρ' t' => q v H' ρ' (t1.trans t')
    | ex c es S2 =>
      rw [e1] at q
      intro H' ρ' t' C dd hR hx
      have := q H' ρ' (t1.trans t')
      exact this C dd τ ⟨hR, by rw [dec_enc]; exact T.sl.to (t1.trans t')⟩ hx
    | no => rw [e1] at q; exact q.elim
  · rintro us s1 ⟨vs, H1, I1, r, ρ1, S1, ds, t1, hr1, dvs, hl, q⟩
    refine ⟨I1.kIn, ?_⟩
    have hlu : (us ++ []).length = ps.length := by rw [List.append_nil, ← r.length, ← dvs.length, hl, hps]
    refine wpAny_call (codeAny_mono (FD.run X.A X.stack s1 H1 ⟨us, []⟩ (us ++ []) vs ρ1 S1 ds Q (WE W τ) hgd hr I1.env0 (hb s1 us I1.kIn hlu) (by rw [List.append_nil]; exact r) (hl.trans hps.symm) hr1 dvs q) fun rr s' hq => ?_)
    cases rr with
    | error e => exact passAt tk τ pins H1 s1 e s' I1 hq
    | ok fl =>
      cases fl with
      | ret u => exact I1.after hq
      | next => exact False.elim hq
      | brk => exact False.elim hq
      | cont => exact False.elim hq
def canSs (K : PySem.W.Frag) (Er : ER) (f : FS) : TS := fun D τ H => ∃ ρ σ S, Ty K H ρ σ S τ ∧ (f σ S).Sat (KF K H ρ D) (KX Er H ρ)
theorem SSs.can {Er : ER} {st : List Stmt} {f : FS} (h : SSs X Er st f) : PSs X st (canSs X.K Er f) := by
  obtain ⟨t, p, q⟩ := h.ex
  exact ⟨fun pins s τ H D I ⟨ρ, σ, S, T, w⟩ => p.run pins s τ H D I (q τ H ρ σ S D T w)⟩
structure HsD (X : Cx) (ct : CT) (hs : List ExceptHandler) (pl : Hds) : Prop where
  ex : ∃ cl, ClsOk X hs cl ∧ ∀ D H ρ c es C dd σ S τ, ExR X.K ct H ρ c es C dd → Ty X.K H ρ σ S τ → (pickH pl c es σ S).Sat (KF X.K H ρ D) (KX noEr H ρ) → wishC X.K D cl (.ref C) (some dd) τ H
theorem hd_nil : HsD X ct [] [] := ⟨[], .nil, fun D H ρ c es C dd σ S τ _ _ h => h.elim⟩
theorem hd_only (k : Nat) {x : Str} {Ck : Addr} {b : Stmt} {r : List Stmt} {hs : List ExceptHandler} {pl : Hds} {f : FS} {p1 p2 : Pos} (hc : Names X x (.ref Ck)) (hx : ∀ c C ns, ct c = some (C, ns) → PySem.W.exmOne X.K (.ref C) (.ref Ck) = some (subC c k))
    (hb : ∀ a pn, SSs (X.suite a pn) noEr (b :: r) f) (rest : HsD X ct hs pl) : HsD X ct (.ExceptHandler (some (.Name x p1)) none (b :: r) p2 :: hs) ((k, fun _ => f) :: pl) := by
  obtain ⟨cl, h1, h2⟩ := rest.ex
  refine ⟨⟨.ref Ck, none, fun _ _ _ => canSs X.K noEr f⟩ :: cl, .cons (.only hc fun a o cls d pn _ _ => (hb a _).can) h1, fun D H ρ c es C dd σ S τ hx2 T h => ?_⟩
  obtain ⟨ns, fs, e1, e2, e3⟩ := id hx2
  refine ⟨_, hx c C ns e1, fun hq => ?_, fun hq a _ => ⟨ρ, σ, S, T, ?_⟩⟩
  · rw [show pickH ((k, fun _ => f) :: pl) c es = (if subC c k = true then f else pickH pl c es) from rfl, if_neg (by rw [hq]; decide)] at h
    exact h2 D H ρ c es C dd σ S τ hx2 T h
  · rw [show pickH ((k, fun _ => f) :: pl) c es = (if subC c k = true then f else pickH pl c es) from rfl, if_pos hq] at h
    exact h
/-- return z, e.f -/
def hRet (i : Nat) (z : Str) (j : Nat) : List Dt → FS := fun es σ S => match es[j]? with
  | some d => if i < σ.length then .ok (.rt (.tup [.str z, d]), σ) S else .no
  | none => .no
theorem hd_ret (k i j : Nat) {x n fld z : Str} {Ck : Addr} {ns : List Str} {hs : List ExceptHandler} {pl : Hds} {q1 q2 : Nat} {p1 p2 p3 p4 p5 p6 p7 : Pos} (hc : Names X x (.ref Ck)) (hx : ∀ c C ns, ct c = some (C, ns) → PySem.W.exmOne X.K (.ref C) (.ref Ck) = some (subC c k))
    (hk : ∀ c, subC c k = true → c = k) (hck : ct k = some (Ck, ns)) (hj : ns[j]? = some fld) (XF : XfC X.K Ck) (hno : PySem.W.findIn X.K (.ref Ck) fld = some none) (hN : X.N.Nodup) (hi : X.N[i]? = some n) (hn : X.env.kindOf n = some .local) (hv : Vis X.env.scope n) (hd : (n == ("__debug__" : Str)) = false) (hcd : (n == ("__classdict__" : Str)) = false)
    (hab : attributeBase (.Name n p4) fld X.env (eval (.Name n p4) X.env) = eval (.Name n p4) X.env)
    (rest : HsD X ct hs pl) : HsD X ct (.ExceptHandler (some (.Name x p1)) (some n) [.Return (some (.Tuple [.Constant (.str z) q1 p3, .Attribute (.Name n p4) fld p5] q2 p6)) p7] p2 :: hs) ((k, hRet i z j) :: pl) := by
  obtain ⟨cl, h1, h2⟩ := rest.ex
  refine ⟨⟨.ref Ck, some i, fun a cls d => tRet (tTupZ (tCons (tC (.str z)) (tCons (tXf a cls d Ck fld (tVar i)) tNil)))⟩ :: cl,
    .cons (.named hc hN hi hn fun a o cls d pn hz hf => pss_one (ps_ret (pe_tupZ (pa_cons pe_str (pa_cons (pe_xf XF hno hz hf (pe_var hi hv hd hcd) hab) pa_nil))))) h1, fun D H ρ c es C dd σ S τ hx2 T h => ?_⟩
  obtain ⟨ms, fs, e1, e2, e3⟩ := id hx2
  refine ⟨_, hx c C ms e1, fun hq => ?_, fun hq a _ => ?_⟩
  · rw [show pickH ((k, hRet i z j) :: pl) c es = (if subC c k = true then hRet i z j es else pickH pl c es) from rfl, if_neg (by rw [hq]; decide)] at h
    exact h2 D H ρ c es C dd σ S τ hx2 T h
  · rw [show pickH ((k, hRet i z j) :: pl) c es = (if subC c k = true then hRet i z j es else pickH pl c es) from rfl, if_pos hq] at h
    have hck2 := hk c hq
    subst hck2
    rw [hck] at e1
    cases e1
    unfold hRet at h
    cases ej : es[j]? with
    | none => rw [ej] at h; exact h.elim
    | some d =>
      rw [ej] at h
      by_cases hil : i < σ.length
      · have h : (if i < σ.length then Rs.ok (Fl.rt (.tup [.str z, d]), σ) S else .no).Sat (KF X.K H ρ D) (KX noEr H ρ) := h
        rw [if_pos hil] at h
        obtain ⟨v, hv1, dv⟩ := e3 j fld d hj ej
        have hlt : i < τ.length := by rw [← T.sl.len]; exact hil
        refine ⟨.ref a, by rw [List.getElem?_set_self hlt], rfl, rfl, dd, fs, v, rfl, e2, hv1, ?_⟩
        refine ⟨Nat.le_of_ble_eq_true (by rfl), ?_⟩
        exact new_tup T.hr (.cons (.str z) (.cons dv .nil)) h
      · have h : (if i < σ.length then Rs.ok (Fl.rt (.tup [.str z, d]), σ) S else .no).Sat (KF X.K H ρ D) (KX noEr H ρ) := h
        rw [if_neg hil] at h
        exact h.elim
theorem ss_try {Er : ER} {body : List Stmt} {h0 : ExceptHandler} {hs : List ExceptHandler} {pl : Hds} {fb : FS} {pos : Pos} (hst : X.stack = X.env :: X.outer) (hfr : X.env.frame = some X.env.locals)
    (hb : ∀ (W : WX) (pn : List (Addr × Obj)) (xe : Value → Shared → Prop), Takes (X.tr pn xe) W → PassesOwn (model X.prog X.w) X.A X.env xe → SSs (X.tr pn xe) (ErT X.K ct W) body fb)
    (hh : HsD X ct (h0 :: hs) pl) : SS X Er (.Try body (h0 :: hs) [] [] pos) (sTry fb pl) := by
  obtain ⟨cl, h1, h2⟩ := hh.ex
  refine ⟨_, ps_tryC (tb := fun W => canSs X.K (ErT X.K ct W) fb) hst hfr (fun W pn xe tk po => (hb W pn xe tk po).can) h1, fun τ H ρ σ S D T h => ⟨ρ, σ, S, T, ?_⟩⟩
  unfold sTry at h
  cases e0 : fb σ S with
  | ok r S1 => rw [e0] at h; exact h
  | no => rw [e0] at h; exact h.elim
  | ex c es S1 =>
    rw [e0] at h
    cases es with
    | nil => exact h.elim
    | cons e es =>
      intro H' ρ' t' C dd τ' T' hx
      exact h2 D H' ρ' c es C dd (dec e) S1 τ' hx T' (Rs.Sat.toF t' (quiet_sat h))
end

/-! ### is True, is not True -/
def isBG (neg : Bool) : G2 := fun x y S => match x, y with
  | .bl a, .bl b => .ok (.bl (if neg then !decide (a = b) else decide (a = b))) S
  | _, _ => .no
theorem isBG_calm (neg : Bool) : Calm2 (isBG neg) := by
  intro x y S c ds S' h
  unfold isBG at h
  split at h <;> cases h
theorem ro_isB {K : PySem.W.Frag} : RO K rIsB (isBG false) := by
  intro H ρ S x y xv yv Q hr dx dy h
  cases dx <;> first | exact h.elim | skip
  cases dy <;> first | exact h.elim | skip
  exact ⟨_, _, rfl, rfl, ko_here hr h (.bl _)⟩
theorem ro_notB {K : PySem.W.Frag} : RO K rNotB (isBG true) := by
  intro H ρ S x y xv yv Q hr dx dy h
  cases dx <;> first | exact h.elim | skip
  cases dy <;> first | exact h.elim | skip
  exact ⟨_, _, rfl, rfl, ko_here hr h (.bl _)⟩
/-! ### the table -/
def ctL (l : List (Nat × Addr × List Str)) : CT := fun c => l.lookup c
theorem ctL_mem {l : List (Nat × Addr × List Str)} {c : Nat} {C : Addr} {ns : List Str} (h : ctL l c = some (C, ns)) : (c, C, ns) ∈ l := by
  unfold ctL at h
  induction l with
  | nil => cases h
  | cons x l ih =>
    obtain ⟨k, D, ms⟩ := x
    by_cases e : c = k
    · subst e
      simp [List.lookup] at h
      rw [h.1, h.2]; exact List.mem_cons_self
    · have : (c == k) = false := by simpa using e
      simp [List.lookup, this] at h
      exact List.mem_cons_of_mem _ (ih h)
theorem ctL_all {l : List (Nat × Addr × List Str)} {P : Nat → Addr → Prop} (h : ∀ x ∈ l, P x.1 x.2.1) : ∀ c C ns, ctL l c = some (C, ns) → P c C := fun c C ns e => h _ (ctL_mem e)
/-- an exception of the class at S, held against the class at T -/
theorem exm_of {K : PySem.W.Frag} {S T : Addr} {b : Bool} (h1 : PySem.W.subIn K (.ref T) (.type "BaseException") = some true) (h2 : PySem.W.isClsIn K T = true) (h3 : PySem.W.typeIn K (.ref T) = some (.type "type")) (h4 : PySem.W.subIn K (.ref S) (.ref T) = some b) :
    PySem.W.exmOne K (.ref S) (.ref T) = some b := by
  have e1 : (PySem.W.subIn K (.ref T) (.type "BaseException") == some true) = true := by rw [h1] <;> rfl
  have e2 : ((PySem.W.clsIn K T).isSome && PySem.W.typeIn K (.ref T) == some (.type "type")) = true := by
    rw [show (PySem.W.clsIn K T).isSome = true from h2, h3] <;> rfl
  show (if (PySem.W.subIn K (.ref T) (.type "BaseException") == some true) = true then (if ((PySem.W.clsIn K T).isSome && PySem.W.typeIn K (.ref T) == some (.type "type")) = true then PySem.W.subIn K (.ref S) (.ref T) else none) else none) = some b
  rw [if_pos e1, if_pos e2]
  exact h4

/-! ### tuple(range(n)) -/
section
variable {X : Cx} {Er : ER}
def tTupRgZ (te : L2.St → Hp → (Int → Int → Hp → Prop) → Prop) : TE := fun σ H Q => te σ H fun a b H1 => RgOk a b ∧ NewT (rgV a b) H1 Q
theorem pe_tupRgZ {e : Expr} {te : L2.St → Hp → (Int → Int → Hp → Prop) → Prop} {p pos : Pos} (hc : X.calm = true) (hg : Gl X "tuple") (hm : X.mg "tuple" = none) (he : PRg X e te) (na : starEach [e] X.env = (false, eval e X.env) :: starEach [] X.env := by rfl) :
    PE X (.Call (.Name "tuple" p) [e] [] pos) (tTupRgZ te) := by
  constructor
  intro pins s τ H Q I w
  refine Call_ (ld_blt I hg hm boot_tuple (PyProof.Rows.callWith_type1 (args_cons (thn (he pins s τ H _ I w) ?_) na) na))
  rintro x s1 ⟨r, a, b, t, u, v, H1, rfl, hr, I1, ⟨b1, b2, b3, b4, b5⟩, q⟩
  refine args_nil (call_tuple_range (n := (b - a).toNat) (I1.ok.hd hc) hr (small_one b1 b2 b3 b4) (rangeSize_nat a b) b5 fun h' tk acc hk hi => ?_)
  have e := vals_rg hi
  have := laidT (tk := tk) (I1.kept (t' := tk) hk) e (by rw [rgV_length, sizeLine_eq]; omega) q
  rwa [Array.toArray_toList] at this
def dTupR1 (f : FE) : FE := fun σ S => (f σ S).bind fun d S1 => match d with
  | .int j => if j ≤ 100000 ∧ -(2 ^ 62) ≤ j then .ok (.tup (rgD 0 j.toNat)) S1 else .no
  | _ => .no
theorem se_tupR1 {a : Expr} {fa : FE} {p p2 pos pos2 : Pos} (hc : X.calm = true) (hgl : Gl X "tuple") (hml : X.mg "tuple" = none) (hg : Gl X "range") (hm : X.mg "range" = none) (ha : SE X Er a fa)
    (na : starEach [.Call (.Name "range" p2) [a] [] pos2] X.env = (false, eval (.Call (.Name "range" p2) [a] [] pos2) X.env) :: starEach [] X.env := by rfl) (na2 : starEach [a] X.env = (false, eval a X.env) :: starEach [] X.env := by rfl) :
    SE X Er (.Call (.Name "tuple" p) [.Call (.Name "range" p2) [a] [] pos2] [] pos) (dTupR1 fa) := by
  obtain ⟨ta, pa, qa⟩ := ha.ex
  refine ⟨_, pe_tupRgZ hc hgl hml (prg_1 hg hm pa na2) na, fun τ H ρ σ S Q T h => qa τ H ρ σ S _ T ((link h).mono (fun d S1 h1 => ?_) fun _ _ _ q => q)⟩
  intro v H1 ρ1 t1 hr1 dv
  cases dv <;> first | exact h1.elim | skip
  rename_i j
  obtain ⟨c, h1⟩ := ite_sat h1
  refine ⟨j, rfl, ⟨by decide, by decide, c.2, by omega, by omega⟩, ?_⟩
  have e : rgV 0 j = (List.range j.toNat).map fun i => V.int (0 + (i : Nat)) := by unfold rgV; rw [Int.sub_zero]
  rw [e]
  exact new_tup hr1 (rg_dvs 0 _) fun v H' ρ' t' => h1 v H' ρ' (t1.trans t')
end

/-! ### texts walked, compared -/
section
variable {X : Cx} {Er : ER} {K : PySem.W.Frag}
def sgn (c : Nat) : Dt := .str ⟨#[c]⟩
def srcStr (f : FE) : Src Dt := fun σ S => (f σ S).bind fun d S1 => match d with
  | .str x => .ok (x.cps.toList.map fun c => Dt.str ⟨#[c]⟩, fun _ => True) S1
  | _ => .no
theorem si_str {tg iter : Expr} {f : FE} (h : SE X Er iter f) : SI X Er itS tg iter (srcStr f) := by
  obtain ⟨te, p, q⟩ := h.ex
  refine ⟨_, pi_str p, fun τ H ρ σ S R T h => q τ H ρ σ S _ T ((link h).mono (fun d S1 h1 => ?_) fun _ _ _ q => q)⟩
  intro v H1 ρ1 t1 hr1 dv
  cases dv <;> first | exact h1.elim | skip
  rename_i x
  have h1 : KI X.K H ρ itS R (x.cps.toList.map fun c => Dt.str ⟨#[c]⟩, fun _ => True) S1 := h1
  refine ⟨x, rfl, h1 H1 ρ1 (Its x) (fun _ => True) (fun i H v H' => H' = H ∧ ∃ c, x.cps[i]? = some c ∧ v = .str ⟨#[c]⟩) t1 hr1 ⟨fun i _ hi _ => (show i < x.cps.size by simpa using hi), fun _ _ => (show x.cps.size ≤ _ by simp), fun _ _ _ _ _ _ y => y⟩ (fun _ _ _ _ _ _ => trivial) fun i a y H' H'' ρ' S' _ _ _ hi hy => ?_⟩
  obtain ⟨e1, c, hc, e2⟩ := hy
  rw [List.getElem?_map, Array.getElem?_toList, hc] at hi
  cases hi
  subst e2
  exact ⟨e1, .str _⟩
def leSG : G2 := fun x y S => match x, y with
  | .str i, .str j => .ok (.bl (!decide (j.cps.toList < i.cps.toList))) S
  | _, _ => .no
theorem leSG_calm : Calm2 leSG := by
  intro x y S c ds S' h
  unfold leSG at h
  split at h <;> cases h
theorem ro_leS : RO K (fun x y H Q => ∃ i j, x = .str i ∧ y = .str j ∧ Q (.bl (!decide (j.cps.toList < i.cps.toList))) H) leSG := by
  intro H ρ S x y xv yv Q hr dx dy h
  cases dx <;> first | exact h.elim | skip
  cases dy <;> first | exact h.elim | skip
  exact ⟨_, _, rfl, rfl, ko_here hr h (.bl _)⟩
end

/-! ### truth of values -/
def truD (S : Bxs) : Dt → Option Bool
  | .non => some false
  | .bl b => some b
  | .int i => some (i != 0)
  | d => (seqOf S d).map fun xs => !xs.isEmpty
section
variable {X : Cx} {Er : ER} {K : PySem.W.Frag} {H : Hp} {ρ : List Addr} {S : Bxs}
theorem tru_of {d : Dt} {v : V} {b : Bool} (hr : HR K H ρ S) (dv : DV K H ρ d v) (h : truD S d = some b) : TruV K v H b := by
  cases dv with
  | non => cases h; rfl
  | bl c => cases h; rfl
  | int i => cases h; rfl
  | str x => cases h
  | @tup a ds vs ht hd =>
    obtain ⟨xs, e1, e2⟩ := Option.map_eq_some_iff.mp (show (seqOf S (.tup ds)).map (fun xs => !xs.isEmpty) = some b from h)
    obtain ⟨a', ws, ea, hs, hd'⟩ := seq_of hr (.tup ht hd) e1
    cases ea
    have hl := hd'.length
    have : b = !ws.isEmpty := by
      rw [← e2]
      cases xs <;> cases ws <;> first | rfl | cases hl
    rcases hs with hs | hs
    · exact .inl ⟨ws, hs, this⟩
    · exact .inr (.inl ⟨ws, hs, this⟩)
  | @box n a ha =>
    obtain ⟨xs, e1, e2⟩ := Option.map_eq_some_iff.mp (show (seqOf S (.box n)).map (fun xs => !xs.isEmpty) = some b from h)
    obtain ⟨a', ws, ea, hs, hd'⟩ := seq_of hr (.box ha) e1
    cases ea
    have hl := hd'.length
    have : b = !ws.isEmpty := by
      rw [← e2]
      cases xs <;> cases ws <;> first | rfl | cases hl
    rcases hs with hs | hs
    · exact .inl ⟨ws, hs, this⟩
    · exact .inr (.inl ⟨ws, hs, this⟩)
def dTru (f : FE) : FB := fun σ S => (f σ S).bind fun d S1 => match truD S1 d with
  | some b => .ok b S1
  | none => .no
def dNotT (f : FE) : FE := fun σ S => (f σ S).bind fun d S1 => match truD S1 d with
  | some b => .ok (.bl (!b)) S1
  | none => .no
theorem st_truth {e : Expr} {f : FE} (h : SE X Er e f) (he : ∀ whole, isTrue e X.env whole = (do let v ← whole; standAt e.pos; holding [v] (truthy v)) := by intro _; rfl) : ST X Er e (dTru f) := by
  obtain ⟨te, p, q⟩ := h.ex
  refine ⟨_, pt_truth p he, fun τ H ρ σ S Q T h => q τ H ρ σ S _ T ((link h).mono (fun d S1 h1 => ?_) fun _ _ _ q => q)⟩
  intro v H' ρ' t hr dv
  cases e1 : truD S1 d with
  | none => rw [e1] at h1; exact h1.elim
  | some b => rw [e1] at h1; exact ⟨b, tru_of hr dv e1, h1 H' ρ' t hr⟩
theorem se_notT {e : Expr} {f : FE} {pos : Pos} (h : SE X Er e f) : SE X Er (.UnaryOp .Not e pos) (dNotT f) := by
  obtain ⟨te, p, q⟩ := h.ex
  refine ⟨_, pe_notT p, fun τ H ρ σ S Q T h => q τ H ρ σ S _ T ((link h).mono (fun d S1 h1 => ?_) fun _ _ _ q => q)⟩
  intro v H' ρ' t hr dv
  cases e1 : truD S1 d with
  | none => rw [e1] at h1; exact h1.elim
  | some b => rw [e1] at h1; exact ⟨b, tru_of hr dv e1, h1 _ H' ρ' t hr (.bl _)⟩
end
end Mn

set_option Elab.async false
set_option linter.all false
set_option maxRecDepth 100000
set_option maxHeartbeats 4000000
/-! Mn3: zip of three lists or tuples. -/
namespace Mn
open PySem PySem.Spec PyProof.Rows L2
def It3 (k1 k2 k3 : Bool) (K : PySem.W.Frag) (a b c : Addr) : It where
  go := fun i H => ∃ (xs ys zs : List V) (x y z : V), SqX k1 K H a xs ∧ SqX k2 K H b ys ∧ SqX k3 K H c zs ∧ xs[i]? = some x ∧ ys[i]? = some y ∧ zs[i]? = some z
  yld := fun i H v H' => ∃ T x y z, v = .ref T ∧ H T = none ∧ H' = upd H T (.tup [x, y, z]) ∧ (∀ xs, SqX k1 K H a xs → xs[i]? = some x) ∧ (∀ ys, SqX k2 K H b ys → ys[i]? = some y) ∧ ∀ zs, SqX k3 K H c zs → zs[i]? = some z
  stop := fun i H => ∃ xs ys zs : List V, SqX k1 K H a xs ∧ SqX k2 K H b ys ∧ SqX k3 K H c zs ∧ i ≤ xs.length ∧ i ≤ ys.length ∧ i ≤ zs.length ∧ (i = xs.length ∨ i = ys.length ∨ i = zs.length)
/-- the cells apart -/
structure Z3 (z TI TO i1 i2 i3 a b c : Addr) : Prop where
  sep : ZipSep3 z TI TO i1 i2 i3 [i1, a] [i2, b] [i3, c]
  ai1 : a ≠ i1
  bi2 : b ≠ i2
  ci3 : c ≠ i3
theorem turn_zip3 {P : Program} {w : World} {K : PySem.W.Frag} {elts : List Expr} {kk : Nat} {tpos : Pos} {k1 k2 k3 : Bool} {a b c z TI TO i1 i2 i3 : Addr} (D : Z3 z TI TO i1 i2 i3 a b c) :
    Turn P w K (.Tuple elts kk tpos) (It3 k1 k2 k3 K a b c) [z, TI, TO, i1, i2, i3] z
      (fun i h => IsZip h z TI TO .none ∧ IsTupOf3 h TI (.ref i1) (.ref i2) (.ref i3) ∧ (∃ x y w, IsTupOf3 h TO x y w) ∧ HIt k1 h i1 a i ∧ HIt k2 h i2 b i ∧ HIt k3 h i3 c i) where
  mem := by simp
  obj := fun i h st e he => by
    obtain ⟨hz, hTI, ⟨x, y, w, hTO⟩, h1, h2, h3⟩ := st
    have e' : e = z ∨ e = TI ∨ e = TO ∨ e = i1 ∨ e = i2 ∨ e = i3 := by simpa using he
    rcases e' with rfl | rfl | rfl | rfl | rfl | rfl
    · exact ⟨_, hz, fun v q => nomatch q⟩
    · exact ⟨_, hTI, fun v q => nomatch q⟩
    · exact ⟨_, hTO, fun v q => nomatch q⟩
    · exact h1.obj
    · exact h2.obj
    · exact h3.obj
  keep := fun i h h' st f => by
    obtain ⟨hz, hTI, ⟨x, y, w, hTO⟩, h1, h2, h3⟩ := st
    exact ⟨f z (by simp) _ hz, f TI (by simp) _ hTI, ⟨x, y, w, f TO (by simp) _ hTO⟩, h1.at fun o q => f i1 (by simp) o q, h2.at fun o q => f i2 (by simp) o q, h3.at fun o q => f i3 (by simp) o q⟩
  item := by
    intro X hP hw hK hc i pins s σ H E I hf st hg
    subst hP hw hK
    obtain ⟨hz, hTI, ⟨x0, y0, w0, hTO⟩, h1, h2, h3⟩ := st
    obtain ⟨xs, ys, zs, x, y, w, hqx, hqy, hqz, hx, hy, hw⟩ := hg
    obtain ⟨t1, rv1, p1, _⟩ := sqx_inv I hqx
    obtain ⟨t2, rv2, p2, _⟩ := sqx_inv I hqy
    obtain ⟨t3, rv3, p3, _⟩ := sqx_inv I hqz
    obtain ⟨u1, hu1, ru1⟩ := rv1.get hx
    obtain ⟨u2, hu2, ru2⟩ := rv2.get hy
    obtain ⟨u3, hu3, ru3⟩ := rv3.get hw
    have hzl : z < s.heap.objs.size := Heap.lt_size hz
    have l1 : i < t1.toArray.size := by rw [List.size_toArray]; exact (List.getElem?_eq_some_iff.mp hu1).1
    have l2 : i < t2.toArray.size := by rw [List.size_toArray]; exact (List.getElem?_eq_some_iff.mp hu2).1
    have l3 : i < t3.toArray.size := by rw [List.size_toArray]; exact (List.getElem?_eq_some_iff.mp hu3).1
    have d1 := drawsX (prog := X.prog) (w := X.w) (A := X.A.in1) k1 (I.ok.hd hc) i1 a D.ai1 t1.toArray
    have d2 := drawsX (prog := X.prog) (w := X.w) (A := X.A.in1) k2 (I.ok.hd hc) i2 b D.bi2 t2.toArray
    have d3 := drawsX (prog := X.prog) (w := X.w) (A := X.A.in1) k3 (I.ok.hd hc) i3 c D.ci3 t3.toArray
    refine wpAny_pyNext_zipD3_item D.sep d1 d2 d3 hz hTI hTO ⟨h1, p1⟩ ⟨h2, p2⟩ ⟨h3, p3⟩ l1 l2 l3 fun x1 x2 x3 h' tk y1 y2 y3 z' TO' s1 s2 s3 hT hsz hk => ?_
    obtain rfl : u1 = x1 := Option.some.inj ((show t1[i]? = some u1 from hu1).symm.trans (by simpa using y1))
    obtain rfl : u2 = x2 := Option.some.inj ((show t2[i]? = some u2 from hu2).symm.trans (by simpa using y2))
    obtain rfl : u3 = x3 := Option.some.inj ((show t3[i]? = some u3 from hu3).symm.trans (by simpa using y3))
    refine ⟨_, rfl, wpAny_letOwnedTupleGo_zip (s := { s with heap := h', toks := tk }) z' fun h'' z'' sb => ?_⟩
    have hT2 : h''.get? s.heap.objs.size = some { cls := .type "tuple", data := .seq #[u1, u2, u3] } := (sb.2 _ (Nat.ne_of_gt hzl)).trans hT
    have new : ObjOk X.prog X.w (upd H s.heap.objs.size (.tup [x, y, w])) h'' s.heap.objs.size (.tup [x, y, w]) :=
      ⟨by show 3 ≤ sizeLine; decide, [u1, u2, u3], .cons ru1 (.cons ru2 (.cons ru3 .nil)), ⟨_, hT2, rfl, _, rfl⟩⟩
    have hk' : ∀ e o, e ∉ [z, TI, TO, i1, i2, i3] → s.heap.get? e = some o → h''.get? e = some o := fun e o hb q => by
      simp only [List.mem_cons, List.not_mem_nil, or_false, not_or] at hb
      exact (sb.2 e hb.1).trans (hk e o hb.1 hb.2.2.1 hb.2.2.2.1 hb.2.2.2.2.1 hb.2.2.2.2.2 q)
    have I1 : Inv X pins σ (upd H s.heap.objs.size (.tup [x, y, w])) { s with heap := h'', toks := tk } := I.turnedNew (t' := tk) (ch := [z, TI, TO, i1, i2, i3]) hk' hf (Nat.le_refl _) new
    refine ⟨.ref s.heap.objs.size, _, I1, rfl, ⟨_, x, y, w, rfl, I.hok.fresh (Nat.le_refl _), rfl, fun l hl => by rw [sqx_inj I hl hqx]; exact hx, fun l hl => by rw [sqx_inj I hl hqy]; exact hy, fun l hl => by rw [sqx_inj I hl hqz]; exact hw⟩, ⟨z'', ?_, ⟨u1, u2, u3, ?_⟩, ?_, ?_, ?_⟩, fun e hem => ?_⟩
    · exact (sb.2 _ D.sep.TIz).trans (hk _ _ D.sep.TIz D.sep.TITO D.sep.TIi1 D.sep.TIi2 D.sep.TIi3 hTI)
    · exact (sb.2 _ D.sep.TOz).trans TO'
    · exact s1.1.at fun o q => (sb.2 _ D.sep.zi1.symm).trans q
    · exact s2.1.at fun o q => (sb.2 _ D.sep.zi2.symm).trans q
    · exact s3.1.at fun o q => (sb.2 _ D.sep.zi3.symm).trans q
    · rw [upd_ne]
      · exact (hf e hem).1
      · have e' : e = z ∨ e = TI ∨ e = TO ∨ e = i1 ∨ e = i2 ∨ e = i3 := by simpa using hem
        refine Nat.ne_of_lt ?_
        rcases e' with rfl | rfl | rfl | rfl | rfl | rfl
        · exact hzl
        · exact Heap.lt_size hTI
        · exact Heap.lt_size hTO
        · obtain ⟨_, e1, _⟩ := h1.obj; exact Heap.lt_size e1
        · obtain ⟨_, e2, _⟩ := h2.obj; exact Heap.lt_size e2
        · obtain ⟨_, e3, _⟩ := h3.obj; exact Heap.lt_size e3
  done := by
    intro X hP hw hK hc i pins s σ H E I hf st hg
    subst hP hw hK
    obtain ⟨hz, hTI, ⟨x0, y0, w0, hTO⟩, h1, h2, h3⟩ := st
    obtain ⟨xs, ys, zs, hqx, hqy, hqz, hl1, hl2, hl3, hend⟩ := hg
    obtain ⟨t1, rv1, p1, _⟩ := sqx_inv I hqx
    obtain ⟨t2, rv2, p2, _⟩ := sqx_inv I hqy
    obtain ⟨t3, rv3, p3, _⟩ := sqx_inv I hqz
    have l1 := rv1.length
    have l2 := rv2.length
    have l3 := rv3.length
    have d1 := drawsX (prog := X.prog) (w := X.w) (A := X.A.in1) k1 (I.ok.hd hc) i1 a D.ai1 t1.toArray
    have d2 := drawsX (prog := X.prog) (w := X.w) (A := X.A.in1) k2 (I.ok.hd hc) i2 b D.bi2 t2.toArray
    have d3 := drawsX (prog := X.prog) (w := X.w) (A := X.A.in1) k3 (I.ok.hd hc) i3 c D.ci3 t3.toArray
    refine wpAny_pyNext_zipD3_end D.sep d1 d2 d3 hz hTI hTO ⟨h1, p1⟩ ⟨h2, p2⟩ ⟨h3, p3⟩
      (by rw [List.size_toArray]; omega) (by rw [List.size_toArray]; omega) (by rw [List.size_toArray]; omega) (by rw [List.size_toArray, List.size_toArray, List.size_toArray]; omega) fun h' tk hk => ⟨rfl, I.turnedL (t' := tk) (ch := [z, TI, TO, i1, i2, i3]) (fun e o hb q => ?_) hf⟩
    simp only [List.mem_cons, List.not_mem_nil, or_false, not_or] at hb
    exact hk e o hb.1 hb.2.2.1 hb.2.2.2.1 hb.2.2.2.2.1 hb.2.2.2.2.2 q
  self := fun A i s Q E st h => wpAny_pyIter_zip st.1 h
def iZip3 (k1 k2 k3 : Bool) (K : PySem.W.Frag) (ta : TA) : TI := fun σ H R => ta σ H fun vs H1 => ∃ a b c xs ys zs, vs = [.ref a, .ref b, .ref c] ∧ SqX k1 K H1 a xs ∧ SqX k2 K H1 b ys ∧ SqX k3 K H1 c zs ∧ R (It3 k1 k2 k3 K a b c) H1
theorem vals3 {x y z : V} {us : List Value} (h : Vals [x, y, z] us) : ∃ u v w, us = [u, v, w] ∧ RelV x u ∧ RelV y v ∧ RelV z w := by
  cases h with
  | cons a h => cases h with
    | cons b h => cases h with
      | cons c h => cases h; exact ⟨_, _, _, rfl, a, b, c⟩
theorem pi_zip3 {X : Cx} {e e2 e3 : Expr} {ta : TA} {p pos tpos : Pos} {elts : List Expr} {kk : Nat} (k1 k2 k3 : Bool) (hg : Gl X "zip") (hm : X.mg "zip" = none) (ha : PA X [e, e2, e3] ta)
    (hs : starEach [e, e2, e3] X.env = (false, eval e X.env) :: starEach [e2, e3] X.env := by rfl) (hpl : (backTo pos (starEach [e2, e3] X.env)).any (·.1) = false := by rfl) :
    PI X (.Tuple elts kk tpos) (.Call (.Name "zip" p) [e, e2, e3] [] pos) (iZip3 k1 k2 k3 X.K ta) := by
  constructor
  intro pins s σ H R I h
  refine Call_ (ld_blt I hg hm PyProof.Rows.boot_zip (PyProof.Rows.callWith_type1 (thn (ha.run pos pins s σ H _ I h) ?_) hs hpl))
  rintro us s1 ⟨vs, H1, I1, r1, a, b, c, xs, ys, zs, rfl, hqx, hqy, hqz, q⟩
  obtain ⟨u1, u2, u3, rfl, ra, rb, rc⟩ := vals3 r1
  cases ra
  cases rb
  cases rc
  obtain ⟨t1, rv1, p1, la⟩ := sqx_inv I1 hqx
  obtain ⟨t2, rv2, p2, lb⟩ := sqx_inv I1 hqy
  obtain ⟨t3, rv3, p3, lc⟩ := sqx_inv I1 hqz
  refine zip_begins3 (beginsX k1 a t1.toArray) (beginsX k2 b t2.toArray) (beginsX k3 c t3.toArray) p1 p2 p3 fun h' hz hTI hTO g1 g2 g3 hsz hk => wpAny_pyIter_zip hz ?_
  have I2 : Inv X pins σ H1 { s1 with heap := h' } := I1.kept (t' := s1.toks) hk
  have dz : Z3 (s1.heap.objs.size + 5) (s1.heap.objs.size + 3) (s1.heap.objs.size + 4) s1.heap.objs.size (s1.heap.objs.size + 1) (s1.heap.objs.size + 2) a b c :=
    ⟨zip_sep3 (fp1 := [a]) (fp2 := [b]) (fp3 := [c]) (by intro e he; rw [List.mem_singleton.mp he]; exact la) (by intro e he; rw [List.mem_singleton.mp he]; exact lb) (by intro e he; rw [List.mem_singleton.mp he]; exact lc),
      Nat.ne_of_lt la, Nat.ne_of_lt (Nat.lt_succ_of_lt lb), Nat.ne_of_lt (Nat.lt_succ_of_lt (Nat.lt_succ_of_lt lc))⟩
  refine ⟨s1.heap.objs.size + 5, [s1.heap.objs.size + 5, s1.heap.objs.size + 3, s1.heap.objs.size + 4, s1.heap.objs.size, s1.heap.objs.size + 1, s1.heap.objs.size + 2], _, _, H1, rfl, I2, turn_zip3 dz, ⟨hz, hTI, ⟨_, _, _, hTO⟩, hit_new g1, hit_new g2, hit_new g3⟩, fun e hem => ?_, q⟩
  have hle : s1.heap.objs.size ≤ e := by
    have e' : e = s1.heap.objs.size + 5 ∨ e = s1.heap.objs.size + 3 ∨ e = s1.heap.objs.size + 4 ∨ e = s1.heap.objs.size ∨ e = s1.heap.objs.size + 1 ∨ e = s1.heap.objs.size + 2 := by simpa using hem
    rcases e' with z | z | z | z | z | z <;> rw [z] <;> first | exact Nat.le_add_right _ _ | exact Nat.le_refl _
  exact I1.fpOk hle (I1.hok.fresh hle)
theorem walk3 {K : PySem.W.Frag} {k1 k2 k3 : Bool} {a b c : Addr} {n1 n2 n3 : Nat} :
    Walk (It3 k1 k2 k3 K a b c) (min n1 (min n2 n3)) (fun H => ∃ us vs ws, SqX k1 K H a us ∧ SqX k2 K H b vs ∧ SqX k3 K H c ws ∧ us.length = n1 ∧ vs.length = n2 ∧ ws.length = n3)
      (fun i H v H' => ∃ T x y z, v = .ref T ∧ H T = none ∧ H' = upd H T (.tup [x, y, z]) ∧ (∀ xs, SqX k1 K H a xs → xs[i]? = some x) ∧ (∀ ys, SqX k2 K H b ys → ys[i]? = some y) ∧ ∀ zs, SqX k3 K H c zs → zs[i]? = some z) := by
  refine ⟨fun i _ hi ⟨us, vs, ws, q1, q2, q3, l1, l2, l3⟩ => ?_, fun _ ⟨us, vs, ws, q1, q2, q3, l1, l2, l3⟩ => ⟨us, vs, ws, q1, q2, q3, by omega, by omega, by omega, by omega⟩, fun i H v H' _ _ y => y⟩
  exact ⟨us, vs, ws, us[i]'(by omega), vs[i]'(by omega), ws[i]'(by omega), q1, q2, q3, by simp [show i < us.length by omega], by simp [show i < vs.length by omega], by simp [show i < ws.length by omega]⟩
abbrev D3 := Dt × Dt × Dt
def it3 : IRel D3 := fun K H ρ a x H' => ∃ T x1 x2 x3, x = .ref T ∧ H T = none ∧ H' = upd H T (.tup [x1, x2, x3]) ∧ DV K H ρ a.1 x1 ∧ DV K H ρ a.2.1 x2 ∧ DV K H ρ a.2.2 x3
def srcZip3 (f : FA) : Src D3 := fun σ S => (f σ S).bind fun ds S1 => match ds with
  | [d, e, g] => match seqOf S1 d, seqOf S1 e, seqOf S1 g with
    | some xs, some ys, some zs => .ok (xs.zip (ys.zip zs), fun S' => seqOf S' d = some xs ∧ seqOf S' e = some ys ∧ seqOf S' g = some zs) S1
    | _, _, _ => .no
  | _ => .no
theorem PI.or8 {X : Cx} {tg iter : Expr} {w : Bool → Bool → Bool → TI} (h : ∀ a b c, PI X tg iter (w a b c)) : PI X tg iter (fun σ H R => ∃ a b c, w a b c σ H R) :=
  ⟨fun pins s σ H R I ⟨a, b, c, q⟩ => (h a b c).run pins s σ H R I q⟩
section
variable {X : Cx} {Er : ER} {K : PySem.W.Frag} {H H1 : Hp} {ρ ρ1 : List Addr} {σ : Sg} {S S1 : Bxs} {τ : L2.St}
theorem si_zip3 {elts : List Expr} {kk : Nat} {tpos : Pos} {a b c : Expr} {fa : FA} {p pos : Pos} (hg : Gl X "zip") (hm : X.mg "zip" = none) (ha : SA X Er [a, b, c] fa)
    (hs : starEach [a, b, c] X.env = (false, eval a X.env) :: starEach [b, c] X.env := by rfl) (hpl : (backTo pos (starEach [b, c] X.env)).any (·.1) = false := by rfl) :
    SI X Er it3 (.Tuple elts kk tpos) (.Call (.Name "zip" p) [a, b, c] [] pos) (srcZip3 fa) := by
  obtain ⟨ta, pa, qa⟩ := ha.ex
  refine ⟨_, PI.or8 fun k1 k2 k3 => pi_zip3 k1 k2 k3 hg hm pa hs hpl, fun τ H ρ σ S R T h => ?_⟩
  have h := link h
  cases e : fa σ S with
  | no => rw [e] at h; exact h.elim
  | ex c ds s' =>
    rw [e] at h
    exact ⟨true, true, true, qa τ H ρ σ S _ T (by rw [e]; exact h)⟩
  | ok ds S1 =>
    rw [e] at h
    rcases ds with _ | ⟨d, _ | ⟨d2, _ | ⟨d3, _ | ⟨d4, dr⟩⟩⟩⟩
    · exact h.elim
    · exact h.elim
    · exact h.elim
    · cases e1 : seqOf S1 d with
      | none => simp only [Rs.Sat, e1] at h
      | some xs =>
       cases e2 : seqOf S1 d2 with
       | none => simp only [Rs.Sat, e1, e2] at h
       | some ys =>
        cases e3 : seqOf S1 d3 with
        | none => simp only [Rs.Sat, e1, e2, e3] at h
        | some zs =>
         have h : KI X.K H ρ it3 R (xs.zip (ys.zip zs), fun S' => seqOf S' d = some xs ∧ seqOf S' d2 = some ys ∧ seqOf S' d3 = some zs) S1 := by
           simpa only [Rs.Sat, e1, e2, e3] using h
         refine ⟨d.isT, d2.isT, d3.isT, qa τ H ρ σ S _ T ?_⟩
         rw [e]
         intro vs H1 ρ1 t1 hr1 dvs
         cases dvs with
         | cons dv r =>
          cases r with
          | cons dv2 r =>
           cases r with
           | cons dv3 r =>
            cases r
            obtain ⟨a, us, rfl, hs1, hd1⟩ := sqx_of hr1 dv e1
            obtain ⟨b, vs, rfl, hs2, hd2⟩ := sqx_of hr1 dv2 e2
            obtain ⟨c, ws, rfl, hs3, hd3⟩ := sqx_of hr1 dv3 e3
            refine ⟨a, b, c, us, vs, ws, rfl, hs1, hs2, hs3, h H1 ρ1 _ _ _ t1 hr1 (by rw [List.length_zip, List.length_zip]; exact walk3 (n1 := xs.length) (n2 := ys.length) (n3 := zs.length)) (fun H' ρ' S' t hr' st => ?_) fun i x y H' H'' ρ' S' t hr' st hi hy => ?_⟩
            · obtain ⟨a', us', ea, q1, q2⟩ := sqx_of hr' (dv.to t) st.1
              obtain ⟨b', vs', eb, q3, q4⟩ := sqx_of hr' (dv2.to t) st.2.1
              obtain ⟨c', ws', ec, q5, q6⟩ := sqx_of hr' (dv3.to t) st.2.2
              cases ea
              cases eb
              cases ec
              exact ⟨us', vs', ws', q1, q3, q5, q2.length.symm, q4.length.symm, q6.length.symm⟩
            · obtain ⟨U, x1, x2, x3, h1, h2, h3, h4, h5, h6⟩ := hy
              obtain ⟨a', us', ea, q1, q2⟩ := sqx_of hr' (dv.to t) st.1
              obtain ⟨b', vs', eb, q3, q4⟩ := sqx_of hr' (dv2.to t) st.2.1
              obtain ⟨c', ws', ec, q5, q6⟩ := sqx_of hr' (dv3.to t) st.2.2
              cases ea
              cases eb
              cases ec
              obtain ⟨p1, p2, p3⟩ := x
              have hz := List.getElem?_zip_eq_some.mp hi
              have hz2 := List.getElem?_zip_eq_some.mp hz.2
              obtain ⟨v1, g1, g2⟩ := q2.get hz.1
              obtain ⟨v2, g3, g4⟩ := q4.get hz2.1
              obtain ⟨v3, g5, g6⟩ := q6.get hz2.2
              rw [h4 us' q1] at g1
              rw [h5 vs' q3] at g3
              rw [h6 ws' q5] at g5
              cases g1
              cases g3
              cases g5
              exact ⟨U, _, _, _, h1, h2, h3, g2, g4, g6⟩
    · exact h.elim
def tTripG (g : FTs) : D3 → Sg → Bxs → Rs Sg := fun a σ S => g [a.1, a.2.1, a.2.2] σ S
theorem sgi_trip {es : List Expr} {k : Nat} {pos : Pos} {g : FTs} (hc : X.calm = true) (h : SGs X Er es g) (hn : (assignEach es X.env).length = 3 := by rfl) (hst : (assignEach es X.env).findIdx? (·.1) = none := by rfl) : SGi X Er it3 (.Tuple es k pos) (tTripG g) := by
  obtain ⟨t, p, q⟩ := h.ex
  refine ⟨_, pg_tup hc p hn hst, fun v a τ H H' ρ σ S Q T hi hs => ?_⟩
  obtain ⟨U, x1, x2, x3, rfl, hU, rfl, d1, d2, d3⟩ := hi
  have t1 : To H (upd H U (.tup [x1, x2, x3])) ρ ρ := ⟨Ext.new hU, List.prefix_refl _⟩
  exact ⟨U, [x1, x2, x3], rfl, SqT.of upd_same, rfl, q _ _ τ _ ρ σ S Q (T.to t1 (T.hr.tup hU)) (.cons (d1.to t1) (.cons (d2.to t1) (.cons (d3.to t1) .nil))) (Rs.Sat.toS t1 hs)⟩
theorem svi_trip {vs : List Nat} {es : List Expr} {k : Nat} {pos : Pos} {g : FTs} (hc : X.calm = true) (h : SVs X vs es g) (hn : (assignEach es X.env).length = 3 := by rfl) (hst : (assignEach es X.env).findIdx? (·.1) = none := by rfl) : SVi X vs it3 (.Tuple es k pos) (tTripG g) := by
  obtain ⟨t, p, q⟩ := h.ex
  refine ⟨_, pg_tup hc p hn hst, fun v a τ H H' ρ σ S Q T hi hs => ?_⟩
  obtain ⟨U, x1, x2, x3, rfl, hU, rfl, d1, d2, d3⟩ := hi
  have t1 : To H (upd H U (.tup [x1, x2, x3])) ρ ρ := ⟨Ext.new hU, List.prefix_refl _⟩
  exact ⟨U, [x1, x2, x3], rfl, SqT.of upd_same, rfl, q _ _ τ _ ρ σ S Q (T.to t1 (T.hr.tup hU)) (.cons (d1.to t1) (.cons (d2.to t1) (.cons (d3.to t1) .nil))) (hs.mono (fun σ2 S2 k τ2 H2 ρ2 t2 T2 w2 => k τ2 H2 ρ2 (t1.trans t2) T2 w2) fun _ _ _ q => q)⟩
end
end Mn

set_option Elab.async false
set_option linter.all false
set_option maxRecDepth 100000
set_option maxHeartbeats 4000000
/-! Mn4: xs.extend(list or tuple), xs.count(int), t[::-1]. -/
namespace Mn
open PySem PySem.Spec PyProof.Rows L2
theorem extend_any (l : Addr) (items : Array Value) (n : Nat) (b : Addr) (items2 : Array Value) (hlong : ¬ (!items.isEmpty && Builtin.List.listTooLong (items.size + items2.size)) = true) (h1 : items.size ≤ sizeLine) (h2 : items.size + items2.size ≤ sizeLine) :
    Meets (Builtin.«list.extend» ⟨[.ref l, .ref b], []⟩) (fun _ R s => s.heap.get? l = some { cls := .type "list", dict := none, data := .seq items n, slots := #[] } ∧ (∃ (T : String) (o : Obj) (n2 : Nat), (T = "list" ∨ T = "tuple") ∧ s.heap.get? b = some o ∧ o.cls = .type T ∧ o.data = .seq items2 n2) ∧
      R (.ok (.ret Value.none)) { s with heap := s.heap.update l (Obj.mapSeq fun x => x ++ items2), toks := s.toks }) :=
  .of_wp fun prog w A R s h => by
    obtain ⟨hl, ⟨T, o, n2, hT, ho, hc, hd⟩, hR⟩ := h
    show wpAny _ A.in1 (Builtin.List.listExtendWith (.ref l) (.ref b) .none) _ _ s
    unfold Builtin.List.listExtendWith
    refine wpAny_bind (wpAny_typeOf ⟨o, ho, hc⟩ ?_)
    have e1 : (Builtin.List.listSameRef (.ref l) (.ref b) || Value.type T == Value.type "list" || Value.type T == Value.type "tuple") = true := by
      rcases hT with rfl | rfl <;> simp
    simp only [e1, if_true]
    refine wpAny_bind ?_
    unfold Builtin.List.listItems
    refine wpAny_bind (wpAny_seqItems ho hd (wpAny_pure ?_))
    refine wpAny_bind ?_
    refine wpAny_bind (wpAny_seqItems hl rfl (wpAny_pure ?_))
    rw [if_neg hlong]
    first
      | refine wpAny_bind (wpAny_pure ?_)
      | skip
    refine wpAny_bind (wpAny_updateSeq hl rfl ?_ h1 (by rw [Array.size_append]; exact Nat.le_succ_of_le h2))
    exact wpAny_pure ⟨_, rfl, hR⟩
def rExtZ (K : PySem.W.Frag) : V → List V → Hp → VK → Prop := fun x vs H Q => ∃ l b xs zs, x = .ref l ∧ vs = [.ref b] ∧ H l = some (.lst xs) ∧ (SqL K H b zs ∨ SqT K H b zs) ∧ xs.length + zs.length ≤ sizeLine ∧ Q .non (upd H l (.lst (xs ++ zs)))
section
variable {X : Cx} {Er : ER} {K : PySem.W.Frag} {H : Hp} {ρ : List Addr} {S : Bxs}
theorem mt_extZ : MtR X "list.extend" (rExtZ X.K) := by
  rintro pins s σ H x vs v us Q I rx rv ⟨l, b, xs, zs, rfl, rfl, hH, hB, hz, q⟩
  cases rx
  obtain ⟨u, rfl, ru⟩ := rv.one
  cases ru
  obtain ⟨z, its, n, r, hl, e⟩ := I.lstM hH
  have src : ∃ its2 : List Value, Vals zs its2 ∧ ∃ (T : String) (o : Obj) (n2 : Nat), (T = "list" ∨ T = "tuple") ∧ s.heap.get? b = some o ∧ o.cls = .type T ∧ o.data = .seq its2.toArray n2 := by
    rcases hB with hB | hB
    · obtain ⟨its2, r2, pl, _⟩ := I.list hB
      obtain ⟨o, n2, ho, hc, hd, hdt⟩ := pl
      exact ⟨its2, r2, "list", o, n2, .inl rfl, ho, hc, hdt⟩
    · obtain ⟨its2, r2, ⟨o, ho, hc, n2, hd⟩, _⟩ := I.tuple hB
      exact ⟨its2, r2, "tuple", o, n2, .inr rfl, ho, hc, hd⟩
  obtain ⟨its2, r2, hsrc⟩ := src
  have hl2 := r2.length
  have hsz : its.toArray.size + its2.toArray.size ≤ sizeLine := by rw [List.size_toArray, List.size_toArray]; omega
  have hlong : ¬ (!its.toArray.isEmpty && Builtin.List.listTooLong (its.toArray.size + its2.toArray.size)) = true := by
    rw [notLongL hsz, Bool.and_false]
    exact Bool.false_ne_true
  refine call_meets F.slot_list_extend ⟨_, e, rfl⟩ F.entry_list_extend (F.args_list_extend_2 _ _) (extend_any l its.toArray n b its2.toArray hlong (by rw [List.size_toArray]; omega) hsz) ⟨e, hsrc, ?_⟩
  exact ⟨.non, _, I.lset (its' := its ++ its2) hH e (by simp) (r.append r2) (by rw [List.length_append]; omega), rfl, q⟩
def extendG : GM := fun d ds S => match d, ds with
  | .box n, [e] => match S.lst n, seqOf S e with
    | some xs, some ys => if xs.length + ys.length ≤ LIM then .ok .non (S.set n (.lst (xs ++ ys))) else .no
    | _, _ => .no
  | _, _ => .no
theorem extendG_calm : CalmM extendG := by
  intro d ds S c es S'
  unfold extendG
  split
  · split
    · exact calm_ite (calm_ok _ _) _ _ _
    · exact calm_no _ _ _
  · exact calm_no _ _ _
theorem rm_extend : RMo K (rExtZ K) extendG := by
  intro H ρ S d v ds vs Q hr dv dvs h
  unfold extendG at h
  split at h
  · obtain ⟨w, rfl, dw⟩ := dvs1 dvs
    cases dv with
    | box ha =>
      split at h
      · rename_i xs ys e1 e2
        obtain ⟨c, h⟩ := ite_sat h
        obtain ⟨us, h1, h2⟩ := hr.mu ha e1
        obtain ⟨b, ws, rfl, h3, h4⟩ := seq_of hr dw e2
        exact ⟨_, b, us, ws, rfl, rfl, h1, h3, by rw [← h2.length, ← h4.length]; exact lim_le c, ko_set hr e1 ha h1 (h2.app h4) h⟩
      · exact h.elim
  · exact h.elim
def lcountG : GM := fun d ds S => match d, ds with
  | .box n, [.int k] => match S.seq n with
    | some xs => match intsOf xs with
      | some ns => .ok (.int (ns.count k : Nat)) S
      | none => .no
    | none => .no
  | _, _ => .no
theorem lcountG_calm : CalmM lcountG := by
  intro d ds S c es S'
  unfold lcountG
  split
  · split
    · split
      · exact calm_ok _ _ _ _ _
      · exact calm_no _ _ _
    · exact calm_no _ _ _
  · exact calm_no _ _ _
theorem rm_lcount : RMo K (rCntI K) lcountG := by
  intro H ρ S d v ds vs Q hr dv dvs h
  unfold lcountG at h
  split at h
  · obtain ⟨w, rfl, dw⟩ := dvs1 dvs
    cases dv with
    | box ha =>
      split at h
      · rename_i xs e
        split at h
        · rename_i ns e2
          obtain ⟨us, h1, h2⟩ := hr.rd ha e
          have hu := ints_v h2 e2
          subst hu
          cases dw with
          | int _ => exact ⟨_, ns, _, rfl, rfl, h1, ko_here hr h (.int _)⟩
        · exact h.elim
      · exact h.elim
  · exact h.elim
end
/-! ### t[::-1] -/
theorem rev_adjust (n : Nat) : Builtin.Slice.sliceAdjust none none (-1) (n : Int) = ((n : Int) - 1, -1) := by
  unfold Builtin.Slice.sliceAdjust
  simp
theorem rev_places (n : Nat) : Builtin.Slice.slicePlaces ((n : Int) - 1) (-1) (-1) = n := by
  unfold Builtin.Slice.slicePlaces
  simp
  split <;> omega
theorem fm_congr {α β : Type} {f g : α → Option β} : ∀ {l : List α}, (∀ m ∈ l, f m = g m) → l.filterMap f = l.filterMap g
  | [], _ => rfl
  | a :: l, h => by
    have ih := fm_congr (l := l) fun m hm => h m (List.mem_cons_of_mem _ hm)
    rw [List.filterMap_cons, List.filterMap_cons, h a List.mem_cons_self, ih]
theorem rev_pick (xs : Array Value) : ((List.range xs.size).filterMap fun (m : Nat) => xs[(((xs.size : Int) - 1) + (m : Int) * (-1)).toNat]?).toArray = xs.toList.reverse.toArray := by
  congr 1
  have h : ∀ m, m < xs.size → xs[(((xs.size : Int) - 1) + (m : Int) * (-1)).toNat]? = xs.toList.reverse[m]? := fun m hm => by
    have e : (((xs.size : Int) - 1) + (m : Int) * (-1)).toNat = xs.size - 1 - m := by omega
    rw [e, List.getElem?_reverse (by rw [Array.length_toList]; exact hm), Array.length_toList, Array.getElem?_toList]
  have h2 : (List.range xs.size).filterMap (fun (m : Nat) => xs[(((xs.size : Int) - 1) + (m : Int) * (-1)).toNat]?) = (List.range xs.size).filterMap fun m => xs.toList.reverse[m]? :=
    fm_congr fun m hm => h m (List.mem_range.mp hm)
  rw [h2]
  have key : ∀ l : List Value, (List.range l.length).filterMap (fun m => l[m]?) = l := by
    intro l
    induction l with
    | nil => rfl
    | cons a l ih =>
      rw [List.length_cons, List.range_succ_eq_map, List.filterMap_cons]
      show a :: _ = _
      rw [List.filterMap_map]
      exact congrArg (a :: ·) ih
  have := key xs.toList.reverse
  rw [List.length_reverse, Array.length_toList] at this
  exact this
section
variable {prog : Program} {w : World} {A : Around} {E : Value → Shared → Prop} {s : Shared}
theorem rev_applied {sl : Addr} {vs : Value} {n : Nat} {Q : Int × Int × Nat → Shared → Prop} (hs : s.heap.IsSliceOf sl .none .none vs) (ps : IsPart vs (some (-1))) (h : Q ((n : Int) - 1, -1, n) s) :
    wpAny (model prog w) A (Builtin.Slice.sliceApplied (.ref sl) (pure (n : Int))) Q E s := by
  obtain ⟨os, hos, hcs, hds⟩ := id hs
  unfold Builtin.Slice.sliceApplied Builtin.Slice.sliceFields
  refine wpAny_bind (wpAny_bind (wpAny_field hos hds (x := .none) rfl (wpAny_bind (wpAny_field hos hds (x := .none) rfl (wpAny_bind (wpAny_field hos hds (x := vs) rfl (wpAny_pure ?_)))))))
  refine wpAny_bind (HT.slicePart_ ps ?_)
  show wpAny _ _ (if ((-1 : Int) == 0) = true then _ else _) _ _ s
  rw [if_neg (by decide)]
  refine wpAny_bind (slicePart_none (wpAny_bind (slicePart_none (wpAny_bind (wpAny_pure ?_)))))
  show wpAny _ _ (match Builtin.Slice.sliceAdjust none none (-1) (n : Int) with | (lo, hi) => pure (lo, (-1 : Int), Builtin.Slice.slicePlaces lo hi (-1))) _ _ s
  rw [rev_adjust n]
  show wpAny _ _ (pure ((n : Int) - 1, (-1 : Int), Builtin.Slice.slicePlaces ((n : Int) - 1) (-1) (-1))) _ _ s
  rw [rev_places]
  exact wpAny_pure h
theorem rev_item {t sl : Addr} {items : Array Value} {vs : Value} {Q : Value → Shared → Prop} (ht : IsTup s.heap t items) (hs : s.heap.IsSliceOf sl .none .none vs) (ps : IsPart vs (some (-1)))
    (h : Q (.ref s.heap.objs.size) { s with heap := s.heap.push { cls := .type "tuple", data := .seq items.toList.reverse.toArray } }) (hsz : items.size ≤ sizeLine) : wpAny (model prog w) A (getItem (.ref t) (.ref sl)) Q E s := by
  have hz : sizeOk (.seq items.toList.reverse.toArray) := by
    show items.toList.reverse.toArray.size ≤ sizeLine
    rw [List.size_toArray, List.length_reverse, Array.length_toList]; exact hsz
  obtain ⟨os, hos, hcs, hds⟩ := id hs
  have hTs : s.TypeIs (.ref sl) "slice" := ⟨os, hos, hcs⟩
  unfold getItem
  try with_reducible refine wpAny_holding ?_
  first | refine wpAny_bind (wpAny_pure ?_) | skip
  refine wpAny_bind (wpAny_sequenceKey ht.typeIs (by decide) ?_)
  refine wpAny_bind (wpAny_callSpecial?_slot (name := Str.ofString "__getitem__") ht.typeIs PyProof.Rows.slot_tuple_getitem
    (wpAny_call_entry PyProof.Rows.slot_tuple_getitem ht.typeIs PyProof.Rows.entry_tuple_getitem ?_ (PyProof.Rows.args_tuple_getitem _ _)))
  show wpAny _ _ (Builtin.Tuple.tupleItemsOf (.ref t) >>= _) _ _ s
  refine wpAny_bind (PyProof.Rows.tupleItemsOf_ ht ?_)
  refine wpAny_bind (wpAny_typeOf hTs ?_)
  rw [if_pos (by decide)]
  refine wpAny_bind (rev_applied hs ps ?_)
  show wpAny _ _ (if (((items.size : Int) - 1) == 0 && (-1 : Int) == 1 && items.size == items.size) = true then _ else _) _ _ s
  have hno : ¬ ((((items.size : Int) - 1) == 0 && (-1 : Int) == 1 && items.size == items.size) = true) := by
    have : ((-1 : Int) == 1) = false := by decide
    rw [this, Bool.and_false, Bool.false_and]; decide
  rw [if_neg hno, rev_pick]
  first
    | exact wpAny_bind (m := Builtin.Tuple.tupleExact _) (wpAny_newObj_type (wpAny_pure ⟨_, rfl, wpAny_pure h⟩) hz)
    | exact wpAny_bind (m := Builtin.Tuple.tupleExact _) (wpAny_newObj_type (wpAny_bind (wpAny_pure (wpAny_pure ⟨_, rfl, wpAny_pure h⟩))) hz)
    | exact wpAny_bind (wpAny_bind (m := Builtin.Tuple.tupleExact _) (wpAny_newObj_type (wpAny_pure (wpAny_pure ⟨_, rfl, wpAny_pure h⟩)) hz))
    | exact wpAny_bind (wpAny_bind (m := Builtin.Tuple.tupleExact _) (wpAny_newObj_type (wpAny_pure ⟨_, rfl, wpAny_pure h⟩) hz))
end
section
variable {X : Cx} {Er : ER}
def tRevT (K : PySem.W.Frag) (te : TE) : TE := fun σ H Q => te σ H fun x H1 => ∃ a xs, x = .ref a ∧ SqT K H1 a xs ∧ NewT xs.reverse H1 Q
theorem pe_revT {e : Expr} {te : TE} {k : Nat} {p1 p2 p3 pos : Pos} (he : PE X e te) : PE X (.Subscript e (.Slice none none (some (.UnaryOp .USub (.Constant (.int 1) k p1) p2)) p3) pos) (tRevT X.K te) := by
  constructor
  intro pins s τ H Q I w
  refine Subscript_ (thn (he.run pins s τ H _ I w) ?_)
  rintro v s1 ⟨x, H1, I1, r1, a, xs, rfl, hx, q⟩
  cases r1
  have step : PO X (some (.UnaryOp .USub (.Constant (.int 1) k p1) p2)) (tPart (tUn (rU fun i => .int (-i)) (tC (.int 1)))) := po_some (pe_un un_neg pe_int)
  refine wpAny_Slice (thn (po_none.run pins s1 τ H1 (fun o H2 => o = none ∧ H2 = H1) I1 ⟨rfl, rfl⟩) ?_)
  rintro vl s2 ⟨l, H2, I2, pl, rfl, rfl⟩
  refine thn (po_none.run pins s2 τ H2 (fun o H3 => o = none ∧ H3 = H2) I2 ⟨rfl, rfl⟩) ?_
  rintro vu s3 ⟨u, H3, I3, pu, rfl, rfl⟩
  refine thn (step.run pins s3 τ H3 (fun o H4 => o = some (-1) ∧ H4 = H3) I3 ⟨1, rfl, -1, rfl, rfl, rfl⟩) ?_
  rintro vs s4 ⟨o, H4, I4, ps, rfl, rfl⟩
  cases pl
  cases pu
  have I5 : Inv X pins τ H4 { s4 with heap := s4.heap.push { cls := .type "slice", data := .fields #[.none, .none, vs] } } := I4.kept (t' := s4.toks) fun b ob z => Heap.get?_push_of_some _ z
  obtain ⟨its, r, ht, hz⟩ := I5.tuple hx
  have hlen := r.length
  show wpAny (model X.prog X.w) X.A (subscriptTail e (.Slice none none (some (.UnaryOp .USub (.Constant (.int 1) k p1) p2)) p3) (.ref a) (.ref s4.heap.objs.size)) (EP X pins τ Q) X.xe { s4 with heap := s4.heap.push { cls := .type "slice", data := .fields #[.none, .none, vs] } }
  refine tail_any (ops := [.ref a, .ref s4.heap.objs.size]) ht.typeIs (PyProof.Rows.slot_tuple_getitem.lookup) ?_ (by with_unfolding_all rfl)
  refine rev_item ht (Heap.IsSliceOf.new _ .none .none vs) ps ?_ (by rw [List.size_toArray]; omega)
  exact laidT (tk := s4.toks) I5 r.reverse (by rw [List.length_reverse]; exact hz) q
def dRevT (f : FE) : FE := fun σ S => (f σ S).bind fun d S1 => match d with
  | .tup xs => .ok (.tup xs.reverse) S1
  | _ => .no
theorem DVs.rev {K : PySem.W.Frag} {H : Hp} {ρ : List Addr} : ∀ {ds : List Dt} {vs : List V}, DVs K H ρ ds vs → DVs K H ρ ds.reverse vs.reverse
  | _, _, .nil => .nil
  | _, _, .cons r t => by rw [List.reverse_cons, List.reverse_cons]; exact (DVs.rev t).app (.cons r .nil)
theorem se_revT {e : Expr} {f : FE} {k : Nat} {p1 p2 p3 pos : Pos} (h : SE X Er e f) : SE X Er (.Subscript e (.Slice none none (some (.UnaryOp .USub (.Constant (.int 1) k p1) p2)) p3) pos) (dRevT f) := by
  obtain ⟨te, p, q⟩ := h.ex
  refine ⟨_, pe_revT p, fun τ H ρ σ S Q T h => q τ H ρ σ S _ T ((link h).mono (fun d S1 h1 => ?_) fun _ _ _ q => q)⟩
  intro v H1 ρ1 t1 hr1 dv
  cases dv <;> first | exact h1.elim | skip
  rename_i a ds vs ht hd
  exact ⟨a, vs, rfl, ht.sqt, new_tup hr1 hd.rev fun v H' ρ' t' => h1 v H' ρ' (t1.trans t')⟩
end
/-! ### a call of a def that may raise, where it does not -/
theorem se_callQX {X : Cx} {Er : ER} {eo : XK → ER} {k : Nat} {f : Addr} {fd : FuncData} {ps : List Str} {F : FN} {x : Str} {p pos : Pos} {e : Expr} {es : List Expr} {fa : FA} (n : Nat) (FD : FnD X.prog X.w X.K X.mg X.base (L2.CX X.prog X.w) eo k f fd ps F) (hgd : X.A.guards = some []) (hr : Room k X.A) (hg : Gl X x) (hm : X.mg x = some (.ref f))
    (hk : PySem.W.keepIn X.K (.ref f) = true) (hb : Binds X.K fd ps []) (ha : SA X Er (e :: es) fa) (hn : ∀ σ S ds S', fa σ S = .ok ds S' → ds.length = n) (hps : ps.length = n)
    (hdb : (x == ("__debug__" : Str)) = false := by decide) (he : starEach (e :: es) X.env = (false, eval e X.env) :: starEach es X.env := by rfl) (hpl : (backTo pos (starEach es X.env)).any (·.1) = false := by rfl) :
    SE X Er (.Call (.Name x p) (e :: es) [] pos) (dCall (quietF F) fa) := se_call n (FD.quiet Er) hgd hr hg hm hk hb (E := E0) passL (fun _ _ _ _ _ h => h) ha hn hps hdb he hpl
end Mn

set_option Elab.async false
set_option linter.all false
set_option maxRecDepth 100000
set_option maxHeartbeats 4000000
/-! MnP: reasoning on the plain programs: rules of weakest premises. -/
namespace Mn
open PySem PySem.Spec PyProof.Rows L2
/-- Sat, closed up -/
structure Rs.Wp {α : Type} (r : Rs α) (P : α → Bxs → Prop) (E : Nat → List Dt → Bxs → Prop) : Prop where
  sat : r.Sat P E
theorem Rs.Wp.mono {α : Type} {r : Rs α} {P P' : α → Bxs → Prop} {E E' : Nat → List Dt → Bxs → Prop} (h : r.Wp P E) (hp : ∀ a s, P a s → P' a s) (he : ∀ c ds s, E c ds s → E' c ds s) : r.Wp P' E' := ⟨h.sat.mono hp he⟩
theorem sat_mk {α : Type} {a : α} {s : Bxs} {P : α → Bxs → Prop} {E : Nat → List Dt → Bxs → Prop} (h : P a s) : (Rs.ok a s).Wp P E := ⟨h⟩
section
variable {α β : Type} {σ : Sg} {S : Bxs} {E : Nat → List Dt → Bxs → Prop}
theorem w_bind {r : Rs α} {k : α → Bxs → Rs β} {P : β → Bxs → Prop} (h : r.Wp (fun a s => (k a s).Wp P E) E) : (r.bind k).Wp P E := ⟨Rs.sat_bind.mpr (h.sat.mono (fun _ _ q => q.sat) fun _ _ _ q => q)⟩
theorem w_bindP {r : Rs α} {k : α → Bxs → Rs β} {P : β → Bxs → Prop} (h : r.Wp (fun a s => (k a s).Sat P E) E) : (r.bind k).Wp P E := ⟨Rs.sat_bind.mpr h.sat⟩
theorem w_var {i : Nat} {d : Dt} {P : Dt → Bxs → Prop} (e : σ[i]? = some (some d)) (h : P d S) : (dVar i σ S).Wp P E := by unfold dVar; rw [e]; exact ⟨h⟩
theorem w_c {d : Dt} {P : Dt → Bxs → Prop} (h : P d S) : (dC d σ S).Wp P E := ⟨h⟩
theorem w_bin {g : G2} {a b : FE} {P : Dt → Bxs → Prop} (h : (a σ S).Wp (fun x S1 => (b σ S1).Wp (fun y S2 => (g x y S2).Wp P E) E) E) : (dBin g a b σ S).Wp P E := w_bind (h.mono (fun _ _ q => w_bind q) fun _ _ _ q => q)
theorem w_true {f : FE} {P : Bool → Bxs → Prop} (h : (f σ S).Wp (fun d S1 => ∃ b, d = .bl b ∧ P b S1) E) : (dTrue f σ S).Wp P E := w_bind (h.mono (fun d S1 ⟨b, e, q⟩ => by subst e; exact ⟨q⟩) fun _ _ _ q => q)
theorem w_isN {a : FE} {P : Dt → Bxs → Prop} (h : (a σ S).Wp (fun d S1 => P (.bl d.isN) S1) E) : (dIsN a σ S).Wp P E := w_bindP h
theorem w_notN {a : FE} {P : Dt → Bxs → Prop} (h : (a σ S).Wp (fun d S1 => P (.bl (!d.isN)) S1) E) : (dNotN a σ S).Wp P E := w_bindP h
theorem w_cond {c : Bool} {a b : Rs α} {P : α → Bxs → Prop} (h1 : c = true → a.Wp P E) (h2 : c = false → b.Wp P E) : (if c = true then a else b).Wp P E := by
  cases c with
  | true => rw [if_pos rfl]; exact h1 rfl
  | false => rw [if_neg Bool.false_ne_true]; exact h2 rfl
theorem w_and {a b : FB} {P : Bool → Bxs → Prop} (h : (a σ S).Wp (fun c S1 => (c = true → (b σ S1).Wp P E) ∧ (c = false → P false S1)) E) : (dAnd a b σ S).Wp P E := w_bind (h.mono (fun c S1 q => w_cond q.1 (fun z => ⟨q.2 z⟩)) fun _ _ _ q => q)
theorem w_or {a b : FB} {P : Bool → Bxs → Prop} (h : (a σ S).Wp (fun c S1 => (c = true → P true S1) ∧ (c = false → (b σ S1).Wp P E)) E) : (dOr a b σ S).Wp P E := w_bind (h.mono (fun c S1 q => w_cond (fun z => ⟨q.1 z⟩) q.2) fun _ _ _ q => q)
theorem w_not {a : FB} {P : Bool → Bxs → Prop} (h : (a σ S).Wp (fun c S1 => P (!c) S1) E) : (dNot a σ S).Wp P E := w_bindP h
theorem w_andV {a b : FE} {P : Dt → Bxs → Prop} (h : (a σ S).Wp (fun d S1 => ∃ c, d = .bl c ∧ (c = true → (b σ S1).Wp P E) ∧ (c = false → P (.bl false) S1)) E) : (dAndV a b σ S).Wp P E :=
  w_bind (h.mono (fun d S1 ⟨c, e, q1, q2⟩ => by subst e; cases c <;> first | exact q1 rfl | exact ⟨q2 rfl⟩) fun _ _ _ q => q)
theorem w_ifE {c : FB} {a b : FE} {P : Dt → Bxs → Prop} (h : (c σ S).Wp (fun k S1 => (k = true → (a σ S1).Wp P E) ∧ (k = false → (b σ S1).Wp P E)) E) : (dIf c a b σ S).Wp P E := w_bind (h.mono (fun c S1 q => w_cond q.1 q.2) fun _ _ _ q => q)
theorem w_neg {a : FE} {P : Dt → Bxs → Prop} (h : (a σ S).Wp (fun d S1 => ∃ i, d = .int i ∧ P (.int (-i)) S1) E) : (dNeg a σ S).Wp P E := w_bind (h.mono (fun d S1 ⟨b, e, q⟩ => by subst e; exact ⟨q⟩) fun _ _ _ q => q)
theorem w_nil {P : List Dt → Bxs → Prop} (h : P [] S) : (aNil σ S).Wp P E := ⟨h⟩
theorem w_consA {a : FE} {r : FA} {P : List Dt → Bxs → Prop} (h : (a σ S).Wp (fun d S1 => (r σ S1).Wp (fun ds S2 => P (d :: ds) S2) E) E) : (aCons a r σ S).Wp P E := w_bind (h.mono (fun _ _ q => w_bindP q) fun _ _ _ q => q)
theorem w_tup {a : FA} {P : Dt → Bxs → Prop} (h : (a σ S).Wp (fun ds S1 => ds.length ≤ LIM ∧ P (.tup ds) S1) E) : (dTup a σ S).Wp P E := w_bind (h.mono (fun _ _ q => by rw [if_pos q.1]; exact ⟨q.2⟩) fun _ _ _ q => q)
theorem w_newL {ds : List Dt} {P : Dt → Bxs → Prop} (hl : ds.length ≤ LIM) (h : P (.box S.length) (S ++ [.lst ds])) : (newL ds S).Wp P E := by unfold newL; rw [if_pos hl]; exact ⟨h⟩
theorem w_lst {a : FA} {P : Dt → Bxs → Prop} (h : (a σ S).Wp (fun ds S1 => (newL ds S1).Wp P E) E) : (dLst a σ S).Wp P E := w_bind h
theorem w_call {g : GC} {a : FA} {P : Dt → Bxs → Prop} (h : (a σ S).Wp (fun ds S1 => (g ds S1).Wp P E) E) : (dCall g a σ S).Wp P E := w_bind h
theorem w_sl {f : FE} {lo hi : FO} {P : Dt → Bxs → Prop} (h : (f σ S).Wp (fun d S1 => (lo σ S1).Wp (fun l S2 => (hi σ S2).Wp (fun u S3 => (slG l u d S3).Wp P E) E) E) E) : (dSl f lo hi σ S).Wp P E :=
  w_bind (h.mono (fun _ _ q => w_bind (q.mono (fun _ _ q => w_bind q) fun _ _ _ q => q)) fun _ _ _ q => q)
theorem w_oN {P : Option Int → Bxs → Prop} (h : P none S) : (oNone σ S).Wp P E := ⟨h⟩
theorem w_oS {f : FE} {P : Option Int → Bxs → Prop} (h : (f σ S).Wp (fun d S1 => ∃ i, d = .int i ∧ P (some i) S1) E) : (oSome f σ S).Wp P E := w_bind (h.mono (fun d S1 ⟨b, e, q⟩ => by subst e; exact ⟨q⟩) fun _ _ _ q => q)
theorem w_meth {T : String} {g : GM} {o : FE} {a : FA} {P : Dt → Bxs → Prop} (h : (o σ S).Wp (fun d S1 => tyD T d S1 ∧ (a σ S1).Wp (fun ds S2 => (g d ds S2).Wp P E) E) E) : (dMeth T g o a σ S).Wp P E :=
  w_bind (h.mono (fun d S1 q => by rw [if_pos q.1]; exact w_bind q.2) fun _ _ _ q => q)
/-! statements -/
theorem w_sNil {P : Fl × Sg → Bxs → Prop} (h : P (.nx, σ) S) : (sNil σ S).Wp P E := ⟨h⟩
theorem w_cons {f g : FS} {P : Fl × Sg → Bxs → Prop} (h : (f σ S).Wp (fun r S1 => (r.1 = .nx → (g r.2 S1).Wp P E) ∧ (r.1 ≠ .nx → P r S1)) E) : (sCons f g σ S).Wp P E :=
  w_bind (h.mono (fun r S1 q => by
    obtain ⟨fl, σ1⟩ := r
    cases fl <;> first | exact q.1 rfl | exact ⟨q.2 (fun z => nomatch z)⟩) fun _ _ _ q => q)
theorem w_set {i : Nat} {f : FE} {P : Fl × Sg → Bxs → Prop} (h : (f σ S).Wp (fun d S1 => P (.nx, σ.set i (some d)) S1) E) : (sSet i f σ S).Wp P E := w_bindP h
theorem w_asg {f : FE} {g : FT} {P : Fl × Sg → Bxs → Prop} (h : (f σ S).Wp (fun d S1 => (g d σ S1).Wp (fun σ1 S2 => P (.nx, σ1) S2) E) E) : (sAsg f g σ S).Wp P E := w_bind (h.mono (fun _ _ q => w_bindP q) fun _ _ _ q => q)
theorem w_par2 {i j : Nat} {a : FA} {P : Fl × Sg → Bxs → Prop} (h : (a σ S).Wp (fun ds S1 => ∃ d e, ds = [d, e] ∧ P (.nx, (σ.set i (some d)).set j (some e)) S1) E) : (sPar2 i j a σ S).Wp P E := w_bind (h.mono (fun _ _ ⟨d, e, z, q⟩ => by subst z; exact ⟨q⟩) fun _ _ _ q => q)
theorem w_par3 {i j l : Nat} {a : FA} {P : Fl × Sg → Bxs → Prop} (h : (a σ S).Wp (fun ds S1 => ∃ d e f, ds = [d, e, f] ∧ P (.nx, ((σ.set i (some d)).set j (some e)).set l (some f)) S1) E) : (sPar3 i j l a σ S).Wp P E := w_bind (h.mono (fun _ _ ⟨d, e, f, z, q⟩ => by subst z; exact ⟨q⟩) fun _ _ _ q => q)
theorem w_if {c : FB} {a b : FS} {P : Fl × Sg → Bxs → Prop} (h : (c σ S).Wp (fun k S1 => (k = true → (a σ S1).Wp P E) ∧ (k = false → (b σ S1).Wp P E)) E) : (sIf c a b σ S).Wp P E := w_bind (h.mono (fun c S1 q => w_cond q.1 q.2) fun _ _ _ q => q)
theorem w_ret {f : FE} {P : Fl × Sg → Bxs → Prop} (h : (f σ S).Wp (fun d S1 => P (.rt d, σ) S1) E) : (sRet f σ S).Wp P E := w_bindP h
theorem w_expr {f : FE} {P : Fl × Sg → Bxs → Prop} (h : (f σ S).Wp (fun _ S1 => P (.nx, σ) S1) E) : (sExpr f σ S).Wp P E := w_bindP h
theorem w_augS {o i f : FE} {g : G2} {P : Fl × Sg → Bxs → Prop} (h : (o σ S).Wp (fun a S1 => (i σ S1).Wp (fun b S2 => (getG a b S2).Wp (fun d S3 => (f σ S3).Wp (fun e S4 => (g d e S4).Wp (fun z S5 => (setG a b z S5).Wp (fun _ S6 => P (.nx, σ) S6) E) E) E) E) E) E) : (sAugS o i g f σ S).Wp P E :=
  w_bind (h.mono (fun _ _ q => w_bind (q.mono (fun _ _ q => w_bind (q.mono (fun _ _ q => w_bind (q.mono (fun _ _ q => w_bind (q.mono (fun _ _ q => w_bindP q) fun _ _ _ q => q)) fun _ _ _ q => q)) fun _ _ _ q => q)) fun _ _ _ q => q)) fun _ _ _ q => q)
theorem w_aug {i : Nat} {f : FE} {g : G2} {d : Dt} {P : Fl × Sg → Bxs → Prop} (e : σ[i]? = some (some d)) (h : (f σ S).Wp (fun e S1 => (g d e S1).Wp (fun z S2 => P (.nx, σ.set i (some z)) S2) E) E) : (sAug i g f σ S).Wp P E := by
  unfold sAug; rw [e]; exact w_bind (h.mono (fun _ _ q => w_bindP q) fun _ _ _ q => q)
theorem w_tName {i : Nat} {d : Dt} {P : Sg → Bxs → Prop} (h : P (σ.set i (some d)) S) : (tName i d σ S).Wp P E := ⟨h⟩
theorem w_tSub {o i : FE} {d : Dt} {P : Sg → Bxs → Prop} (h : (o σ S).Wp (fun a S1 => (i σ S1).Wp (fun b S2 => (setG a b d S2).Wp (fun _ S3 => P σ S3) E) E) E) : (tSubG o i d σ S).Wp P E :=
  w_bind (h.mono (fun _ _ q => w_bind (q.mono (fun _ _ q => w_bindP q) fun _ _ _ q => q)) fun _ _ _ q => q)
theorem w_body {n : Nat} {f : FS} {ds : List Dt} {P : Dt → Bxs → Prop} (h : (f (startD n ds) S).Wp (fun r S1 => (∃ d, r.1 = .rt d ∧ P d S1) ∨ (r.1 = .nx ∧ P .non S1)) E) : (bodyF n f ds S).Wp P E :=
  w_bind (h.mono (fun r S1 q => by
    obtain ⟨fl, σ1⟩ := r
    rcases q with ⟨d, e, q⟩ | ⟨e, q⟩
    · cases e; exact ⟨q⟩
    · cases e; exact ⟨q⟩) fun _ _ _ q => q)
/-! leaves -/
theorem w_add {i j : Int} {P : Dt → Bxs → Prop} (h : P (.int (i + j)) S) : (addG (.int i) (.int j) S).Wp P E := ⟨h⟩
theorem w_sub {i j : Int} {P : Dt → Bxs → Prop} (h : P (.int (i - j)) S) : (subG (.int i) (.int j) S).Wp P E := ⟨h⟩
theorem w_addI {i j : Int} {P : Dt → Bxs → Prop} (h : P (.int (i + j)) S) : (addI (.int i) (.int j) S).Wp P E := ⟨h⟩
theorem w_subI {i j : Int} {P : Dt → Bxs → Prop} (h : P (.int (i - j)) S) : (subI (.int i) (.int j) S).Wp P E := ⟨h⟩
theorem w_mul {i j : Int} {P : Dt → Bxs → Prop} (c : mulOk i j) (h : P (.int (i * j)) S) : (mulG (.int i) (.int j) S).Wp P E := by
  show (if mulOk i j then Rs.ok (Dt.int (i * j)) S else .no).Wp P E
  rw [if_pos c]; exact ⟨h⟩
theorem w_fdiv {i j : Int} {P : Dt → Bxs → Prop} (c : divOk j) (h : P (.int (i / j)) S) : (fdivG (.int i) (.int j) S).Wp P E := by
  show (if divOk j then Rs.ok (Dt.int (i / j)) S else .no).Wp P E
  rw [if_pos c]; exact ⟨h⟩
theorem w_mod {i j : Int} {P : Dt → Bxs → Prop} (c : 0 < j) (h : P (.int (i % j)) S) : (modG (.int i) (.int j) S).Wp P E := by
  show (if 0 < j then Rs.ok (Dt.int (i % j)) S else .no).Wp P E
  rw [if_pos c]; exact ⟨h⟩
theorem w_pow {i j : Int} {P : Dt → Bxs → Prop} (c : powOk i j) (h : P (.int (i ^ j.toNat)) S) : (powG (.int i) (.int j) S).Wp P E := by
  show (if powOk i j then Rs.ok (Dt.int (i ^ j.toNat)) S else .no).Wp P E
  rw [if_pos c]; exact ⟨h⟩
theorem w_cmp {p : Int → Int → Bool} {i j : Int} {P : Dt → Bxs → Prop} (h : P (.bl (p i j)) S) : (cmpG p (.int i) (.int j) S).Wp P E := ⟨h⟩
theorem w_int {i : Int} {P : Dt → Bxs → Prop} (h : P (.int i) S) : (intG [.int i] S).Wp P E := ⟨h⟩
theorem w_abs {i : Int} {P : Dt → Bxs → Prop} (h : P (.int (if i < 0 then -i else i)) S) : (absG [.int i] S).Wp P E := ⟨h⟩
theorem w_max2 {i j : Int} {P : Dt → Bxs → Prop} (h : P (.int (if j > i then j else i)) S) : (maxG [.int i, .int j] S).Wp P E := ⟨h⟩
theorem w_eqI {i j : Int} {P : Dt → Bxs → Prop} (h : P (.bl (decide (i = j))) S) : (eqG false (.int i) (.int j) S).Wp P E := by
  have e : eqG false (.int i) (.int j) S = .ok (.bl (decide (i = j))) S := by
    unfold eqG pdo DEEP pd
    simp only [PyData.eqv, SeqAt.shaped]
    rfl
  rw [e]; exact ⟨h⟩
theorem seq_lst {n : Nat} {xs : List Dt} (e : S[n]? = some (.lst xs)) : S.seq n = some xs := by unfold Bxs.seq; rw [e]
theorem seq_ro {n : Nat} {xs : List Dt} (e : S[n]? = some (.ro xs)) : S.seq n = some xs := by unfold Bxs.seq; rw [e]
theorem lst_of {n : Nat} {xs : List Dt} (e : S[n]? = some (.lst xs)) : S.lst n = some xs := by unfold Bxs.lst; rw [e]
theorem dk_seq {n : Nat} {xs : List Dt} (e : S.seq n = some xs) : dkO S (.box n) = none := by
  unfold Bxs.seq at e
  show S.dk n = none
  unfold Bxs.dk
  cases q : S[n]? with
  | none => rfl
  | some b =>
    rw [q] at e
    cases b <;> first | rfl | cases e
theorem w_ixB {n : Nat} {xs : List Dt} {i : Int} {d : Dt} {P : Dt → Bxs → Prop} (e : S.seq n = some xs) (a : atI xs i = some d) (h : P d S) : (ixG (.box n) (.int i) S).Wp P E := by
  have z : ixG (.box n) (.int i) S = .ok d S := by
    unfold ixG
    rw [dk_seq e]
    show (match seqOf S (.box n) with
      | some xs => match atI xs i with
        | some d => Rs.ok d S
        | none => .no
      | none => .no) = _
    rw [show seqOf S (.box n) = some xs from e]
    show (match atI xs i with
        | some d => Rs.ok d S
        | none => .no) = _
    rw [a]
  rw [z]; exact ⟨h⟩
theorem w_ixT {xs : List Dt} {i : Int} {d : Dt} {P : Dt → Bxs → Prop} (a : atI xs i = some d) (h : P d S) : (ixG (.tup xs) (.int i) S).Wp P E := by
  have z : ixG (.tup xs) (.int i) S = .ok d S := by
    show (match atI xs i with
        | some d => Rs.ok d S
        | none => .no) = _
    rw [a]
  rw [z]; exact ⟨h⟩
theorem w_slB {n : Nat} {lo hi : Option Int} {xs : List Dt} {P : Dt → Bxs → Prop} (e : S.seq n = some xs) (h : (newL (cutD xs lo hi) S).Wp P E) : (slG lo hi (.box n) S).Wp P E := by
  show (match S.seq n with
    | some xs => newL (cutD xs lo hi) S
    | none => .no).Wp P E
  rw [e]; exact h
theorem w_slT {lo hi : Option Int} {xs : List Dt} {P : Dt → Bxs → Prop} (h : P (.tup (cutD xs lo hi)) S) : (slG lo hi (.tup xs) S).Wp P E := ⟨h⟩
theorem w_addL {m n : Nat} {xs ys : List Dt} {P : Dt → Bxs → Prop} (e1 : S.lst m = some xs) (e2 : S.lst n = some ys) (h : (newL (xs ++ ys) S).Wp P E) : (addG (.box m) (.box n) S).Wp P E := by
  show (match S.lst m, S.lst n with
    | some xs, some ys => newL (xs ++ ys) S
    | _, _ => .no).Wp P E
  rw [e1, e2]; exact h
theorem w_mulL {n : Nat} {k : Int} {xs : List Dt} {P : Dt → Bxs → Prop} (e : S.lst n = some xs) (c : -1000 ≤ k ∧ k ≤ 1000 ∧ xs.length ≤ 100) (h : (newL (List.replicate k.toNat xs).flatten S).Wp P E) : (mulG (.box n) (.int k) S).Wp P E := by
  show (match S.lst n with
    | some xs => if -1000 ≤ k ∧ k ≤ 1000 ∧ xs.length ≤ 100 then newL (List.replicate k.toNat xs).flatten S else .no
    | none => .no).Wp P E
  rw [e]
  show (if -1000 ≤ k ∧ k ≤ 1000 ∧ xs.length ≤ 100 then newL (List.replicate k.toNat xs).flatten S else .no).Wp P E
  rw [if_pos c]; exact h
theorem seq_of_lst {n : Nat} {xs : List Dt} (e : S.lst n = some xs) : S.seq n = some xs := by
  have := lst_get e
  unfold Bxs.seq; rw [this]
theorem w_setG {n : Nat} {k : Int} {j : Nat} {xs : List Dt} {d : Dt} {P : Unit → Bxs → Prop} (e : S.lst n = some xs) (c : ixN xs.length k = some j) (h : P () (S.set n (.lst (xs.set j d)))) : (setG (.box n) (.int k) d S).Wp P E := by
  unfold setG
  rw [dk_seq (seq_of_lst e)]
  show (match S.lst n with
    | some xs => match ixN xs.length k with
      | some j => Rs.ok () (S.set n (.lst (xs.set j d)))
      | none => .no
    | none => .no).Wp P E
  rw [e]
  show (match ixN xs.length k with
      | some j => Rs.ok () (S.set n (.lst (xs.set j d)))
      | none => .no).Wp P E
  rw [c]; exact ⟨h⟩
theorem w_getG {n : Nat} {k : Int} {xs : List Dt} {d : Dt} {P : Dt → Bxs → Prop} (e : S.lst n = some xs) (c : 0 ≤ k ∧ k < 2 ^ 63) (a : xs[k.toNat]? = some d) (h : P d S) : (getG (.box n) (.int k) S).Wp P E := by
  unfold getG
  rw [dk_seq (seq_of_lst e)]
  show (match S.lst n with
    | some xs => if 0 ≤ k ∧ k < 2 ^ 63 then match xs[k.toNat]? with
      | some d => Rs.ok d S
      | none => .no else .no
    | none => .no).Wp P E
  rw [e]
  show (if 0 ≤ k ∧ k < 2 ^ 63 then match xs[k.toNat]? with
      | some d => Rs.ok d S
      | none => .no else .no).Wp P E
  rw [if_pos c, a]; exact ⟨h⟩
theorem w_lenB {n : Nat} {xs : List Dt} {P : Dt → Bxs → Prop} (e : S.seq n = some xs) (h : P (.int (xs.length : Int)) S) : (lenG [.box n] S).Wp P E := by
  show (match S.seq n with
    | some xs => Rs.ok (Dt.int (xs.length : Int)) S
    | none => .no).Wp P E
  rw [e]; exact ⟨h⟩
theorem w_lenT {xs : List Dt} {P : Dt → Bxs → Prop} (h : P (.int (xs.length : Int)) S) : (lenG [.tup xs] S).Wp P E := ⟨h⟩
theorem w_append {n : Nat} {xs : List Dt} {d : Dt} {P : Dt → Bxs → Prop} (e : S.lst n = some xs) (c : xs.length < LIM) (h : P .non (S.set n (.lst (xs ++ [d])))) : (appendG (.box n) [d] S).Wp P E := by
  show (match S.lst n with
    | some xs => if xs.length < LIM then Rs.ok Dt.non (S.set n (.lst (xs ++ [d]))) else .no
    | none => .no).Wp P E
  rw [e]
  show (if xs.length < LIM then Rs.ok Dt.non (S.set n (.lst (xs ++ [d]))) else .no).Wp P E
  rw [if_pos c]; exact ⟨h⟩
theorem w_insert {n : Nat} {i : Int} {xs : List Dt} {d : Dt} {P : Dt → Bxs → Prop} (e : S.lst n = some xs) (c : xs.length < LIM ∧ 0 ≤ i ∧ i < 2 ^ 63) (h : P .non (S.set n (.lst (xs.take i.toNat ++ [d] ++ xs.drop i.toNat)))) : (insertG (.box n) [.int i, d] S).Wp P E := by
  show (match S.lst n with
    | some xs => if xs.length < LIM ∧ 0 ≤ i ∧ i < 2 ^ 63 then Rs.ok Dt.non (S.set n (.lst (xs.take i.toNat ++ [d] ++ xs.drop i.toNat))) else .no
    | none => .no).Wp P E
  rw [e]
  show (if xs.length < LIM ∧ 0 ≤ i ∧ i < 2 ^ 63 then Rs.ok Dt.non (S.set n (.lst (xs.take i.toNat ++ [d] ++ xs.drop i.toNat))) else .no).Wp P E
  rw [if_pos c]; exact ⟨h⟩
end

theorem divOk_small {j : Int} (h : 0 < j) (h1 : j < 2 ^ 64) : divOk j := ⟨h, by
  have : j.natAbs < 2 ^ 64 := by omega
  have h2 : j.natAbs.log2 < 64 := (Nat.log2_lt (by omega)).mpr this
  omega⟩
structure BagAt (S : Bxs) (b c : Nat) (h x i : Int) (ns : List Int) : Prop where
  at_ : S[b]? = some (.lst [.int h, .int x, .int i, .box c])
  cells : S[c]? = some (.lst (ns.map Dt.int))
  ne : c ≠ b
  h0 : 0 ≤ h
  x0 : 0 ≤ x
  x1 : x < 2147483647
  i0 : 0 ≤ i
  pos : ∀ n ∈ ns, 0 ≤ n
  len : ns.length ≤ 63
def Bag (S : Bxs) (b c : Nat) : Prop := ∃ h x i ns, BagAt S b c h x i ns
theorem get_pre {S S' : Bxs} (p : S <+: S') {n : Nat} {x : MBox} (h : S[n]? = some x) : S'[n]? = some x := pre_get p h
theorem BagAt.pre {S S' : Bxs} {b c : Nat} {h x i : Int} {ns : List Int} (B : BagAt S b c h x i ns) (p : S <+: S') : BagAt S' b c h x i ns := ⟨get_pre p B.at_, get_pre p B.cells, B.ne, B.h0, B.x0, B.x1, B.i0, B.pos, B.len⟩
theorem get_lt {S : Bxs} {n : Nat} {x : MBox} (h : S[n]? = some x) : n < S.length := (List.getElem?_eq_some_iff.mp h).1
theorem BagAt.set {S : Bxs} {b c : Nat} {h x i h' x' i' : Int} {ns : List Int} (B : BagAt S b c h x i ns) (h0 : 0 ≤ h') (x0 : 0 ≤ x') (x1 : x' < 2147483647) (i0 : 0 ≤ i') : BagAt (S.set b (.lst [.int h', .int x', .int i', .box c])) b c h' x' i' ns :=
  ⟨by rw [List.getElem?_set_self (get_lt B.at_)], by rw [List.getElem?_set_ne B.ne.symm]; exact B.cells, B.ne, h0, x0, x1, i0, B.pos, B.len⟩
/-- all but the bag stays -/
structure Fr (b : Nat) (S S' : Bxs) : Prop where
  len : S.length ≤ S'.length
  get : ∀ n, n < S.length → n ≠ b → S'[n]? = S[n]?
theorem Fr.refl (b : Nat) (S : Bxs) : Fr b S S := ⟨Nat.le_refl _, fun _ _ _ => rfl⟩
theorem Fr.trans {b : Nat} {S S1 S2 : Bxs} (h : Fr b S S1) (k : Fr b S1 S2) : Fr b S S2 := ⟨Nat.le_trans h.len k.len, fun n hn hb => (k.get n (Nat.lt_of_lt_of_le hn h.len) hb).trans (h.get n hn hb)⟩
theorem Fr.pre {b : Nat} {S S' : Bxs} (p : S <+: S') : Fr b S S' := by
  obtain ⟨t, rfl⟩ := p
  exact ⟨by simp, fun n hn _ => List.getElem?_append_left hn⟩
theorem Fr.set {b : Nat} {S : Bxs} {x : MBox} : Fr b S (S.set b x) := ⟨by simp, fun n _ hb => List.getElem?_set_ne hb.symm⟩
/-- a box of one's own is changed -/
theorem Fr.own {b n : Nat} {S S1 : Bxs} {x : MBox} (h : Fr b S S1) (hn : S.length ≤ n) : Fr b S (S1.set n x) := ⟨by rw [List.length_set]; exact h.len, fun k hk hb => by rw [List.getElem?_set_ne (Nat.ne_of_gt (Nat.lt_of_lt_of_le hk hn))]; exact h.get k hk hb⟩
theorem Fr.at_ {b n : Nat} {S S' : Bxs} {x : MBox} (h : Fr b S S') (e : S[n]? = some x) (hb : n ≠ b) : S'[n]? = some x := (h.get n (get_lt e) hb).trans e
theorem get_last {S : Bxs} {x : MBox} : (S ++ [x])[S.length]? = some x := by simp
theorem Rs.Wp.ok {α : Type} {r : Rs α} {P : α → Bxs → Prop} (h : r.Wp P noX) : ∃ a s, r = .ok a s ∧ P a s := sat_ok h.sat
theorem Rs.Wp.of {α : Type} {r : Rs α} {a : α} {s : Bxs} {P : α → Bxs → Prop} {E : Nat → List Dt → Bxs → Prop} (e : r = .ok a s) (h : P a s) : r.Wp P E := by rw [e]; exact ⟨h⟩

section
variable {α : Type} {σ : Sg} {S : Bxs} {E : Nat → List Dt → Bxs → Prop}
theorem w_loop {st : Bxs → Prop} {g : α → Sg → Bxs → Rs Sg} {body : FS} {P : Fl × Sg → Bxs → Prop} (I : Nat → Sg → Bxs → Prop) {xs : List α} (hst : ∀ i σ S, I i σ S → st S)
    (step : ∀ i x σ S, xs[i]? = some x → I i σ S → (g x σ S).Wp (fun σ1 S1 => (body σ1 S1).Wp (fun r S2 => (r.1 = .nx ∧ I (i + 1) r.2 S2) ∨ ∃ d, r.1 = .rt d ∧ P (.rt d, r.2) S2) E) E)
    (fin : ∀ σ S, I xs.length σ S → P (.nx, σ) S) (h0 : I 0 σ S) : (loopF st g body xs σ S).Wp P E := by
  have go : ∀ (k : Nat) (ys : List α) (σ : Sg) (S : Bxs), k + ys.length = xs.length → ys = xs.drop k → I k σ S → (loopF st g body ys σ S).Wp P E := by
    intro k ys
    induction ys generalizing k with
    | nil =>
      intro σ S hk he hI
      unfold loopF
      rw [if_pos (hst _ _ _ hI)]
      have : k = xs.length := by simpa using hk
      subst this
      exact ⟨fin _ _ hI⟩
    | cons y ys ih =>
      intro σ S hk he hI
      unfold loopF
      rw [if_pos (hst _ _ _ hI)]
      have hkl : k < xs.length := by rw [List.length_cons] at hk; omega
      have hd := List.drop_eq_getElem_cons hkl
      rw [← he] at hd
      injection hd with e1 e2
      have hx : xs[k]? = some y := by rw [List.getElem?_eq_getElem hkl, e1]
      refine w_bind ((step k y σ S hx hI).mono (fun σ1 S1 h1 => w_bind (h1.mono (fun r S2 h2 => ?_) fun _ _ _ q => q)) fun _ _ _ q => q)
      obtain ⟨fl, σ2⟩ := r
      rcases h2 with ⟨e, hI2⟩ | ⟨d, e, hP⟩
      · cases e
        exact ih (k + 1) σ2 S2 (by rw [List.length_cons] at hk; omega) e2 hI2
      · cases e
        exact ⟨hP⟩
  exact go 0 xs σ S (by simp) rfl h0
theorem w_for {src : Src α} {g : α → Sg → Bxs → Rs Sg} {body : FS} {P : Fl × Sg → Bxs → Prop} (h : (src σ S).Wp (fun r S1 => (loopF r.2 g body r.1 σ S1).Wp P E) E) : (sFor src g body σ S).Wp P E := w_bind h
theorem w_srcSeq {f : FE} {P : List Dt × (Bxs → Prop) → Bxs → Prop} (h : (f σ S).Wp (fun d S1 => ∃ xs, seqOf S1 d = some xs ∧ P (xs, fun S' => seqOf S' d = some xs) S1) E) : (srcSeq f σ S).Wp P E :=
  w_bind (h.mono (fun d S1 ⟨xs, e, q⟩ => by rw [e]; exact ⟨q⟩) fun _ _ _ q => q)
theorem w_srcR1 {f : FA} {P : List Dt × (Bxs → Prop) → Bxs → Prop} (h : (f σ S).Wp (fun ds S1 => ∃ j, ds = [.int j] ∧ inR j ∧ P (rgD 0 j.toNat, fun _ => True) S1) E) : (srcR1 f σ S).Wp P E :=
  w_bind (h.mono (fun d S1 ⟨j, e, c, q⟩ => by subst e; show (if inR j then Rs.ok (rgD 0 j.toNat, fun _ => True) S1 else .no).Wp P E; rw [if_pos c]; exact ⟨q⟩) fun _ _ _ q => q)
theorem w_srcZip {f : FA} {P : List (Dt × Dt) × (Bxs → Prop) → Bxs → Prop} (h : (f σ S).Wp (fun ds S1 => ∃ d e xs ys, ds = [d, e] ∧ seqOf S1 d = some xs ∧ seqOf S1 e = some ys ∧ P (xs.zip ys, fun S' => seqOf S' d = some xs ∧ seqOf S' e = some ys) S1) E) : (srcZip f σ S).Wp P E :=
  w_bind (h.mono (fun ds S1 ⟨d, e, xs, ys, z, e1, e2, q⟩ => by
    subst z
    show (match seqOf S1 d, seqOf S1 e with
    | some xs, some ys => Rs.ok (xs.zip ys, fun S' => seqOf S' d = some xs ∧ seqOf S' e = some ys) S1
    | _, _ => .no).Wp P E
    rw [e1, e2]; exact ⟨q⟩) fun _ _ _ q => q)
theorem quiet_of {r : Rs α} {P : α → Bxs → Prop} (h : r.Wp P noX) : r.quiet.Wp P E := by
  cases r with
  | ok a s => exact ⟨h.sat⟩
  | ex c ds s => exact h.sat.elim
  | no => exact h.sat.elim
theorem w_lc {src : Src α} {g : α → Sg → Bxs → Rs Sg} {tt : FB} {te : FE} {vs : List Nat} {P : Dt → Bxs → Prop}
    (h : (src σ S).Wp (fun r S1 => ∃ I : Nat → List Dt → Bxs → Prop, (∀ i acc S, I i acc S → r.2 S) ∧
      (∀ i x acc S, r.1[i]? = some x → S[S1.length]? = some (.lst acc) → I i acc S → (g x (wipeD σ vs) S).Wp (fun σ1 S2 => (tt σ1 S2).Wp (fun b S3 => (b = true → (te σ1 S3).Wp (fun d S4 => S4[S1.length]? = some (.lst acc) ∧ acc.length < LIM ∧ I (i + 1) (acc ++ [d]) (S4.set S1.length (.lst (acc ++ [d])))) noX) ∧
        (b = false → S3[S1.length]? = some (.lst acc) ∧ I (i + 1) acc S3)) noX) noX) ∧
      I 0 [] (S1 ++ [.lst []]) ∧ ∀ acc S, S[S1.length]? = some (.lst acc) → I r.1.length acc S → P (.box S1.length) S) E) : (dLc src g tt te vs σ S).Wp P E := by
  refine w_bind (h.mono (fun r S1 h1 => ?_) fun _ _ _ q => q)
  obtain ⟨xs, st⟩ := r
  obtain ⟨I, hst, step, h0, fin⟩ := h1
  refine w_bind (quiet_of ?_)
  have go : ∀ (k : Nat) (ys : List α) (acc : List Dt) (S : Bxs), k + ys.length = xs.length → ys = xs.drop k → S[S1.length]? = some (.lst acc) → I k acc S → (lcF st g tt te (wipeD σ vs) S1.length ys S).Wp (fun _ S2 => P (.box S1.length) S2) noX := by
    intro k ys
    induction ys generalizing k with
    | nil =>
      intro acc S hk he hn hI
      unfold lcF
      rw [if_pos (hst _ _ _ hI)]
      have : k = xs.length := by simpa using hk
      subst this
      exact ⟨fin _ _ hn hI⟩
    | cons y ys ih =>
      intro acc S hk he hn hI
      unfold lcF
      rw [if_pos (hst _ _ _ hI)]
      have hkl : k < xs.length := by rw [List.length_cons] at hk; omega
      have hd := List.drop_eq_getElem_cons hkl
      rw [← he] at hd
      injection hd with e1 e2
      have hx : xs[k]? = some y := by rw [List.getElem?_eq_getElem hkl, e1]
      refine w_bind ((step k y acc S hx hn hI).mono (fun σ1 S2 h1 => w_bind (h1.mono (fun b S3 h2 => w_cond (fun hb => w_bind ((h2.1 hb).mono (fun d S4 h3 => ?_) fun _ _ _ q => q)) fun hb => ?_) fun _ _ _ q => q)) fun _ _ _ q => q)
      · obtain ⟨hn4, hl, hI2⟩ := h3
        rw [lst_of hn4]
        show (if acc.length < LIM then lcF st g tt te (wipeD σ vs) S1.length ys (S4.set S1.length (.lst (acc ++ [d]))) else .no).Wp _ _
        rw [if_pos hl]
        exact ih (k + 1) _ _ (by rw [List.length_cons] at hk; omega) e2 (List.getElem?_set_self (get_lt hn4)) hI2
      · obtain ⟨hn3, hI2⟩ := h2.2 hb
        exact ih (k + 1) acc S3 (by rw [List.length_cons] at hk; omega) e2 hn3 hI2
  exact (go 0 xs [] _ (by simp) rfl get_last h0).mono (fun _ _ q => ⟨q⟩) fun _ _ _ q => q
/-- items that change nothing -/
theorem w_lcMap {src : Src α} {g : α → Sg → Bxs → Rs Sg} {te : FE} {vs : List Nat} {P : Dt → Bxs → Prop}
    (h : (src σ S).Wp (fun r S1 => ∃ f : α → Dt, r.1.length < LIM ∧ (∀ acc, r.2 (S1 ++ [.lst acc])) ∧
      (∀ x acc, x ∈ r.1 → (g x (wipeD σ vs) (S1 ++ [.lst acc])).Wp (fun σ1 S2 => S2 = S1 ++ [.lst acc] ∧ (te σ1 (S1 ++ [.lst acc])).Wp (fun d S4 => d = f x ∧ S4 = S1 ++ [.lst acc]) noX) noX) ∧
      P (.box S1.length) (S1 ++ [.lst (r.1.map f)])) E) : (dLc src g bYes te vs σ S).Wp P E := by
  refine w_lc (h.mono (fun r S1 ⟨f, hl, hst, step, fin⟩ => ?_) fun _ _ _ q => q)
  refine ⟨fun i acc S => acc = (r.1.take i).map f ∧ S = S1 ++ [.lst acc], fun i acc S ⟨_, e⟩ => by rw [e]; exact hst _, fun i x acc S hx hn ⟨ea, eS⟩ => ?_, ⟨by simp, rfl⟩, fun acc S hn ⟨ea, eS⟩ => ?_⟩
  · subst eS
    refine (step x acc (List.mem_of_getElem? hx)).mono (fun σ1 S2 ⟨e2, q⟩ => ?_) fun _ _ _ q => q
    subst e2
    refine ⟨fun _ => q.mono (fun d S4 ⟨ed, e4⟩ => ?_) fun _ _ _ q => q, fun z => nomatch z⟩
    subst e4
    have hil : i < r.1.length := (List.getElem?_eq_some_iff.mp hx).1
    refine ⟨get_last, ?_, ?_, ?_⟩
    · rw [ea, List.length_map, List.length_take]; omega
    · rw [ed, ea, List.take_add_one, hx]; simp
    · rw [List.set_append_right _ _ (Nat.le_refl _)]; simp
  · rw [List.take_length] at ea
    rw [eS, ea]; exact fin
end

theorem Bag.lt {S : Bxs} {b c : Nat} (B : Bag S b c) : b < S.length ∧ c < S.length := let ⟨_, _, _, _, B⟩ := B; ⟨get_lt B.at_, get_lt B.cells⟩
theorem Bag.pre {S S' : Bxs} {b c : Nat} (B : Bag S b c) (p : S <+: S') : Bag S' b c := let ⟨h, x, i, ns, B⟩ := B; ⟨h, x, i, ns, B.pre p⟩
theorem Bag.own {S : Bxs} {b c n : Nat} {x : MBox} (B : Bag S b c) (hb : n ≠ b) (hc : n ≠ c) : Bag (S.set n x) b c := by
  obtain ⟨h, y, i, ns, B⟩ := B
  exact ⟨h, y, i, ns, by rw [List.getElem?_set_ne hb]; exact B.at_, by rw [List.getElem?_set_ne hc]; exact B.cells, B.ne, B.h0, B.x0, B.x1, B.i0, B.pos, B.len⟩
theorem Bag.app {S : Bxs} {b c : Nat} {x : MBox} (B : Bag S b c) : Bag (S ++ [x]) b c := B.pre (List.prefix_append _ _)
theorem Fr.app {b : Nat} {S S1 : Bxs} {x : MBox} (h : Fr b S S1) : Fr b S (S1 ++ [x]) := h.trans (Fr.pre (List.prefix_append _ _))
theorem Fr.seq {b n : Nat} {S S' : Bxs} {xs : List Dt} (h : Fr b S S') (e : S.seq n = some xs) (hb : n ≠ b) : S'.seq n = some xs := by
  have hl : n < S.length := by
    unfold Bxs.seq at e
    cases z : S[n]? with
    | none => rw [z] at e; cases e
    | some x => exact get_lt z
  unfold Bxs.seq at e ⊢
  rw [h.get n hl hb]; exact e
theorem seq_lt {n : Nat} {S : Bxs} {xs : List Dt} (e : S.seq n = some xs) : n < S.length := by
  unfold Bxs.seq at e
  cases z : S[n]? with
  | none => rw [z] at e; cases e
  | some x => exact get_lt z
theorem ins_perm {α : Type} (xs : List α) (i : Nat) (d : α) : (xs.take i ++ [d] ++ xs.drop i).Perm (xs ++ [d]) := by
  have h : (xs.take i ++ [d] ++ xs.drop i).Perm (xs.take i ++ xs.drop i ++ [d]) := by
    rw [List.append_assoc, List.append_assoc]
    exact List.Perm.append_left _ List.perm_append_comm
  rwa [List.take_append_drop] at h
theorem ixN_mk {n : Nat} {i : Int} (h0 : 0 ≤ i) (h1 : i < n) : ixN n i = some i.toNat := by unfold ixN; rw [if_pos h0, if_pos h1]
theorem w_idx {S : Bxs} {E : Nat → List Dt → Bxs → Prop} {n : Nat} {xs : List Dt} {i : Int} {P : Dt → Bxs → Prop} (e : S.seq n = some xs) (h0 : 0 ≤ i) (h1 : i < xs.length) (h : ∀ d, xs[i.toNat]? = some d → P d S) : (ixG (.box n) (.int i) S).Wp P E := by
  have hl : i.toNat < xs.length := by omega
  have e2 : xs[i.toNat]? = some xs[i.toNat] := List.getElem?_eq_getElem hl
  refine w_ixB e (d := xs[i.toNat]) ?_ (h _ e2)
  unfold atI; rw [ixN_mk h0 h1]; exact e2
theorem w_idxT {S : Bxs} {E : Nat → List Dt → Bxs → Prop} {xs : List Dt} {i : Int} {P : Dt → Bxs → Prop} (h0 : 0 ≤ i) (h1 : i < xs.length) (h : ∀ d, xs[i.toNat]? = some d → P d S) : (ixG (.tup xs) (.int i) S).Wp P E := by
  have hl : i.toNat < xs.length := by omega
  have e2 : xs[i.toNat]? = some xs[i.toNat] := List.getElem?_eq_getElem hl
  refine w_ixT (d := xs[i.toNat]) ?_ (h _ e2)
  unfold atI; rw [ixN_mk h0 h1]; exact e2

theorem ty_list {S : Bxs} {n : Nat} {xs : List Dt} (e : S[n]? = some (.lst xs)) : tyD "list" (.box n) S := ⟨rfl, by rw [seq_lst e]; rfl⟩

section
variable {S : Bxs} {E : Nat → List Dt → Bxs → Prop}
theorem w_listB {n : Nat} {xs : List Dt} {P : Dt → Bxs → Prop} (e : S.seq n = some xs) (h : (newL xs S).Wp P E) : (listG [.box n] S).Wp P E := by
  show (match S.seq n with
    | some xs => newL xs S
    | none => .no).Wp P E
  rw [e]; exact h
theorem w_listT {xs : List Dt} {P : Dt → Bxs → Prop} (h : (newL xs S).Wp P E) : (listG [.tup xs] S).Wp P E := h
theorem w_seqB {n : Nat} {xs : List Dt} (e : S[n]? = some (.lst xs)) : seqOf S (.box n) = some xs := seq_lst e
end
theorem zeros (k : Nat) : (List.replicate k [Dt.int 0]).flatten = (List.replicate k (0 : Int)).map Dt.int := by
  induction k with
  | zero => rfl
  | succ k ih => rw [List.replicate_succ, List.flatten_cons, ih, List.replicate_succ]; rfl

section
variable {S : Bxs} {E : Nat → List Dt → Bxs → Prop}
theorem w_tupB {n : Nat} {xs : List Dt} {P : Dt → Bxs → Prop} (e : S.seq n = some xs) (h : P (.tup xs) S) : (tupleG [.box n] S).Wp P E := by
  show (match S.seq n with
    | some xs => Rs.ok (Dt.tup xs) S
    | none => .no).Wp P E
  rw [e]; exact ⟨h⟩
end
/-- a list of ints in a box -/
def IL (S : Bxs) (n : Nat) (is : List Int) : Prop := S[n]? = some (.lst (is.map Dt.int))
theorem IL.seq {S : Bxs} {n : Nat} {is : List Int} (h : IL S n is) : S.seq n = some (is.map Dt.int) := seq_lst h
theorem IL.fr {S S' : Bxs} {b n : Nat} {is : List Int} (h : IL S n is) (F : Fr b S S') (hb : n ≠ b) : IL S' n is := F.at_ h hb
theorem IL.set {S : Bxs} {n : Nat} {is js : List Int} {xs : List Dt} (h : IL S n js) (e : xs = is.map Dt.int) : IL (S.set n (.lst xs)) n is := by
  subst e; exact List.getElem?_set_self (get_lt h)
theorem IL.skip {S : Bxs} {n m : Nat} {is : List Int} {x : MBox} (h : IL S n is) (hn : m ≠ n) : IL (S.set m x) n is := by unfold IL; rw [List.getElem?_set_ne hn]; exact h
theorem IL.pre {S S' : Bxs} {n : Nat} {is : List Int} (h : IL S n is) (p : S <+: S') : IL S' n is := get_pre p h
section
variable {σ : Sg} {S : Bxs} {E : Nat → List Dt → Bxs → Prop}
theorem w_pair {g : FTs} {a : Dt × Dt} {P : Sg → Bxs → Prop} (h : (g [a.1, a.2] σ S).Wp P E) : (tPairG g a σ S).Wp P E := h
theorem w_tNil {P : Sg → Bxs → Prop} (h : P σ S) : (tNilG [] σ S).Wp P E := ⟨h⟩
theorem w_tCons {g : FT} {r : FTs} {d : Dt} {ds : List Dt} {P : Sg → Bxs → Prop} (h : (g d σ S).Wp (fun σ1 S1 => (r ds σ1 S1).Wp P E) E) : (tConsG g r (d :: ds) σ S).Wp P E := w_bind h
theorem w_tTup {g : FTs} {n : Nat} {ds : List Dt} {P : Sg → Bxs → Prop} (hn : ds.length = n) (h : (g ds σ S).Wp P E) : (tTupG n g (.tup ds) σ S).Wp P E := by
  show (if ds.length = n then g ds σ S else .no).Wp P E
  rw [if_pos hn]; exact h
end
theorem c_nx {σ : Sg} {A B : Prop} (h : A) : ((Fl.nx, σ).1 = Fl.nx → A) ∧ ((Fl.nx, σ).1 ≠ Fl.nx → B) := ⟨fun _ => h, fun z => absurd rfl z⟩
theorem c_rt {d : Dt} {σ : Sg} {A B : Prop} (h : B) : ((Fl.rt d, σ).1 = Fl.nx → A) ∧ ((Fl.rt d, σ).1 ≠ Fl.nx → B) := ⟨(fun z => nomatch z), fun _ => h⟩
end Mn
local macro_rules | `(tactic| and_intros) => `(tactic| repeat (first | (first
  | with_reducible refine Mn.w_cons ?_ | with_reducible refine Mn.w_set ?_ | with_reducible refine Mn.w_asg ?_ | with_reducible refine Mn.w_par2 ?_ | with_reducible refine Mn.w_par3 ?_ | with_reducible refine Mn.w_if ?_ | with_reducible refine Mn.w_ret ?_ | with_reducible refine Mn.w_expr ?_ | with_reducible refine Mn.w_augS ?_ | with_reducible refine Mn.w_sNil ?_
  | with_reducible refine Mn.w_bin ?_ | (with_reducible refine Mn.w_var (by with_unfolding_all rfl) ?_) | with_reducible refine Mn.w_c ?_ | with_reducible refine Mn.w_true ?_ | with_reducible refine Mn.w_isN ?_ | with_reducible refine Mn.w_notN ?_ | with_reducible refine Mn.w_and ?_ | with_reducible refine Mn.w_or ?_ | with_reducible refine Mn.w_not ?_ | with_reducible refine Mn.w_andV ?_ | with_reducible refine Mn.w_ifE ?_ | with_reducible refine Mn.w_neg ?_
  | with_reducible refine Mn.w_nil ?_ | with_reducible refine Mn.w_consA ?_ | with_reducible refine Mn.w_tup ?_ | with_reducible refine Mn.w_lst ?_ | with_reducible refine Mn.w_call ?_ | with_reducible refine Mn.w_sl ?_ | with_reducible refine Mn.w_oN ?_ | with_reducible refine Mn.w_oS ?_ | with_reducible refine Mn.w_meth ?_ | with_reducible refine Mn.w_tName ?_ | with_reducible refine Mn.w_tSub ?_ | with_reducible refine Mn.w_for ?_ | with_reducible refine Mn.w_pair ?_ | with_reducible refine Mn.w_tNil ?_ | with_reducible refine Mn.w_tCons ?_ | ((with_reducible refine Mn.w_tTup ?_ ?_); rfl) | with_reducible refine Mn.w_srcSeq ?_ | with_reducible refine Mn.w_srcR1 ?_ | with_reducible refine Mn.w_srcZip ?_
  | with_reducible refine Mn.w_add ?_ | with_reducible refine Mn.w_sub ?_ | with_reducible refine Mn.w_addI ?_ | with_reducible refine Mn.w_subI ?_ | with_reducible refine Mn.w_cmp ?_ | with_reducible refine Mn.w_int ?_ | with_reducible refine Mn.w_abs ?_ | with_reducible refine Mn.w_max2 ?_ | with_reducible refine Mn.w_eqI ?_ | with_reducible refine Mn.w_slT ?_ | with_reducible refine Mn.w_lenT ?_
  | ((with_reducible refine Mn.w_mul ?_ ?_); first | exact Mn.mulOk.small2 (by decide) (by decide) | exact Mn.mulOk.small (by decide) (by decide))
  | ((with_reducible refine Mn.w_mod ?_ ?_); first | decide | assumption | omega)
  | ((with_reducible refine Mn.w_pow ?_ ?_); exact ⟨by decide, by decide, by decide⟩)
  | ((with_reducible refine Mn.w_fdiv ?_ ?_); exact Mn.divOk_small (by first | decide | assumption | omega) (by first | decide | assumption | omega))
  | (with_reducible refine Mn.w_ixB (Mn.seq_lst (by assumption)) (by with_unfolding_all rfl) ?_)
  | ((with_reducible refine Mn.w_newL ?_ ?_); exact Nat.le_of_ble_eq_true (by rfl))
  | (with_reducible refine Mn.w_ixT (by with_unfolding_all rfl) ?_)) | with_reducible refine Exists.intro _ (And.intro rfl ?_) | with_reducible refine Exists.intro _ (Exists.intro _ (And.intro rfl ?_)) | with_reducible refine Exists.intro _ (Exists.intro _ (Exists.intro _ (And.intro rfl ?_))) | ((with_reducible refine Mn.c_nx ?_); try simp only [List.set_cons_zero, List.set_cons_succ]) | ((with_reducible refine Mn.c_rt ?_); try simp only [List.set_cons_zero, List.set_cons_succ])))


set_option Elab.async false
set_option linter.all false
set_option maxRecDepth 100000
set_option maxHeartbeats 4000000
/-! MnQ: plain data: what it reads as, how long its text is. -/
namespace Mn
open PySem PySem.Spec PyProof.Rows L2
theorem ok_string (s : String) : PyData.strOk (Str.ofString s) = true := by
  unfold PyData.strOk
  rw [Str.ofString_eq_toList]
  rw [Array.all_eq_true]
  intro i hi
  simp at hi ⊢
  have := (s.toList[i]).valid
  have h2 : s.toList[i].toNat < 0x110000 := by
    have h3 : s.toList[i].toNat.isValidChar := this
    rcases h3 with h3 | h3
    · omega
    · exact h3.2
  exact h2
theorem ok_app {x y : Str} (hx : PyData.strOk x = true) (hy : PyData.strOk y = true) : PyData.strOk (x ++ y) = true := by
  show (x.cps ++ y.cps).all (· < 0x110000) = true
  rw [Array.all_append]
  unfold PyData.strOk at hx hy
  rw [hx, hy]; rfl
theorem ok_from : ∀ (ts : List Str) (k : Nat) (acc : Str), PyData.strOk acc = true → (∀ t ∈ ts, PyData.strOk t = true) → PyData.strOk (textFrom k acc ts) = true
  | [], _, _, h, _ => h
  | t :: ts, k, acc, h, ht => ok_from ts (k + 1) _ (ok_app (ok_app h (ok_string _)) (ht t List.mem_cons_self)) fun u hu => ht u (List.mem_cons_of_mem _ hu)
theorem ok_join (sep : Str) (hs : PyData.strOk sep = true) : ∀ (ts : List Str), (∀ t ∈ ts, PyData.strOk t = true) → PyData.strOk (Str.join sep ts) = true
  | [], _ => by unfold Str.join Str.empty PyData.strOk; simp
  | [t], h => h t List.mem_cons_self
  | t :: u :: ts, h => ok_app (ok_app (h t List.mem_cons_self) hs) (ok_join sep hs (u :: ts) fun v hv => h v (List.mem_cons_of_mem _ hv))
theorem ok_list {ts : List Str} (h : ∀ t ∈ ts, PyData.strOk t = true) : PyData.strOk (listText ts) = true := ok_app (ok_from ts 0 _ (ok_string _) h) (ok_string _)
theorem ok_tuple {ts : List Str} (h : ∀ t ∈ ts, PyData.strOk t = true) : PyData.strOk (tupleText ts) = true := ok_app (ok_app (ok_string _) (ok_join _ (ok_string _) ts h)) (ok_string _)
mutual
inductive Pl (S : Bxs) : Nat → Dt → PyData → Nat → Prop
  | non {n w : Nat} : 4 ≤ w → Pl S (n + 1) .non .none w
  | bl {n w : Nat} (b : Bool) : 5 ≤ w → Pl S (n + 1) (.bl b) (.bool b) w
  | int {n w : Nat} {i : Int} : i.natAbs.log2 < 1920 → (PyData.shown (.int i)).length ≤ w → Pl S (n + 1) (.int i) (.int i) w
  | str {n w : Nat} {x : Str} : PyData.strOk x = true → PyData.strOk (PyData.shown (.str x)) = true → (PyData.shown (.str x)).length ≤ w → Pl S (n + 1) (.str x) (.str x) w
  | tup {n w w' : Nat} {xs : List Dt} {ps : List PyData} : Pls S n xs ps w → w + 3 ≤ w' → Pl S (n + 1) (.tup xs) (.tuple ps) w'
  | box {n w w' m : Nat} {xs : List Dt} {ps : List PyData} : S.seq m = some xs → Pls S n xs ps w → w + 3 ≤ w' → Pl S (n + 1) (.box m) (.list ps) w'
inductive Pls (S : Bxs) : Nat → List Dt → List PyData → Nat → Prop
  | nil {n : Nat} : Pls S n [] [] 0
  | cons {n w w' : Nat} {d : Dt} {p : PyData} {ds : List Dt} {ps : List PyData} : Pl S n d p w → Pls S n ds ps w' → Pls S n (d :: ds) (p :: ps) (w + 2 + w')
end
structure PF (p : PyData) (n w : Nat) : Prop where
  lay : p.canLay0 = true
  show_ : p.showable = true
  dict : p.hasDict = false
  deep : p.depth ≤ n
  len : p.shown.length ≤ w
  eqv : p.eqv p = true
  ok : PyData.strOk p.shown = true
structure PFs (ps : List PyData) (n w : Nat) : Prop where
  lay : PyData.canLayAll0 ps = true
  show_ : PyData.showableAll ps = true
  dict : PyData.hasDictAll ps = false
  deep : PyData.depthAll ps ≤ n
  len : ((PyData.shownAll ps).map (·.length)).sum + 2 * (PyData.shownAll ps).length ≤ w
  eqv : PyData.eqvAll ps ps = true
  ok : ∀ t ∈ PyData.shownAll ps, PyData.strOk t = true
mutual
theorem Pl.pd {S : Bxs} : ∀ {n w : Nat} {d : Dt} {p : PyData}, Pl S n d p w → pd S n d = some p
  | _, _, _, _, .non _ => rfl
  | _, _, _, _, .bl b _ => rfl
  | _, _, _, _, .int _ _ => rfl
  | _, _, _, _, .str _ _ _ => rfl
  | _, _, _, _, .tup h _ => by unfold Mn.pd; rw [Pls.pd h]; rfl
  | _, _, _, _, .box e h _ => by unfold Mn.pd; rw [e]; show (optAll _).map _ = _; rw [Pls.pd h]; rfl
theorem Pls.pd {S : Bxs} : ∀ {n w : Nat} {d : List Dt} {p : List PyData}, Pls S n d p w → optAll (d.map (Mn.pd S n)) = some p
  | _, _, _, _, .nil => rfl
  | _, _, _, _, .cons h t => by rw [List.map_cons, Pl.pd h]; unfold optAll; rw [Pls.pd t]; rfl
end
mutual
theorem Pl.pf {S : Bxs} : ∀ {n w : Nat} {d : Dt} {p : PyData}, Pl S n d p w → PF p n w
  | _, _, _, _, .non hw => ⟨by simp [PyData.canLay0], by simp [PyData.showable], by simp [PyData.hasDict], by simp [PyData.depth], by simp only [PyData.shown]; exact Nat.le_trans (by decide) hw, by simp [PyData.eqv], by simp only [PyData.shown]; exact ok_string _⟩
  | _, _, _, _, .bl b hw => ⟨by simp [PyData.canLay0], by simp [PyData.showable], by simp [PyData.hasDict], by simp [PyData.depth], by simp only [PyData.shown]; cases b <;> exact Nat.le_trans (by decide) hw, by simp [PyData.eqv], by simp only [PyData.shown]; cases b <;> exact ok_string _⟩
  | _, _, _, _, .int a b => ⟨by simp [PyData.canLay0], by simp [PyData.showable]; exact a, by simp [PyData.hasDict], by simp [PyData.depth], b, by simp [PyData.eqv], by simp only [PyData.shown]; exact ok_string _⟩
  | _, _, _, _, .str a b c => ⟨by simp [PyData.canLay0]; exact a, by simp [PyData.showable], by simp [PyData.hasDict], by simp [PyData.depth], c, by simp [PyData.eqv], b⟩
  | _, _, _, _, .tup h hw => by
    have q := Pls.pf h
    refine ⟨by simp only [PyData.canLay0]; exact q.lay, by simp only [PyData.showable]; exact q.show_, by simp only [PyData.hasDict]; exact q.dict, by simp only [PyData.depth]; exact Nat.succ_le_succ q.deep, ?_, by simp only [PyData.eqv]; exact q.eqv, by simp only [PyData.shown]; exact ok_tuple q.ok⟩
    simp only [PyData.shown]
    refine Nat.le_trans (tupleText_len_le _) ?_
    have := q.len
    omega
  | _, _, _, _, .box _ h hw => by
    have q := Pls.pf h
    refine ⟨by simp only [PyData.canLay0]; exact q.lay, by simp only [PyData.showable]; exact q.show_, by simp only [PyData.hasDict]; exact q.dict, by simp only [PyData.depth]; exact Nat.succ_le_succ q.deep, ?_, by simp only [PyData.eqv]; exact q.eqv, by simp only [PyData.shown]; exact ok_list q.ok⟩
    simp only [PyData.shown]
    refine Nat.le_trans (listText_len_le _) ?_
    have := q.len
    omega
theorem Pls.pf {S : Bxs} : ∀ {n w : Nat} {d : List Dt} {p : List PyData}, Pls S n d p w → PFs p n w
  | _, _, _, _, .nil => ⟨by simp [PyData.canLayAll0], by simp [PyData.showableAll], by simp [PyData.hasDictAll], by simp [PyData.depthAll], by simp [PyData.shownAll], by simp [PyData.eqvAll], by simp [PyData.shownAll]⟩
  | _, _, _, _, .cons h t => by
    have a := Pl.pf h
    have q := Pls.pf t
    refine ⟨by simp only [PyData.canLayAll0, a.lay, q.lay]; rfl, by simp only [PyData.showableAll, a.show_, q.show_]; rfl, by simp only [PyData.hasDictAll, a.dict, q.dict]; rfl, ?_, ?_, by simp only [PyData.eqvAll, a.eqv, q.eqv]; rfl, fun u hu => ?_⟩
    · simp only [PyData.depthAll]
      have := a.deep
      have := q.deep
      omega
    · simp only [PyData.shownAll, List.map_cons, List.sum_cons, List.length_cons]
      have := a.len
      have := q.len
      omega
    · simp only [PyData.shownAll, List.mem_cons] at hu
      rcases hu with rfl | hu
      · exact a.ok
      · exact q.ok u hu
end
theorem Pl.mono {S : Bxs} {n w w' : Nat} {d : Dt} {p : PyData} (h : Pl S n d p w) (hw : w ≤ w') : Pl S n d p w' := by
  cases h with
  | non h => exact .non (Nat.le_trans h hw)
  | bl b h => exact .bl b (Nat.le_trans h hw)
  | int a b => exact .int a (Nat.le_trans b hw)
  | str a b c => exact .str a b (Nat.le_trans c hw)
  | tup h k => exact .tup h (Nat.le_trans k hw)
  | box e h k => exact .box e h (Nat.le_trans k hw)
/-- the text of an int -/
theorem int_len {i : Int} (k : Nat) (hk : 1 ≤ k) (h : i.natAbs < 10 ^ k) : (PyData.shown (.int i)).length ≤ k + 1 := by
  simp only [PyData.shown]
  have go : ∀ m : Nat, m < 10 ^ k → (Str.ofString (toString m)).length ≤ k := fun m hm => by
    rw [ofString_len]
    show (Nat.repr m).length ≤ k
    have := digitsCore_len_pow 10 (by decide) k (m + 1) m [] hk hm
    have e : (Nat.repr m).length = (Nat.toDigits 10 m).length := by unfold Nat.repr; simp
    rw [e]
    unfold Nat.toDigits
    simpa using this
  cases i with
  | ofNat m =>
    have := go m h
    exact Nat.le_trans this (Nat.le_succ _)
  | negSucc m =>
    have hz : Int.negSucc m < 0 := Int.negSucc_lt_zero m
    show (Str.ofString (toString (Int.negSucc m))).length ≤ _
    rw [len_text_neg hz]
    have e : (0 : Int) - Int.negSucc m = Int.ofNat (m + 1) := by
      rw [Int.negSucc_eq]; show _ = ((m + 1 : Nat) : Int); omega
    rw [e]
    have := go (m + 1) h
    show 1 + (Str.ofString (toString (m + 1))).length ≤ _
    omega
theorem Pl.mkInt {S : Bxs} {n : Nat} {i : Int} (k : Nat) (hk : 1 ≤ k) (hk2 : k ≤ 500) (h : i.natAbs < 10 ^ k) : Pl S (n + 1) (.int i) (.int i) (k + 1) := by
  refine .int ?_ (int_len k hk h)
  by_cases h0 : i.natAbs = 0
  · rw [h0]; decide
  · refine (Nat.log2_lt h0).mpr ?_
    refine Nat.lt_of_lt_of_le h ?_
    refine Nat.le_trans (Nat.pow_le_pow_right (by decide) hk2) ?_
    decide +kernel
section
variable {S : Bxs} {E : Nat → List Dt → Bxs → Prop}
theorem w_repr {d : Dt} {p : PyData} {w : Nat} {P : Dt → Bxs → Prop} (h : Pl S 60 d p w) (hw : w ≤ 1000000) (q : P (.str p.shown) S) : (reprG [d] S).Wp P E := by
  have e : reprG [d] S = .ok (.str p.shown) S := by
    show (match pdo S d with
    | some p => if showOk p = true then Rs.ok (Dt.str p.shown) S else .no
    | none => .no) = _
    have e1 : pdo S d = some p := h.pd
    rw [e1]
    have f := h.pf
    have hs : showOk p = true := by
      unfold showOk
      rw [f.show_, f.dict]
      have := f.deep
      have := f.len
      have l : strLim = 1000000 := rfl
      simp
      exact ⟨by omega, by omega⟩
    show (if showOk p = true then Rs.ok (Dt.str p.shown) S else .no) = _
    rw [if_pos hs]
  rw [e]; exact sat_mk q
theorem shaped_pl {d : Dt} {p : PyData} {w : Nat} (h : Pl S 60 d p w) : SeqAt.shaped p = true := by
  have f := h.pf
  unfold SeqAt.shaped
  rw [f.lay]
  have := f.deep
  simp
  omega
theorem w_eq {neg : Bool} {x y : Dt} {p q : PyData} {w w' : Nat} {P : Dt → Bxs → Prop} (hx : Pl S 60 x p w) (hy : Pl S 60 y q w') (h : P (.bl (if neg then !PyData.eqv p q else PyData.eqv p q)) S) : (eqG neg x y S).Wp P E := by
  have e : eqG neg x y S = .ok (.bl (if neg then !PyData.eqv p q else PyData.eqv p q)) S := by
    have e1 : pdo S x = some p := hx.pd
    have e2 : pdo S y = some q := hy.pd
    unfold eqG
    rw [e1, e2]
    show (if SeqAt.shaped p = true ∧ SeqAt.shaped q = true then _ else _) = _
    rw [if_pos ⟨shaped_pl hx, shaped_pl hy⟩]
  rw [e]; exact sat_mk h
end
mutual
theorem Pl.pre {S S' : Bxs} (q : S <+: S') : ∀ {n w : Nat} {d : Dt} {p : PyData}, Pl S n d p w → Pl S' n d p w
  | _, _, _, _, .non h => .non h
  | _, _, _, _, .bl b h => .bl b h
  | _, _, _, _, .int a b => .int a b
  | _, _, _, _, .str a b c => .str a b c
  | _, _, _, _, .tup h k => .tup (Pls.pre q h) k
  | _, _, _, _, .box (m := m) e h k => .box (by
      obtain ⟨t, rfl⟩ := q
      have hl := seq_lt e
      unfold Bxs.seq at e ⊢
      rw [List.getElem?_append_left hl]; exact e) (Pls.pre q h) k
theorem Pls.pre {S S' : Bxs} (q : S <+: S') : ∀ {n w : Nat} {d : List Dt} {p : List PyData}, Pls S n d p w → Pls S' n d p w
  | _, _, _, _, .nil => .nil
  | _, _, _, _, .cons h t => .cons (Pl.pre q h) (Pls.pre q t)
end
end Mn

set_option Elab.async false
set_option linter.all false
set_option maxRecDepth 100000
set_option maxHeartbeats 4000000
/-! MnY: rules of weakest premises for what raises. -/
namespace Mn
open PySem PySem.Spec PyProof.Rows L2
section
variable {σ : Sg} {S : Bxs} {E : Nat → List Dt → Bxs → Prop}
theorem w_raise {c : Nat} {fa : FA} {P : Fl × Sg → Bxs → Prop} (h : (fa σ S).Wp (fun ds S1 => E c ds S1) E) : (sRaise c fa σ S).Wp P E := ⟨Rs.sat_bind.mpr (h.sat.mono (fun _ _ q => q) fun _ _ _ q => q)⟩
theorem w_quiet {F : FN} {ds : List Dt} {P : Dt → Bxs → Prop} (h : (F ds S).Wp P noX) : (quietF F ds S).Wp P E := quiet_of h
theorem w_callT {F : FN} {fa : FA} {P : Dt → Bxs → Prop} (h : (fa σ S).Wp (fun ds S1 => (F ds S1).Wp P (fun c es S2 => E c (enc σ :: es) S2)) E) : (dCallT F fa σ S).Wp P E := by
  refine w_bind (h.mono (fun ds S1 q => ?_) fun _ _ _ q => q)
  cases e : F ds S1 with
  | ok d S2 => rw [e] at q; exact ⟨q.sat⟩
  | ex c es S2 => rw [e] at q; exact ⟨q.sat⟩
  | no => rw [e] at q; exact q.sat.elim
theorem w_try {b : FS} {hs : Hds} {P : Fl × Sg → Bxs → Prop} (h : (b σ S).Wp P (fun c es S1 => ∃ e r, es = e :: r ∧ (pickH hs c r (dec e) S1).Wp P noX)) : (sTry b hs σ S).Wp P E := by
  unfold sTry
  cases e : b σ S with
  | ok r S1 => rw [e] at h; exact ⟨h.sat⟩
  | no => rw [e] at h; exact h.sat.elim
  | ex c es S1 =>
    rw [e] at h
    obtain ⟨x, r, rfl, q⟩ := (show ∃ x r, es = x :: r ∧ (pickH hs c r (dec x) S1).Wp P noX from h.sat)
    exact quiet_of q
theorem w_isB {neg : Bool} {a b : Bool} {P : Dt → Bxs → Prop} (h : P (.bl (if neg then !decide (a = b) else decide (a = b))) S) : (isBG neg (.bl a) (.bl b) S).Wp P E := ⟨h⟩
theorem w_tupR1 {f : FE} {P : Dt → Bxs → Prop} (h : (f σ S).Wp (fun d S1 => ∃ j : Int, d = .int j ∧ j ≤ 100000 ∧ -(2 ^ 62) ≤ j ∧ P (.tup (rgD 0 j.toNat)) S1) E) : (dTupR1 f σ S).Wp P E := by
  refine w_bind (h.mono (fun d S1 ⟨j, e, h1, h2, q⟩ => ?_) fun _ _ _ q => q)
  subst e
  show (if j ≤ 100000 ∧ -(2 ^ 62) ≤ j then Rs.ok (Dt.tup (rgD 0 j.toNat)) S1 else .no).Wp P E
  rw [if_pos ⟨h1, h2⟩]; exact ⟨q⟩
end
end Mn

set_option Elab.async false
set_option linter.all false
set_option maxRecDepth 100000
set_option maxHeartbeats 4000000
namespace Lw
open PySem PySem.Spec PyProof.Rows L2 Mn
noncomputable def B__law_bag : FS :=
  sRet (dLst (aCons (dC (.int 0)) (aCons (dC (.int 1234567891)) (aCons (dC (.int 0)) (aCons (dLc (srcSeq (dSl (dVar 0) (oNone) (oSome (dC (.int 63))))) (tName 1) (bYes) (dCall absG (aCons (dVar 1) (aNil))) [1]) (aNil))))))
noncomputable def F__law_bag : FN := bodyF 2 B__law_bag
noncomputable def B__law_take : FS :=
  sCons (sIf (dTrue (dBin (eqG false) (dBin ixG (dVar 0) (dC (.int 0))) (dC (.int 0)))) (sCons (sSet 2 (dBin ixG (dBin addG (dSl (dBin ixG (dVar 0) (dC (.int 3))) (oSome (dBin ixG (dVar 0) (dC (.int 2)))) (oNone)) (dLst (aCons (dC (.int 0)) (aNil)))) (dC (.int 0)))) (sCons (sAugS (dVar 0) (dC (.int 2)) addI (dC (.int 1))) (sCons (sIf (dTrue (dBin geG (dVar 2) (dBin powG (dC (.int 10)) (dC (.int 18))))) (sAsg (dVar 2) (tSubG (dVar 0) (dC (.int 0)))) (sNil)) (sCons (sSet 3 (dBin addG (dBin addG (dBin mulG (dBin ixG (dVar 0) (dC (.int 1))) (dC (.int 48271))) (dBin modG (dCall intG (aCons (dVar 2) (aNil))) (dC (.int 2147483647)))) (dBin mulG (dC (.int 7919)) (dBin ixG (dVar 0) (dC (.int 2)))))) (sAsg (dBin modG (dCall intG (aCons (dVar 3) (aNil))) (dC (.int 2147483647))) (tSubG (dVar 0) (dC (.int 1)))))))) (sNil)) (sCons (sIf (dTrue (dBin gtG (dBin ixG (dVar 0) (dC (.int 0))) (dC (.int 0)))) (sCons (sSet 4 (dBin modG (dCall intG (aCons (dBin ixG (dVar 0) (dC (.int 0))) (aNil))) (dVar 1))) (sCons (sAsg (dBin fdivG (dCall intG (aCons (dBin ixG (dVar 0) (dC (.int 0))) (aNil))) (dVar 1)) (tSubG (dVar 0) (dC (.int 0)))) (sRet (dVar 4)))) (sNil)) (sCons (sSet 5 (dBin modG (dCall intG (aCons (dBin mulG (dBin addG (dBin ixG (dVar 0) (dC (.int 1))) (dC (.int 1))) (dC (.int 39373))) (aNil))) (dC (.int 1000000007)))) (sCons (sSet 6 (dBin modG (dCall intG (aCons (dBin mulG (dBin modG (dCall intG (aCons (dBin mulG (dVar 5) (dVar 5)) (aNil))) (dC (.int 998244353))) (dC (.int 30011))) (aNil))) (dC (.int 998244353)))) (sRet (dBin modG (dCall intG (aCons (dBin fdivG (dVar 6) (dC (.int 7))) (aNil))) (dVar 1))))))
noncomputable def F__law_take : FN := bodyF 7 B__law_take
noncomputable def B__law_one : FS :=
  sRet (dBin ixG (dVar 1) (dCall F__law_take (aCons (dVar 0) (aCons (dCall lenG (aCons (dVar 1) (aNil))) (aNil)))))
noncomputable def F__law_one : FN := bodyF 2 B__law_one
noncomputable def B__law_mixed : FS :=
  sCons (sSet 2 (dLst (aNil))) (sCons (sFor (srcSeq (dVar 1)) (tName 3) (sExpr (dMeth "list" insertG (dVar 2) (aCons (dCall F__law_take (aCons (dVar 0) (aCons (dBin addG (dCall lenG (aCons (dVar 2) (aNil))) (dC (.int 1))) (aNil)))) (aCons (dVar 3) (aNil)))))) (sRet (dVar 2)))
noncomputable def F__law_mixed : FN := bodyF 4 B__law_mixed
noncomputable def B__law_names : FS :=
  sCons (sSet 2 (dLst (aCons (dC (.str "a")) (aCons (dC (.str "b")) (aCons (dC (.str "c")) (aCons (dC (.str "d")) (aCons (dC (.str "ab")) (aCons (dC (.str "to")) (aCons (dC (.str "by")) (aCons (dC (.str "with")) (aCons (dC (.str "kinds")) (aCons (dC (.str "hands")) (aCons (dC (.str "recipe")) (aCons (dC (.str "run")) (aCons (dC (.str "places")) (aNil)))))))))))))))) (sRet (dSl (dCall F__law_mixed (aCons (dVar 0) (aCons (dBin addG (dVar 2) (dLst (aCons (dC (.str "arrow")) (aCons (dC (.str "gym")) (aCons (dC (.str "jvl")) (aCons (dC (.str "zzzzzz")) (aCons (dC (.str "x")) (aCons (dC (.str "fq")) (aNil))))))))) (aNil)))) (oNone) (oSome (dVar 1))))
noncomputable def F__law_names : FN := bodyF 3 B__law_names
noncomputable def B__law_recipe : FS :=
  sCons (sSet 4 (dCall F__law_take (aCons (dVar 0) (aCons (dVar 1) (aNil))))) (sCons (sPar3 5 6 7 (aCons (dLst (aCons (dC (.int 0)) (aCons (dC (.int 1)) (aCons (dC (.int 0)) (aCons (dBin addG (dC (.int 1)) (dCall F__law_take (aCons (dVar 0) (aCons (dVar 3) (aNil))))) (aNil)))))) (aCons (dBin mulG (dLst (aCons (dC (.int 0)) (aNil))) (dVar 1)) (aCons (dBin mulG (dLst (aCons (dC (.int 0)) (aNil))) (dVar 1)) (aNil))))) (sCons (sFor (srcR1 (aCons (dVar 1) (aNil))) (tName 8) (sIf (dTrue (dBin ltG (dVar 8) (dVar 4))) (sAsg (dCall F__law_one (aCons (dVar 0) (aCons (dVar 5) (aNil)))) (tSubG (dVar 6) (dVar 8))) (sIf (dAnd (dTrue (dBin gtG (dVar 8) (dVar 4))) (dTrue (dBin (eqG false) (dCall F__law_take (aCons (dVar 0) (aCons (dC (.int 2)) (aNil)))) (dC (.int 0))))) (sAsg (dCall F__law_one (aCons (dVar 0) (aCons (dVar 5) (aNil)))) (tSubG (dVar 7) (dVar 8))) (sNil)))) (sCons (sAsg (dCall F__law_one (aCons (dVar 0) (aCons (dLst (aCons (dC (.int 1)) (aCons (dC (.int 1)) (aCons (dC (.int 1)) (aCons (dC (.int 2)) (aCons (dBin addG (dC (.int 1)) (dCall F__law_take (aCons (dVar 0) (aCons (dVar 3) (aNil))))) (aNil))))))) (aNil)))) (tSubG (dVar 6) (dVar 4))) (sRet (dTup (aCons (dCall tupleG (aCons (dVar 6) (aNil))) (aCons (dCall tupleG (aCons (dVar 7) (aNil))) (aCons (dCall F__law_one (aCons (dVar 0) (aCons (dBin addG (dBin mulG (dCall listG (aCons (dVar 2) (aNil))) (dC (.int 2))) (dLst (aCons (dC .non) (aNil)))) (aNil)))) (aNil)))))))))
noncomputable def F__law_recipe : FN := bodyF 9 B__law_recipe
noncomputable def B__law_out : FS :=
  sCons (sSet 4 (dBin mulG (dLst (aCons (dC (.int 0)) (aNil))) (dVar 1))) (sCons (sAsg (dC (.int 1)) (tSubG (dVar 4) (dVar 2))) (sRet (dTup (aCons (dCall tupleG (aCons (dVar 4) (aNil))) (aCons (dBin mulG (dTup (aCons (dC (.int 0)) (aNil))) (dVar 1)) (aCons (dCall F__law_one (aCons (dVar 0) (aCons (dBin addG (dBin mulG (dCall listG (aCons (dVar 3) (aNil))) (dC (.int 3))) (dLst (aCons (dC .non) (aNil)))) (aNil)))) (aNil)))))))
noncomputable def F__law_out : FN := bodyF 5 B__law_out
noncomputable def B__law_works : FS :=
  sCons (sPar3 4 5 6 (aCons (dCall F__law_names (aCons (dVar 0) (aCons (dC (.int 8)) (aNil)))) (aCons (dBin addG (dC (.int 1)) (dCall F__law_take (aCons (dVar 0) (aCons (dVar 1) (aNil))))) (aCons (dCall F__law_take (aCons (dVar 0) (aCons (dBin addG (dVar 2) (dC (.int 1))) (aNil)))) (aNil))))) (sCons (sPar2 7 8 (aCons (dCall tupleG (aCons (dSl (dVar 4) (oSome (dVar 5)) (oSome (dBin addG (dVar 5) (dVar 6)))) (aNil))) (aCons (dLst (aNil)) (aNil)))) (sCons (sSet 9 (dCall F__law_one (aCons (dVar 0) (aCons (dLst (aCons (dC (.int 1)) (aCons (dC (.int 2)) (aCons (dC (.int 2)) (aCons (dC (.int 4)) (aNil)))))) (aNil))))) (sCons (sFor (srcR1 (aCons (dCall F__law_take (aCons (dVar 0) (aCons (dBin addG (dVar 3) (dC (.int 1))) (aNil)))) (aNil))) (tName 10) (sExpr (dMeth "list" appendG (dVar 8) (aCons (dCall F__law_recipe (aCons (dVar 0) (aCons (dVar 5) (aCons (dVar 7) (aCons (dVar 9) (aNil)))))) (aNil))))) (sCons (sFor (srcR1 (aCons (dVar 5) (aNil))) (tName 11) (sIf (dTrue (dBin gtG (dCall F__law_take (aCons (dVar 0) (aCons (dC (.int 4)) (aNil)))) (dC (.int 0)))) (sExpr (dMeth "list" appendG (dVar 8) (aCons (dCall F__law_out (aCons (dVar 0) (aCons (dVar 5) (aCons (dVar 11) (aCons (dVar 7) (aNil)))))) (aNil)))) (sNil))) (sCons (sIf (dAnd (dTrue (dBin (eqG true) (dVar 8) (dLst (aNil)))) (dTrue (dBin (eqG false) (dCall F__law_take (aCons (dVar 0) (aCons (dC (.int 6)) (aNil)))) (dC (.int 0))))) (sExpr (dMeth "list" appendG (dVar 8) (aCons (dCall F__law_one (aCons (dVar 0) (aCons (dVar 8) (aNil)))) (aNil)))) (sNil)) (sRet (dTup (aCons (dCall tupleG (aCons (dSl (dVar 4) (oNone) (oSome (dVar 5))) (aNil))) (aCons (dVar 7) (aCons (dCall tupleG (aCons (dSl (dCall F__law_mixed (aCons (dVar 0) (aCons (dVar 8) (aNil)))) (oNone) (oSome (dVar 3))) (aNil))) (aNil)))))))))))
noncomputable def F__law_works : FN := bodyF 12 B__law_works
noncomputable def B__law_last_taken : FS :=
  sRet (dCall maxG (aCons (dLc (srcR1 (aCons (dCall lenG (aCons (dBin ixG (dVar 0) (dC (.int 0))) (aNil))) (aNil))) (tName 1) (dTrue (dBin gtG (dBin ixG (dBin ixG (dVar 0) (dC (.int 0))) (dVar 1)) (dC (.int 0)))) (dVar 1) [1]) (aNil)))
noncomputable def F__law_last_taken : FN := bodyF 2 B__law_last_taken
noncomputable def B__law_worth : FS :=
  sRet (dCall sumG (aCons (dLc (srcZip (aCons (dVar 0) (aCons (dVar 1) (aNil)))) (tPairG (tConsG (tName 2) (tConsG (tName 3) (tNilG)))) (bYes) (dBin mulG (dVar 2) (dVar 3)) [2, 3]) (aNil)))
noncomputable def F__law_worth : FN := bodyF 4 B__law_worth
noncomputable def B__law_fair_tariff : FS :=
  sCons (sPar2 2 3 (aCons (dLc (srcSeq (dBin ixG (dVar 1) (dC (.int 0)))) (tName 8) (bYes) (dCall F__law_one (aCons (dVar 0) (aCons (dLst (aCons (dC (.int 0)) (aCons (dC (.int 1)) (aCons (dC (.int 2)) (aCons (dNeg (dC (.int 1))) (aCons (dC (.int 3)) (aCons (dBin subG (dCall F__law_take (aCons (dVar 0) (aCons (dC (.int 9)) (aNil)))) (dC (.int 4))) (aNil)))))))) (aNil)))) [8]) (aCons (dBin mulG (dLst (aCons (dC (.int 0)) (aNil))) (dCall lenG (aCons (dBin ixG (dVar 1) (dC (.int 1))) (aNil)))) (aNil)))) (sCons (sFor (srcSeq (dCall (sortKG F__law_last_taken true) (aCons (dBin ixG (dVar 1) (dC (.int 2))) (aNil)))) (tName 4) (sCons (sPar2 5 6 (aCons (dBin subG (dCall F__law_worth (aCons (dVar 2) (aCons (dBin ixG (dVar 4) (dC (.int 0))) (aNil)))) (dCall F__law_worth (aCons (dVar 2) (aCons (dBin ixG (dVar 4) (dC (.int 1))) (aNil))))) (aCons (dCall F__law_last_taken (aCons (dVar 4) (aNil))) (aNil)))) (sIf (dAnd (dTrue (dIsN (dBin ixG (dVar 4) (dC (.int 2))))) (dTrue (dBin gtG (dVar 5) (dC (.int 0))))) (sAugS (dVar 2) (dVar 6) subI (dNeg (dBin fdivG (dNeg (dVar 5)) (dBin ixG (dBin ixG (dVar 4) (dC (.int 0))) (dVar 6))))) (sIf (dTrue (dNotN (dBin ixG (dVar 4) (dC (.int 2))))) (sCons (sSet 7 (dMeth "tuple" tindexG (dBin ixG (dVar 1) (dC (.int 1))) (aCons (dBin ixG (dVar 4) (dC (.int 2))) (aNil)))) (sAsg (dCall maxG (aCons (dBin ixG (dVar 3) (dVar 7)) (aCons (dVar 5) (aNil)))) (tSubG (dVar 3) (dVar 7)))) (sNil))))) (sCons (sSet 3 (dLc (srcSeq (dVar 3)) (tName 9) (bYes) (dBin addG (dVar 9) (dCall F__law_one (aCons (dVar 0) (aCons (dLst (aCons (dC (.int 0)) (aCons (dC (.int 0)) (aCons (dC (.int 0)) (aCons (dC (.int 1)) (aNil)))))) (aNil))))) [9])) (sCons (sIf (dAnd (dTrue (dBin (eqG false) (dVar 2) (dBin mulG (dLst (aCons (dC (.int 0)) (aNil))) (dCall lenG (aCons (dVar 2) (aNil)))))) (dTrue (dBin (eqG false) (dCall maxG (aCons (dBin addG (dVar 3) (dLst (aCons (dC (.int 0)) (aNil)))) (aNil))) (dC (.int 0))))) (sAsg (dNeg (dC (.int 1))) (tSubG (dVar 2) (dC (.int 0)))) (sNil)) (sRet (dTup (aCons (dCall tupleG (aCons (dVar 2) (aNil))) (aCons (dCall tupleG (aCons (dVar 3) (aNil))) (aNil))))))))
noncomputable def F__law_fair_tariff : FN := bodyF 10 B__law_fair_tariff
noncomputable def B__law_turned : FS :=
  sCons (sPar2 2 3 (aCons (dCall listG (aCons (dBin ixG (dVar 1) (dC (.int 0))) (aNil))) (aCons (dCall listG (aCons (dBin ixG (dVar 1) (dC (.int 1))) (aNil))) (aNil)))) (sCons (sPar2 4 5 (aCons (dCall F__law_take (aCons (dVar 0) (aCons (dBin addG (dCall lenG (aCons (dVar 2) (aNil))) (dCall lenG (aCons (dVar 3) (aNil)))) (aNil)))) (aCons (dCall F__law_one (aCons (dVar 0) (aCons (dLst (aCons (dC (.int 1)) (aCons (dNeg (dC (.int 1))) (aNil)))) (aNil)))) (aNil)))) (sCons (sIf (dTrue (dBin ltG (dVar 4) (dCall lenG (aCons (dVar 2) (aNil))))) (sAugS (dVar 2) (dVar 4) addI (dVar 5)) (sAsg (dCall maxG (aCons (dC (.int 0)) (aCons (dBin addG (dBin ixG (dVar 3) (dBin subG (dVar 4) (dCall lenG (aCons (dVar 2) (aNil))))) (dVar 5)) (aNil)))) (tSubG (dVar 3) (dBin subG (dVar 4) (dCall lenG (aCons (dVar 2) (aNil))))))) (sCons (sIf (dAnd (dTrue (dBin (eqG false) (dVar 2) (dBin mulG (dLst (aCons (dC (.int 0)) (aNil))) (dCall lenG (aCons (dVar 2) (aNil)))))) (dTrue (dBin (eqG false) (dVar 3) (dBin mulG (dLst (aCons (dC (.int 0)) (aNil))) (dCall lenG (aCons (dVar 3) (aNil))))))) (sAsg (dC (.int 1)) (tSubG (dVar 2) (dC (.int 0)))) (sNil)) (sRet (dTup (aCons (dCall tupleG (aCons (dVar 2) (aNil))) (aCons (dCall tupleG (aCons (dVar 3) (aNil))) (aNil))))))))
noncomputable def F__law_turned : FN := bodyF 6 B__law_turned
noncomputable def B__law_times : FS :=
  sRet (dCall tupleG (aCons (dLc (srcSeq (dVar 0)) (tName 2) (bYes) (dBin mulG (dVar 2) (dVar 1)) [2]) (aNil)))
noncomputable def F__law_times : FN := bodyF 3 B__law_times
noncomputable def B_dot : FS :=
  sRet (dCall sumG (aCons (dLc (srcZip (aCons (dVar 0) (aCons (dVar 1) (aNil)))) (tPairG (tConsG (tName 2) (tConsG (tName 3) (tNilG)))) (bYes) (dBin mulG (dVar 2) (dVar 3)) [2, 3]) (aNil)))
noncomputable def F_dot : FN := bodyF 4 B_dot
noncomputable def B_worth : FS :=
  sRet (dCall F_dot (aCons (dBin ixG (dVar 0) (dC (.int 0))) (aCons (dVar 1) (aNil))))
noncomputable def F_worth : FN := bodyF 2 B_worth
noncomputable def B_pay : FS :=
  sRet (dCall F_dot (aCons (dBin ixG (dVar 0) (dC (.int 1))) (aCons (dVar 1) (aNil))))
noncomputable def F_pay : FN := bodyF 2 B_pay
noncomputable def B_used_up : FS :=
  sCons (sAsg (dVar 0) (tTupG 3 (tConsG (tName 1) (tConsG (tName 2) (tConsG (tName 3) (tNilG)))))) (sRet (dCall tupleG (aCons (dLc (srcZip (aCons (dVar 1) (aCons (dVar 2) (aNil)))) (tPairG (tConsG (tName 4) (tConsG (tName 5) (tNilG)))) (bYes) (dBin subG (dVar 4) (dVar 5)) [4, 5]) (aNil))))
noncomputable def F_used_up : FN := bodyF 6 B_used_up
noncomputable def B_wanted : FS :=
  sRet (dCall tupleG (aCons (dLc (srcSeq (dBin ixG (dVar 0) (dC (.int 1)))) (tName 2) (bYes) (dIf (dTrue (dBin (eqG false) (dVar 2) (dBin ixG (dVar 1) (dC (.int 2))))) (dC (.int 1)) (dC (.int 0))) [2]) (aNil)))
noncomputable def F_wanted : FN := bodyF 3 B_wanted
noncomputable def B__is_fair_for : FS :=
  sRet (dBin leG (dCall F_worth (aCons (dVar 1) (aCons (dCall F_used_up (aCons (dVar 2) (aNil))) (aNil)))) (dCall F_pay (aCons (dVar 1) (aCons (dCall F_wanted (aCons (dVar 0) (aCons (dVar 2) (aNil)))) (aNil)))))
noncomputable def F__is_fair_for : FN := bodyF 3 B__is_fair_for
noncomputable def B_is_fair : FS :=
  sRet (dCall (allG false) (aCons (dLc (srcSeq (dBin ixG (dVar 0) (dC (.int 2)))) (tName 2) (bYes) (dCall F__is_fair_for (aCons (dVar 0) (aCons (dVar 1) (aCons (dVar 2) (aNil))))) [2]) (aNil)))
noncomputable def F_is_fair : FN := bodyF 3 B_is_fair
noncomputable def B__law_alike : FS :=
  sRet (dAndV (dBin (eqG false) (dVar 0) (dVar 1)) (dBin (eqG false) (dCall reprG (aCons (dVar 0) (aNil))) (dCall reprG (aCons (dVar 1) (aNil)))))
noncomputable def F__law_alike : FN := bodyF 2 B__law_alike
noncomputable def B__law_is_fair : FS :=
  sCons (sFor (srcSeq (dBin ixG (dVar 0) (dC (.int 2)))) (tTupG 3 (tConsG (tName 2) (tConsG (tName 3) (tConsG (tName 4) (tNilG))))) (sCons (sSet 5 (dIf (dTrue (dIsN (dVar 4))) (dC (.int 0)) (dBin ixG (dBin ixG (dVar 1) (dC (.int 1))) (dMeth "tuple" tindexG (dBin ixG (dVar 0) (dC (.int 1))) (aCons (dVar 4) (aNil)))))) (sIf (dTrue (dBin gtG (dCall F__law_worth (aCons (dBin ixG (dVar 1) (dC (.int 0))) (aCons (dVar 2) (aNil)))) (dBin addG (dCall F__law_worth (aCons (dBin ixG (dVar 1) (dC (.int 0))) (aCons (dVar 3) (aNil)))) (dVar 5)))) (sRet (dC (.bl false))) (sNil)))) (sRet (dC (.bl true)))
noncomputable def F__law_is_fair : FN := bodyF 6 B__law_is_fair
noncomputable def B_law : FS :=
  sCons (sSet 1 (dCall F__law_bag (aCons (dVar 0) (aNil)))) (sCons (sFor (srcR1 (aCons (dC (.int 5)) (aNil))) (tName 2) (sCons (sSet 3 (dCall F__law_works (aCons (dVar 1) (aCons (dC (.int 5)) (aCons (dC (.int 3)) (aCons (dC (.int 8)) (aNil))))))) (sCons (sSet 4 (dCall F__law_fair_tariff (aCons (dVar 1) (aCons (dVar 3) (aNil))))) (sCons (sSet 5 (dLst (aCons (dVar 4) (aCons (dCall F__law_turned (aCons (dVar 1) (aCons (dVar 4) (aNil)))) (aCons (dCall F__law_turned (aCons (dVar 1) (aCons (dCall F__law_turned (aCons (dVar 1) (aCons (dVar 4) (aNil)))) (aNil)))) (aNil)))))) (sCons (sSet 6 (dCall F__law_one (aCons (dVar 1) (aCons (dLst (aCons (dC (.int 2)) (aCons (dC (.int 3)) (aCons (dBin powG (dC (.int 10)) (dC (.int 4))) (aNil))))) (aNil))))) (sCons (sExpr (dMeth "list" appendG (dVar 5) (aCons (dTup (aCons (dCall F__law_times (aCons (dBin ixG (dVar 4) (dC (.int 0))) (aCons (dVar 6) (aNil)))) (aCons (dCall F__law_times (aCons (dBin ixG (dVar 4) (dC (.int 1))) (aCons (dVar 6) (aNil)))) (aNil)))) (aNil)))) (sFor (srcSeq (dVar 5)) (tName 7) (sCons (sSet 8 (dCall F__law_one (aCons (dVar 1) (aCons (dLst (aCons (dLst (aCons (dC (.int 0)) (aCons (dC (.int 1)) (aCons (dC (.int 2)) (aNil))))) (aCons (dLst (aCons (dC (.int 9)) (aNil))) (aCons (dLst (aCons (dC (.int 0)) (aNil))) (aCons (dLst (aCons (dBin powG (dC (.int 10)) (dC (.int 9))) (aCons (dC (.int 0)) (aNil)))) (aNil)))))) (aNil))))) (sCons (sPar2 9 10 (aCons (dCall tupleG (aCons (dLc (srcSeq (dBin ixG (dVar 3) (dC (.int 0)))) (tName 13) (bYes) (dCall F__law_one (aCons (dVar 1) (aCons (dVar 8) (aNil)))) [13]) (aNil))) (aCons (dCall tupleG (aCons (dLc (srcSeq (dBin ixG (dVar 3) (dC (.int 1)))) (tName 14) (bYes) (dCall F__law_one (aCons (dVar 1) (aCons (dVar 8) (aNil)))) [14]) (aNil))) (aNil)))) (sCons (sSet 11 (dCall reprG (aCons (dLst (aCons (dVar 3) (aCons (dVar 7) (aCons (dVar 9) (aCons (dVar 10) (aNil)))))) (aNil)))) (sCons (sSet 12 (dLst (aCons (dCall F_is_fair (aCons (dVar 3) (aCons (dVar 7) (aNil)))) (aCons (dCall F_worth (aCons (dVar 7) (aCons (dVar 9) (aNil)))) (aCons (dCall F_pay (aCons (dVar 7) (aCons (dVar 10) (aNil)))) (aNil)))))) (sCons (sIf (dNot (dTrue (dCall F__law_alike (aCons (dVar 12) (aCons (dLst (aCons (dCall F__law_is_fair (aCons (dVar 3) (aCons (dVar 7) (aNil)))) (aCons (dCall F__law_worth (aCons (dBin ixG (dVar 7) (dC (.int 0))) (aCons (dVar 9) (aNil)))) (aCons (dCall F__law_worth (aCons (dBin ixG (dVar 7) (dC (.int 1))) (aCons (dVar 10) (aNil)))) (aNil))))) (aNil)))))) (sRet (dC (.bl false))) (sNil)) (sIf (dTrue (dBin (eqG true) (dCall reprG (aCons (dLst (aCons (dVar 3) (aCons (dVar 7) (aCons (dVar 9) (aCons (dVar 10) (aNil)))))) (aNil))) (dVar 11))) (sRet (dC (.bl false))) (sNil)))))))))))))) (sRet (dC (.bl true))))
noncomputable def F_law : FN := bodyF 15 B_law
end Lw

set_option Elab.async false
set_option linter.all false
set_option maxRecDepth 100000
set_option maxHeartbeats 4000000
namespace Lw
open PySem PySem.Spec PyProof.Rows L2 Mn
theorem take_ok {S : Bxs} {b c : Nat} {m : Int} (B : Bag S b c) (h0 : 0 < m) (h1 : m < 2 ^ 60) : (F__law_take [.box b, .int m] S).Wp (fun d S' => ∃ i, d = .int i ∧ 0 ≤ i ∧ i < m ∧ Bag S' b c ∧ Fr b S S') noX := by
  obtain ⟨h, x, i, ns, B⟩ := B
  refine w_body ?_
  unfold B__law_take startD
  simp only [List.map_cons, List.map_nil, List.length_cons, List.length_nil, List.cons_append, List.nil_append, Nat.reduceAdd, Nat.reduceSub, List.replicate]
  refine w_cons (Rs.Wp.mono (P := fun r S1 => r.1 = .nx ∧ (∃ d2 d3, r.2 = [some (.box b), some (.int m), d2, d3, none, none, none]) ∧ Bag S1 b c ∧ Fr b S S1) ?a ?b fun _ _ _ q => q)
  case a =>
    have hb := B.at_
    and_intros
    refine ⟨fun _ => ?_, fun _ => ?_⟩
    · and_intros
      refine w_slB (seq_lst B.cells) ?_
      have hcl : (Mn.cutD (ns.map Dt.int) (some i) none).length ≤ 63 := Nat.le_trans (cutD_length _ _ _) (by rw [List.length_map]; exact B.len)
      have hcm : ∀ d ∈ Mn.cutD (ns.map Dt.int) (some i) none, ∃ k : Int, d = .int k ∧ 0 ≤ k := fun d hd => by
        unfold Mn.cutD at hd
        obtain ⟨k, hk, rfl⟩ := List.mem_map.mp (List.mem_of_mem_drop (List.mem_of_mem_take hd))
        exact ⟨k, rfl, B.pos k hk⟩
      generalize Mn.cutD (ns.map Dt.int) (some i) none = cs at hcl hcm
      refine w_newL (Nat.le_trans hcl (by decide)) ?_
      and_intros
      try refine w_newL (ds := [.int 0]) (by decide) ?_
      refine w_addL (xs := cs) (ys := [.int 0]) (lst_of (by simp)) (lst_of get_last) ?_
      refine w_newL (by rw [List.length_append]; exact Nat.le_trans (Nat.add_le_add_right hcl 1) (by decide)) ?_
      and_intros
      refine w_idx (seq_lst get_last) (Int.le_refl _) (by simp) fun d hd => ?_
      obtain ⟨k, rfl, hk⟩ : ∃ k : Int, d = .int k ∧ 0 ≤ k := by
        rcases List.mem_append.mp (List.mem_of_getElem? hd) with z | z
        · exact hcm d z
        · exact ⟨0, by simpa using z, Int.le_refl _⟩
      have p : S <+: ((S ++ [MBox.lst cs]) ++ [MBox.lst [Dt.int 0]]) ++ [MBox.lst (cs ++ [Dt.int 0])] := by rw [List.append_assoc, List.append_assoc]; exact List.prefix_append _ _
      have fin : ∀ {S3 : Bxs} {h3 : Int}, BagAt S3 b c h3 x (i + 1) ns → Fr b S S3 → (sCons (sSet 3 (dBin addG (dBin addG (dBin mulG (dBin ixG (dVar 0) (dC (.int 1))) (dC (.int 48271))) (dBin modG (dCall intG (aCons (dVar 2) (aNil))) (dC (.int 2147483647)))) (dBin mulG (dC (.int 7919)) (dBin ixG (dVar 0) (dC (.int 2)))))) (sAsg (dBin modG (dCall intG (aCons (dVar 3) (aNil))) (dC (.int 2147483647))) (tSubG (dVar 0) (dC (.int 1)))) [some (.box b), some (.int m), some (.int k), none, none, none, none] S3).Wp (fun r S1 => r.1 = .nx ∧ (∃ d2 d3, r.2 = [some (.box b), some (.int m), d2, d3, none, none, none]) ∧ Bag S1 b c ∧ Fr b S S1) noX := fun {S3 h3} B3 F3 => by
        have hb3 := B3.at_
        and_intros
        refine w_setG (j := 1) (lst_of B3.at_) (by rfl) ?_
        exact ⟨rfl, ⟨_, _, rfl⟩, ⟨h3, _, i + 1, ns, B3.set B3.h0 (Int.emod_nonneg _ (by decide)) (Int.emod_lt_of_pos _ (by decide)) B3.i0⟩, F3.trans Fr.set⟩
      have B1 := B.pre p
      have F1 := Fr.pre (b := b) p
      generalize ((S ++ [MBox.lst cs]) ++ [MBox.lst [Dt.int 0]]) ++ [MBox.lst (cs ++ [Dt.int 0])] = S1 at B1 F1
      and_intros
      refine w_getG (lst_of B1.at_) (by decide) rfl ?_
      and_intros
      refine w_setG (j := 2) (lst_of B1.at_) (by rfl) ?_
      have B2 := B1.set B1.h0 B1.x0 B1.x1 (show 0 ≤ i + 1 by have := B1.i0; omega)
      have F2 := F1.trans (Fr.set (x := .lst [.int h, .int x, .int (i + 1), .box c]))
      and_intros
      refine ⟨fun hk2 => ?_, fun _ => ?_⟩
      · and_intros
        refine w_setG (j := 0) (lst_of B2.at_) (by rfl) ?_
        have B3 := B2.set hk B2.x0 B2.x1 B2.i0
        have F3 := F2.trans (Fr.set (x := .lst [.int k, .int x, .int (i + 1), .box c]))
        exact ⟨fun _ => fin B3 F3, fun z => absurd rfl z⟩
      · refine w_sNil ?_
        exact ⟨fun _ => fin B2 F2, fun z => absurd rfl z⟩
    · and_intros
      exact ⟨rfl, ⟨_, _, rfl⟩, ⟨h, x, i, ns, B⟩, Fr.refl _ _⟩
  case b =>
    rintro ⟨fl, σ1⟩ S1 ⟨e, ⟨d2, d3, e2⟩, ⟨h, x, i, ns, B⟩, F⟩
    cases e
    cases e2
    have hb := B.at_
    and_intros
    refine ⟨fun hp => ?_, fun hp => ?_⟩
    · and_intros
      refine w_setG (j := 0) (lst_of B.at_) (by rfl) ?_
      and_intros
      exact .inl ⟨_, rfl, _, rfl, Int.emod_nonneg _ (by omega), Int.emod_lt_of_pos _ h0, ⟨_, x, i, ns, B.set (Int.ediv_nonneg B.h0 (by omega)) B.x0 B.x1 B.i0⟩, F.trans Fr.set⟩
    · and_intros
      refine w_mul (.small (by have := Int.emod_nonneg ((x + 1) * 39373) (show (1000000007 : Int) ≠ 0 by decide); omega) (by have := Int.emod_lt_of_pos ((x + 1) * 39373) (show (0 : Int) < 1000000007 by decide); omega)) ?_
      and_intros
      exact .inl ⟨_, rfl, _, rfl, Int.emod_nonneg _ (by omega), Int.emod_lt_of_pos _ h0, ⟨h, x, i, ns, B⟩, F⟩

theorem one_ok {S : Bxs} {b c t : Nat} {xs : List Dt} (B : Bag S b c) (e : S.seq t = some xs) (ht : t ≠ b) (hne : xs ≠ []) (hl : xs.length ≤ 100000) : (F__law_one [.box b, .box t] S).Wp (fun d S' => d ∈ xs ∧ Bag S' b c ∧ Fr b S S') noX := by
  refine w_body ?_
  unfold B__law_one
  simp only [startD, List.map_cons, List.map_nil, List.length_cons, List.length_nil, List.cons_append, List.nil_append, Nat.reduceAdd, Nat.reduceSub, List.replicate, List.replicate_succ, List.replicate_zero]
  and_intros
  refine w_lenB e ?_
  and_intros
  have h0 : 0 < xs.length := List.length_pos_iff.mpr hne
  refine (take_ok B (by omega) (by omega)).mono (fun d S1 ⟨i, e1, i0, i1, B1, F1⟩ => ?_) fun _ _ _ q => q
  subst e1
  refine w_idx (F1.seq e ht) i0 i1 fun d hd => ?_
  exact .inl ⟨_, rfl, List.mem_of_getElem? hd, B1, F1⟩
theorem mixed_ok {S : Bxs} {b c t : Nat} {xs : List Dt} (B : Bag S b c) (e : S.seq t = some xs) (ht : t ≠ b) (hl : xs.length ≤ 1000) :
    (F__law_mixed [.box b, .box t] S).Wp (fun d S' => ∃ r ys, d = .box r ∧ S.length ≤ r ∧ S'[r]? = some (.lst ys) ∧ ys.Perm xs ∧ Bag S' b c ∧ Fr b S S') noX := by
  refine w_body ?_
  unfold B__law_mixed
  simp only [startD, List.map_cons, List.map_nil, List.length_cons, List.length_nil, List.cons_append, List.nil_append, Nat.reduceAdd, Nat.reduceSub, List.replicate, List.replicate_succ, List.replicate_zero]
  and_intros
  have F0 : Fr b S (S ++ [.lst []]) := (Fr.refl b S).app
  refine ⟨xs, F0.seq e ht, ?_⟩
  have hb : S.length ≠ b := Nat.ne_of_gt B.lt.1
  have hc : S.length ≠ c := Nat.ne_of_gt B.lt.2
  refine w_loop (fun i σ S' => ∃ d3 ys, σ = [some (.box b), some (.box t), some (.box S.length), d3] ∧ S'[S.length]? = some (.lst ys) ∧ ys.Perm (xs.take i) ∧ Bag S' b c ∧ Fr b S S') (fun i σ S' ⟨_, _, _, _, _, _, F⟩ => F.seq e ht) (fun i x σ S' hx ⟨d3, ys, e1, e2, pm, B1, F1⟩ => ?_) (fun σ S' ⟨d3, ys, e1, e2, pm, B1, F1⟩ => ?_) ⟨none, [], rfl, get_last, by simp, B.app, F0⟩
  · subst e1
    have hyl : ys.length ≤ 1000 := by rw [pm.length_eq, List.length_take]; omega
    and_intros
    refine ⟨ty_list e2, ?_⟩
    and_intros
    refine w_lenB (seq_lst e2) ?_
    and_intros
    refine (take_ok B1 (by omega) (by omega)).mono (fun d S2 ⟨j, ed, j0, j1, B2, F2⟩ => ?_) fun _ _ _ q => q
    subst ed
    and_intros
    refine w_insert (lst_of (F2.at_ e2 hb)) ⟨Nat.lt_of_le_of_lt hyl (by decide), j0, by omega⟩ ?_
    refine .inl ⟨rfl, _, _, rfl, List.getElem?_set_self (get_lt (F2.at_ e2 hb)), ?_, B2.own hb hc, (F1.trans F2).own (Nat.le_refl _)⟩
    refine (ins_perm _ _ _).trans ?_
    rw [List.take_add_one, hx]
    exact pm.append_right _
  · subst e1
    and_intros
    rw [List.take_length] at pm
    exact .inl ⟨_, rfl, _, ys, rfl, Nat.le_refl _, e2, pm, B1, F1⟩
end Lw

set_option Elab.async false
set_option linter.all false
set_option maxRecDepth 100000
set_option maxHeartbeats 4000000
namespace Lw
open PySem PySem.Spec PyProof.Rows L2 Mn
theorem bag_ok {ns : List Int} (hl : ns.length ≤ 63) : (F__law_bag [.box 0] (script0 ns)).Wp (fun d S' => ∃ b c, d = .box b ∧ b ≠ 0 ∧ Bag S' b c) noX := by
  refine w_body ?_
  unfold B__law_bag
  simp only [startD, List.map_cons, List.map_nil, List.length_cons, List.length_nil, List.cons_append, List.nil_append, Nat.reduceAdd, Nat.reduceSub, List.replicate, List.replicate_succ, List.replicate_zero]
  and_intros
  refine w_lcMap ?_
  and_intros
  have h63 : Mn.cutD (ns.map Dt.int) none (some 63) = ns.map Dt.int := by
    refine cutD_whole ?_
    rw [List.length_map]
    unfold wholeCut
    simp [HT.sIx, Nat.min_eq_right hl]
  refine w_slB (xs := ns.map Dt.int) rfl ?_
  rw [h63]
  have hz : (ns.map Dt.int).length ≤ 63 := by rw [List.length_map]; exact hl
  refine w_newL (Nat.le_trans hz (by decide)) ?_
  refine ⟨_, w_seqB get_last, fun d => match d with | .int i => .int (if i < 0 then -i else i) | d => d, Nat.lt_of_le_of_lt hz (by decide), fun acc => ?_, fun x acc hx => ?_, ?_⟩
  · show seqOf _ (.box _) = some _
    exact w_seqB (get_pre (List.prefix_append _ _) get_last)
  · obtain ⟨i, hi, rfl⟩ := List.mem_map.mp hx
    and_intros
    refine ⟨rfl, ?_⟩
    and_intros
    exact ⟨rfl, rfl⟩
  · and_intros
    refine .inl ⟨_, rfl, _, 2, rfl, by simp [script0], ?_⟩
    refine ⟨0, 1234567891, 0, ns.map fun i => if i < 0 then -i else i, ?_⟩
    refine ⟨get_last, ?_, by simp [script0], by decide, by decide, by decide, by decide, fun n hn => ?_, by rw [List.length_map]; exact hl⟩
    · show some (MBox.lst _) = _
      rw [List.map_map, List.map_map]
      rfl
    · obtain ⟨i, _, rfl⟩ := List.mem_map.mp hn
      split <;> omega
def menuD : List Dt := [.str "a", .str "b", .str "c", .str "d", .str "ab", .str "to", .str "by", .str "with", .str "kinds", .str "hands", .str "recipe", .str "run", .str "places", .str "arrow", .str "gym", .str "jvl", .str "zzzzzz", .str "x", .str "fq"]
def menuS : List Str := ["a", "b", "c", "d", "ab", "to", "by", "with", "kinds", "hands", "recipe", "run", "places", "arrow", "gym", "jvl", "zzzzzz", "x", "fq"]
theorem menu_nodup : menuD.Nodup := by
  show (menuS.map Dt.str).Pairwise (· ≠ ·)
  refine List.Pairwise.map Dt.str (R := fun a b => a ≠ b) (fun a b h e => h (Dt.str.inj e)) ?_
  show menuS.Nodup
  decide +kernel
theorem names_ok {S : Bxs} {b c : Nat} (B : Bag S b c) : (F__law_names [.box b, .int 8] S).Wp (fun d S' => ∃ r ys, d = .box r ∧ S.length ≤ r ∧ S'[r]? = some (.lst ys) ∧ ys.length = 8 ∧ ys.Nodup ∧ (∀ y ∈ ys, y ∈ menuD) ∧ Bag S' b c ∧ Fr b S S') noX := by
  refine w_body ?_
  unfold B__law_names
  simp only [startD, List.map_cons, List.map_nil, List.length_cons, List.length_nil, List.cons_append, List.nil_append, Nat.reduceAdd, Nat.reduceSub, List.replicate, List.replicate_succ, List.replicate_zero]
  and_intros
  refine w_addL (xs := menuD.take 13) (ys := menuD.drop 13) (lst_of (by simp; rfl)) (lst_of (by simp; rfl)) ?_
  refine w_newL (by decide) ?_
  and_intros
  have p : S <+: ((S ++ [MBox.lst (menuD.take 13)]) ++ [MBox.lst (menuD.drop 13)]) ++ [MBox.lst (menuD.take 13 ++ menuD.drop 13)] := by rw [List.append_assoc, List.append_assoc]; exact List.prefix_append _ _
  refine (mixed_ok (S := ((S ++ [MBox.lst (menuD.take 13)]) ++ [MBox.lst (menuD.drop 13)]) ++ [MBox.lst (menuD.take 13 ++ menuD.drop 13)]) (B.pre p) (seq_lst get_last) (by have := B.lt.1; simp; omega) (by decide)).mono (fun d S1 ⟨r, ys, ed, hr, e1, pm, B1, F1⟩ => ?_) fun _ _ _ q => q
  subst ed
  and_intros
  have hy : ys.length = 19 := pm.length_eq
  have hc : Mn.cutD ys none (some 8) = ys.take 8 := by
    unfold Mn.cutD
    rw [HT.sIx_none, List.drop_zero, Nat.sub_zero]
    show ys.take (HT.sIx ys.length ys.length (some ((8 : Nat) : Int))) = _
    rw [HT.sIx_nat, hy]
    rfl
  refine w_slB (seq_lst e1) ?_
  rw [hc]
  have h8 : (ys.take 8).length = 8 := by rw [List.length_take, hy]; rfl
  refine w_newL (by rw [h8]; decide) ?_
  have F2 := (Fr.pre (b := b) p).trans F1
  refine .inl ⟨_, rfl, _, _, rfl, F2.len, get_last, h8, ?_, fun y hy => ?_, B1.app, F2.app⟩
  · exact (pm.nodup_iff.mpr menu_nodup).sublist (List.take_sublist _ _)
  · exact pm.mem_iff.mp (List.mem_of_mem_take hy)

def AllB (is : List Int) : Prop := ∀ i ∈ is, 0 ≤ i ∧ i ≤ 5
theorem AllB.set {is : List Int} {j : Nat} {v : Int} (h : AllB is) (hv : 0 ≤ v ∧ v ≤ 5) : AllB (is.set j v) := fun i hi => by
  rcases List.mem_or_eq_of_mem_set hi with z | z
  · exact h i z
  · rw [z]; exact hv
theorem AllB.zeros (n : Nat) : AllB (List.replicate n 0) := fun i hi => by
  rw [List.eq_of_mem_replicate hi]; omega
/-- nothing behind l; nothing up to l -/
def ZT (l : Nat) (is : List Int) : Prop := ∀ (j : Nat) v, l < j → is[j]? = some v → v = 0
def ZU (l : Nat) (is : List Int) : Prop := ∀ (j : Nat) v, j ≤ l → is[j]? = some v → v = 0
theorem ZT.set {l i : Nat} {is : List Int} {v : Int} (h : ZT l is) (hi : i ≤ l) : ZT l (is.set i v) := fun j w hj e => by
  rw [List.getElem?_set_ne (by omega)] at e; exact h j w hj e
theorem ZU.set {l i : Nat} {is : List Int} {v : Int} (h : ZU l is) (hi : l < i) : ZU l (is.set i v) := fun j w hj e => by
  rw [List.getElem?_set_ne (by omega)] at e; exact h j w hj e
theorem zero_at {n j : Nat} {v : Int} (e : (List.replicate n (0 : Int))[j]? = some v) : v = 0 := List.eq_of_mem_replicate (List.mem_of_getElem? e)
structure Recipe (size : Nat) (hs : List Dt) (d : Dt) (ts us : List Int) (h : Dt) : Prop where
  eq : d = .tup [.tup (ts.map Dt.int), .tup (us.map Dt.int), h]
  tl : ts.length = size
  ul : us.length = size
  tb : AllB ts
  ub : AllB us
  tp : ∃ i ∈ ts, 0 < i
  hh : h = .non ∨ h ∈ hs
  sb : ∃ l : Nat, (∃ v, ts[l]? = some v ∧ 0 < v) ∧ ZT l ts ∧ ZU l us
/-- a recipe's own lists, filled -/
def RI (S : Bxs) (l b c m t p : Nat) (size : Nat) (S' : Bxs) : Prop := ∃ ms ts us, IL S' m ms ∧ IL S' t ts ∧ IL S' p us ∧ ms.length = 4 ∧ AllB ms ∧ ts.length = size ∧ us.length = size ∧ AllB ts ∧ AllB us ∧ ZT l ts ∧ ZU l us ∧ Bag S' b c ∧ Fr b S S'
theorem recipe_ok {S : Bxs} {b c : Nat} {size most : Int} {hs : List Dt} (B : Bag S b c) (s0 : 0 < size) (s1 : size ≤ 10) (m0 : 0 < most) (m1 : most ≤ 4) (hl : hs.length ≤ 10) :
    (F__law_recipe [.box b, .int size, .tup hs, .int most] S).Wp (fun d S' => (∃ ts us h, Recipe size.toNat hs d ts us h) ∧ Bag S' b c ∧ Fr b S S') noX := by
  refine w_body ?_
  unfold B__law_recipe
  simp only [startD, List.map_cons, List.map_nil, List.length_cons, List.length_nil, List.cons_append, List.nil_append, Nat.reduceAdd, Nat.reduceSub, List.replicate, List.replicate_succ, List.replicate_zero]
  and_intros
  refine (take_ok B s0 (by omega)).mono (fun d S1 ⟨last, ed, l0, l1, B1, F1⟩ => ?_) fun _ _ _ q => q
  subst ed
  and_intros
  refine (take_ok B1 m0 (by omega)).mono (fun d S2 ⟨k, ed, k0, k1, B2, F2⟩ => ?_) fun _ _ _ q => q
  subst ed
  and_intros
  refine w_mulL (lst_of get_last) ⟨by omega, by omega, by decide⟩ ?_
  rw [zeros]
  have hrl : ((List.replicate size.toNat (0 : Int)).map Dt.int).length ≤ LIM := by rw [List.length_map, List.length_replicate]; exact Nat.le_trans (show size.toNat ≤ 10 by omega) (by decide)
  refine w_newL hrl ?_
  and_intros
  refine w_mulL (lst_of get_last) ⟨by omega, by omega, by decide⟩ ?_
  rw [zeros]
  refine w_newL hrl ?_
  and_intros
  have F02 := F1.trans F2
  have q1 := B.lt
  have q2 := F02.len
  have z1 : (List.map Dt.int (List.replicate size.toNat 0)).length = size.toNat := by rw [List.length_map, List.length_replicate]
  have hJ : RI S last.toNat b c S2.length (List.length (S2 ++ [MBox.lst [Dt.int 0, Dt.int 1, Dt.int 0, Dt.int (1 + k)]] ++ [MBox.lst [Dt.int 0]]))
      (List.length (S2 ++ [MBox.lst [Dt.int 0, Dt.int 1, Dt.int 0, Dt.int (1 + k)]] ++ [MBox.lst [Dt.int 0]] ++ [MBox.lst (List.map Dt.int (List.replicate size.toNat 0))] ++ [MBox.lst [Dt.int 0]])) size.toNat
      (S2 ++ [MBox.lst [Dt.int 0, Dt.int 1, Dt.int 0, Dt.int (1 + k)]] ++ [MBox.lst [Dt.int 0]] ++ [MBox.lst (List.map Dt.int (List.replicate size.toNat 0))] ++ [MBox.lst [Dt.int 0]] ++ [MBox.lst (List.map Dt.int (List.replicate size.toNat 0))]) := by
    refine ⟨[0, 1, 0, 1 + k], List.replicate size.toNat 0, List.replicate size.toNat 0, ?_, ?_, get_last, rfl, ?_, List.length_replicate, List.length_replicate, AllB.zeros _, AllB.zeros _, (fun _ _ _ e => zero_at e), (fun _ _ _ e => zero_at e), B2.app.app.app.app.app, F02.app.app.app.app.app⟩
    · exact IL.pre (IL.pre (IL.pre (IL.pre (show IL _ _ [0, 1, 0, 1 + k] from get_last) (List.prefix_append _ _)) (List.prefix_append _ _)) (List.prefix_append _ _)) (List.prefix_append _ _)
    · exact IL.pre (IL.pre (show IL _ _ (List.replicate size.toNat 0) from get_last) (List.prefix_append _ _)) (List.prefix_append _ _)
    · intro i hi
      simp at hi
      omega
  have dd : S2.length < List.length (S2 ++ [MBox.lst [Dt.int 0, Dt.int 1, Dt.int 0, Dt.int (1 + k)]] ++ [MBox.lst [Dt.int 0]]) ∧ List.length (S2 ++ [MBox.lst [Dt.int 0, Dt.int 1, Dt.int 0, Dt.int (1 + k)]] ++ [MBox.lst [Dt.int 0]]) <
      List.length (S2 ++ [MBox.lst [Dt.int 0, Dt.int 1, Dt.int 0, Dt.int (1 + k)]] ++ [MBox.lst [Dt.int 0]] ++ [MBox.lst (List.map Dt.int (List.replicate size.toNat 0))] ++ [MBox.lst [Dt.int 0]]) := by
    simp only [List.length_append, List.length_cons, List.length_nil]; omega
  generalize (S2 ++ [MBox.lst [Dt.int 0, Dt.int 1, Dt.int 0, Dt.int (1 + k)]] ++ [MBox.lst [Dt.int 0]] ++ [MBox.lst (List.map Dt.int (List.replicate size.toNat 0))] ++ [MBox.lst [Dt.int 0]] ++ [MBox.lst (List.map Dt.int (List.replicate size.toNat 0))]) = S3 at hJ ⊢
  generalize (List.length (S2 ++ [MBox.lst [Dt.int 0, Dt.int 1, Dt.int 0, Dt.int (1 + k)]] ++ [MBox.lst [Dt.int 0]] ++ [MBox.lst (List.map Dt.int (List.replicate size.toNat 0))] ++ [MBox.lst [Dt.int 0]])) = p at hJ dd ⊢
  generalize (List.length (S2 ++ [MBox.lst [Dt.int 0, Dt.int 1, Dt.int 0, Dt.int (1 + k)]] ++ [MBox.lst [Dt.int 0]])) = t at hJ dd ⊢
  generalize S2.length = m at hJ dd q2 ⊢
  refine ⟨⟨by omega, by omega⟩, ?_⟩
  have drawn : ∀ {S4 : Bxs} {ms : List Int} {P : Dt → Bxs → Prop}, IL S4 m ms → ms.length = 4 → AllB ms → Bag S4 b c → (∀ v S5, 0 ≤ v ∧ v ≤ 5 → Bag S5 b c → Fr b S4 S5 → P (.int v) S5) → (F__law_one [.box b, .box m] S4).Wp P noX := fun {S4 ms P} i1 i2 i3 i4 h => by
    refine (one_ok i4 i1.seq (by omega) (fun z => by rw [List.map_eq_nil_iff] at z; rw [z] at i2; cases i2) (by rw [List.length_map, i2]; decide)).mono (fun d S5 ⟨hd, B5, F5⟩ => ?_) fun _ _ _ q => q
    obtain ⟨v, hv, rfl⟩ := List.mem_map.mp hd
    exact h v S5 (i3 v hv) B5 F5
  refine w_loop (fun i σ S' => ∃ d8, σ = [some (.box b), some (.int size), some (.tup hs), some (.int most), some (.int last), some (.box m), some (.box t), some (.box p), d8] ∧ RI S last.toNat b c m t p size.toNat S') (fun _ _ _ _ => trivial) (fun i x σ S4 hx ⟨d8, e1, J⟩ => ?_) (fun σ S4 ⟨d8, e1, J⟩ => ?_) ⟨_, rfl, hJ⟩
  · subst e1
    have hx2 := rgD_get hx
    subst hx2
    have hil : i < size.toNat := by
      have := (List.getElem?_eq_some_iff.mp hx).1
      unfold rgD at this
      simpa using this
    obtain ⟨ms, ts, us, i1, i2, i3, i4, i5, i6, i7, i8, i9, z1, z2, B4, F4⟩ := J
    and_intros
    refine ⟨fun hlt => ?_, fun _ => ?_⟩
    · have hlt : 0 + (i : Int) < last := of_decide_eq_true hlt
      and_intros
      refine drawn i1 i4 i5 B4 fun v S5 hv B5 F5 => ?_
      and_intros
      have j2 := i2.fr F5 (by omega)
      refine w_setG (j := i) (lst_of j2) (by rw [ixN_mk (by omega) (by rw [List.length_map, i6]; omega)]; congr; omega) ?_
      refine .inl ⟨rfl, _, rfl, ms, ts.set i v, us, (i1.fr F5 (by omega)).skip (by omega), j2.set (by rw [List.map_set]), (i3.fr F5 (by omega)).skip (by omega), i4, i5, by rw [List.length_set]; exact i6, i7, i8.set hv, i9, z1.set (by omega), z2, B5.own (by omega) (by omega), (F4.trans F5).own (by omega)⟩
    · and_intros
      have skip : ∀ {S5 : Bxs}, Bag S5 b c → Fr b S4 S5 → ∃ d8, [some (Dt.box b), some (.int size), some (.tup hs), some (.int most), some (.int last), some (.box m), some (.box t), some (.box p), some (.int (0 + (i : Int)))] = [some (Dt.box b), some (.int size), some (.tup hs), some (.int most), some (.int last), some (.box m), some (.box t), some (.box p), d8] ∧ RI S last.toNat b c m t p size.toNat S5 :=
        fun {S5} B5 F5 => ⟨_, rfl, ms, ts, us, i1.fr F5 (by omega), i2.fr F5 (by omega), i3.fr F5 (by omega), i4, i5, i6, i7, i8, i9, z1, z2, B5, F4.trans F5⟩
      refine ⟨fun hgt => ?_, fun _ => ?_⟩
      · have hgt : last < 0 + (i : Int) := of_decide_eq_true hgt
        and_intros
        refine (take_ok B4 (by decide) (by decide)).mono (fun d S5 ⟨j, ed, j0, j1, B5, F5⟩ => ?_) fun _ _ _ q => q
        subst ed
        and_intros
        refine ⟨fun _ => ?_, fun _ => ?_⟩
        · and_intros
          refine drawn (i1.fr F5 (by omega)) i4 i5 B5 fun v S6 hv B6 F6 => ?_
          and_intros
          have F46 := F5.trans F6
          have j3 := i3.fr F46 (by omega)
          refine w_setG (j := i) (lst_of j3) (by rw [ixN_mk (by omega) (by rw [List.length_map, i7]; omega)]; congr; omega) ?_
          refine .inl ⟨rfl, _, rfl, ms, ts, us.set i v, (i1.fr F46 (by omega)).skip (by omega), (i2.fr F46 (by omega)).skip (by omega), j3.set (by rw [List.map_set]), i4, i5, i6, by rw [List.length_set]; exact i7, i8, i9.set hv, z1, z2.set (by omega), B6.own (by omega) (by omega), (F4.trans F46).own (by omega)⟩
        · and_intros
          exact .inl ⟨rfl, skip B5 F5⟩
      · refine ⟨fun z => absurd z Bool.false_ne_true, fun _ => ?_⟩
        and_intros
        exact .inl ⟨rfl, skip B4 (Fr.refl _ _)⟩
  · subst e1
    obtain ⟨ms, ts, us, i1, i2, i3, i4, i5, i6, i7, i8, i9, z1, z2, B4, F4⟩ := J
    and_intros
    refine (take_ok B4 m0 (by omega)).mono (fun d S5 ⟨j, ed, j0, j1, B5, F5⟩ => ?_) fun _ _ _ q => q
    subst ed
    and_intros
    have q5 := (F4.trans F5).len
    refine (one_ok (xs := [Dt.int 1, Dt.int 1, Dt.int 1, Dt.int 2, Dt.int (1 + j)]) B5.app (seq_lst get_last) (by have := B5.lt.1; omega) (fun z => nomatch z) (Nat.le_of_ble_eq_true (by rfl))).mono (fun d S6 ⟨hd, B6, F6⟩ => ?_) fun _ _ _ q => q
    obtain ⟨v, rfl, hv0, hv1⟩ : ∃ v : Int, d = .int v ∧ 0 < v ∧ v ≤ 5 := by
      simp at hd
      rcases hd with z | z | z <;> exact ⟨_, z, by omega, by omega⟩
    and_intros
    have F46 := (F5.app (x := .lst [Dt.int 1, Dt.int 1, Dt.int 1, Dt.int 2, Dt.int (1 + j)])).trans F6
    have j2 := i2.fr F46 (by omega)
    refine w_setG (j := last.toNat) (lst_of j2) (ixN_mk l0 (by rw [List.length_map, i6]; omega)) ?_
    rw [← List.map_set]
    have k2 : IL (S6.set t (.lst ((ts.set last.toNat v).map Dt.int))) t (ts.set last.toNat v) := j2.set rfl
    have k3 : IL (S6.set t (.lst ((ts.set last.toNat v).map Dt.int))) p us := (i3.fr F46 (by omega)).skip (by omega)
    have B7 : Bag (S6.set t (.lst ((ts.set last.toNat v).map Dt.int))) b c := B6.own (by omega) (by omega)
    have F7 : Fr b S (S6.set t (.lst ((ts.set last.toNat v).map Dt.int))) := (F4.trans F46).own (by omega)
    generalize S6.set t (.lst ((ts.set last.toNat v).map Dt.int)) = S7 at k2 k3 B7 F7
    and_intros
    refine w_tupB k2.seq ?_
    and_intros
    refine w_tupB k3.seq ?_
    and_intros
    refine w_listT ?_
    refine w_newL (Nat.le_trans hl (by decide)) ?_
    and_intros
    refine w_mulL (lst_of get_last) ⟨by decide, by decide, by omega⟩ ?_
    have hll : (List.replicate (Int.toNat 2) hs).flatten.length ≤ 20 := by
      show (List.replicate 2 hs).flatten.length ≤ 20
      simp [List.replicate]; omega
    refine w_newL (Nat.le_trans hll (by decide)) ?_
    and_intros
    refine w_addL (xs := (List.replicate (Int.toNat 2) hs).flatten) (ys := [.non]) (lst_of (get_pre (List.prefix_append _ _) get_last)) (lst_of get_last) ?_
    have hlm : ((List.replicate (Int.toNat 2) hs).flatten ++ [Dt.non]).length ≤ 21 := by rw [List.length_append]; simpa using hll
    refine w_newL (Nat.le_trans hlm (by decide)) ?_
    and_intros
    refine (one_ok B7.app.app.app.app (seq_lst get_last) (by have := B7.lt.1; simp only [List.length_append, List.length_cons, List.length_nil]; omega) (fun z => by simp at z) (Nat.le_trans hlm (by decide))).mono (fun h S8 ⟨hh, B8, F8⟩ => ?_) fun _ _ _ q => q
    and_intros
    refine ⟨Nat.le_of_ble_eq_true (by rfl), ?_⟩
    refine .inl ⟨_, rfl, ⟨ts.set last.toNat v, us, h, rfl, by rw [List.length_set]; exact i6, i7, i8.set ⟨by omega, hv1⟩, i9, ⟨v, List.mem_set (show last.toNat < ts.length by rw [i6]; omega) v, hv0⟩, ?_, ⟨last.toNat, ⟨v, List.getElem?_set_self (by rw [i6]; omega), hv0⟩, z1.set (Nat.le_refl _), z2⟩⟩, B8, F7.app.app.app.app.trans F8⟩
    rcases List.mem_append.mp hh with z | z
    · right
      obtain ⟨l, hl1, hl2⟩ := List.mem_flatten.mp z
      rw [List.eq_of_mem_replicate hl1] at hl2
      exact hl2
    · left
      simpa using z
end Lw

set_option Elab.async false
set_option linter.all false
set_option maxRecDepth 100000
set_option maxHeartbeats 4000000
namespace Mn
open PySem PySem.Spec PyProof.Rows L2
theorem Pls.of_all {S : Bxs} {n w : Nat} : ∀ {ds : List Dt}, (∀ d ∈ ds, ∃ p, Pl S n d p w) → ∃ ps, Pls S n ds ps (ds.length * (w + 2)) ∧ ps.length = ds.length
  | [], _ => ⟨[], by simpa using Pls.nil, rfl⟩
  | d :: ds, h => by
    obtain ⟨p, hp⟩ := h d List.mem_cons_self
    obtain ⟨ps, hps, hl⟩ := Pls.of_all (ds := ds) fun d hd => h d (List.mem_cons_of_mem _ hd)
    refine ⟨p :: ps, ?_, by simp [hl]⟩
    have := Pls.cons hp hps
    rw [List.length_cons, Nat.add_mul, Nat.one_mul, Nat.add_comm]
    exact this
theorem w_mulT {S : Bxs} {E : Nat → List Dt → Bxs → Prop} {xs : List Dt} {k : Int} {P : Dt → Bxs → Prop} (c : xs ≠ [] ∧ -1000 ≤ k ∧ k ≤ 1000 ∧ xs.length ≤ 100) (h : P (.tup (List.replicate k.toNat xs).flatten) S) : (mulG (.tup xs) (.int k) S).Wp P E := by
  show (if xs ≠ [] ∧ -1000 ≤ k ∧ k ≤ 1000 ∧ xs.length ≤ 100 then Rs.ok (Dt.tup (List.replicate k.toNat xs).flatten) S else .no).Wp P E
  rw [if_pos c]; exact sat_mk h
end Mn
namespace Lw
open PySem PySem.Spec PyProof.Rows L2 Mn
theorem pl_menu {S : Bxs} {n : Nat} {d : Dt} (h : d ∈ menuD) : ∃ p, Pl S (n + 1) d p 8 := by
  simp only [menuD, List.mem_cons, List.not_mem_nil, or_false] at h
  rcases h with h | h | h | h | h | h | h | h | h | h | h | h | h | h | h | h | h | h | h <;> subst h <;> exact ⟨_, .str (by decide +kernel) (by simp only [PyData.shown]; decide +kernel) (by simp only [PyData.shown]; decide +kernel)⟩
theorem pl_small {S : Bxs} {n : Nat} {is : List Int} (h : AllB is) : ∃ ps, Pls S (n + 1) (is.map Dt.int) ps (is.length * 4) := by
  obtain ⟨ps, h1, h2⟩ := Pls.of_all (S := S) (n := n + 1) (w := 2) (ds := is.map Dt.int) fun d hd => by
    obtain ⟨i, hi, rfl⟩ := List.mem_map.mp hd
    have := h i hi
    exact ⟨_, Pl.mkInt 1 (by decide) (by decide) (by omega)⟩
  rw [List.length_map] at h1
  exact ⟨ps, h1⟩
theorem pl_recipe {S : Bxs} {n size : Nat} {hs : List Dt} {d : Dt} {ts us : List Int} {h : Dt} (R : Recipe size hs d ts us h) (hm : ∀ x ∈ hs, x ∈ menuD) : ∃ p, Pl S (n + 3) d p (8 * size + 26) := by
  obtain ⟨p1, q1⟩ := pl_small (S := S) (n := n) R.tb
  obtain ⟨p2, q2⟩ := pl_small (S := S) (n := n) R.ub
  rw [R.tl] at q1
  rw [R.ul] at q2
  have hh : ∃ p, Pl S (n + 2) h p 8 := by
    rcases R.hh with e | e
    · subst e; exact ⟨_, .non (by decide)⟩
    · exact pl_menu (hm _ e)
  obtain ⟨p3, q3⟩ := hh
  rw [R.eq]
  exact ⟨_, .tup (.cons (.tup q1 (Nat.le_refl _)) (.cons (.tup q2 (Nat.le_refl _)) (.cons q3 .nil))) (by omega)⟩
theorem out_ok {S : Bxs} {b c : Nat} {size place : Int} {hs : List Dt} (B : Bag S b c) (s1 : size ≤ 10) (p0 : 0 ≤ place) (p1 : place < size) (hl : hs.length ≤ 10) :
    (F__law_out [.box b, .int size, .int place, .tup hs] S).Wp (fun d S' => (∃ ts us h, Recipe size.toNat hs d ts us h) ∧ Bag S' b c ∧ Fr b S S') noX := by
  refine w_body ?_
  unfold B__law_out
  simp only [startD, List.map_cons, List.map_nil, List.length_cons, List.length_nil, List.cons_append, List.nil_append, Nat.reduceAdd, Nat.reduceSub, List.replicate, List.replicate_succ, List.replicate_zero]
  and_intros
  refine w_mulL (lst_of get_last) ⟨by omega, by omega, by decide⟩ ?_
  rw [zeros]
  have hrl : ((List.replicate size.toNat (0 : Int)).map Dt.int).length ≤ LIM := by rw [List.length_map, List.length_replicate]; exact Nat.le_trans (show size.toNat ≤ 10 by omega) (by decide)
  refine w_newL hrl ?_
  and_intros
  have i2 : IL ((S ++ [MBox.lst [Dt.int 0]]) ++ [MBox.lst (List.map Dt.int (List.replicate size.toNat 0))]) (S ++ [MBox.lst [Dt.int 0]]).length (List.replicate size.toNat 0) := get_last
  refine w_setG (j := place.toNat) (lst_of i2) (ixN_mk p0 (by rw [List.length_map, List.length_replicate]; omega)) ?_
  rw [← List.map_set]
  have hne : S.length < (S ++ [MBox.lst [Dt.int 0]]).length := by simp
  have q := B.lt
  have k2 := i2.set (is := (List.replicate size.toNat 0).set place.toNat 1) rfl
  have B7 := (B.app (x := MBox.lst [Dt.int 0])).app (x := MBox.lst (List.map Dt.int (List.replicate size.toNat 0))) |>.own (n := (S ++ [MBox.lst [Dt.int 0]]).length) (x := MBox.lst (((List.replicate size.toNat 0).set place.toNat 1).map Dt.int)) (by omega) (by omega)
  have F7 := (((Fr.refl b S).app (x := MBox.lst [Dt.int 0])).app (x := MBox.lst (List.map Dt.int (List.replicate size.toNat 0)))).own (n := (S ++ [MBox.lst [Dt.int 0]]).length) (x := MBox.lst (((List.replicate size.toNat 0).set place.toNat 1).map Dt.int)) (by omega)
  generalize List.set ((S ++ [MBox.lst [Dt.int 0]]) ++ [MBox.lst (List.map Dt.int (List.replicate size.toNat 0))]) (S ++ [MBox.lst [Dt.int 0]]).length (MBox.lst (((List.replicate size.toNat 0).set place.toNat 1).map Dt.int)) = S7 at k2 B7 F7 ⊢
  and_intros
  refine w_tupB k2.seq ?_
  and_intros
  refine ⟨Nat.le_of_ble_eq_true (by rfl), ?_⟩
  and_intros
  refine w_mulT ⟨(fun z => by cases z), by omega, by omega, Nat.le_of_ble_eq_true (by rfl)⟩ ?_
  rw [zeros]
  and_intros
  refine w_listT ?_
  refine w_newL (Nat.le_trans hl (by decide)) ?_
  and_intros
  refine w_mulL (lst_of get_last) ⟨by decide, by decide, by omega⟩ ?_
  have hll : (List.replicate (Int.toNat 3) hs).flatten.length ≤ 30 := by
    show (List.replicate 3 hs).flatten.length ≤ 30
    simp [List.replicate]; omega
  refine w_newL (Nat.le_trans hll (by decide)) ?_
  and_intros
  refine w_addL (xs := (List.replicate (Int.toNat 3) hs).flatten) (ys := [.non]) (lst_of (get_pre (List.prefix_append _ _) get_last)) (lst_of get_last) ?_
  have hlm : ((List.replicate (Int.toNat 3) hs).flatten ++ [Dt.non]).length ≤ 31 := by rw [List.length_append]; simpa using hll
  refine w_newL (Nat.le_trans hlm (by decide)) ?_
  and_intros
  refine (one_ok B7.app.app.app.app (seq_lst get_last) (by have := B7.lt.1; simp only [List.length_append, List.length_cons, List.length_nil]; omega) (fun z => by simp at z) (Nat.le_trans hlm (by decide))).mono (fun h S8 ⟨hh, B8, F8⟩ => ?_) fun _ _ _ q => q
  and_intros
  refine ⟨Nat.le_of_ble_eq_true (by rfl), ?_⟩
  refine .inl ⟨_, rfl, ⟨(List.replicate size.toNat 0).set place.toNat 1, List.replicate size.toNat 0, h, rfl, by rw [List.length_set, List.length_replicate], List.length_replicate, (AllB.zeros _).set (by omega), AllB.zeros _, ⟨1, List.mem_set (show place.toNat < (List.replicate size.toNat (0 : Int)).length by rw [List.length_replicate]; omega) 1, by decide⟩, ?_, ⟨place.toNat, ⟨1, List.getElem?_set_self (by rw [List.length_replicate]; omega), by decide⟩, ZT.set (fun _ _ _ e => zero_at e) (Nat.le_refl _), fun _ _ _ e => zero_at e⟩⟩, B8, F7.app.app.app.app.trans F8⟩
  rcases List.mem_append.mp hh with z | z
  · right
    obtain ⟨l, hl1, hl2⟩ := List.mem_flatten.mp z
    rw [List.eq_of_mem_replicate hl1] at hl2
    exact hl2
  · left
    simpa using z

structure Works (d : Dt) (size : Nat) (ks hs rs : List Dt) : Prop where
  eq : d = .tup [.tup ks, .tup hs, .tup rs]
  kl : ks.length = size
  s0 : 1 ≤ size
  s1 : size ≤ 5
  hl : hs.length ≤ 3
  hn : hs.Nodup
  km : ∀ x ∈ ks, x ∈ menuD
  hm : ∀ x ∈ hs, x ∈ menuD
  rl : rs.length ≤ 8
  rr : ∀ r ∈ rs, ∃ ts us h, Recipe size hs r ts us h
  kn : ks.Nodup
  kh : ∀ x ∈ hs, x ∉ ks
/-- the recipes found so far -/
def FI (S : Bxs) (b c nb fb : Nat) (ys hs : List Dt) (size most : Nat) (S' : Bxs) : Prop := ∃ rs, S'[fb]? = some (.lst rs) ∧ rs.length ≤ most ∧ (∀ r ∈ rs, ∃ ts us h, Recipe size hs r ts us h) ∧ S'[nb]? = some (.lst ys) ∧ Bag S' b c ∧ Fr b S S'
theorem FI.fr {S S1 S2 : Bxs} {b c nb fb size most : Nat} {ys hs : List Dt} (h : FI S b c nb fb ys hs size most S1) (F : Fr b S1 S2) (B : Bag S2 b c) (h1 : fb ≠ b) (h2 : nb ≠ b) : FI S b c nb fb ys hs size most S2 := by
  obtain ⟨rs, e1, e2, e3, e4, e5, e6⟩ := h
  exact ⟨rs, F.at_ e1 h1, e2, e3, F.at_ e4 h2, B, e6.trans F⟩
theorem FI.add {S S1 : Bxs} {b c nb fb size most : Nat} {ys hs : List Dt} {r : Dt} {P : Dt → Bxs → Prop} {E : Nat → List Dt → Bxs → Prop} (h : FI S b c nb fb ys hs size most S1) (R : ∃ ts us h, Recipe size hs r ts us h) (h1 : fb ≠ b) (h2 : fb ≠ c) (h3 : fb ≠ nb) (h4 : S.length ≤ fb) (hm : most < 1000)
    (q : ∀ S2, FI S b c nb fb ys hs size (most + 1) S2 → P .non S2) : (appendG (.box fb) [r] S1).Wp P E := by
  obtain ⟨rs, e1, e2, e3, e4, e5, e6⟩ := h
  refine w_append (lst_of e1) (Nat.lt_of_le_of_lt e2 (Nat.lt_of_lt_of_le hm (by decide))) (q _ ⟨rs ++ [r], List.getElem?_set_self (get_lt e1), by simp; exact e2, fun x hx => ?_, by rw [List.getElem?_set_ne h3]; exact e4, e5.own h1 h2, e6.own h4⟩)
  rcases List.mem_append.mp hx with z | z
  · exact e3 x z
  · rw [List.mem_singleton.mp z]; exact R
theorem FI.le {S S1 : Bxs} {b c nb fb size m m' : Nat} {ys hs : List Dt} (h : FI S b c nb fb ys hs size m S1) (hm : m ≤ m') : FI S b c nb fb ys hs size m' S1 := by
  obtain ⟨rs, e1, e2, e3, e4, e5, e6⟩ := h
  exact ⟨rs, e1, Nat.le_trans e2 hm, e3, e4, e5, e6⟩
theorem rgD_len {lo : Int} {n : Nat} : (rgD lo n).length = n := by unfold rgD; rw [List.length_map, List.length_range]
theorem cut_mid {ys : List Dt} {i j : Nat} (h : i ≤ ys.length) (h2 : i + j ≤ ys.length) : Mn.cutD ys (some (i : Int)) (some ((i : Int) + j)) = (ys.drop i).take j := by
  unfold Mn.cutD
  have e : ((i : Int) + j) = ((i + j : Nat) : Int) := by omega
  rw [e, HT.sIx_nat, HT.sIx_nat, Nat.min_eq_left h, Nat.min_eq_left h2, Nat.add_sub_cancel_left]
theorem cut_to {ys : List Dt} {i : Nat} : Mn.cutD ys none (some (i : Int)) = ys.take i := by
  unfold Mn.cutD
  rw [HT.sIx_none, HT.sIx_nat, List.drop_zero, Nat.sub_zero]
  by_cases h : i ≤ ys.length
  · rw [Nat.min_eq_left h]
  · rw [Nat.min_eq_right (by omega), List.take_of_length_le (Nat.le_refl _), List.take_of_length_le (by omega)]
theorem inR_small {j : Int} (h0 : -1000 ≤ j) (h1 : j ≤ 1000) : inR j := ⟨by omega, by omega⟩
theorem works_ok {S : Bxs} {b c : Nat} {kinds hands recipes : Int} (B : Bag S b c) (k0 : 0 < kinds) (k1 : kinds ≤ 5) (h0 : 0 ≤ hands) (h1 : hands ≤ 3) (r0 : 0 ≤ recipes) (r1 : recipes ≤ 8) :
    (F__law_works [.box b, .int kinds, .int hands, .int recipes] S).Wp (fun d S' => (∃ size ks hs rs, Works d size ks hs rs) ∧ Bag S' b c ∧ Fr b S S') noX := by
  refine w_body ?_
  unfold B__law_works
  simp only [startD, List.map_cons, List.map_nil, List.length_cons, List.length_nil, List.cons_append, List.nil_append, Nat.reduceAdd, Nat.reduceSub, List.replicate, List.replicate_succ, List.replicate_zero]
  and_intros
  have qB := B.lt
  refine (names_ok B).mono (fun d S1 ⟨nb, ys, ed, hnb, e1, yl, yn, ym, B1, F1⟩ => ?_) fun _ _ _ q => q
  subst ed
  and_intros
  refine (take_ok B1 k0 (by omega)).mono (fun d S2 ⟨k, ed, kk0, kk1, B2, F2⟩ => ?_) fun _ _ _ q => q
  subst ed
  and_intros
  refine (take_ok B2 (by omega) (by omega)).mono (fun d S3 ⟨m, ed, m0, m1, B3, F3⟩ => ?_) fun _ _ _ q => q
  subst ed
  and_intros
  have hnbb : nb ≠ b := by omega
  have e3 := (F2.trans F3).at_ e1 hnbb
  have F13 := F1.trans (F2.trans F3)
  refine w_slB (seq_lst e3) ?_
  obtain ⟨kn, hkn⟩ : ∃ kn : Nat, 1 + k = (kn : Int) := ⟨(1 + k).toNat, by omega⟩
  obtain ⟨mn, hmn⟩ : ∃ mn : Nat, m = (mn : Int) := ⟨m.toNat, by omega⟩
  subst hmn
  rw [hkn, cut_mid (by rw [yl]; omega) (by rw [yl]; omega)]
  have hl3 : ((ys.drop kn).take mn).length ≤ 3 := by rw [List.length_take]; omega
  have hn3 : ((ys.drop kn).take mn).Nodup := (yn.sublist (List.drop_sublist _ _)).sublist (List.take_sublist _ _)
  have hm3 : ∀ x ∈ (ys.drop kn).take mn, x ∈ menuD := fun x hx => ym x (List.mem_of_mem_drop (List.mem_of_mem_take hx))
  have hd3 : ∀ x ∈ (ys.drop kn).take mn, x ∉ ys.take kn := fun x hx hk => by
    have yn2 := yn
    rw [← List.take_append_drop kn ys] at yn2
    exact (List.nodup_append.mp yn2).2.2 x hk x (List.mem_of_mem_take hx) rfl
  generalize (ys.drop kn).take mn = hs at hl3 hn3 hm3 hd3
  refine w_newL (Nat.le_trans hl3 (by decide)) ?_
  and_intros
  refine w_tupB (seq_lst get_last) ?_
  and_intros
  have q3 := F13.len
  have hfb : S3.length < (S3 ++ [MBox.lst hs]).length := by simp
  have J0 : FI S b c nb (S3 ++ [MBox.lst hs]).length ys hs kn 0 ((S3 ++ [MBox.lst hs]) ++ [MBox.lst []]) :=
    ⟨[], get_last, Nat.le_refl _, (fun r hr => nomatch hr), get_pre (List.prefix_append _ _) (get_pre (List.prefix_append _ _) e3), B3.app.app, F13.app.app⟩
  have hnl := get_lt e3
  generalize (S3 ++ [MBox.lst hs]) ++ [MBox.lst []] = S4 at J0 ⊢
  generalize (S3 ++ [MBox.lst hs]).length = fb at J0 hfb ⊢
  have d1 : fb ≠ b := by omega
  have d2 : fb ≠ c := by omega
  have d3 : fb ≠ nb := by omega
  have d4 : S.length ≤ fb := by omega
  have hkn0 : 1 ≤ kn := by omega
  have hkn5 : kn ≤ 5 := by omega
  and_intros
  have J1 := J0
  obtain ⟨rs0, g1, g2, g3, g4, B4, F4⟩ := J0
  refine (one_ok (xs := [Dt.int 1, Dt.int 2, Dt.int 2, Dt.int 4]) B4.app (seq_lst get_last) (by have := B4.lt.1; omega) (fun z => nomatch z) (by decide)).mono (fun d S5 ⟨hd, B5, F5⟩ => ?_) fun _ _ _ q => q
  obtain ⟨most, rfl, mo0, mo1⟩ : ∃ v : Int, d = .int v ∧ 0 < v ∧ v ≤ 4 := by
    simp at hd
    rcases hd with z | z | z <;> exact ⟨_, z, by omega, by omega⟩
  have J5 := J1.fr (((Fr.refl b S4).app (x := MBox.lst [Dt.int 1, Dt.int 2, Dt.int 2, Dt.int 4])).trans F5) B5 d1 hnbb
  clear J1 g1 g2 g3 g4 B4 F4 rs0
  and_intros
  refine (take_ok B5 (by omega) (by omega)).mono (fun d S6 ⟨tn, ed, t0, t1, B6, F6⟩ => ?_) fun _ _ _ q => q
  subst ed
  and_intros
  refine ⟨⟨by omega, by omega⟩, ?_⟩
  refine w_loop (fun i σ S' => ∃ d10, σ = [some (.box b), some (.int kinds), some (.int hands), some (.int recipes), some (.box nb), some (.int kn), some (.int mn), some (.tup hs), some (.box fb), some (.int most), d10, none] ∧ FI S b c nb fb ys hs kn i S') (fun _ _ _ _ => trivial) (fun i x σ S7 hx ⟨d10, e, J⟩ => ?_) (fun σ S7 ⟨d10, e, J⟩ => ?_) ⟨_, by rfl, J5.fr F6 B6 d1 hnbb⟩
  · subst e
    have hil := (List.getElem?_eq_some_iff.mp hx).1
    rw [rgD_len] at hil
    and_intros
    obtain ⟨rs, g1, g2, g3, g4, B7, F7⟩ := id J
    refine ⟨ty_list g1, ?_⟩
    and_intros
    refine (recipe_ok B7 (by omega) (by omega) mo0 mo1 (by omega)).mono (fun d S8 ⟨R, B8, F8⟩ => ?_) fun _ _ _ q => q
    rw [show (kn : Int).toNat = kn from Int.toNat_natCast kn] at R
    and_intros
    refine (J.fr F8 B8 d1 hnbb).add R d1 d2 d3 d4 (by omega) fun S9 J9 => ?_
    exact .inl ⟨rfl, _, rfl, J9⟩
  · subst e
    rw [rgD_len] at J
    have J8 : FI S b c nb fb ys hs kn 8 S7 := J.le (by omega)
    clear J
    and_intros
    refine ⟨inR_small (by omega) (by omega), ?_⟩
    refine w_loop (fun i σ S' => ∃ d11, σ = [some (.box b), some (.int kinds), some (.int hands), some (.int recipes), some (.box nb), some (.int kn), some (.int mn), some (.tup hs), some (.box fb), some (.int most), d10, d11] ∧ FI S b c nb fb ys hs kn (8 + i) S') (fun _ _ _ _ => trivial) (fun i x σ S8 hx ⟨d11, e, J⟩ => ?_) (fun σ S8 ⟨d11, e, J⟩ => ?_) ⟨_, by rfl, J8⟩
    · subst e
      have hx2 := rgD_get hx
      subst hx2
      have hil := (List.getElem?_eq_some_iff.mp hx).1
      rw [rgD_len] at hil
      obtain ⟨rs, g1, g2, g3, g4, B8, F8⟩ := id J
      and_intros
      refine (take_ok B8 (by decide) (by decide)).mono (fun d S9 ⟨j, ed, j0, j1, B9, F9⟩ => ?_) fun _ _ _ q => q
      subst ed
      and_intros
      have J9 := J.fr F9 B9 d1 hnbb
      refine ⟨fun _ => ?_, fun _ => ?_⟩
      · and_intros
        refine ⟨ty_list (F9.at_ g1 d1), ?_⟩
        and_intros
        refine (out_ok B9 (by omega) (by omega) (by omega) (by omega)).mono (fun d S10 ⟨R, B10, F10⟩ => ?_) fun _ _ _ q => q
        rw [show (kn : Int).toNat = kn from Int.toNat_natCast kn] at R
        and_intros
        refine (J9.fr F10 B10 d1 hnbb).add R d1 d2 d3 d4 (by omega) fun S11 J11 => ?_
        exact .inl ⟨rfl, _, rfl, J11⟩
      · and_intros
        exact .inl ⟨rfl, _, rfl, J9.le (by omega)⟩
    · subst e
      rw [rgD_len] at J
      have J8 : FI S b c nb fb ys hs kn 13 S8 := J.le (by omega)
      clear J
      obtain ⟨rs, g1, g2, g3, g4, B8, F8⟩ := id J8
      have tail : ∀ {S9 : Bxs}, FI S b c nb fb ys hs kn 14 S9 → (sRet (dTup (aCons (dCall tupleG (aCons (dSl (dVar 4) (oNone) (oSome (dVar 5))) (aNil))) (aCons (dVar 7) (aCons (dCall tupleG (aCons (dSl (dCall F__law_mixed (aCons (dVar 0) (aCons (dVar 8) (aNil)))) (oNone) (oSome (dVar 3))) (aNil))) (aNil))))) [some (.box b), some (.int kinds), some (.int hands), some (.int recipes), some (.box nb), some (.int kn), some (.int mn), some (.tup hs), some (.box fb), some (.int most), d10, d11] S9).Wp
          (fun r S1 => (∃ d, r.1 = .rt d ∧ (∃ size ks hs rs, Works d size ks hs rs) ∧ Bag S1 b c ∧ Fr b S S1) ∨ (r.1 = .nx ∧ (∃ size ks hs rs, Works .non size ks hs rs) ∧ Bag S1 b c ∧ Fr b S S1)) noX := fun {S9} J9 => by
        obtain ⟨rs, g1, g2, g3, g4, B9, F9⟩ := J9
        and_intros
        refine w_slB (seq_lst g4) ?_
        rw [cut_to]
        have hk8 : (ys.take kn).length = kn := by rw [List.length_take, yl]; omega
        refine w_newL (by rw [hk8]; exact Nat.le_trans hkn5 (by decide)) ?_
        and_intros
        refine w_tupB (seq_lst get_last) ?_
        and_intros
        refine (mixed_ok B9.app (seq_lst (get_pre (List.prefix_append _ _) g1)) d1 (by omega)).mono (fun d S10 ⟨r, zs, ed, hr, e2, pm, B10, F10⟩ => ?_) fun _ _ _ q => q
        subst ed
        and_intros
        obtain ⟨rn, hrn⟩ : ∃ rn : Nat, recipes = (rn : Int) := ⟨recipes.toNat, by omega⟩
        subst hrn
        refine w_slB (seq_lst e2) ?_
        rw [cut_to]
        have hz8 : (zs.take rn).length ≤ 8 := by rw [List.length_take]; omega
        refine w_newL (Nat.le_trans hz8 (by decide)) ?_
        and_intros
        refine w_tupB (seq_lst get_last) ?_
        and_intros
        refine ⟨Nat.le_of_ble_eq_true (by rfl), ?_⟩
        refine .inl ⟨_, rfl, ⟨kn, ys.take kn, hs, zs.take rn, rfl, hk8, hkn0, hkn5, hl3, hn3, fun x hx => ym x (List.mem_of_mem_take hx), hm3, hz8, (fun r hr => g3 r (pm.mem_iff.mp (List.mem_of_mem_take hr))), yn.sublist (List.take_sublist _ _), hd3⟩, B10.app, (F9.app.trans F10).app⟩
      and_intros
      obtain ⟨ps, hps, hpl⟩ := Pls.of_all (S := S8 ++ [MBox.lst []]) (n := 59) (w := 8 * kn + 26) (ds := rs) fun r hr => by
        obtain ⟨ts, us, h, R⟩ := g3 r hr
        exact pl_recipe R hm3
      refine w_eq (.box (seq_lst (get_pre (List.prefix_append _ _) g1)) hps (Nat.le_refl _)) (.box (seq_lst get_last) .nil (Nat.le_refl 3)) ?_
      have he : ∀ qs : List PyData, PyData.eqv (.list qs) (.list []) = decide (qs = []) := fun qs => by
        cases qs <;> simp [PyData.eqv, PyData.eqvAll]
      rw [he]
      and_intros
      have J9 : FI S b c nb fb ys hs kn 13 (S8 ++ [MBox.lst []]) := J8.fr ((Fr.refl b S8).app) B8.app d1 hnbb
      refine ⟨fun hne => ?_, fun _ => ?_⟩
      · and_intros
        refine (take_ok B8.app (by decide) (by decide)).mono (fun d S9 ⟨j, ed, j0, j1, B9, F9⟩ => ?_) fun _ _ _ q => q
        subst ed
        and_intros
        have J10 := J9.fr F9 B9 d1 hnbb
        have hrs : rs ≠ [] := fun z => by
          subst z
          have : ps = [] := List.length_eq_zero_iff.mp (by rw [hpl]; rfl)
          rw [this] at hne
          exact absurd hne (by decide)
        refine ⟨fun _ => ?_, fun _ => ?_⟩
        · and_intros
          have f1 := F9.at_ (get_pre (List.prefix_append _ _) g1) d1
          refine ⟨ty_list f1, ?_⟩
          and_intros
          refine (one_ok B9 (seq_lst f1) d1 hrs (by omega)).mono (fun d S10 ⟨hd, B10, F10⟩ => ?_) fun _ _ _ q => q
          and_intros
          refine (J10.fr F10 B10 d1 hnbb).add (g3 d hd) d1 d2 d3 d4 (by omega) fun S11 J11 => ?_
          exact c_nx (tail J11)
        · refine w_sNil ?_
          exact c_nx (tail (J10.le (by omega)))
      · refine ⟨fun z => absurd z Bool.false_ne_true, fun _ => ?_⟩
        refine w_sNil ?_
        exact c_nx (tail (J9.le (by omega)))
end Lw

set_option Elab.async false
set_option linter.all false
set_option maxRecDepth 100000
set_option maxHeartbeats 4000000
namespace Mn
open PySem PySem.Spec PyProof.Rows L2
theorem intsOf_map : ∀ is : List Int, intsOf (is.map Dt.int) = some is
  | [] => rfl
  | i :: is => by rw [List.map_cons]; unfold intsOf; rw [intsOf_map is]; rfl
theorem blsOf_map : ∀ is : List Bool, blsOf (is.map Dt.bl) = some is
  | [] => rfl
  | i :: is => by rw [List.map_cons]; unfold blsOf; rw [blsOf_map is]; rfl
section
variable {S : Bxs} {E : Nat → List Dt → Bxs → Prop}
theorem w_sumB {n : Nat} {is : List Int} {P : Dt → Bxs → Prop} (e : S.seq n = some (is.map Dt.int)) (h : P (.int is.sum) S) : (sumG [.box n] S).Wp P E := by
  have z : sumG [.box n] S = .ok (.int is.sum) S := by
    show (match S.seq n with
    | some xs => match intsOf xs with
      | some ns => Rs.ok (Dt.int ns.sum) S
      | none => .no
    | none => .no) = _
    rw [e]
    show (match intsOf (is.map Dt.int) with
      | some ns => Rs.ok (Dt.int ns.sum) S
      | none => .no) = _
    rw [intsOf_map]
  rw [z]; exact sat_mk h
theorem w_maxB {n : Nat} {is : List Int} {P : Dt → Bxs → Prop} (e : S.seq n = some (is.map Dt.int)) (hne : is ≠ []) (h : P (.int (maxI is)) S) : (maxG [.box n] S).Wp P E := by
  have z : maxG [.box n] S = .ok (.int (maxI is)) S := by
    show (match S.seq n with
    | some xs => match intsOf xs with
      | some ns => if ns ≠ [] then Rs.ok (Dt.int (maxI ns)) S else .no
      | none => .no
    | none => .no) = _
    rw [e]
    show (match intsOf (is.map Dt.int) with
      | some ns => if ns ≠ [] then Rs.ok (Dt.int (maxI ns)) S else .no
      | none => .no) = _
    rw [intsOf_map]
    show (if is ≠ [] then Rs.ok (Dt.int (maxI is)) S else .no) = _
    rw [if_pos hne]
  rw [z]; exact sat_mk h
theorem w_allB {n : Nat} {is : List Bool} {P : Dt → Bxs → Prop} (e : S.seq n = some (is.map Dt.bl)) (h : P (.bl (is.all id)) S) : (allG false [.box n] S).Wp P E := by
  have z : allG false [.box n] S = .ok (.bl (is.all id)) S := by
    show (match S.seq n with
    | some xs => match blsOf xs with
      | some bs => Rs.ok (Dt.bl (if false then bs.any id else bs.all id)) S
      | none => .no
    | none => .no) = _
    rw [e]
    show (match blsOf (is.map Dt.bl) with
      | some bs => Rs.ok (Dt.bl (if false then bs.any id else bs.all id)) S
      | none => .no) = _
    rw [blsOf_map]
    rfl
  rw [z]; exact sat_mk h
end
theorem maxI_mem : ∀ {is : List Int}, is ≠ [] → maxI is ∈ is
  | [], h => absurd rfl h
  | [i], _ => by simp [maxI]
  | i :: j :: r, _ => by
    have ih := maxI_mem (is := j :: r) (by simp)
    unfold maxI
    split
    · exact List.mem_cons_of_mem _ ih
    · exact List.mem_cons_self
def dotI (ps qs : List Int) : Int := ((ps.zip qs).map fun p => p.1 * p.2).sum
end Mn
namespace Lw
open PySem PySem.Spec PyProof.Rows L2 Mn
theorem dot_ok {S : Bxs} {x y : Dt} {ps qs : List Int} (hx : seqOf S x = some (ps.map Dt.int)) (hy : seqOf S y = some (qs.map Dt.int)) (hl : ps.length ≤ 1000) (hq : ∀ q ∈ qs, -(2 ^ 64) < q ∧ q < 2 ^ 64)
    (hx2 : ∀ S2 : Bxs, S <+: S2 → seqOf S2 x = seqOf S x) (hy2 : ∀ S2 : Bxs, S <+: S2 → seqOf S2 y = seqOf S y) :
    (F_dot [x, y] S).Wp (fun d S' => d = .int (dotI ps qs) ∧ S <+: S') noX := by
  refine w_body ?_
  unfold B_dot
  simp only [startD, List.map_cons, List.map_nil, List.length_cons, List.length_nil, List.cons_append, List.nil_append, Nat.reduceAdd, Nat.reduceSub, List.replicate, List.replicate_succ, List.replicate_zero]
  and_intros
  refine w_lcMap ?_
  and_intros
  refine ⟨x, y, _, _, rfl, hx, hy, fun p => match p.1, p.2 with | .int i, .int j => .int (i * j) | _, _ => .non, ?_, fun acc => ⟨(hx2 _ (List.prefix_append _ _)).trans hx, (hy2 _ (List.prefix_append _ _)).trans hy⟩, fun p acc hp => ?_, ?_⟩
  · show (List.zip _ _).length < LIM
    rw [List.length_zip, List.length_map, List.length_map]
    exact Nat.lt_of_le_of_lt (Nat.le_trans (Nat.min_le_left _ _) hl) (by decide)
  · have hz : p ∈ (ps.zip qs).map (Prod.map Dt.int Dt.int) := by rw [← List.zip_map]; exact hp
    obtain ⟨⟨i, j⟩, hij, rfl⟩ := List.mem_map.mp hz
    have hj := hq j (List.of_mem_zip hij).2
    and_intros
    refine ⟨rfl, ?_⟩
    and_intros
    refine w_mul (.small2 hj.1 hj.2) ?_
    exact ⟨rfl, rfl⟩
  · have e : ((ps.map Dt.int).zip (qs.map Dt.int)).map (fun p => match p.1, p.2 with | .int i, .int j => Dt.int (i * j) | _, _ => Dt.non) = (((ps.zip qs).map fun p => p.1 * p.2).map Dt.int) := by
      rw [List.zip_map, List.map_map, List.map_map]
      rfl
    and_intros
    refine w_sumB (is := (ps.zip qs).map fun p => p.1 * p.2) (by rw [← e]; exact seq_lst get_last) ?_
    exact .inl ⟨_, rfl, rfl, List.prefix_append _ _⟩
theorem worth_is : F__law_worth = F_dot := rfl
theorem last_ok {S : Bxs} {size : Nat} {hs : List Dt} {d : Dt} {ts us : List Int} {h : Dt} (R : Recipe size hs d ts us h) (hsz : size ≤ 10) : (F__law_last_taken [d] S).Wp (fun r S' => ∃ i : Nat, r = .int i ∧ (∃ v, ts[i]? = some v ∧ 0 < v) ∧ S <+: S') noX := by
  rw [R.eq]
  unfold F__law_last_taken
  with_reducible refine w_body ?_
  unfold B__law_last_taken
  simp only [startD, List.map_cons, List.map_nil, List.length_cons, List.length_nil, List.cons_append, List.nil_append, Nat.reduceAdd, Nat.reduceSub, List.replicate, List.replicate_succ, List.replicate_zero]
  and_intros
  refine w_lc ?_
  and_intros
  have htl := R.tl
  refine ⟨inR_small (by omega) (by rw [List.length_map]; omega), fun i acc S' => ∃ js : List Nat, acc = js.map (fun (j : Nat) => Dt.int (j : Int)) ∧ js.length ≤ i ∧ S' = S ++ [.lst acc] ∧ (∀ j ∈ js, ∃ v, ts[j]? = some v ∧ 0 < v) ∧ (∀ j v, j < i → ts[j]? = some v → 0 < v → j ∈ js), fun _ _ _ _ => trivial, fun i x acc S' hx hn ⟨js, e1, e2, e3, e4, e5⟩ => ?_, ⟨[], rfl, Nat.le_refl _, rfl, (fun _ z => nomatch z), (fun _ _ z => absurd z (Nat.not_lt_zero _))⟩, fun acc S' hn ⟨js, e1, e2, e3, e4, e5⟩ => ?_⟩
  · have hx2 := rgD_get hx
    subst hx2
    have hil := (List.getElem?_eq_some_iff.mp hx).1
    rw [rgD_len, List.length_map] at hil
    have hil2 : i < ts.length := by omega
    have hv : ts[i]? = some ts[i] := List.getElem?_eq_getElem hil2
    and_intros
    refine w_idxT (by omega) (by rw [List.length_map]; omega) fun d hd => ?_
    have hii : (0 + (i : Int)).toNat = i := by omega
    rw [hii, List.getElem?_map, hv] at hd
    cases hd
    and_intros
    refine ⟨fun hp => ?_, fun hp => ?_⟩
    · and_intros
      refine ⟨hn, ?_, js ++ [i], ?_, by simp; exact e2, ?_, fun j hj => ?_, fun j v hj h1 h2 => ?_⟩
      · rw [e1, List.length_map]; exact Nat.lt_of_le_of_lt e2 (Nat.lt_of_lt_of_le (show i < 100 by omega) (by decide))
      · rw [e1, List.map_append]; simp
      · rw [e3, List.set_append_right _ _ (Nat.le_refl _)]; simp
      · rcases List.mem_append.mp hj with z | z
        · exact e4 j z
        · rw [List.mem_singleton.mp z]; exact ⟨_, hv, by simpa using hp⟩
      · by_cases hji : j = i
        · subst hji; simp
        · exact List.mem_append_left _ (e5 j v (by omega) h1 h2)
    · refine ⟨hn, js, e1, by omega, e3, e4, fun j v hj h1 h2 => ?_⟩
      by_cases hji : j = i
      · subst hji
        rw [hv] at h1
        cases h1
        exact absurd h2 (by simpa using hp)
      · exact e5 j v (by omega) h1 h2
  · obtain ⟨t, ht, ht0⟩ := R.tp
    obtain ⟨j, hj⟩ := List.getElem?_of_mem ht
    have hjl := (List.getElem?_eq_some_iff.mp hj).1
    have hjs : j ∈ js := e5 j t (by rw [rgD_len, List.length_map]; omega) hj ht0
    and_intros
    refine w_maxB (is := js.map fun (j : Nat) => (j : Int)) (by rw [seq_lst hn, e1, List.map_map]; rfl) (fun z => by rw [List.map_eq_nil_iff] at z; rw [z] at hjs; cases hjs) ?_
    obtain ⟨k, hk, hk2⟩ := List.mem_map.mp (maxI_mem (is := js.map fun (j : Nat) => (j : Int)) (fun z => by rw [List.map_eq_nil_iff] at z; rw [z] at hjs; cases hjs))
    exact .inl ⟨_, rfl, k, by rw [hk2], e4 k hk, by rw [e3]; exact List.prefix_append _ _⟩
end Lw

set_option Elab.async false
set_option linter.all false
set_option maxRecDepth 100000
set_option maxHeartbeats 4000000
namespace Mn
open PySem PySem.Spec PyProof.Rows L2
theorem w_sortK {S : Bxs} {E : Nat → List Dt → Bxs → Prop} {F : FN} {b : Bool} {xs : List Dt} {P : Dt → Bxs → Prop} (h : (keysF F xs S).Wp (fun ks S1 => (newL (byKeys b xs ks) S1).Wp P E) E) : (sortKG F b [.tup xs] S).Wp P E := by
  show ((keysF F xs S).bind fun ks S1 => newL (byKeys b xs ks) S1).Wp P E
  exact w_bind h
theorem w_yes {σ : Sg} {S : Bxs} {E : Nat → List Dt → Bxs → Prop} {P : Bool → Bxs → Prop} (h : P true S) : (bYes σ S).Wp P E := sat_mk h
theorem byKeys_mem {b : Bool} {xs : List Dt} {ks : List Int} {d : Dt} (h : d ∈ byKeys b xs ks) : d ∈ xs := by
  unfold byKeys at h
  obtain ⟨p, hp, rfl⟩ := List.mem_map.mp h
  exact (List.of_mem_zip ((List.mergeSort_perm _ _).mem_iff.mp hp)).1
theorem byKeys_len {b : Bool} {xs : List Dt} {ks : List Int} : (byKeys b xs ks).length ≤ xs.length := by
  unfold byKeys
  rw [List.length_map, (List.mergeSort_perm _ _).length_eq, List.length_zip]
  exact Nat.min_le_left _ _
theorem keysF_ok {F : FN} : ∀ {xs : List Dt} {S : Bxs}, (∀ d ∈ xs, ∀ S : Bxs, (F [d] S).Wp (fun r S' => ∃ i : Int, r = .int i ∧ S <+: S') noX) → (keysF F xs S).Wp (fun ks S' => S <+: S') noX
  | [], S, _ => by unfold keysF; exact sat_mk (List.prefix_refl _)
  | x :: xs, S, h => by
    unfold keysF
    obtain ⟨r, S1, e, i, rfl, p⟩ := Rs.Wp.ok (h x List.mem_cons_self S)
    rw [e]
    refine w_bind ((keysF_ok (S := S1) fun d hd => h d (List.mem_cons_of_mem _ hd)).mono (fun ks S2 p2 => ?_) fun _ _ _ q => q)
    exact sat_mk (p.trans p2)
def Bd (M : Int) (is : List Int) : Prop := ∀ p ∈ is, -M ≤ p ∧ p ≤ M
theorem Bd.mono {M M' : Int} {is : List Int} (h : Bd M is) (hm : M ≤ M') : Bd M' is := fun p hp => by have := h p hp; omega
theorem Bd.set {M : Int} {is : List Int} {j : Nat} {v : Int} (h : Bd M is) (h1 : -M ≤ v) (h2 : v ≤ M) : Bd M (is.set j v) := fun p hp => by
  rcases List.mem_or_eq_of_mem_set hp with z | z
  · exact h p z
  · rw [z]; exact ⟨h1, h2⟩
theorem Bd.zeros {M : Int} (h : 0 ≤ M) (n : Nat) : Bd M (List.replicate n 0) := fun p hp => by rw [List.eq_of_mem_replicate hp]; omega
theorem dot_bd {M : Int} (hM : 0 ≤ M) : ∀ {ps ts : List Int}, Bd M ps → (∀ t ∈ ts, 0 ≤ t ∧ t ≤ 5) → -((ps.length : Int) * (5 * M)) ≤ dotI ps ts ∧ dotI ps ts ≤ (ps.length : Int) * (5 * M)
  | [], ts, _, _ => by simp [dotI]
  | p :: ps, [], _, _ => by
    have h : dotI (p :: ps) [] = 0 := by simp [dotI]
    rw [h]
    have : 0 ≤ ((p :: ps).length : Int) * (5 * M) := Int.mul_nonneg (by omega) (by omega)
    omega
  | p :: ps, t :: ts, hp, ht => by
    have ih := dot_bd hM (ps := ps) (ts := ts) (fun q hq => hp q (List.mem_cons_of_mem _ hq)) (fun q hq => ht q (List.mem_cons_of_mem _ hq))
    have h : dotI (p :: ps) (t :: ts) = p * t + dotI ps ts := by simp [dotI]
    rw [h]
    have e : ((p :: ps).length : Int) * (5 * M) = (ps.length : Int) * (5 * M) + 5 * M := by
      rw [List.length_cons]; push_cast; rw [Int.add_mul, Int.one_mul]
    rw [e]
    have hp1 := hp p List.mem_cons_self
    have ht1 := ht t List.mem_cons_self
    have b1 : p * t ≤ M * t := Int.mul_le_mul_of_nonneg_right hp1.2 ht1.1
    have b2 : -M * t ≤ p * t := Int.mul_le_mul_of_nonneg_right hp1.1 ht1.1
    have b3 : M * t ≤ M * 5 := Int.mul_le_mul_of_nonneg_left ht1.2 hM
    rw [Int.neg_mul] at b2
    omega
theorem dot_bd5 {M : Int} (hM : 0 ≤ M) {ps ts : List Int} (hp : Bd M ps) (ht : ∀ t ∈ ts, 0 ≤ t ∧ t ≤ 5) (hl : ps.length ≤ 5) : -(25 * M) ≤ dotI ps ts ∧ dotI ps ts ≤ 25 * M := by
  have h := dot_bd hM hp ht
  have h2 : (ps.length : Int) * (5 * M) ≤ 5 * (5 * M) := Int.mul_le_mul_of_nonneg_right (by omega) (by omega)
  omega
theorem floor_bd {n t : Int} (hn : 0 < n) (ht : 0 < t) : -n ≤ -n / t ∧ -n / t ≤ 0 := by
  constructor
  · refine Int.le_ediv_of_mul_le ht ?_
    have h := Int.mul_le_mul_of_nonneg_left (show (1 : Int) ≤ t by omega) (show 0 ≤ n by omega)
    rw [Int.neg_mul]
    omega
  · have h : -n / t < 0 := Int.ediv_neg_of_neg_of_pos (by omega) ht
    omega
theorem strs_of : ∀ {hs : List Dt}, (∀ x ∈ hs, ∃ s, x = Dt.str s) → ∃ zs : List Str, hs = zs.map Dt.str
  | [], _ => ⟨[], rfl⟩
  | x :: hs, h => by
    obtain ⟨s, rfl⟩ := h x List.mem_cons_self
    obtain ⟨zs, rfl⟩ := strs_of (hs := hs) fun y hy => h y (List.mem_cons_of_mem _ hy)
    exact ⟨s :: zs, rfl⟩
theorem strsOf_map : ∀ zs : List Str, strsOf (zs.map Dt.str) = some zs
  | [] => rfl
  | i :: is => by rw [List.map_cons]; unfold strsOf; rw [strsOf_map is]; rfl
theorem strAt_mem {z : Str} : ∀ {zs : List Str}, z ∈ zs → ∃ j, strAt z zs = some j ∧ zs[j]? = some z ∧ ∀ k, k < j → zs[k]? ≠ some z
  | [], h => nomatch h
  | y :: ys, h => by
    unfold strAt
    by_cases e : y = z
    · rw [if_pos e]
      exact ⟨0, rfl, by rw [e]; rfl, fun k hk => absurd hk (Nat.not_lt_zero _)⟩
    · rw [if_neg e]
      rcases List.mem_cons.mp h with q | q
      · exact absurd q.symm e
      · obtain ⟨j, h1, h2, h3⟩ := strAt_mem q
        refine ⟨j + 1, by rw [h1]; rfl, by simpa using h2, fun k hk => ?_⟩
        cases k with
        | zero => simpa using e
        | succ k => simpa using h3 k (by omega)
theorem w_tindex {S : Bxs} {E : Nat → List Dt → Bxs → Prop} {zs : List Str} {z : Str} {j : Nat} {P : Dt → Bxs → Prop} (e : strAt z zs = some j) (h : P (.int (j : Int)) S) : (tindexG (.tup (zs.map Dt.str)) [.str z] S).Wp P E := by
  have q : tindexG (.tup (zs.map Dt.str)) [.str z] S = .ok (.int (j : Int)) S := by
    show (match strsOf (zs.map Dt.str) with
    | some ys => match strAt z ys with
      | some j => Rs.ok (Dt.int (j : Int)) S
      | none => .no
    | none => .no) = _
    rw [strsOf_map]
    show (match strAt z zs with
      | some j => Rs.ok (Dt.int (j : Int)) S
      | none => .no) = _
    rw [e]
  rw [q]; exact sat_mk h
end Mn
namespace Lw
open PySem PySem.Spec PyProof.Rows L2 Mn
theorem IL.app {S : Bxs} {n : Nat} {is : List Int} {x : MBox} (h : IL S n is) : IL (S ++ [x]) n is := h.pre (List.prefix_append _ _)
theorem menu_str {x : Dt} (h : x ∈ menuD) : ∃ s, x = Dt.str s := by
  have : menuD = menuS.map Dt.str := rfl
  rw [this] at h
  obtain ⟨s, _, rfl⟩ := List.mem_map.mp h
  exact ⟨s, rfl⟩
/-- a tariff's shape -/
structure Tf (d : Dt) (k h : Nat) (M : Int) (ps ws : List Int) : Prop where
  eq : d = .tup [.tup (ps.map Dt.int), .tup (ws.map Dt.int)]
  pl : ps.length = k
  wl : ws.length = h
  pb : Bd M ps
  wb : Bd M ws
theorem worth_ok {S : Bxs} {x y : Dt} {ps qs : List Int} (hx : seqOf S x = some (ps.map Dt.int)) (hy : seqOf S y = some (qs.map Dt.int)) (hl : ps.length ≤ 1000) (hq : ∀ q ∈ qs, -(2 ^ 64) < q ∧ q < 2 ^ 64)
    (hx2 : ∀ S2 : Bxs, S <+: S2 → seqOf S2 x = seqOf S x) (hy2 : ∀ S2 : Bxs, S <+: S2 → seqOf S2 y = seqOf S y) :
    (F__law_worth [x, y] S).Wp (fun d S' => d = .int (dotI ps qs) ∧ S <+: S') noX := by
  rw [worth_is]; exact dot_ok hx hy hl hq hx2 hy2
/-- the tariff under way -/
def FJ (S : Bxs) (b c pb wb : Nat) (size hl : Nat) (M : Int) (S' : Bxs) : Prop := ∃ ps ws, IL S' pb ps ∧ IL S' wb ws ∧ ps.length = size ∧ ws.length = hl ∧ Bd M ps ∧ Bd M ws ∧ Bag S' b c ∧ Fr b S S'
theorem FJ.pre {S S1 S2 : Bxs} {b c pb wb size hl : Nat} {M : Int} (h : FJ S b c pb wb size hl M S1) (p : S1 <+: S2) : FJ S b c pb wb size hl M S2 := by
  obtain ⟨ps, ws, i1, i2, i3, i4, i5, i6, B, F⟩ := h
  exact ⟨ps, ws, i1.pre p, i2.pre p, i3, i4, i5, i6, B.pre p, F.trans (Fr.pre p)⟩
theorem fair_ok {S : Bxs} {b c : Nat} {w : Dt} {size : Nat} {ks hs rs : List Dt} (B : Bag S b c) (W : Works w size ks hs rs) :
    (F__law_fair_tariff [.box b, w] S).Wp (fun d S' => (∃ ps ws, Tf d size hs.length (10 ^ 17) ps ws) ∧ Bag S' b c ∧ Fr b S S') noX := by
  rw [W.eq]
  unfold F__law_fair_tariff
  refine w_body ?_
  unfold B__law_fair_tariff
  simp only [startD, List.map_cons, List.map_nil, List.length_cons, List.length_nil, List.cons_append, List.nil_append, Nat.reduceAdd, Nat.reduceSub, List.replicate, List.replicate_succ, List.replicate_zero]
  and_intros
  refine w_lc ?_
  and_intros
  have qB := B.lt
  refine ⟨fun i acc S' => ∃ is : List Int, acc = is.map Dt.int ∧ is.length = i ∧ Bd 5 is ∧ Bag S' b c ∧ Fr b S S', fun _ _ _ _ => rfl, fun i x acc S1 hx hn ⟨is, e1, e2, e3, B1, F1⟩ => ?_, ⟨[], rfl, rfl, (fun _ z => nomatch z), B.app, (Fr.refl b S).app⟩, fun acc S1 hn ⟨is, e1, e2, e3, B1, F1⟩ => ?_⟩
  · have hik := (List.getElem?_eq_some_iff.mp hx).1
    have hik : i < ks.length := hik
    and_intros
    refine w_yes ?_
    refine ⟨fun _ => ?_, fun z => nomatch z⟩
    and_intros
    refine (take_ok B1 (by decide) (by decide)).mono (fun d S2 ⟨j, ed, j0, j1, B2, F2⟩ => ?_) fun _ _ _ q => q
    subst ed
    and_intros
    have hnb : S.length ≠ b := by omega
    refine (one_ok (xs := [Dt.int 0, Dt.int 1, Dt.int 2, Dt.int (-1), Dt.int 3, Dt.int (j - 4)]) B2.app (seq_lst get_last) (by have := B2.lt.1; omega) (fun z => nomatch z) (Nat.le_of_ble_eq_true (by rfl))).mono (fun d S3 ⟨hd, B3, F3⟩ => ?_) fun _ _ _ q => q
    obtain ⟨v, rfl, hv⟩ : ∃ v : Int, d = .int v ∧ -5 ≤ v ∧ v ≤ 5 := by
      simp at hd
      rcases hd with z | z | z | z | z | z <;> exact ⟨_, z, by omega⟩
    have F23 := F2.trans ((Fr.refl b S2).app.trans F3)
    have kl := W.kl
    have s1 := W.s1
    refine ⟨F23.at_ hn hnb, ?_, is ++ [v], by rw [e1]; simp, by simp [e2], fun p hp => ?_, B3.own hnb (by omega), (F1.trans F23).own (Nat.le_refl _)⟩
    · rw [e1, List.length_map, e2]; exact Nat.lt_of_lt_of_le (show i < 100 by omega) (by decide)
    · rcases List.mem_append.mp hp with z | z
      · exact e3 p z
      · rw [List.mem_singleton.mp z]; omega
  · have e2 : is.length = ks.length := e2
    subst e1
    and_intros
    have kl := W.kl
    have s0 := W.s0
    have s1 := W.s1
    have hl3 := W.hl
    refine w_mulL (lst_of get_last) ⟨by omega, by omega, by decide⟩ ?_
    rw [zeros, Int.toNat_natCast]
    have hrl : ((List.replicate hs.length (0 : Int)).map Dt.int).length ≤ LIM := by rw [List.length_map, List.length_replicate]; exact Nat.le_trans hl3 (by decide)
    refine w_newL hrl ?_
    and_intros
    have q1 := F1.len
    have hpw : S.length < (S1 ++ [MBox.lst [Dt.int 0]]).length := by have := get_lt hn; simp; omega
    have J0 : FJ S b c S.length (S1 ++ [MBox.lst [Dt.int 0]]).length size hs.length 5 ((S1 ++ [MBox.lst [Dt.int 0]]) ++ [MBox.lst ((List.replicate hs.length (0 : Int)).map Dt.int)]) :=
      ⟨is, List.replicate hs.length 0, IL.pre (IL.pre (show IL S1 S.length is from hn) (List.prefix_append _ _)) (List.prefix_append _ _), get_last, by omega, List.length_replicate, e3, Bd.zeros (by decide) _, B1.app.app, F1.app.app⟩
    generalize (S1 ++ [MBox.lst [Dt.int 0]]) ++ [MBox.lst ((List.replicate hs.length (0 : Int)).map Dt.int)] = S2 at J0 ⊢
    generalize (S1 ++ [MBox.lst [Dt.int 0]]).length = wb at J0 hpw ⊢
    have hpb : S.length ≠ b := by omega
    have hpc : S.length ≠ c := by omega
    have hwb : wb ≠ b := by omega
    have hwc : wb ≠ c := by omega
    refine w_sortK ?_
    refine (keysF_ok fun d hd S3 => ?_).mono (fun ks3 S3 p3 => ?_) fun _ _ _ q => q
    · obtain ⟨ts, us, h, R⟩ := W.rr d hd
      exact (last_ok R (by omega)).mono (fun r S4 ⟨i, e, _, p⟩ => ⟨_, e, p⟩) fun _ _ _ q => q
    have hsl : (byKeys true rs ks3).length ≤ 8 := Nat.le_trans byKeys_len W.rl
    have hsm : ∀ d ∈ byKeys true rs ks3, ∃ ts us h, Recipe size hs d ts us h := fun d hd => W.rr d (byKeys_mem hd)
    generalize byKeys true rs ks3 = sd at hsl hsm
    refine w_newL (Nat.le_trans hsl (by decide)) ?_
    have J3 := J0.pre p3
    have hsb : S3.length ≠ b := by obtain ⟨_, _, _, _, _, _, _, _, B3, _⟩ := J3; have := B3.lt; omega
    have hwS : wb < S3.length := by obtain ⟨_, _, _, i2, _⟩ := J3; exact get_lt i2
    have J4 := J3.pre (List.prefix_append S3 [MBox.lst sd])
    refine ⟨sd, w_seqB get_last, ?_⟩
    refine w_loop (fun i σ S' => ∃ d4 d5 d6 d7, σ = [some (.box b), some (.tup [.tup ks, .tup hs, .tup rs]), some (.box S.length), some (.box wb), d4, d5, d6, d7, none, none] ∧ FJ S b c S.length wb size hs.length (5 * 51 ^ i) S' ∧ S'[S3.length]? = some (.lst sd)) (fun i σ S' ⟨_, _, _, _, _, _, g⟩ => w_seqB g) (fun i x σ S5 hx ⟨d4, d5, d6, d7, e, J, g⟩ => ?_) (fun σ S5 ⟨d4, d5, d6, d7, e, J, g⟩ => ?_) ⟨_, _, _, _, rfl, J4, get_last⟩
    · subst e
      obtain ⟨ts, us, h, R⟩ := hsm x (List.mem_of_getElem? hx)
      have hil := (List.getElem?_eq_some_iff.mp hx).1
      have hM : (0 : Int) ≤ 5 * 51 ^ i := Int.mul_nonneg (by decide) (Int.pow_nonneg (by decide))
      have hM1 : (5 * 51 ^ (i + 1) : Int) = 51 * (5 * 51 ^ i) := by rw [Int.pow_succ]; omega
      rw [hM1]
      generalize (5 * 51 ^ i : Int) = M at J hM
      have small : ∀ q ∈ ts, -(2 ^ 64 : Int) < q ∧ q < 2 ^ 64 := fun q hq => by have := R.tb q hq; omega
      have small2 : ∀ q ∈ us, -(2 ^ 64 : Int) < q ∧ q < 2 ^ 64 := fun q hq => by have := R.ub q hq; omega
      obtain ⟨ps, wsl, i1, i2, i3, i4, i5, i6, B5, F5⟩ := J
      rw [R.eq]
      and_intros
      refine (worth_ok (ps := ps) (qs := ts) (w_seqB i1) rfl (by omega) small (fun S2 p => (w_seqB (i1.pre p)).trans (w_seqB i1).symm) (fun _ _ => rfl)).mono (fun d S6 ⟨ed, p6⟩ => ?_) fun _ _ _ q => q
      subst ed
      and_intros
      have i16 := i1.pre p6
      refine (worth_ok (ps := ps) (qs := us) (w_seqB i16) rfl (by omega) small2 (fun S2 p => (w_seqB (i16.pre p)).trans (w_seqB i16).symm) (fun _ _ => rfl)).mono (fun d S7 ⟨ed, p7⟩ => ?_) fun _ _ _ q => q
      subst ed
      and_intros
      have nb1 := dot_bd5 hM i5 R.tb (by omega)
      have nb2 := dot_bd5 hM i5 R.ub (by omega)
      have nb : -(50 * M) ≤ dotI ps ts - dotI ps us ∧ dotI ps ts - dotI ps us ≤ 50 * M := by omega
      generalize dotI ps ts - dotI ps us = need at nb ⊢
      have R' : Recipe size hs (.tup [.tup (ts.map Dt.int), .tup (us.map Dt.int), h]) ts us h := ⟨rfl, R.tl, R.ul, R.tb, R.ub, R.tp, R.hh, R.sb⟩
      refine (last_ok R' (by omega)).mono (fun d S8 ⟨li, ed, ⟨t, ht, ht0⟩, p8⟩ => ?_) fun _ _ _ q => q
      subst ed
      have p68 := p6.trans (p7.trans p8)
      have k1 := i1.pre p68
      have k2 := i2.pre p68
      have B8 := B5.pre p68
      have F8 := F5.trans (Fr.pre (b := b) p68)
      have g8 := get_pre p68 g
      have hli := (List.getElem?_eq_some_iff.mp ht).1
      have htl := R.tl
      have hps : ps[li]? = some ps[li] := List.getElem?_eq_getElem (by omega)
      have hpm := i5 ps[li] (List.getElem_mem _)
      have fin : ∀ {ps' wsl' : List Int} {S9 : Bxs} (d4 d5 d6 d7 : Option Dt), IL S9 S.length ps' → IL S9 wb wsl' → ps'.length = size → wsl'.length = hs.length → Bd (51 * M) ps' → Bd (51 * M) wsl' → Bag S9 b c → Fr b S S9 → S9[S3.length]? = some (.lst sd) →
          ∃ e4 e5 e6 e7, [some (.box b), some (.tup [.tup ks, .tup hs, .tup rs]), some (.box S.length), some (.box wb), d4, d5, d6, d7, none, none] = [some (.box b), some (.tup [.tup ks, .tup hs, .tup rs]), some (.box S.length), some (.box wb), e4, e5, e6, e7, none, none] ∧ FJ S b c S.length wb size hs.length (51 * M) S9 ∧ S9[S3.length]? = some (.lst sd) :=
        fun d4 d5 d6 d7 a1 a2 a3 a4 a5 a6 a7 a8 a9 => ⟨_, _, _, _, rfl, ⟨_, _, a1, a2, a3, a4, a5, a6, a7, a8⟩, a9⟩
      rcases R.hh with hh | hh
      · subst hh
        and_intros
        refine ⟨fun _ => ?_, fun z => nomatch z⟩
        and_intros
        refine ⟨fun hn0 => ?_, fun _ => ?_⟩
        · have hn0 : 0 < need := by simpa using hn0
          and_intros
          refine w_getG (lst_of k1) ⟨by omega, by omega⟩ (d := .int ps[li]) (by rw [Int.toNat_natCast, List.getElem?_map, hps]; rfl) ?_
          and_intros
          refine w_idxT (by omega) (by rw [List.length_map]; omega) fun d hd => ?_
          rw [Int.toNat_natCast, List.getElem?_map, ht] at hd
          cases hd
          have htb := R.tb t (List.mem_of_getElem? ht)
          and_intros
          have fl := floor_bd hn0 ht0
          refine w_setG (j := li) (lst_of k1) (by rw [ixN_mk (by omega) (by rw [List.length_map]; omega)]; rfl) ?_
          rw [← List.map_set]
          exact .inl ⟨rfl, fin _ _ _ _ (k1.set rfl) (k2.skip (by omega)) (by rw [List.length_set]; exact i3) i4 ((i5.mono (by omega)).set (by omega) (by omega)) (i6.mono (by omega)) (B8.own hpb hpc) (F8.own (Nat.le_refl _)) (by rw [List.getElem?_set_ne (by omega)]; exact g8)⟩
        · and_intros
          refine ⟨(fun z => nomatch z), fun _ => ?_⟩
          and_intros
          exact .inl ⟨rfl, fin _ _ _ _ k1 k2 i3 i4 (i5.mono (by omega)) (i6.mono (by omega)) B8 F8 g8⟩
      · obtain ⟨z, rfl⟩ := menu_str (W.hm h hh)
        obtain ⟨zs, hzs⟩ := strs_of fun x hx => menu_str (W.hm x hx)
        have hz : z ∈ zs := by
          rw [hzs] at hh
          obtain ⟨y, hy, e⟩ := List.mem_map.mp hh
          cases e; exact hy
        obtain ⟨j, sj, zj, _⟩ := strAt_mem hz
        have hjl : j < wsl.length := by
          have := (List.getElem?_eq_some_iff.mp zj).1
          rw [i4, hzs, List.length_map]; exact this
        have hws : wsl[j]? = some wsl[j] := List.getElem?_eq_getElem hjl
        have hwm := i6 wsl[j] (List.getElem_mem _)
        and_intros
        refine ⟨(fun z => nomatch z), fun _ => ?_⟩
        refine ⟨(fun z => nomatch z), fun _ => ?_⟩
        and_intros
        refine ⟨fun _ => ?_, fun z => nomatch z⟩
        and_intros
        refine ⟨rfl, ?_⟩
        and_intros
        rw [hzs]
        refine w_tindex sj ?_
        rw [← hzs]
        and_intros
        refine w_idx (seq_lst k2) (by omega) (by rw [List.length_map]; omega) fun d hd => ?_
        rw [Int.toNat_natCast, List.getElem?_map, hws] at hd
        cases hd
        and_intros
        refine w_setG (j := j) (lst_of k2) (by rw [ixN_mk (by omega) (by rw [List.length_map]; omega)]; rfl) ?_
        rw [← List.map_set]
        exact .inl ⟨rfl, fin _ _ _ _ (k1.skip (by omega)) (k2.set rfl) i3 (by rw [List.length_set]; exact i4) (i5.mono (by omega)) ((i6.mono (by omega)).set (by split <;> omega) (by split <;> omega)) (B8.own hwb hwc) (F8.own (by omega)) (by rw [List.getElem?_set_ne (by omega)]; exact g8)⟩
    · subst e
      have hM : (5 * 51 ^ sd.length : Int) ≤ 10 ^ 15 := by
        have h1 : 51 ^ sd.length ≤ 51 ^ 8 := Nat.pow_le_pow_right (by decide) hsl
        have h2 : ((51 ^ sd.length : Nat) : Int) = 51 ^ sd.length := by rw [Int.natCast_pow]; rfl
        have h3 : (51 ^ 8 : Nat) = 45767944570401 := by decide
        omega
      obtain ⟨ps, wsl, i1, i2, i3, i4, i5, i6, B5, F5⟩ := J
      have j5 := i5.mono hM
      have j6 := i6.mono hM
      clear i5 i6 hM
      have q5 := F5.len
      have hw5 := get_lt i2
      have hp5 := get_lt i1
      and_intros
      refine w_lc ?_
      and_intros
      refine ⟨wsl.map Dt.int, w_seqB i2, fun i acc S' => ∃ is : List Int, acc = is.map Dt.int ∧ is.length = i ∧ Bd (10 ^ 16) is ∧ IL S' S.length ps ∧ IL S' wb wsl ∧ Bag S' b c ∧ Fr b S S', fun i acc S' ⟨_, _, _, _, _, k2, _, _⟩ => w_seqB k2, fun i x acc S6 hx hn ⟨is, e1, e2, e3, k1, k2, B6, F6⟩ => ?_, ⟨[], rfl, rfl, (fun _ z => nomatch z), i1.pre (List.prefix_append _ _), i2.pre (List.prefix_append _ _), B5.app, F5.app⟩, fun acc S6 hn ⟨is, e1, e2, e3, k1, k2, B6, F6⟩ => ?_⟩
      · obtain ⟨v, hv, rfl⟩ := List.mem_map.mp (List.mem_of_getElem? hx)
        have hik := (List.getElem?_eq_some_iff.mp hx).1
        rw [List.length_map] at hik
        have hvb := j6 v hv
        and_intros
        refine w_yes ?_
        refine ⟨fun _ => ?_, fun z => nomatch z⟩
        and_intros
        refine (one_ok (xs := [Dt.int 0, Dt.int 0, Dt.int 0, Dt.int 1]) B6.app (seq_lst get_last) (by have := B6.lt.1; omega) (fun z => nomatch z) (Nat.le_of_ble_eq_true (by rfl))).mono (fun d S7 ⟨hd, B7, F7⟩ => ?_) fun _ _ _ q => q
        obtain ⟨u, rfl, hu⟩ : ∃ v : Int, d = .int v ∧ 0 ≤ v ∧ v ≤ 1 := by
          simp at hd
          rcases hd with z | z <;> exact ⟨_, z, by omega⟩
        have F67 := ((Fr.refl b S6).app (x := MBox.lst [Dt.int 0, Dt.int 0, Dt.int 0, Dt.int 1])).trans F7
        and_intros
        refine ⟨F67.at_ hn (by omega), ?_, is ++ [v + u], by rw [e1]; simp, by simp [e2], fun p hp => ?_, (k1.fr F67 hpb).skip (by omega), (k2.fr F67 hwb).skip (by omega), B7.own (by omega) (by omega), (F6.trans F67).own (by omega)⟩
        · rw [e1, List.length_map, e2]; exact Nat.lt_of_lt_of_le (show i < 100 by omega) (by decide)
        · rcases List.mem_append.mp hp with z | z
          · exact e3 p z
          · rw [List.mem_singleton.mp z]; omega
      · have e2 : is.length = wsl.length := by rw [e2]; exact List.length_map ..
        subst e1
        have kw : IL S6 S5.length is := hn
        have tail : ∀ {ps' : List Int} {S9 : Bxs}, IL S9 S.length ps' → IL S9 S5.length is → ps'.length = size → Bd (10 ^ 15) ps' → Bag S9 b c → Fr b S S9 → (sRet (dTup (aCons (dCall tupleG (aCons (dVar 2) (aNil))) (aCons (dCall tupleG (aCons (dVar 3) (aNil))) (aNil)))) [some (.box b), some (.tup [.tup ks, .tup hs, .tup rs]), some (.box S.length), some (.box S5.length), d4, d5, d6, d7, none, none] S9).Wp
            (fun r S1 => (∃ d, r.1 = .rt d ∧ (∃ ps ws, Tf d size hs.length (10 ^ 17) ps ws) ∧ Bag S1 b c ∧ Fr b S S1) ∨ (r.1 = .nx ∧ (∃ ps ws, Tf .non size hs.length (10 ^ 17) ps ws) ∧ Bag S1 b c ∧ Fr b S S1)) noX := fun {ps' S9} a1 a2 a3 a4 a5 a6 => by
          and_intros
          refine w_tupB a1.seq ?_
          and_intros
          refine w_tupB a2.seq ?_
          and_intros
          refine ⟨Nat.le_of_ble_eq_true (by rfl), ?_⟩
          exact .inl ⟨_, rfl, ⟨ps', is, rfl, a3, by omega, a4.mono (by decide), e3.mono (by decide)⟩, a5, a6⟩
        have k1' : IL S6 S.length ps := k1
        and_intros
        refine w_lenB (IL.seq (IL.app k1')) ?_
        and_intros
        refine w_mulL (lst_of get_last) ⟨by rw [List.length_map]; omega, by rw [List.length_map]; omega, by decide⟩ ?_
        rw [zeros, Int.toNat_natCast, List.length_map]
        have hrl2 : ((List.replicate ps.length (0 : Int)).map Dt.int).length ≤ LIM := by rw [List.length_map, List.length_replicate]; exact Nat.le_trans (show ps.length ≤ 5 by omega) (by decide)
        refine w_newL hrl2 ?_
        have m1 := (IL.app (x := MBox.lst ((List.replicate ps.length (0 : Int)).map Dt.int)) (IL.app (x := MBox.lst [Dt.int 0]) k1'))
        have mw := (IL.app (x := MBox.lst ((List.replicate ps.length (0 : Int)).map Dt.int)) (IL.app (x := MBox.lst [Dt.int 0]) kw))
        have mz : IL ((S6 ++ [MBox.lst [Dt.int 0]]) ++ [MBox.lst ((List.replicate ps.length (0 : Int)).map Dt.int)]) (S6 ++ [MBox.lst [Dt.int 0]]).length (List.replicate ps.length 0) := get_last
        have B7 := B6.app (x := MBox.lst [Dt.int 0]) |>.app (x := MBox.lst ((List.replicate ps.length (0 : Int)).map Dt.int))
        have F7 := F6.app (x := MBox.lst [Dt.int 0]) |>.app (x := MBox.lst ((List.replicate ps.length (0 : Int)).map Dt.int))
        generalize (S6 ++ [MBox.lst [Dt.int 0]]) ++ [MBox.lst ((List.replicate ps.length (0 : Int)).map Dt.int)] = S7 at m1 mw mz B7 F7 ⊢
        generalize (S6 ++ [MBox.lst [Dt.int 0]]).length = zb at mz ⊢
        have plz : ∀ {S : Bxs} {is : List Int}, Bd (10 ^ 16) is → ∃ p, Pls S 59 (is.map Dt.int) p ((is.map Dt.int).length * 20) := fun {S is} h => by
          obtain ⟨p, hp, _⟩ := Pls.of_all (S := S) (n := 59) (w := 18) (ds := is.map Dt.int) fun d hd => by
            obtain ⟨i, hi, rfl⟩ := List.mem_map.mp hd
            have := h i hi
            exact ⟨_, Pl.mkInt 17 (by decide) (by decide) (by omega)⟩
          exact ⟨p, hp⟩
        obtain ⟨p1, hp1⟩ := plz (S := S7) (j5.mono (by decide : (10 ^ 15 : Int) ≤ 10 ^ 16))
        obtain ⟨p2, hp2⟩ := plz (S := S7) (Bd.zeros (M := 10 ^ 16) (by decide) ps.length)
        refine w_eq (.box m1.seq hp1 (Nat.le_refl _)) (.box mz.seq hp2 (Nat.le_refl _)) ?_
        generalize PyData.eqv (.list p1) (.list p2) = bb
        and_intros
        refine ⟨fun _ => ?_, fun _ => ?_⟩
        · and_intros
          refine w_addL (xs := is.map Dt.int) (ys := [Dt.int 0]) (lst_of (IL.app mw)) (lst_of get_last) ?_
          refine w_newL (by rw [List.length_append, List.length_map]; exact Nat.le_trans (show is.length + 1 ≤ 10 by omega) (by decide)) ?_
          and_intros
          refine w_maxB (is := is ++ [0]) ((seq_lst get_last).trans (by rw [List.map_append]; first | done | rfl)) (by simp) ?_
          and_intros
          refine ⟨fun _ => ?_, fun _ => ?_⟩
          · and_intros
            refine w_setG (j := 0) (lst_of (IL.app (IL.app m1))) (by rw [ixN_mk (by omega) (by rw [List.length_map]; omega)]; rfl) ?_
            rw [← List.map_set]
            refine c_nx (tail (IL.set (IL.app (IL.app m1)) rfl) (IL.skip (IL.app (IL.app mw)) (by omega)) (by rw [List.length_set]; exact i3) (j5.set (by decide) (by decide)) (B7.app.app.own hpb hpc) (F7.app.app.own (Nat.le_refl _)))
          · refine w_sNil ?_
            exact c_nx (tail (IL.app (IL.app m1)) (IL.app (IL.app mw)) i3 j5 B7.app.app F7.app.app)
        · refine ⟨fun z => absurd z Bool.false_ne_true, fun _ => ?_⟩
          refine w_sNil ?_
          exact c_nx (tail m1 mw i3 j5 B7 F7)
end Lw

set_option Elab.async false
set_option linter.all false
set_option maxRecDepth 100000
set_option maxHeartbeats 4000000
namespace Lw
open PySem PySem.Spec PyProof.Rows L2 Mn
theorem pls_ints {S : Bxs} {n : Nat} {is : List Int} {M : Int} (h : Bd M is) (hM : M < 10 ^ 22) : ∃ p, Pls S (n + 1) (is.map Dt.int) p (is.length * 25) := by
  obtain ⟨p, hp, _⟩ := Pls.of_all (S := S) (n := n + 1) (w := 23) (ds := is.map Dt.int) fun d hd => by
    obtain ⟨i, hi, rfl⟩ := List.mem_map.mp hd
    have := h i hi
    exact ⟨_, Pl.mkInt 22 (by decide) (by decide) (by omega)⟩
  rw [List.length_map] at hp
  exact ⟨p, hp⟩
theorem turned_ok {S : Bxs} {b c : Nat} {d : Dt} {k h : Nat} {M : Int} {ps ws : List Int} (B : Bag S b c) (T : Tf d k h M ps ws) (k0 : 1 ≤ k) (k1 : k ≤ 5) (h1 : h ≤ 3) (M0 : 1 ≤ M) (M1 : M ≤ 10 ^ 21) :
    (F__law_turned [.box b, d] S).Wp (fun d S' => (∃ ps ws, Tf d k h (M + 1) ps ws) ∧ Bag S' b c ∧ Fr b S S') noX := by
  rw [T.eq]
  unfold F__law_turned
  refine w_body ?_
  unfold B__law_turned
  simp only [startD, List.map_cons, List.map_nil, List.length_cons, List.length_nil, List.cons_append, List.nil_append, Nat.reduceAdd, Nat.reduceSub, List.replicate, List.replicate_succ, List.replicate_zero]
  have pl := T.pl
  have wl := T.wl
  have qB := B.lt
  and_intros
  refine w_listT ?_
  refine w_newL (by rw [List.length_map, pl]; exact Nat.le_trans k1 (by decide)) ?_
  and_intros
  refine w_listT ?_
  refine w_newL (by rw [List.length_map, wl]; exact Nat.le_trans h1 (by decide)) ?_
  and_intros
  have i1 : IL ((S ++ [MBox.lst (ps.map Dt.int)]) ++ [MBox.lst (ws.map Dt.int)]) S.length ps := IL.app (show IL (S ++ [MBox.lst (ps.map Dt.int)]) S.length ps from get_last)
  have i2 : IL ((S ++ [MBox.lst (ps.map Dt.int)]) ++ [MBox.lst (ws.map Dt.int)]) (S ++ [MBox.lst (ps.map Dt.int)]).length ws := get_last
  have B1 := B.app (x := MBox.lst (ps.map Dt.int)) |>.app (x := MBox.lst (ws.map Dt.int))
  have F1 := (Fr.refl b S).app (x := MBox.lst (ps.map Dt.int)) |>.app (x := MBox.lst (ws.map Dt.int))
  have hpw : S.length < (S ++ [MBox.lst (ps.map Dt.int)]).length := by simp
  generalize (S ++ [MBox.lst (ps.map Dt.int)]) ++ [MBox.lst (ws.map Dt.int)] = S1 at i1 i2 B1 F1 ⊢
  generalize (S ++ [MBox.lst (ps.map Dt.int)]).length = wb at i2 hpw ⊢
  have hpb : S.length ≠ b := by omega
  have hpc : S.length ≠ c := by omega
  have hwb : wb ≠ b := by omega
  have hwc : wb ≠ c := by omega
  refine w_lenB i1.seq ?_
  and_intros
  refine w_lenB i2.seq ?_
  and_intros
  refine (take_ok B1 (by rw [List.length_map, List.length_map]; omega) (by rw [List.length_map, List.length_map]; omega)).mono (fun d S2 ⟨at', ed, a0, a1, B2, F2⟩ => ?_) fun _ _ _ q => q
  subst ed
  rw [List.length_map, List.length_map] at a1
  and_intros
  refine (one_ok (xs := [Dt.int 1, Dt.int (-1)]) B2.app (seq_lst get_last) (by have := B2.lt.1; omega) (fun z => nomatch z) (Nat.le_of_ble_eq_true (by rfl))).mono (fun d S3 ⟨hd, B3, F3⟩ => ?_) fun _ _ _ q => q
  obtain ⟨st, rfl, hst⟩ : ∃ v : Int, d = .int v ∧ -1 ≤ v ∧ v ≤ 1 := by
    simp at hd
    rcases hd with z | z <;> exact ⟨_, z, by omega⟩
  have F23 := F2.trans ((Fr.refl b S2).app.trans F3)
  have k1' := i1.fr F23 hpb
  have k2' := i2.fr F23 hwb
  have F13 := F1.trans F23
  and_intros
  refine w_lenB k1'.seq ?_
  and_intros
  have tail : ∀ {ps' ws' : List Int} {S9 : Bxs}, IL S9 S.length ps' → IL S9 wb ws' → ps'.length = k → ws'.length = h → Bd (M + 1) ps' → Bd (M + 1) ws' → Bag S9 b c → Fr b S S9 →
      (sCons (sIf (dAnd (dTrue (dBin (eqG false) (dVar 2) (dBin mulG (dLst (aCons (dC (.int 0)) (aNil))) (dCall lenG (aCons (dVar 2) (aNil)))))) (dTrue (dBin (eqG false) (dVar 3) (dBin mulG (dLst (aCons (dC (.int 0)) (aNil))) (dCall lenG (aCons (dVar 3) (aNil))))))) (sAsg (dC (.int 1)) (tSubG (dVar 2) (dC (.int 0)))) (sNil)) (sRet (dTup (aCons (dCall tupleG (aCons (dVar 2) (aNil))) (aCons (dCall tupleG (aCons (dVar 3) (aNil))) (aNil)))))
        [some (.box b), some (.tup [.tup (ps.map Dt.int), .tup (ws.map Dt.int)]), some (.box S.length), some (.box wb), some (.int at'), some (.int st)] S9).Wp
        (fun r S1 => (∃ d, r.1 = .rt d ∧ (∃ ps ws, Tf d k h (M + 1) ps ws) ∧ Bag S1 b c ∧ Fr b S S1) ∨ (r.1 = .nx ∧ (∃ ps ws, Tf .non k h (M + 1) ps ws) ∧ Bag S1 b c ∧ Fr b S S1)) noX := fun {ps' ws' S9} a1 a2 a3 a4 a5 a6 a7 a8 => by
    have fin : ∀ {ps' : List Int} {S9 : Bxs}, IL S9 S.length ps' → IL S9 wb ws' → ps'.length = k → Bd (M + 1) ps' → Bag S9 b c → Fr b S S9 → (sRet (dTup (aCons (dCall tupleG (aCons (dVar 2) (aNil))) (aCons (dCall tupleG (aCons (dVar 3) (aNil))) (aNil))))
        [some (.box b), some (.tup [.tup (ps.map Dt.int), .tup (ws.map Dt.int)]), some (.box S.length), some (.box wb), some (.int at'), some (.int st)] S9).Wp
        (fun r S1 => (∃ d, r.1 = .rt d ∧ (∃ ps ws, Tf d k h (M + 1) ps ws) ∧ Bag S1 b c ∧ Fr b S S1) ∨ (r.1 = .nx ∧ (∃ ps ws, Tf .non k h (M + 1) ps ws) ∧ Bag S1 b c ∧ Fr b S S1)) noX := fun {ps' S9} a1 a2 a3 a5 a7 a8 => by
      and_intros
      refine w_tupB a1.seq ?_
      and_intros
      refine w_tupB a2.seq ?_
      and_intros
      exact ⟨Nat.le_of_ble_eq_true (by rfl), .inl ⟨_, rfl, ⟨ps', ws', rfl, a3, a4, a5, a6⟩, a7, a8⟩⟩
    and_intros
    refine w_lenB (IL.seq (IL.app a1)) ?_
    and_intros
    refine w_mulL (lst_of get_last) ⟨by rw [List.length_map]; omega, by rw [List.length_map]; omega, by decide⟩ ?_
    rw [zeros, Int.toNat_natCast, List.length_map]
    refine w_newL (by rw [List.length_map, List.length_replicate]; exact Nat.le_trans (show ps'.length ≤ 5 by omega) (by decide)) ?_
    obtain ⟨p1, hp1⟩ := pls_ints (n := 58) (S := (S9 ++ [MBox.lst [Dt.int 0]]) ++ [MBox.lst ((List.replicate ps'.length (0 : Int)).map Dt.int)]) a5 (by omega)
    obtain ⟨p2, hp2⟩ := pls_ints (n := 58) (S := (S9 ++ [MBox.lst [Dt.int 0]]) ++ [MBox.lst ((List.replicate ps'.length (0 : Int)).map Dt.int)]) (Bd.zeros (M := 1) (by decide) ps'.length) (by decide)
    refine w_eq (.box (IL.seq (IL.app (IL.app a1))) hp1 (Nat.le_refl _)) (.box (seq_lst get_last) hp2 (Nat.le_refl _)) ?_
    generalize PyData.eqv (.list p1) (.list p2) = bb
    have A1 := IL.app (x := MBox.lst ((List.replicate ps'.length (0 : Int)).map Dt.int)) (IL.app (x := MBox.lst [Dt.int 0]) a1)
    have A2 := IL.app (x := MBox.lst ((List.replicate ps'.length (0 : Int)).map Dt.int)) (IL.app (x := MBox.lst [Dt.int 0]) a2)
    have A7 := a7.app (x := MBox.lst [Dt.int 0]) |>.app (x := MBox.lst ((List.replicate ps'.length (0 : Int)).map Dt.int))
    have A8 := a8.app (x := MBox.lst [Dt.int 0]) |>.app (x := MBox.lst ((List.replicate ps'.length (0 : Int)).map Dt.int))
    generalize (S9 ++ [MBox.lst [Dt.int 0]]) ++ [MBox.lst ((List.replicate ps'.length (0 : Int)).map Dt.int)] = S10 at A1 A2 A7 A8 ⊢
    and_intros
    refine ⟨fun _ => ?_, fun _ => ?_⟩
    · and_intros
      refine w_lenB (IL.seq (IL.app A2)) ?_
      and_intros
      refine w_mulL (lst_of get_last) ⟨by rw [List.length_map]; omega, by rw [List.length_map]; omega, by decide⟩ ?_
      rw [zeros, Int.toNat_natCast, List.length_map]
      refine w_newL (by rw [List.length_map, List.length_replicate]; exact Nat.le_trans (show ws'.length ≤ 5 by omega) (by decide)) ?_
      obtain ⟨p3, hp3⟩ := pls_ints (n := 58) (S := (S10 ++ [MBox.lst [Dt.int 0]]) ++ [MBox.lst ((List.replicate ws'.length (0 : Int)).map Dt.int)]) a6 (by omega)
      obtain ⟨p4, hp4⟩ := pls_ints (n := 58) (S := (S10 ++ [MBox.lst [Dt.int 0]]) ++ [MBox.lst ((List.replicate ws'.length (0 : Int)).map Dt.int)]) (Bd.zeros (M := 1) (by decide) ws'.length) (by decide)
      refine w_eq (.box (IL.seq (IL.app (IL.app A2))) hp3 (Nat.le_refl _)) (.box (seq_lst get_last) hp4 (Nat.le_refl _)) ?_
      generalize PyData.eqv (.list p3) (.list p4) = bb2
      and_intros
      refine ⟨fun _ => ?_, fun _ => ?_⟩
      · and_intros
        refine w_setG (j := 0) (lst_of (IL.app (IL.app A1))) (by rw [ixN_mk (by omega) (by rw [List.length_map]; omega)]; rfl) ?_
        rw [← List.map_set]
        exact c_nx (fin (IL.set (IL.app (IL.app A1)) rfl) (IL.skip (IL.app (IL.app A2)) (by omega)) (by rw [List.length_set]; exact a3) (a5.set (by omega) (by omega)) (A7.app.app.own hpb hpc) (A8.app.app.own (Nat.le_refl _)))
      · refine w_sNil ?_
        exact c_nx (fin (IL.app (IL.app A1)) (IL.app (IL.app A2)) a3 a5 A7.app.app A8.app.app)
    · refine ⟨fun z => absurd z Bool.false_ne_true, fun _ => ?_⟩
      refine w_sNil ?_
      exact c_nx (fin A1 A2 a3 a5 A7 A8)
  have pb := T.pb
  have wbd := T.wb
  refine ⟨fun hlt => ?_, fun hge => ?_⟩
  · have hlt : at' < ((ps.map Dt.int).length : Int) := by simpa using hlt
    rw [List.length_map] at hlt
    have hai : at'.toNat < ps.length := by omega
    have hps : ps[at'.toNat]? = some ps[at'.toNat] := List.getElem?_eq_getElem hai
    have hb := pb ps[at'.toNat] (List.getElem_mem _)
    and_intros
    refine w_getG (lst_of k1') ⟨a0, by omega⟩ (d := .int ps[at'.toNat]) (by rw [List.getElem?_map, hps]; rfl) ?_
    and_intros
    refine w_setG (j := at'.toNat) (lst_of k1') (ixN_mk a0 (by rw [List.length_map]; omega)) ?_
    rw [← List.map_set]
    exact c_nx (tail (IL.set k1' rfl) (IL.skip k2' (by omega)) (by rw [List.length_set]; exact pl) wl ((pb.mono (by omega)).set (by omega) (by omega)) (wbd.mono (by omega)) (B3.own hpb hpc) (F13.own (Nat.le_refl _)))
  · have hge : ¬ at' < ((ps.map Dt.int).length : Int) := by simpa using hge
    rw [List.length_map] at hge
    have hai : (at' - (ps.length : Int)).toNat < ws.length := by omega
    have hws : ws[(at' - (ps.length : Int)).toNat]? = some ws[(at' - (ps.length : Int)).toNat] := List.getElem?_eq_getElem hai
    have hb := wbd ws[(at' - (ps.length : Int)).toNat] (List.getElem_mem _)
    and_intros
    refine w_lenB k1'.seq ?_
    and_intros
    rw [List.length_map]
    refine w_idx k2'.seq (by omega) (by rw [List.length_map]; omega) fun d hd => ?_
    rw [List.getElem?_map, hws] at hd
    cases hd
    and_intros
    refine w_lenB k1'.seq ?_
    and_intros
    rw [List.length_map]
    refine w_setG (j := (at' - (ps.length : Int)).toNat) (lst_of k2') (ixN_mk (by omega) (by rw [List.length_map]; omega)) ?_
    rw [← List.map_set]
    exact c_nx (tail (IL.skip k1' (by omega)) (IL.set k2' rfl) pl (by rw [List.length_set]; exact wl) (pb.mono (by omega)) ((wbd.mono (by omega)).set (by split <;> omega) (by split <;> omega)) (B3.own hwb hwc) (F13.own (by omega)))
theorem times_ok {S : Bxs} {is : List Int} {m M : Int} (hl : is.length ≤ 10) (h : Bd M is) (hM : 0 ≤ M) (m0 : 0 ≤ m) (m1 : m ≤ 10000) : (F__law_times [.tup (is.map Dt.int), .int m] S).Wp (fun d S' => d = .tup ((is.map (· * m)).map Dt.int) ∧ Bd (10000 * M) (is.map (· * m)) ∧ S <+: S') noX := by
  unfold F__law_times
  refine w_body ?_
  unfold B__law_times
  simp only [startD, List.map_cons, List.map_nil, List.length_cons, List.length_nil, List.cons_append, List.nil_append, Nat.reduceAdd, Nat.reduceSub, List.replicate, List.replicate_succ, List.replicate_zero]
  and_intros
  refine w_lcMap ?_
  and_intros
  refine ⟨fun d => match d with | .int i => .int (i * m) | d => d, ?_, fun _ => rfl, fun x acc hx => ?_, ?_⟩
  · show (is.map Dt.int).length < LIM
    rw [List.length_map]; exact Nat.lt_of_le_of_lt hl (by decide)
  · obtain ⟨i, hi, rfl⟩ := List.mem_map.mp (show x ∈ is.map Dt.int from hx)
    and_intros
    refine ⟨rfl, ?_⟩
    and_intros
    refine w_mul (.small2 (by omega) (by omega)) ?_
    exact ⟨rfl, rfl⟩
  · and_intros
    refine w_tupB (seq_lst get_last) ?_
    refine .inl ⟨_, rfl, ?_, fun p hp => ?_, List.prefix_append _ _⟩
    · show Dt.tup ((is.map Dt.int).map _) = _
      rw [List.map_map, List.map_map]
      rfl
    · obtain ⟨i, hi, rfl⟩ := List.mem_map.mp hp
      have hb := h i hi
      have b1 : i * m ≤ M * m := Int.mul_le_mul_of_nonneg_right hb.2 m0
      have b2 : -M * m ≤ i * m := Int.mul_le_mul_of_nonneg_right hb.1 m0
      have b3 : M * m ≤ M * 10000 := Int.mul_le_mul_of_nonneg_left m1 hM
      rw [Int.neg_mul] at b2
      show -(10000 * M) ≤ i * m ∧ i * m ≤ 10000 * M
      omega
end Lw

set_option Elab.async false
set_option linter.all false
set_option maxRecDepth 100000
set_option maxHeartbeats 4000000
namespace Lw
open PySem PySem.Spec PyProof.Rows L2 Mn
theorem p_worth {S : Bxs} {b : Dt} {ps qs : List Int} (hl : ps.length ≤ 1000) (hq : ∀ q ∈ qs, -(2 ^ 64) < q ∧ q < 2 ^ 64) :
    (F_worth [.tup [.tup (ps.map Dt.int), b], .tup (qs.map Dt.int)] S).Wp (fun d S' => d = .int (dotI ps qs) ∧ S <+: S') noX := by
  unfold F_worth
  refine w_body ?_
  unfold B_worth
  simp only [startD, List.map_cons, List.map_nil, List.length_cons, List.length_nil, List.cons_append, List.nil_append, Nat.reduceAdd, Nat.reduceSub, List.replicate, List.replicate_succ, List.replicate_zero]
  and_intros
  refine (dot_ok (ps := ps) (qs := qs) rfl rfl hl hq (fun _ _ => rfl) (fun _ _ => rfl)).mono (fun d S1 ⟨e, p⟩ => ?_) fun _ _ _ q => q
  exact .inl ⟨_, rfl, e, p⟩
theorem p_pay {S : Bxs} {a : Dt} {ps qs : List Int} (hl : ps.length ≤ 1000) (hq : ∀ q ∈ qs, -(2 ^ 64) < q ∧ q < 2 ^ 64) :
    (F_pay [.tup [a, .tup (ps.map Dt.int)], .tup (qs.map Dt.int)] S).Wp (fun d S' => d = .int (dotI ps qs) ∧ S <+: S') noX := by
  unfold F_pay
  refine w_body ?_
  unfold B_pay
  simp only [startD, List.map_cons, List.map_nil, List.length_cons, List.length_nil, List.cons_append, List.nil_append, Nat.reduceAdd, Nat.reduceSub, List.replicate, List.replicate_succ, List.replicate_zero]
  and_intros
  refine (dot_ok (ps := ps) (qs := qs) rfl rfl hl hq (fun _ _ => rfl) (fun _ _ => rfl)).mono (fun d S1 ⟨e, p⟩ => ?_) fun _ _ _ q => q
  exact .inl ⟨_, rfl, e, p⟩
def subL (ts us : List Int) : List Int := (ts.zip us).map fun p => p.1 - p.2
theorem p_used {S : Bxs} {h : Dt} {ts us : List Int} (hl : ts.length ≤ 1000) : (F_used_up [.tup [.tup (ts.map Dt.int), .tup (us.map Dt.int), h]] S).Wp (fun d S' => d = .tup ((subL ts us).map Dt.int) ∧ S <+: S') noX := by
  unfold F_used_up
  refine w_body ?_
  unfold B_used_up
  simp only [startD, List.map_cons, List.map_nil, List.length_cons, List.length_nil, List.cons_append, List.nil_append, Nat.reduceAdd, Nat.reduceSub, List.replicate, List.replicate_succ, List.replicate_zero]
  and_intros
  refine w_lcMap ?_
  and_intros
  refine ⟨_, _, _, _, rfl, rfl, rfl, fun p => match p.1, p.2 with | .int i, .int j => .int (i - j) | _, _ => .non, ?_, fun acc => ⟨rfl, rfl⟩, fun p acc hp => ?_, ?_⟩
  · show (List.zip _ _).length < LIM
    rw [List.length_zip, List.length_map, List.length_map]
    exact Nat.lt_of_le_of_lt (Nat.le_trans (Nat.min_le_left _ _) hl) (by decide)
  · have hz : p ∈ (ts.zip us).map (Prod.map Dt.int Dt.int) := by rw [← List.zip_map]; exact hp
    obtain ⟨⟨i, j⟩, hij, rfl⟩ := List.mem_map.mp hz
    and_intros
    refine ⟨rfl, ?_⟩
    and_intros
    refine w_sub (i := i) (j := j) ?_
    exact ⟨rfl, rfl⟩
  · and_intros
    refine w_tupB (seq_lst get_last) ?_
    refine .inl ⟨_, rfl, ?_, List.prefix_append _ _⟩
    show Dt.tup (((ts.map Dt.int).zip (us.map Dt.int)).map _) = _
    rw [List.zip_map, List.map_map]
    unfold subL
    rw [List.map_map]
    rfl
theorem menu_ok {z : Str} (h : Dt.str z ∈ menuD) : PyData.strOk z = true ∧ PyData.strOk (PyData.shown (.str z)) = true ∧ (PyData.shown (.str z)).length ≤ 8 := by
  obtain ⟨p, q⟩ := pl_menu (S := []) (n := 0) h
  cases q with
  | str a b c => exact ⟨a, b, c⟩
theorem w_eqSS {S : Bxs} {E : Nat → List Dt → Bxs → Prop} {a z : Str} {P : Dt → Bxs → Prop} (ha : Dt.str a ∈ menuD) (hz : Dt.str z ∈ menuD) (h : P (.bl (a == z)) S) : (eqG false (.str a) (.str z) S).Wp P E := by
  refine w_eq (.str (menu_ok ha).1 (menu_ok ha).2.1 (menu_ok ha).2.2) (.str (menu_ok hz).1 (menu_ok hz).2.1 (menu_ok hz).2.2) ?_
  have e : PyData.eqv (.str a) (.str z) = (a == z) := by simp [PyData.eqv]
  rw [e]; exact h
theorem w_eqSN {S : Bxs} {E : Nat → List Dt → Bxs → Prop} {a : Str} {P : Dt → Bxs → Prop} (ha : Dt.str a ∈ menuD) (h : P (.bl false) S) : (eqG false (.str a) .non S).Wp P E := by
  refine w_eq (.str (menu_ok ha).1 (menu_ok ha).2.1 (menu_ok ha).2.2) (.non (Nat.le_refl 4)) ?_
  have e : PyData.eqv (.str a) .none = false := by simp [PyData.eqv]
  rw [e]; exact h
def wantB (h x : Dt) : Bool := match x, h with
  | .str a, .str z => a == z
  | _, _ => false
def wantL (hs : List Dt) (h : Dt) : List Int := hs.map fun x => if wantB h x = true then 1 else 0
theorem p_wanted {S : Bxs} {a b e f h : Dt} {hs : List Dt} (hl : hs.length ≤ 1000) (hm : ∀ x ∈ hs, x ∈ menuD) (hh : h = .non ∨ h ∈ hs) :
    (F_wanted [.tup [a, .tup hs, b], .tup [e, f, h]] S).Wp (fun d S' => d = .tup ((wantL hs h).map Dt.int) ∧ S <+: S') noX := by
  unfold F_wanted
  refine w_body ?_
  unfold B_wanted
  simp only [startD, List.map_cons, List.map_nil, List.length_cons, List.length_nil, List.cons_append, List.nil_append, Nat.reduceAdd, Nat.reduceSub, List.replicate, List.replicate_succ, List.replicate_zero]
  and_intros
  refine w_lcMap ?_
  and_intros
  refine ⟨fun x => .int (if wantB h x = true then 1 else 0), Nat.lt_of_le_of_lt hl (by decide), fun acc => rfl, fun x acc hx => ?_, ?_⟩
  · have hx : x ∈ hs := hx
    obtain ⟨sx, rfl⟩ := menu_str (hm x hx)
    and_intros
    refine ⟨rfl, ?_⟩
    and_intros
    rcases hh with rfl | hh
    · refine w_eqSN (hm _ hx) ?_
      and_intros
      refine ⟨(fun z => nomatch z), fun _ => ?_⟩
      and_intros
      exact ⟨rfl, rfl⟩
    · obtain ⟨sz, rfl⟩ := menu_str (hm h hh)
      refine w_eqSS (hm _ hx) (hm _ hh) ?_
      and_intros
      refine ⟨fun q => ?_, fun q => ?_⟩
      · and_intros
        refine ⟨?_, rfl⟩
        show Dt.int 1 = Dt.int (if (sx == sz) = true then 1 else 0)
        rw [if_pos q]
      · and_intros
        refine ⟨?_, rfl⟩
        show Dt.int 0 = Dt.int (if (sx == sz) = true then 1 else 0)
        rw [q]; rfl
  · and_intros
    refine w_tupB (seq_lst get_last) ?_
    refine .inl ⟨_, rfl, ?_, List.prefix_append _ _⟩
    unfold wantL
    rw [List.map_map]
    rfl
/-! sums -/
theorem dot_sub : ∀ {ps ts us : List Int}, ts.length = us.length → dotI ps (subL ts us) = dotI ps ts - dotI ps us
  | [], _, _, _ => by simp [dotI]
  | _ :: _, [], [], _ => by simp [dotI, subL]
  | _ :: _, [], _ :: _, h => by cases h
  | _ :: _, _ :: _, [], h => by cases h
  | p :: ps, t :: ts, u :: us, h => by
    have ih := dot_sub (ps := ps) (ts := ts) (us := us) (Nat.succ.inj h)
    have e1 : dotI (p :: ps) (subL (t :: ts) (u :: us)) = p * (t - u) + dotI ps (subL ts us) := by simp [dotI, subL]
    have e2 : dotI (p :: ps) (t :: ts) = p * t + dotI ps ts := by simp [dotI]
    have e3 : dotI (p :: ps) (u :: us) = p * u + dotI ps us := by simp [dotI]
    rw [e1, e2, e3, ih, Int.mul_sub]
    omega
theorem dot_want0 : ∀ {ws : List Int} {hs : List Dt} {h : Dt}, (∀ x ∈ hs, wantB h x = false) → dotI ws (wantL hs h) = 0
  | [], _, _, _ => by simp [dotI]
  | _ :: _, [], _, _ => by simp [dotI, wantL]
  | w :: ws, x :: hs, h, hz => by
    have ih := dot_want0 (ws := ws) (hs := hs) (h := h) fun y hy => hz y (List.mem_cons_of_mem _ hy)
    have e1 : dotI (w :: ws) (wantL (x :: hs) h) = w * (if wantB h x = true then 1 else 0) + dotI ws (wantL hs h) := by simp [dotI, wantL]
    rw [e1, ih, hz x List.mem_cons_self]
    simp
theorem dot_want : ∀ {ws : List Int} {zs : List Str} {z : Str} {j : Nat}, zs.Nodup → zs[j]? = some z → ∀ {v : Int}, ws[j]? = some v → dotI ws (wantL (zs.map Dt.str) (.str z)) = v
  | [], _, _, _, _, _, _, hw => by simp at hw
  | _ :: _, [], _, _, _, hz, _, _ => by simp at hz
  | w :: ws, x :: zs, z, 0, hn, hz, v, hw => by
    simp at hz hw
    subst hz; subst hw
    have e1 : dotI (w :: ws) (wantL ((x :: zs).map Dt.str) (.str x)) = w * (if wantB (.str x) (.str x) = true then 1 else 0) + dotI ws (wantL (zs.map Dt.str) (.str x)) := by simp [dotI, wantL]
    rw [e1, dot_want0 (fun y hy => ?_)]
    · simp [wantB]
    · obtain ⟨y', hy', rfl⟩ := List.mem_map.mp hy
      have : x ∉ zs := (List.nodup_cons.mp hn).1
      show (y' == x) = false
      rw [beq_eq_false_iff_ne]
      exact fun e => this (e ▸ hy')
  | w :: ws, x :: zs, z, j + 1, hn, hz, v, hw => by
    simp at hz hw
    have ih := dot_want (List.nodup_cons.mp hn).2 hz hw
    have hx : x ∉ zs := (List.nodup_cons.mp hn).1
    have e1 : dotI (w :: ws) (wantL ((x :: zs).map Dt.str) (.str z)) = w * (if wantB (.str z) (.str x) = true then 1 else 0) + dotI ws (wantL (zs.map Dt.str) (.str z)) := by simp [dotI, wantL]
    have e2 : wantB (.str z) (.str x) = false := by
      show (x == z) = false
      rw [beq_eq_false_iff_ne]
      exact fun e => hx (e ▸ List.mem_of_getElem? hz)
    rw [e1, ih, e2]
    simp
end Lw

set_option Elab.async false
set_option linter.all false
set_option maxRecDepth 100000
set_option maxHeartbeats 4000000
namespace Mn
open PySem PySem.Spec PyProof.Rows L2
theorem pre_set {S S1 : Bxs} {n : Nat} {x : MBox} (p : S <+: S1) (h : S.length ≤ n) : S <+: S1.set n x := by
  obtain ⟨t, rfl⟩ := p
  rw [List.set_append_right _ _ h]
  exact List.prefix_append _ _
end Mn
namespace Lw
open PySem PySem.Spec PyProof.Rows L2 Mn
def intsD (a : List Dt) : List Int := (intsOf a).getD []
theorem intsD_map (is : List Int) : intsD (is.map Dt.int) = is := by unfold intsD; rw [intsOf_map]; rfl
def fairD (ps ws : List Int) (hs : List Dt) : Dt → Bool
  | .tup [.tup a, .tup b, h] => decide (dotI ps (intsD a) - dotI ps (intsD b) ≤ dotI ws (wantL hs h))
  | _ => true
theorem fairD_is {size : Nat} {hs : List Dt} {d : Dt} {ts us : List Int} {h : Dt} (R : Recipe size hs d ts us h) (ps ws : List Int) : fairD ps ws hs d = decide (dotI ps ts - dotI ps us ≤ dotI ws (wantL hs h)) := by
  rw [R.eq]
  show decide (dotI ps (intsD (ts.map Dt.int)) - dotI ps (intsD (us.map Dt.int)) ≤ _) = _
  rw [intsD_map, intsD_map]
theorem p_fair_for {S : Bxs} {w t d : Dt} {size : Nat} {ks hs rs : List Dt} {M : Int} {ps ws ts us : List Int} {h : Dt} (W : Works w size ks hs rs) (T : Tf t size hs.length M ps ws) (R : Recipe size hs d ts us h) :
    (F__is_fair_for [w, t, d] S).Wp (fun r S' => r = .bl (fairD ps ws hs d) ∧ S <+: S') noX := by
  rw [fairD_is R, W.eq, T.eq, R.eq]
  unfold F__is_fair_for
  refine w_body ?_
  unfold B__is_fair_for
  simp only [startD, List.map_cons, List.map_nil, List.length_cons, List.length_nil, List.cons_append, List.nil_append, Nat.reduceAdd, Nat.reduceSub, List.replicate, List.replicate_succ, List.replicate_zero]
  have s1 := W.s1
  have hl := W.hl
  and_intros
  refine (p_used (by rw [R.tl]; omega)).mono (fun d S1 ⟨e, p1⟩ => ?_) fun _ _ _ q => q
  subst e
  and_intros
  refine (p_worth (ps := ps) (qs := subL ts us) (by rw [T.pl]; omega) fun q hq => ?_).mono (fun d S2 ⟨e, p2⟩ => ?_) fun _ _ _ q => q
  · unfold subL at hq
    obtain ⟨⟨i, j⟩, hij, rfl⟩ := List.mem_map.mp hq
    have h1 := R.tb i (List.of_mem_zip hij).1
    have h2 := R.ub j (List.of_mem_zip hij).2
    show -(2 ^ 64 : Int) < i - j ∧ i - j < 2 ^ 64
    omega
  subst e
  and_intros
  refine (p_wanted (by omega) W.hm R.hh).mono (fun d S3 ⟨e, p3⟩ => ?_) fun _ _ _ q => q
  subst e
  and_intros
  refine (p_pay (ps := ws) (qs := wantL hs h) (by rw [T.wl]; omega) fun q hq => ?_).mono (fun d S4 ⟨e, p4⟩ => ?_) fun _ _ _ q => q
  · unfold wantL at hq
    obtain ⟨x, hx, rfl⟩ := List.mem_map.mp hq
    split <;> exact ⟨by decide, by decide⟩
  subst e
  and_intros
  refine .inl ⟨_, rfl, ?_, p1.trans (p2.trans (p3.trans p4))⟩
  rw [dot_sub (by rw [R.tl, R.ul])]
theorem p_is_fair {S : Bxs} {w t : Dt} {size : Nat} {ks hs rs : List Dt} {M : Int} {ps ws : List Int} (W : Works w size ks hs rs) (T : Tf t size hs.length M ps ws) :
    (F_is_fair [w, t] S).Wp (fun r S' => r = .bl (rs.all (fairD ps ws hs)) ∧ S <+: S') noX := by
  have We := W.eq
  unfold F_is_fair
  refine w_body ?_
  unfold B_is_fair
  simp only [startD, List.map_cons, List.map_nil, List.length_cons, List.length_nil, List.cons_append, List.nil_append, Nat.reduceAdd, Nat.reduceSub, List.replicate, List.replicate_succ, List.replicate_zero]
  subst We
  and_intros
  refine w_lc ?_
  and_intros
  have rl := W.rl
  refine ⟨fun i acc S' => acc = ((rs.take i).map (fairD ps ws hs)).map Dt.bl ∧ S <+: S', fun _ _ _ _ => rfl, fun i x acc S' hx hn ⟨e1, p1⟩ => ?_, ⟨by simp, List.prefix_append _ _⟩, fun acc S' hn ⟨e1, p1⟩ => ?_⟩
  · have hx : rs[i]? = some x := hx
    have hil := (List.getElem?_eq_some_iff.mp hx).1
    obtain ⟨ts, us, h, R⟩ := W.rr x (List.mem_of_getElem? hx)
    and_intros
    refine w_yes ?_
    refine ⟨fun _ => ?_, fun z => nomatch z⟩
    and_intros
    refine (p_fair_for W T R).mono (fun d S1 ⟨e, p2⟩ => ?_) fun _ _ _ q => q
    subst e
    refine ⟨get_pre p2 hn, ?_, ?_, pre_set (p1.trans p2) (Nat.le_refl _)⟩
    · rw [e1, List.length_map, List.length_map, List.length_take]; exact Nat.lt_of_le_of_lt (show min i rs.length ≤ 8 by omega) (by decide)
    · rw [e1, List.take_add_one, hx]; simp
  · have e1 : acc = ((rs.take rs.length).map (fairD ps ws hs)).map Dt.bl := e1
    rw [List.take_length] at e1
    and_intros
    refine w_allB (is := rs.map (fairD ps ws hs)) (by rw [seq_lst hn, e1]) ?_
    refine .inl ⟨_, rfl, ?_, p1⟩
    rw [List.all_map]
    rfl
theorem l_is_fair {S : Bxs} {w t : Dt} {size : Nat} {ks hs rs : List Dt} {M : Int} {ps ws : List Int} (W : Works w size ks hs rs) (T : Tf t size hs.length M ps ws) :
    (F__law_is_fair [w, t] S).Wp (fun r S' => r = .bl (rs.all (fairD ps ws hs)) ∧ S <+: S') noX := by
  have We := W.eq
  have Te := T.eq
  unfold F__law_is_fair
  refine w_body ?_
  unfold B__law_is_fair
  simp only [startD, List.map_cons, List.map_nil, List.length_cons, List.length_nil, List.cons_append, List.nil_append, Nat.reduceAdd, Nat.reduceSub, List.replicate, List.replicate_succ, List.replicate_zero]
  subst We
  subst Te
  and_intros
  have s1 := W.s1
  have pl := T.pl
  refine w_loop (fun i σ S' => ∃ d2 d3 d4 d5, σ = [some (.tup [.tup ks, .tup hs, .tup rs]), some (.tup [.tup (ps.map Dt.int), .tup (ws.map Dt.int)]), d2, d3, d4, d5] ∧ S <+: S' ∧ (rs.take i).all (fairD ps ws hs) = true) (fun _ _ _ _ => rfl) (fun i x σ S1 hx ⟨d2, d3, d4, d5, e, p1, ha⟩ => ?_) (fun σ S1 ⟨d2, d3, d4, d5, e, p1, ha⟩ => ?_) ⟨_, _, _, _, rfl, List.prefix_refl _, by simp⟩
  · subst e
    have hx : rs[i]? = some x := hx
    obtain ⟨ts, us, h, R⟩ := W.rr x (List.mem_of_getElem? hx)
    have fx := fairD_is R ps ws
    have all1 : (rs.take (i + 1)).all (fairD ps ws hs) = ((rs.take i).all (fairD ps ws hs) && fairD ps ws hs x) := by
      rw [List.take_add_one, hx]; simp
    have all2 : fairD ps ws hs x = false → rs.all (fairD ps ws hs) = false := fun hf => by
      cases q : rs.all (fairD ps ws hs) with
      | false => rfl
      | true =>
        have := List.all_eq_true.mp q x (List.mem_of_getElem? hx)
        rw [hf] at this; cases this
    rw [R.eq]
    have small : ∀ q ∈ ts, -(2 ^ 64 : Int) < q ∧ q < 2 ^ 64 := fun q hq => by have := R.tb q hq; omega
    have small2 : ∀ q ∈ us, -(2 ^ 64 : Int) < q ∧ q < 2 ^ 64 := fun q hq => by have := R.ub q hq; omega
    have tail : ∀ {v : Int} {S2 : Bxs}, v = dotI ws (wantL hs h) → S <+: S2 → (sIf (dTrue (dBin gtG (dCall F__law_worth (aCons (dBin ixG (dVar 1) (dC (.int 0))) (aCons (dVar 2) (aNil)))) (dBin addG (dCall F__law_worth (aCons (dBin ixG (dVar 1) (dC (.int 0))) (aCons (dVar 3) (aNil)))) (dVar 5)))) (sRet (dC (.bl false))) (sNil)
        [some (.tup [.tup ks, .tup hs, .tup rs]), some (.tup [.tup (ps.map Dt.int), .tup (ws.map Dt.int)]), some (.tup (ts.map Dt.int)), some (.tup (us.map Dt.int)), some h, some (.int v)] S2).Wp
        (fun r S2 => (r.1 = .nx ∧ ∃ d2 d3 d4 d5, r.2 = [some (.tup [.tup ks, .tup hs, .tup rs]), some (.tup [.tup (ps.map Dt.int), .tup (ws.map Dt.int)]), d2, d3, d4, d5] ∧ S <+: S2 ∧ (rs.take (i + 1)).all (fairD ps ws hs) = true) ∨ ∃ d, r.1 = .rt d ∧ d = .bl (rs.all (fairD ps ws hs)) ∧ S <+: S2) noX := fun {v S2} hv p2 => by
      and_intros
      refine (worth_ok (ps := ps) (qs := ts) rfl rfl (by omega) small (fun _ _ => rfl) (fun _ _ => rfl)).mono (fun d S3 ⟨ed, p3⟩ => ?_) fun _ _ _ q => q
      subst ed
      and_intros
      refine (worth_ok (ps := ps) (qs := us) rfl rfl (by omega) small2 (fun _ _ => rfl) (fun _ _ => rfl)).mono (fun d S4 ⟨ed, p4⟩ => ?_) fun _ _ _ q => q
      subst ed
      and_intros
      have p := p2.trans (p3.trans p4)
      refine ⟨fun hg => ?_, fun hg => ?_⟩
      · have hg : dotI ps us + v < dotI ps ts := by simpa using hg
        have hf : fairD ps ws hs x = false := by rw [fx, ← hv]; exact decide_eq_false (by omega)
        and_intros
        exact .inr ⟨_, rfl, by rw [all2 hf], p⟩
      · have hg : ¬ dotI ps us + v < dotI ps ts := by simpa using hg
        have hf : fairD ps ws hs x = true := by rw [fx, ← hv]; exact decide_eq_true (by omega)
        and_intros
        exact .inl ⟨rfl, _, _, _, _, rfl, p, by rw [all1, ha, hf]; rfl⟩
    have back : ∀ {r : Fl × Sg} {S2 : Bxs} {A : Dt → Prop}, ((r.1 = .nx ∧ ∃ d2 d3 d4 d5, r.2 = [some (.tup [.tup ks, .tup hs, .tup rs]), some (.tup [.tup (ps.map Dt.int), .tup (ws.map Dt.int)]), d2, d3, d4, d5] ∧ S <+: S2 ∧ (rs.take (i + 1)).all (fairD ps ws hs) = true) ∨ ∃ d, r.1 = .rt d ∧ d = .bl (rs.all (fairD ps ws hs)) ∧ S <+: S2) →
        ((r.1 = .nx ∧ ∃ d2 d3 d4 d5, r.2 = [some (.tup [.tup ks, .tup hs, .tup rs]), some (.tup [.tup (ps.map Dt.int), .tup (ws.map Dt.int)]), d2, d3, d4, d5] ∧ S <+: S2 ∧ (rs.take (i + 1)).all (fairD ps ws hs) = true) ∨ ∃ d, r.1 = .rt d ∧ (((Fl.rt d, r.2).1 = Fl.nx → A d) ∧ ((Fl.rt d, r.2).1 ≠ Fl.nx → (∃ d', (Fl.rt d, r.2).1 = .rt d' ∧ d' = .bl (rs.all (fairD ps ws hs)) ∧ S <+: S2) ∨ ((Fl.rt d, r.2).1 = .nx ∧ Dt.non = .bl (rs.all (fairD ps ws hs)) ∧ S <+: S2)))) := fun {r S2 A} q => by
      rcases q with q | ⟨d, e1, e2, q⟩
      · exact .inl q
      · exact .inr ⟨d, e1, c_rt (.inl ⟨d, rfl, e2, q⟩)⟩
    rcases R.hh with hh | hh
    · subst hh
      and_intros
      refine ⟨fun _ => ?_, fun z => nomatch z⟩
      refine w_c ?_
      refine c_nx ?_
      exact (tail (v := 0) (dot_want0 (fun x _ => by cases x <;> rfl)).symm p1).mono (fun r S2 q => back q) fun _ _ _ q => q
    · obtain ⟨z, rfl⟩ := menu_str (W.hm h hh)
      obtain ⟨zs, hzs⟩ := strs_of fun x hx => menu_str (W.hm x hx)
      have hz : z ∈ zs := by
        rw [hzs] at hh
        obtain ⟨y, hy, e⟩ := List.mem_map.mp hh
        cases e; exact hy
      obtain ⟨j, sj, zj, _⟩ := strAt_mem hz
      have hjl : j < ws.length := by
        have := (List.getElem?_eq_some_iff.mp zj).1
        rw [T.wl, hzs, List.length_map]; exact this
      have hws : ws[j]? = some ws[j] := List.getElem?_eq_getElem hjl
      have hnd : zs.Nodup := by
        have := W.hn
        rw [hzs] at this
        exact List.Pairwise.of_map Dt.str (fun a b h e => h (by rw [e])) this
      have hdot : ws[j] = dotI ws (wantL hs (.str z)) := by
        rw [hzs]; exact (dot_want hnd zj hws).symm
      and_intros
      refine ⟨(fun z => nomatch z), fun _ => ?_⟩
      and_intros
      refine ⟨rfl, ?_⟩
      and_intros
      rw [hzs]
      refine w_tindex sj ?_
      rw [← hzs]
      refine w_idxT (by omega) (by rw [List.length_map]; omega) fun d hd => ?_
      rw [Int.toNat_natCast, List.getElem?_map, hws] at hd
      cases hd
      refine c_nx ?_
      exact (tail (v := ws[j]) hdot p1).mono (fun r S2 q => back q) fun _ _ _ q => q
  · subst e
    have ha : (rs.take rs.length).all (fairD ps ws hs) = true := ha
    rw [List.take_length] at ha
    and_intros
    exact .inl ⟨_, rfl, by rw [ha], p1⟩
end Lw

set_option Elab.async false
set_option linter.all false
set_option maxRecDepth 100000
set_option maxHeartbeats 4000000
namespace K16
open PySem PySem.Spec PyProof.Rows L2 Mn
def topS (i : Nat) : Stmt := PySem.Challenge.pw_neverheaps_k16_worth_pay_and_fair.main.body.getD i (.Pass ⟨0, 0, 0, 0⟩)
abbrev s__law_bag : Stmt := topS 10
theorem sc__law_bag : FnScope ["script", "cell"] ["script"] (defScope s__law_bag) := ⟨rfl, rfl, rfl, by decide +kernel, rfl, by decide +kernel, by decide +kernel⟩
noncomputable abbrev F__law_bag : FN := Lw.F__law_bag
abbrev s__law_take : Stmt := topS 11
theorem sc__law_take : FnScope ["bag", "many", "cell", "stirred", "value", "begin", "second"] ["bag", "many"] (defScope s__law_take) := ⟨rfl, rfl, rfl, by decide +kernel, rfl, by decide +kernel, by decide +kernel⟩
noncomputable abbrev F__law_take : FN := Lw.F__law_take
abbrev s__law_one : Stmt := topS 12
theorem sc__law_one : FnScope ["bag", "things"] ["bag", "things"] (defScope s__law_one) := ⟨rfl, rfl, rfl, by decide +kernel, rfl, by decide +kernel, by decide +kernel⟩
noncomputable abbrev F__law_one : FN := Lw.F__law_one
abbrev s__law_mixed : Stmt := topS 13
theorem sc__law_mixed : FnScope ["bag", "things", "found", "thing"] ["bag", "things"] (defScope s__law_mixed) := ⟨rfl, rfl, rfl, by decide +kernel, rfl, by decide +kernel, by decide +kernel⟩
noncomputable abbrev F__law_mixed : FN := Lw.F__law_mixed
abbrev s__law_names : Stmt := topS 16
theorem sc__law_names : FnScope ["bag", "many", "menu"] ["bag", "many"] (defScope s__law_names) := ⟨rfl, rfl, rfl, by decide +kernel, rfl, by decide +kernel, by decide +kernel⟩
noncomputable abbrev F__law_names : FN := Lw.F__law_names
abbrev s__law_recipe : Stmt := topS 17
theorem sc__law_recipe : FnScope ["bag", "size", "hands", "most", "last", "menu", "takes", "puts", "place"] ["bag", "size", "hands", "most"] (defScope s__law_recipe) := ⟨rfl, rfl, rfl, by decide +kernel, rfl, by decide +kernel, by decide +kernel⟩
noncomputable abbrev F__law_recipe : FN := Lw.F__law_recipe
abbrev s__law_out : Stmt := topS 18
theorem sc__law_out : FnScope ["bag", "size", "place", "hands", "takes"] ["bag", "size", "place", "hands"] (defScope s__law_out) := ⟨rfl, rfl, rfl, by decide +kernel, rfl, by decide +kernel, by decide +kernel⟩
noncomputable abbrev F__law_out : FN := Lw.F__law_out
abbrev s__law_works : Stmt := topS 19
theorem sc__law_works : FnScope ["bag", "kinds", "hands", "recipes", "names", "size", "many", "crew", "found", "most", "turn", "place"] ["bag", "kinds", "hands", "recipes"] (defScope s__law_works) := ⟨rfl, rfl, rfl, by decide +kernel, rfl, by decide +kernel, by decide +kernel⟩
noncomputable abbrev F__law_works : FN := Lw.F__law_works
abbrev s__law_last_taken : Stmt := topS 22
theorem sc__law_last_taken : FnScope ["recipe", "place"] ["recipe"] (defScope s__law_last_taken) := ⟨rfl, rfl, rfl, by decide +kernel, rfl, by decide +kernel, by decide +kernel⟩
noncomputable abbrev F__law_last_taken : FN := Lw.F__law_last_taken
abbrev s__law_worth : Stmt := topS 20
theorem sc__law_worth : FnScope ["prices", "amounts", "price", "many"] ["prices", "amounts"] (defScope s__law_worth) := ⟨rfl, rfl, rfl, by decide +kernel, rfl, by decide +kernel, by decide +kernel⟩
noncomputable abbrev F__law_worth : FN := Lw.F__law_worth
abbrev s__law_fair_tariff : Stmt := topS 23
theorem sc__law_fair_tariff : FnScope ["bag", "works", "prices", "wages", "recipe", "need", "last", "at", "kind", "wage"] ["bag", "works"] (defScope s__law_fair_tariff) := ⟨rfl, rfl, rfl, by decide +kernel, rfl, by decide +kernel, by decide +kernel⟩
noncomputable abbrev F__law_fair_tariff : FN := Lw.F__law_fair_tariff
abbrev s__law_turned : Stmt := topS 24
theorem sc__law_turned : FnScope ["bag", "tariff", "prices", "wages", "at", "step"] ["bag", "tariff"] (defScope s__law_turned) := ⟨rfl, rfl, rfl, by decide +kernel, rfl, by decide +kernel, by decide +kernel⟩
noncomputable abbrev F__law_turned : FN := Lw.F__law_turned
abbrev s__law_times : Stmt := topS 15
theorem sc__law_times : FnScope ["amounts", "many", "number"] ["amounts", "many"] (defScope s__law_times) := ⟨rfl, rfl, rfl, by decide +kernel, rfl, by decide +kernel, by decide +kernel⟩
noncomputable abbrev F__law_times : FN := Lw.F__law_times
abbrev s_dot : Stmt := topS 1
theorem sc_dot : FnScope ["one", "other", "left", "right"] ["one", "other"] (defScope s_dot) := ⟨rfl, rfl, rfl, by decide +kernel, rfl, by decide +kernel, by decide +kernel⟩
noncomputable abbrev F_dot : FN := Lw.F_dot
abbrev s_worth : Stmt := topS 3
theorem sc_worth : FnScope ["tariff", "amounts"] ["tariff", "amounts"] (defScope s_worth) := ⟨rfl, rfl, rfl, by decide +kernel, rfl, by decide +kernel, by decide +kernel⟩
noncomputable abbrev F_worth : FN := Lw.F_worth
abbrev s_pay : Stmt := topS 4
theorem sc_pay : FnScope ["tariff", "crew"] ["tariff", "crew"] (defScope s_pay) := ⟨rfl, rfl, rfl, by decide +kernel, rfl, by decide +kernel, by decide +kernel⟩
noncomputable abbrev F_pay : FN := Lw.F_pay
abbrev s_used_up : Stmt := topS 5
theorem sc_used_up : FnScope ["recipe", "takes", "puts", "_", "taken", "put"] ["recipe"] (defScope s_used_up) := ⟨rfl, rfl, rfl, by decide +kernel, rfl, by decide +kernel, by decide +kernel⟩
noncomputable abbrev F_used_up : FN := Lw.F_used_up
abbrev s_wanted : Stmt := topS 6
theorem sc_wanted : FnScope ["works", "recipe", "hand"] ["works", "recipe"] (defScope s_wanted) := ⟨rfl, rfl, rfl, by decide +kernel, rfl, by decide +kernel, by decide +kernel⟩
noncomputable abbrev F_wanted : FN := Lw.F_wanted
abbrev s__is_fair_for : Stmt := topS 7
theorem sc__is_fair_for : FnScope ["works", "tariff", "recipe"] ["works", "tariff", "recipe"] (defScope s__is_fair_for) := ⟨rfl, rfl, rfl, by decide +kernel, rfl, by decide +kernel, by decide +kernel⟩
noncomputable abbrev F__is_fair_for : FN := Lw.F__is_fair_for
abbrev s_is_fair : Stmt := topS 8
theorem sc_is_fair : FnScope ["works", "tariff", "recipe"] ["works", "tariff"] (defScope s_is_fair) := ⟨rfl, rfl, rfl, by decide +kernel, rfl, by decide +kernel, by decide +kernel⟩
noncomputable abbrev F_is_fair : FN := Lw.F_is_fair
abbrev s__law_alike : Stmt := topS 14
theorem sc__law_alike : FnScope ["found", "due"] ["found", "due"] (defScope s__law_alike) := ⟨rfl, rfl, rfl, by decide +kernel, rfl, by decide +kernel, by decide +kernel⟩
noncomputable abbrev F__law_alike : FN := Lw.F__law_alike
abbrev s__law_is_fair : Stmt := topS 21
theorem sc__law_is_fair : FnScope ["works", "tariff", "takes", "puts", "hand", "wage"] ["works", "tariff"] (defScope s__law_is_fair) := ⟨rfl, rfl, rfl, by decide +kernel, rfl, by decide +kernel, by decide +kernel⟩
noncomputable abbrev F__law_is_fair : FN := Lw.F__law_is_fair
abbrev s_law : Stmt := topS 25
theorem sc_law : FnScope ["script", "bag", "turn", "works", "fair", "tariffs", "many", "tariff", "menu", "lot", "crew", "shown", "told", "kind", "hand"] ["script"] (defScope s_law) := ⟨rfl, rfl, rfl, by decide +kernel, rfl, by decide +kernel, by decide +kernel⟩
noncomputable abbrev F_law : FN := Lw.F_law
/-- what the top has written -/
structure Top (K : PySem.W.Frag) (mg : Str → Option Value) where
  f__law_bag : Addr
  fd__law_bag : FuncData
  fn__law_bag : Fun K "_law_bag" "_law_bag" s__law_bag f__law_bag fd__law_bag
  bn__law_bag : Binds K fd__law_bag ["script"] []
  g__law_bag : mg "_law_bag" = some (.ref f__law_bag)
  f__law_take : Addr
  fd__law_take : FuncData
  fn__law_take : Fun K "_law_take" "_law_take" s__law_take f__law_take fd__law_take
  bn__law_take : Binds K fd__law_take ["bag", "many"] []
  g__law_take : mg "_law_take" = some (.ref f__law_take)
  f__law_one : Addr
  fd__law_one : FuncData
  fn__law_one : Fun K "_law_one" "_law_one" s__law_one f__law_one fd__law_one
  bn__law_one : Binds K fd__law_one ["bag", "things"] []
  g__law_one : mg "_law_one" = some (.ref f__law_one)
  f__law_mixed : Addr
  fd__law_mixed : FuncData
  fn__law_mixed : Fun K "_law_mixed" "_law_mixed" s__law_mixed f__law_mixed fd__law_mixed
  bn__law_mixed : Binds K fd__law_mixed ["bag", "things"] []
  g__law_mixed : mg "_law_mixed" = some (.ref f__law_mixed)
  f__law_names : Addr
  fd__law_names : FuncData
  fn__law_names : Fun K "_law_names" "_law_names" s__law_names f__law_names fd__law_names
  bn__law_names : Binds K fd__law_names ["bag", "many"] []
  g__law_names : mg "_law_names" = some (.ref f__law_names)
  f__law_recipe : Addr
  fd__law_recipe : FuncData
  fn__law_recipe : Fun K "_law_recipe" "_law_recipe" s__law_recipe f__law_recipe fd__law_recipe
  bn__law_recipe : Binds K fd__law_recipe ["bag", "size", "hands", "most"] []
  g__law_recipe : mg "_law_recipe" = some (.ref f__law_recipe)
  f__law_out : Addr
  fd__law_out : FuncData
  fn__law_out : Fun K "_law_out" "_law_out" s__law_out f__law_out fd__law_out
  bn__law_out : Binds K fd__law_out ["bag", "size", "place", "hands"] []
  g__law_out : mg "_law_out" = some (.ref f__law_out)
  f__law_works : Addr
  fd__law_works : FuncData
  fn__law_works : Fun K "_law_works" "_law_works" s__law_works f__law_works fd__law_works
  bn__law_works : Binds K fd__law_works ["bag", "kinds", "hands", "recipes"] []
  g__law_works : mg "_law_works" = some (.ref f__law_works)
  f__law_last_taken : Addr
  fd__law_last_taken : FuncData
  fn__law_last_taken : Fun K "_law_last_taken" "_law_last_taken" s__law_last_taken f__law_last_taken fd__law_last_taken
  bn__law_last_taken : Binds K fd__law_last_taken ["recipe"] []
  g__law_last_taken : mg "_law_last_taken" = some (.ref f__law_last_taken)
  f__law_worth : Addr
  fd__law_worth : FuncData
  fn__law_worth : Fun K "_law_worth" "_law_worth" s__law_worth f__law_worth fd__law_worth
  bn__law_worth : Binds K fd__law_worth ["prices", "amounts"] []
  g__law_worth : mg "_law_worth" = some (.ref f__law_worth)
  f__law_fair_tariff : Addr
  fd__law_fair_tariff : FuncData
  fn__law_fair_tariff : Fun K "_law_fair_tariff" "_law_fair_tariff" s__law_fair_tariff f__law_fair_tariff fd__law_fair_tariff
  bn__law_fair_tariff : Binds K fd__law_fair_tariff ["bag", "works"] []
  g__law_fair_tariff : mg "_law_fair_tariff" = some (.ref f__law_fair_tariff)
  f__law_turned : Addr
  fd__law_turned : FuncData
  fn__law_turned : Fun K "_law_turned" "_law_turned" s__law_turned f__law_turned fd__law_turned
  bn__law_turned : Binds K fd__law_turned ["bag", "tariff"] []
  g__law_turned : mg "_law_turned" = some (.ref f__law_turned)
  f__law_times : Addr
  fd__law_times : FuncData
  fn__law_times : Fun K "_law_times" "_law_times" s__law_times f__law_times fd__law_times
  bn__law_times : Binds K fd__law_times ["amounts", "many"] []
  g__law_times : mg "_law_times" = some (.ref f__law_times)
  f_dot : Addr
  fd_dot : FuncData
  fn_dot : Fun K "dot" "dot" s_dot f_dot fd_dot
  bn_dot : Binds K fd_dot ["one", "other"] []
  g_dot : mg "dot" = some (.ref f_dot)
  f_worth : Addr
  fd_worth : FuncData
  fn_worth : Fun K "worth" "worth" s_worth f_worth fd_worth
  bn_worth : Binds K fd_worth ["tariff", "amounts"] []
  g_worth : mg "worth" = some (.ref f_worth)
  f_pay : Addr
  fd_pay : FuncData
  fn_pay : Fun K "pay" "pay" s_pay f_pay fd_pay
  bn_pay : Binds K fd_pay ["tariff", "crew"] []
  g_pay : mg "pay" = some (.ref f_pay)
  f_used_up : Addr
  fd_used_up : FuncData
  fn_used_up : Fun K "used_up" "used_up" s_used_up f_used_up fd_used_up
  bn_used_up : Binds K fd_used_up ["recipe"] []
  g_used_up : mg "used_up" = some (.ref f_used_up)
  f_wanted : Addr
  fd_wanted : FuncData
  fn_wanted : Fun K "wanted" "wanted" s_wanted f_wanted fd_wanted
  bn_wanted : Binds K fd_wanted ["works", "recipe"] []
  g_wanted : mg "wanted" = some (.ref f_wanted)
  f__is_fair_for : Addr
  fd__is_fair_for : FuncData
  fn__is_fair_for : Fun K "_is_fair_for" "_is_fair_for" s__is_fair_for f__is_fair_for fd__is_fair_for
  bn__is_fair_for : Binds K fd__is_fair_for ["works", "tariff", "recipe"] []
  g__is_fair_for : mg "_is_fair_for" = some (.ref f__is_fair_for)
  f_is_fair : Addr
  fd_is_fair : FuncData
  fn_is_fair : Fun K "is_fair" "is_fair" s_is_fair f_is_fair fd_is_fair
  bn_is_fair : Binds K fd_is_fair ["works", "tariff"] []
  g_is_fair : mg "is_fair" = some (.ref f_is_fair)
  f__law_alike : Addr
  fd__law_alike : FuncData
  fn__law_alike : Fun K "_law_alike" "_law_alike" s__law_alike f__law_alike fd__law_alike
  bn__law_alike : Binds K fd__law_alike ["found", "due"] []
  g__law_alike : mg "_law_alike" = some (.ref f__law_alike)
  f__law_is_fair : Addr
  fd__law_is_fair : FuncData
  fn__law_is_fair : Fun K "_law_is_fair" "_law_is_fair" s__law_is_fair f__law_is_fair fd__law_is_fair
  bn__law_is_fair : Binds K fd__law_is_fair ["works", "tariff"] []
  g__law_is_fair : mg "_law_is_fair" = some (.ref f__law_is_fair)
  f_law : Addr
  fd_law : FuncData
  fn_law : Fun K "law" "law" s_law f_law fd_law
  bn_law : Binds K fd_law ["script"] []
  g_law : mg "law" = some (.ref f_law)
  bl_law : ∀ s u, BindsTo s fd_law ⟨[u], []⟩ [("script", u)]
  m_abs : mg "abs" = none
  m_all : mg "all" = none
  m_int : mg "int" = none
  m_len : mg "len" = none
  m_list : mg "list" = none
  m_max : mg "max" = none
  m_range : mg "range" = none
  m_repr : mg "repr" = none
  m_sorted : mg "sorted" = none
  m_sum : mg "sum" = none
  m_tuple : mg "tuple" = none
  m_zip : mg "zip" = none
abbrev eo0 : XK → ER := fun _ => noEr
section
variable {P : Program} {w : World} {K : PySem.W.Frag} {mg : Str → Option Value} {base : Heap}
theorem dv__law_bag (T : Top K mg) : FnD P w K mg base CX0 eo0 1 T.f__law_bag T.fd__law_bag ["script"] F__law_bag :=
  fnD_of T.fn__law_bag sc__law_bag fun cdv A outer s H E hr hg => SSs.nox (
    ss_one (ss_ret (se_lst (sa_cons (se_int) (sa_cons (se_int) (sa_cons (se_int) (sa_cons (se_lc [("cell", 1)] rfl sc__law_bag.nd (si_seq (se_slice (se_var 0) (so_none) (so_some (se_int)))) (blkOk_by (by kernel_rfl)) (fun _ _ _ _ _ => svi_one (sv_name 1 sc__law_bag.nd)) (fun _ _ _ _ _ => sts_nil) (fun _ _ _ _ _ => se_callB call_abs rc_abs absG_calm (by rfl) T.m_abs (by decide +kernel) (sa_cons (se_var 1) (sa_nil)))) (sa_nil))))))))
theorem dv__law_take (T : Top K mg) : FnD P w K mg base CX0 eo0 1 T.f__law_take T.fd__law_take ["bag", "many"] F__law_take :=
  fnD_of T.fn__law_take sc__law_take fun cdv A outer s H E hr hg => SSs.nox (
    ss_cons (ss_if (st_cmp (op_eqN (u128 hr)) ro_eq (eqG_calm false) (se_ix (u128 hr) (se_var 0) (se_int)) (se_int)) (ss_cons (ss_set 2 sc__law_take.nd (se_ix (u128 hr) (se_bin op_addA ro_add addG_calm (se_slice (se_ix (u128 hr) (se_var 0) (se_int)) (so_some (se_ix (u128 hr) (se_var 0) (se_int))) (so_none)) (se_lst (sa_cons (se_int) (sa_nil)))) (se_int))) (ss_cons (ss_augS (u128 hr) ip_addI ro_addI addI_calm (se_var 0) (se_int) (se_int)) (ss_cons (ss_if (st_cmp op_ge ro_cmp (cmpG_calm _) (se_var 2) (se_bin op_pow ro_pow powG_calm (se_int) (se_int))) (ss_one (ss_asg (se_var 2) (sg_sub (u128 hr) (se_var 0) (se_int)))) (ss_nil)) (ss_cons (ss_set 3 sc__law_take.nd (se_bin op_addA ro_add addG_calm (se_bin op_addA ro_add addG_calm (se_bin op_mulA ro_mul mulG_calm (se_ix (u128 hr) (se_var 0) (se_int)) (se_int)) (se_bin op_mod ro_mod modG_calm (se_callTy call_int1 rc_int intG_calm (by rfl) T.m_int (by decide +kernel) (sa_cons (se_var 2) (sa_nil))) (se_int))) (se_bin op_mulA ro_mul mulG_calm (se_int) (se_ix (u128 hr) (se_var 0) (se_int))))) (ss_one (ss_asg (se_bin op_mod ro_mod modG_calm (se_callTy call_int1 rc_int intG_calm (by rfl) T.m_int (by decide +kernel) (sa_cons (se_var 3) (sa_nil))) (se_int)) (sg_sub (u128 hr) (se_var 0) (se_int)))))))) (ss_nil)) (ss_cons (ss_if (st_cmp op_gt ro_cmp (cmpG_calm _) (se_ix (u128 hr) (se_var 0) (se_int)) (se_int)) (ss_cons (ss_set 4 sc__law_take.nd (se_bin op_mod ro_mod modG_calm (se_callTy call_int1 rc_int intG_calm (by rfl) T.m_int (by decide +kernel) (sa_cons (se_ix (u128 hr) (se_var 0) (se_int)) (sa_nil))) (se_var 1))) (ss_cons (ss_asg (se_bin op_fdivW ro_fdiv fdivG_calm (se_callTy call_int1 rc_int intG_calm (by rfl) T.m_int (by decide +kernel) (sa_cons (se_ix (u128 hr) (se_var 0) (se_int)) (sa_nil))) (se_var 1)) (sg_sub (u128 hr) (se_var 0) (se_int))) (ss_one (ss_ret (se_var 4))))) (ss_nil)) (ss_cons (ss_set 5 sc__law_take.nd (se_bin op_mod ro_mod modG_calm (se_callTy call_int1 rc_int intG_calm (by rfl) T.m_int (by decide +kernel) (sa_cons (se_bin op_mulA ro_mul mulG_calm (se_bin op_addA ro_add addG_calm (se_ix (u128 hr) (se_var 0) (se_int)) (se_int)) (se_int)) (sa_nil))) (se_int))) (ss_cons (ss_set 6 sc__law_take.nd (se_bin op_mod ro_mod modG_calm (se_callTy call_int1 rc_int intG_calm (by rfl) T.m_int (by decide +kernel) (sa_cons (se_bin op_mulA ro_mul mulG_calm (se_bin op_mod ro_mod modG_calm (se_callTy call_int1 rc_int intG_calm (by rfl) T.m_int (by decide +kernel) (sa_cons (se_bin op_mulA ro_mul mulG_calm (se_var 5) (se_var 5)) (sa_nil))) (se_int)) (se_int)) (sa_nil))) (se_int))) (ss_one (ss_ret (se_bin op_mod ro_mod modG_calm (se_callTy call_int1 rc_int intG_calm (by rfl) T.m_int (by decide +kernel) (sa_cons (se_bin op_fdivW ro_fdiv fdivG_calm (se_var 6) (se_int)) (sa_nil))) (se_var 1))))))))
theorem dv__law_one (T : Top K mg) : FnD P w K mg base CX0 eo0 2 T.f__law_one T.fd__law_one ["bag", "things"] F__law_one :=
  fnD_of T.fn__law_one sc__law_one fun cdv A outer s H E hr hg => SSs.nox (
    ss_one (ss_ret (se_ix (u128 hr) (se_var 1) (se_call 2 (dv__law_take T) hg (hr.mono (by decide)) (by rfl) T.g__law_take T.fn__law_take.kp T.bn__law_take pass0 (fun _ _ _ _ _ h => h) (sa_cons (se_var 0) (sa_cons (se_callB call_len rc_len lenG_calm (by rfl) T.m_len (by decide +kernel) (sa_cons (se_var 1) (sa_nil))) (sa_nil))) (len_cons (len_cons len_nil)) rfl))))
theorem dv__law_mixed (T : Top K mg) : FnD P w K mg base CX0 eo0 2 T.f__law_mixed T.fd__law_mixed ["bag", "things"] F__law_mixed :=
  fnD_of T.fn__law_mixed sc__law_mixed fun cdv A outer s H E hr hg => SSs.nox (
    ss_cons (ss_set 2 sc__law_mixed.nd (se_lst (sa_nil))) (ss_cons (ss_for PassesOwn.never rfl (si_seq (se_var 1)) (sgi_one (sg_name 3 sc__law_mixed.nd)) (ss_one (ss_expr (se_meth PySem.F.plainAttrs_list PySem.F.slot_list_insert PySem.F.type_list_insert mt_insert rm_insert insertG_calm (se_var 2) (sa_cons (se_call 2 (dv__law_take T) hg (hr.mono (by decide)) (by rfl) T.g__law_take T.fn__law_take.kp T.bn__law_take pass0 (fun _ _ _ _ _ h => h) (sa_cons (se_var 0) (sa_cons (se_bin op_addA ro_add addG_calm (se_callB call_len rc_len lenG_calm (by rfl) T.m_len (by decide +kernel) (sa_cons (se_var 2) (sa_nil))) (se_int)) (sa_nil))) (len_cons (len_cons len_nil)) rfl) (sa_cons (se_var 3) (sa_nil))))))) (ss_one (ss_ret (se_var 2)))))
theorem dv__law_names (T : Top K mg) : FnD P w K mg base CX0 eo0 3 T.f__law_names T.fd__law_names ["bag", "many"] F__law_names :=
  fnD_of T.fn__law_names sc__law_names fun cdv A outer s H E hr hg => SSs.nox (
    ss_cons (ss_set 2 sc__law_names.nd (se_lst (sa_cons (se_str) (sa_cons (se_str) (sa_cons (se_str) (sa_cons (se_str) (sa_cons (se_str) (sa_cons (se_str) (sa_cons (se_str) (sa_cons (se_str) (sa_cons (se_str) (sa_cons (se_str) (sa_cons (se_str) (sa_cons (se_str) (sa_cons (se_str) (sa_nil)))))))))))))))) (ss_one (ss_ret (se_slice (se_call 2 (dv__law_mixed T) hg (hr.mono (by decide)) (by rfl) T.g__law_mixed T.fn__law_mixed.kp T.bn__law_mixed pass0 (fun _ _ _ _ _ h => h) (sa_cons (se_var 0) (sa_cons (se_bin op_addA ro_add addG_calm (se_var 2) (se_lst (sa_cons (se_str) (sa_cons (se_str) (sa_cons (se_str) (sa_cons (se_str) (sa_cons (se_str) (sa_cons (se_str) (sa_nil))))))))) (sa_nil))) (len_cons (len_cons len_nil)) rfl) (so_none) (so_some (se_var 1))))))
theorem dv__law_recipe (T : Top K mg) : FnD P w K mg base CX0 eo0 3 T.f__law_recipe T.fd__law_recipe ["bag", "size", "hands", "most"] F__law_recipe :=
  fnD_of T.fn__law_recipe sc__law_recipe fun cdv A outer s H E hr hg => SSs.nox (
    ss_cons (ss_set 4 sc__law_recipe.nd (se_call 2 (dv__law_take T) hg (hr.mono (by decide)) (by rfl) T.g__law_take T.fn__law_take.kp T.bn__law_take pass0 (fun _ _ _ _ _ h => h) (sa_cons (se_var 0) (sa_cons (se_var 1) (sa_nil))) (len_cons (len_cons len_nil)) rfl)) (ss_cons (ss_par3 5 6 7 rfl sc__law_recipe.nd (sa_cons (se_lst (sa_cons (se_int) (sa_cons (se_int) (sa_cons (se_int) (sa_cons (se_bin op_addA ro_add addG_calm (se_int) (se_call 2 (dv__law_take T) hg (hr.mono (by decide)) (by rfl) T.g__law_take T.fn__law_take.kp T.bn__law_take pass0 (fun _ _ _ _ _ h => h) (sa_cons (se_var 0) (sa_cons (se_var 3) (sa_nil))) (len_cons (len_cons len_nil)) rfl)) (sa_nil)))))) (sa_cons (se_bin op_mulA ro_mul mulG_calm (se_lst (sa_cons (se_int) (sa_nil))) (se_var 1)) (sa_cons (se_bin op_mulA ro_mul mulG_calm (se_lst (sa_cons (se_int) (sa_nil))) (se_var 1)) (sa_nil))))) (ss_cons (ss_for PassesOwn.never rfl (si_r1 (by rfl) T.m_range (sa_cons (se_var 1) (sa_nil))) (sgi_one (sg_name 8 sc__law_recipe.nd)) (ss_one (ss_if (st_cmp op_lt ro_cmp (cmpG_calm _) (se_var 8) (se_var 4)) (ss_one (ss_asg (se_call 2 (dv__law_one T) hg (hr.mono (by decide)) (by rfl) T.g__law_one T.fn__law_one.kp T.bn__law_one pass0 (fun _ _ _ _ _ h => h) (sa_cons (se_var 0) (sa_cons (se_var 5) (sa_nil))) (len_cons (len_cons len_nil)) rfl) (sg_sub (u128 hr) (se_var 6) (se_var 8)))) (ss_one (ss_if (SW.st (sw_and (st_cmp op_gt ro_cmp (cmpG_calm _) (se_var 8) (se_var 4)) (sw_and1 (st_cmp (op_eqN (u128 hr)) ro_eq (eqG_calm false) (se_call 2 (dv__law_take T) hg (hr.mono (by decide)) (by rfl) T.g__law_take T.fn__law_take.kp T.bn__law_take pass0 (fun _ _ _ _ _ h => h) (sa_cons (se_var 0) (sa_cons (se_int) (sa_nil))) (len_cons (len_cons len_nil)) rfl) (se_int))))) (ss_one (ss_asg (se_call 2 (dv__law_one T) hg (hr.mono (by decide)) (by rfl) T.g__law_one T.fn__law_one.kp T.bn__law_one pass0 (fun _ _ _ _ _ h => h) (sa_cons (se_var 0) (sa_cons (se_var 5) (sa_nil))) (len_cons (len_cons len_nil)) rfl) (sg_sub (u128 hr) (se_var 7) (se_var 8)))) (ss_nil)))))) (ss_cons (ss_asg (se_call 2 (dv__law_one T) hg (hr.mono (by decide)) (by rfl) T.g__law_one T.fn__law_one.kp T.bn__law_one pass0 (fun _ _ _ _ _ h => h) (sa_cons (se_var 0) (sa_cons (se_lst (sa_cons (se_int) (sa_cons (se_int) (sa_cons (se_int) (sa_cons (se_int) (sa_cons (se_bin op_addA ro_add addG_calm (se_int) (se_call 2 (dv__law_take T) hg (hr.mono (by decide)) (by rfl) T.g__law_take T.fn__law_take.kp T.bn__law_take pass0 (fun _ _ _ _ _ h => h) (sa_cons (se_var 0) (sa_cons (se_var 3) (sa_nil))) (len_cons (len_cons len_nil)) rfl)) (sa_nil))))))) (sa_nil))) (len_cons (len_cons len_nil)) rfl) (sg_sub (u128 hr) (se_var 6) (se_var 4))) (ss_one (ss_ret (se_tup (sa_cons (se_callTy call_tupleZ rc_tuple tupleG_calm (by rfl) T.m_tuple (by decide +kernel) (sa_cons (se_var 6) (sa_nil))) (sa_cons (se_callTy call_tupleZ rc_tuple tupleG_calm (by rfl) T.m_tuple (by decide +kernel) (sa_cons (se_var 7) (sa_nil))) (sa_cons (se_call 2 (dv__law_one T) hg (hr.mono (by decide)) (by rfl) T.g__law_one T.fn__law_one.kp T.bn__law_one pass0 (fun _ _ _ _ _ h => h) (sa_cons (se_var 0) (sa_cons (se_bin op_addA ro_add addG_calm (se_bin op_mulA ro_mul mulG_calm (se_callTy call_list_of rc_list listG_calm (by rfl) T.m_list (by decide +kernel) (sa_cons (se_var 2) (sa_nil))) (se_int)) (se_lst (sa_cons (se_non) (sa_nil)))) (sa_nil))) (len_cons (len_cons len_nil)) rfl) (sa_nil)))))))))))
theorem dv__law_out (T : Top K mg) : FnD P w K mg base CX0 eo0 3 T.f__law_out T.fd__law_out ["bag", "size", "place", "hands"] F__law_out :=
  fnD_of T.fn__law_out sc__law_out fun cdv A outer s H E hr hg => SSs.nox (
    ss_cons (ss_set 4 sc__law_out.nd (se_bin op_mulA ro_mul mulG_calm (se_lst (sa_cons (se_int) (sa_nil))) (se_var 1))) (ss_cons (ss_asg (se_int) (sg_sub (u128 hr) (se_var 4) (se_var 2))) (ss_one (ss_ret (se_tup (sa_cons (se_callTy call_tupleZ rc_tuple tupleG_calm (by rfl) T.m_tuple (by decide +kernel) (sa_cons (se_var 4) (sa_nil))) (sa_cons (se_bin op_mulA ro_mul mulG_calm (se_tup (sa_cons (se_int) (sa_nil))) (se_var 1)) (sa_cons (se_call 2 (dv__law_one T) hg (hr.mono (by decide)) (by rfl) T.g__law_one T.fn__law_one.kp T.bn__law_one pass0 (fun _ _ _ _ _ h => h) (sa_cons (se_var 0) (sa_cons (se_bin op_addA ro_add addG_calm (se_bin op_mulA ro_mul mulG_calm (se_callTy call_list_of rc_list listG_calm (by rfl) T.m_list (by decide +kernel) (sa_cons (se_var 3) (sa_nil))) (se_int)) (se_lst (sa_cons (se_non) (sa_nil)))) (sa_nil))) (len_cons (len_cons len_nil)) rfl) (sa_nil)))))))))
theorem dv__law_works (T : Top K mg) : FnD P w K mg base CX0 eo0 4 T.f__law_works T.fd__law_works ["bag", "kinds", "hands", "recipes"] F__law_works :=
  fnD_of T.fn__law_works sc__law_works fun cdv A outer s H E hr hg => SSs.nox (
    ss_cons (ss_par3 4 5 6 rfl sc__law_works.nd (sa_cons (se_call 2 (dv__law_names T) hg (hr.mono (by decide)) (by rfl) T.g__law_names T.fn__law_names.kp T.bn__law_names pass0 (fun _ _ _ _ _ h => h) (sa_cons (se_var 0) (sa_cons (se_int) (sa_nil))) (len_cons (len_cons len_nil)) rfl) (sa_cons (se_bin op_addA ro_add addG_calm (se_int) (se_call 2 (dv__law_take T) hg (hr.mono (by decide)) (by rfl) T.g__law_take T.fn__law_take.kp T.bn__law_take pass0 (fun _ _ _ _ _ h => h) (sa_cons (se_var 0) (sa_cons (se_var 1) (sa_nil))) (len_cons (len_cons len_nil)) rfl)) (sa_cons (se_call 2 (dv__law_take T) hg (hr.mono (by decide)) (by rfl) T.g__law_take T.fn__law_take.kp T.bn__law_take pass0 (fun _ _ _ _ _ h => h) (sa_cons (se_var 0) (sa_cons (se_bin op_addA ro_add addG_calm (se_var 2) (se_int)) (sa_nil))) (len_cons (len_cons len_nil)) rfl) (sa_nil))))) (ss_cons (ss_par2 7 8 rfl sc__law_works.nd (sa_cons (se_callTy call_tupleZ rc_tuple tupleG_calm (by rfl) T.m_tuple (by decide +kernel) (sa_cons (se_slice (se_var 4) (so_some (se_var 5)) (so_some (se_bin op_addA ro_add addG_calm (se_var 5) (se_var 6)))) (sa_nil))) (sa_cons (se_lst (sa_nil)) (sa_nil)))) (ss_cons (ss_set 9 sc__law_works.nd (se_call 2 (dv__law_one T) hg (hr.mono (by decide)) (by rfl) T.g__law_one T.fn__law_one.kp T.bn__law_one pass0 (fun _ _ _ _ _ h => h) (sa_cons (se_var 0) (sa_cons (se_lst (sa_cons (se_int) (sa_cons (se_int) (sa_cons (se_int) (sa_cons (se_int) (sa_nil)))))) (sa_nil))) (len_cons (len_cons len_nil)) rfl)) (ss_cons (ss_for PassesOwn.never rfl (si_r1 (by rfl) T.m_range (sa_cons (se_call 2 (dv__law_take T) hg (hr.mono (by decide)) (by rfl) T.g__law_take T.fn__law_take.kp T.bn__law_take pass0 (fun _ _ _ _ _ h => h) (sa_cons (se_var 0) (sa_cons (se_bin op_addA ro_add addG_calm (se_var 3) (se_int)) (sa_nil))) (len_cons (len_cons len_nil)) rfl) (sa_nil))) (sgi_one (sg_name 10 sc__law_works.nd)) (ss_one (ss_expr (se_meth PySem.F.plainAttrs_list PySem.F.slot_list_append PySem.F.type_list_append mt_append rm_append appendG_calm (se_var 8) (sa_cons (se_call 4 (dv__law_recipe T) hg (hr.mono (by decide)) (by rfl) T.g__law_recipe T.fn__law_recipe.kp T.bn__law_recipe pass0 (fun _ _ _ _ _ h => h) (sa_cons (se_var 0) (sa_cons (se_var 5) (sa_cons (se_var 7) (sa_cons (se_var 9) (sa_nil))))) (len_cons (len_cons (len_cons (len_cons len_nil)))) rfl) (sa_nil)))))) (ss_cons (ss_for PassesOwn.never rfl (si_r1 (by rfl) T.m_range (sa_cons (se_var 5) (sa_nil))) (sgi_one (sg_name 11 sc__law_works.nd)) (ss_one (ss_if (st_cmp op_gt ro_cmp (cmpG_calm _) (se_call 2 (dv__law_take T) hg (hr.mono (by decide)) (by rfl) T.g__law_take T.fn__law_take.kp T.bn__law_take pass0 (fun _ _ _ _ _ h => h) (sa_cons (se_var 0) (sa_cons (se_int) (sa_nil))) (len_cons (len_cons len_nil)) rfl) (se_int)) (ss_one (ss_expr (se_meth PySem.F.plainAttrs_list PySem.F.slot_list_append PySem.F.type_list_append mt_append rm_append appendG_calm (se_var 8) (sa_cons (se_call 4 (dv__law_out T) hg (hr.mono (by decide)) (by rfl) T.g__law_out T.fn__law_out.kp T.bn__law_out pass0 (fun _ _ _ _ _ h => h) (sa_cons (se_var 0) (sa_cons (se_var 5) (sa_cons (se_var 11) (sa_cons (se_var 7) (sa_nil))))) (len_cons (len_cons (len_cons (len_cons len_nil)))) rfl) (sa_nil))))) (ss_nil)))) (ss_cons (ss_if (SW.st (sw_and (st_cmp (op_neN (u128 hr)) ro_eq (eqG_calm true) (se_var 8) (se_lst (sa_nil))) (sw_and1 (st_cmp (op_eqN (u128 hr)) ro_eq (eqG_calm false) (se_call 2 (dv__law_take T) hg (hr.mono (by decide)) (by rfl) T.g__law_take T.fn__law_take.kp T.bn__law_take pass0 (fun _ _ _ _ _ h => h) (sa_cons (se_var 0) (sa_cons (se_int) (sa_nil))) (len_cons (len_cons len_nil)) rfl) (se_int))))) (ss_one (ss_expr (se_meth PySem.F.plainAttrs_list PySem.F.slot_list_append PySem.F.type_list_append mt_append rm_append appendG_calm (se_var 8) (sa_cons (se_call 2 (dv__law_one T) hg (hr.mono (by decide)) (by rfl) T.g__law_one T.fn__law_one.kp T.bn__law_one pass0 (fun _ _ _ _ _ h => h) (sa_cons (se_var 0) (sa_cons (se_var 8) (sa_nil))) (len_cons (len_cons len_nil)) rfl) (sa_nil))))) (ss_nil)) (ss_one (ss_ret (se_tup (sa_cons (se_callTy call_tupleZ rc_tuple tupleG_calm (by rfl) T.m_tuple (by decide +kernel) (sa_cons (se_slice (se_var 4) (so_none) (so_some (se_var 5))) (sa_nil))) (sa_cons (se_var 7) (sa_cons (se_callTy call_tupleZ rc_tuple tupleG_calm (by rfl) T.m_tuple (by decide +kernel) (sa_cons (se_slice (se_call 2 (dv__law_mixed T) hg (hr.mono (by decide)) (by rfl) T.g__law_mixed T.fn__law_mixed.kp T.bn__law_mixed pass0 (fun _ _ _ _ _ h => h) (sa_cons (se_var 0) (sa_cons (se_var 8) (sa_nil))) (len_cons (len_cons len_nil)) rfl) (so_none) (so_some (se_var 3))) (sa_nil))) (sa_nil)))))))))))))
theorem dv__law_last_taken (T : Top K mg) : FnD P w K mg base CX0 eo0 1 T.f__law_last_taken T.fd__law_last_taken ["recipe"] F__law_last_taken :=
  fnD_of T.fn__law_last_taken sc__law_last_taken fun cdv A outer s H E hr hg => SSs.nox (
    ss_one (ss_ret (se_callB (call_maxA rfl) rc_max maxG_calm (by rfl) T.m_max (by decide +kernel) (sa_cons (se_lc [("place", 1)] rfl sc__law_last_taken.nd (si_r1 (by rfl) T.m_range (sa_cons (se_callB call_len rc_len lenG_calm (by rfl) T.m_len (by decide +kernel) (sa_cons (se_ix (u128 hr) (se_var 0) (se_int)) (sa_nil))) (sa_nil))) (blkOk_by (by kernel_rfl)) (fun _ _ _ _ _ => svi_one (sv_name 1 sc__law_last_taken.nd)) (fun _ _ _ _ _ => sts_one (st_cmp op_gt ro_cmp (cmpG_calm _) (se_ix (u128 hr) (se_ix (u128 hr) (se_var 0) (se_int)) (se_var 1)) (se_int))) (fun _ _ _ _ _ => se_var 1)) (sa_nil)))))
theorem dv__law_worth (T : Top K mg) : FnD P w K mg base CX0 eo0 1 T.f__law_worth T.fd__law_worth ["prices", "amounts"] F__law_worth :=
  fnD_of T.fn__law_worth sc__law_worth fun cdv A outer s H E hr hg => SSs.nox (
    ss_one (ss_ret (se_callB (cr_sum rfl) rc_sum sumG_calm (by rfl) T.m_sum (by decide +kernel) (sa_cons (se_lc [("price", 2), ("many", 3)] rfl sc__law_worth.nd (si_zip (by rfl) T.m_zip (sa_cons (se_var 0) (sa_cons (se_var 1) (sa_nil)))) (blkOk_by (by kernel_rfl)) (fun _ _ _ _ _ => svi_pair rfl (svs_cons (sv_name 2 sc__law_worth.nd) (svs_cons (sv_name 3 sc__law_worth.nd) (svs_nil)))) (fun _ _ _ _ _ => sts_nil) (fun _ _ _ _ _ => se_bin op_mulA ro_mul mulG_calm (se_var 2) (se_var 3))) (sa_nil)))))
theorem dv__law_fair_tariff (T : Top K mg) : FnD P w K mg base CX0 eo0 3 T.f__law_fair_tariff T.fd__law_fair_tariff ["bag", "works"] F__law_fair_tariff :=
  fnD_of T.fn__law_fair_tariff sc__law_fair_tariff fun cdv A outer s H E hr hg => SSs.nox (
    ss_cons (ss_par2 2 3 rfl sc__law_fair_tariff.nd (sa_cons (se_lc [("kind", 8)] rfl sc__law_fair_tariff.nd (si_seq (se_ix (u128 hr) (se_var 1) (se_int))) (blkOk_by (by kernel_rfl)) (fun _ _ _ _ _ => svi_one (sv_name 8 sc__law_fair_tariff.nd)) (fun _ _ _ _ _ => sts_nil) (fun _ _ _ _ _ => se_call 2 (dv__law_one T) hg (hr.mono (by decide)) (by rfl) T.g__law_one T.fn__law_one.kp T.bn__law_one pass0 (fun _ _ _ _ _ h => h) (sa_cons (se_var 0) (sa_cons (se_lst (sa_cons (se_int) (sa_cons (se_int) (sa_cons (se_int) (sa_cons (se_neg (se_int)) (sa_cons (se_int) (sa_cons (se_bin op_sub ro_sub subG_calm (se_call 2 (dv__law_take T) hg (hr.mono (by decide)) (by rfl) T.g__law_take T.fn__law_take.kp T.bn__law_take pass0 (fun _ _ _ _ _ h => h) (sa_cons (se_var 0) (sa_cons (se_int) (sa_nil))) (len_cons (len_cons len_nil)) rfl) (se_int)) (sa_nil)))))))) (sa_nil))) (len_cons (len_cons len_nil)) rfl)) (sa_cons (se_bin op_mulA ro_mul mulG_calm (se_lst (sa_cons (se_int) (sa_nil))) (se_callB call_len rc_len lenG_calm (by rfl) T.m_len (by decide +kernel) (sa_cons (se_ix (u128 hr) (se_var 1) (se_int)) (sa_nil)))) (sa_nil)))) (ss_cons (ss_for PassesOwn.never rfl (si_seq (se_sortK (E := fun _ _ _ => False) (dv__law_last_taken T) hg (hr.mono (by decide)) T.bn__law_last_taken (fun _ _ _ _ _ z => z.elim) (by rfl) T.m_sorted (by rfl) T.g__law_last_taken (sa_cons (se_ix (u128 hr) (se_var 1) (se_int)) (sa_nil)))) (sgi_one (sg_name 4 sc__law_fair_tariff.nd)) (ss_cons (ss_par2 5 6 rfl sc__law_fair_tariff.nd (sa_cons (se_bin op_sub ro_sub subG_calm (se_call 2 (dv__law_worth T) hg (hr.mono (by decide)) (by rfl) T.g__law_worth T.fn__law_worth.kp T.bn__law_worth pass0 (fun _ _ _ _ _ h => h) (sa_cons (se_var 2) (sa_cons (se_ix (u128 hr) (se_var 4) (se_int)) (sa_nil))) (len_cons (len_cons len_nil)) rfl) (se_call 2 (dv__law_worth T) hg (hr.mono (by decide)) (by rfl) T.g__law_worth T.fn__law_worth.kp T.bn__law_worth pass0 (fun _ _ _ _ _ h => h) (sa_cons (se_var 2) (sa_cons (se_ix (u128 hr) (se_var 4) (se_int)) (sa_nil))) (len_cons (len_cons len_nil)) rfl)) (sa_cons (se_call 1 (dv__law_last_taken T) hg (hr.mono (by decide)) (by rfl) T.g__law_last_taken T.fn__law_last_taken.kp T.bn__law_last_taken pass0 (fun _ _ _ _ _ h => h) (sa_cons (se_var 4) (sa_nil)) (len_cons len_nil) rfl) (sa_nil)))) (ss_one (ss_if (SW.st (sw_and (st_isN (se_ix (u128 hr) (se_var 4) (se_int))) (sw_and1 (st_cmp op_gt ro_cmp (cmpG_calm _) (se_var 5) (se_int))))) (ss_one (ss_augS (u128 hr) ip_subI ro_subI subI_calm (se_var 2) (se_var 6) (se_neg (se_bin op_fdivW ro_fdiv fdivG_calm (se_neg (se_var 5)) (se_ix (u128 hr) (se_ix (u128 hr) (se_var 4) (se_int)) (se_var 6)))))) (ss_one (ss_if (st_notN (se_ix (u128 hr) (se_var 4) (se_int))) (ss_cons (ss_set 7 sc__law_fair_tariff.nd (se_meth PySem.F.plainAttrs_tuple PySem.F.slot_tuple_index PySem.F.type_tuple_index mt_tup_index rm_tindex tindexG_calm (se_ix (u128 hr) (se_var 1) (se_int)) (sa_cons (se_ix (u128 hr) (se_var 4) (se_int)) (sa_nil)))) (ss_one (ss_asg (se_callB (call_maxA rfl) rc_max maxG_calm (by rfl) T.m_max (by decide +kernel) (sa_cons (se_ix (u128 hr) (se_var 3) (se_var 7)) (sa_cons (se_var 5) (sa_nil)))) (sg_sub (u128 hr) (se_var 3) (se_var 7))))) (ss_nil))))))) (ss_cons (ss_setLc 3 [("wage", 9)] rfl sc__law_fair_tariff.nd (si_seq (se_var 3)) (blkOk_by (by kernel_rfl)) (sw_true rfl rfl rfl (by decide +kernel)) (fun _ _ _ _ _ => svi_one (sv_name 9 sc__law_fair_tariff.nd)) (fun _ _ _ _ _ => sts_nil) (fun _ _ _ _ _ => se_bin op_addA ro_add addG_calm (se_var 9) (se_call 2 (dv__law_one T) hg (hr.mono (by decide)) (by rfl) T.g__law_one T.fn__law_one.kp T.bn__law_one pass0 (fun _ _ _ _ _ h => h) (sa_cons (se_var 0) (sa_cons (se_lst (sa_cons (se_int) (sa_cons (se_int) (sa_cons (se_int) (sa_cons (se_int) (sa_nil)))))) (sa_nil))) (len_cons (len_cons len_nil)) rfl))) (ss_cons (ss_if (SW.st (sw_and (st_cmp (op_eqN (u128 hr)) ro_eq (eqG_calm false) (se_var 2) (se_bin op_mulA ro_mul mulG_calm (se_lst (sa_cons (se_int) (sa_nil))) (se_callB call_len rc_len lenG_calm (by rfl) T.m_len (by decide +kernel) (sa_cons (se_var 2) (sa_nil))))) (sw_and1 (st_cmp (op_eqN (u128 hr)) ro_eq (eqG_calm false) (se_callB (call_maxA rfl) rc_max maxG_calm (by rfl) T.m_max (by decide +kernel) (sa_cons (se_bin op_addA ro_add addG_calm (se_var 3) (se_lst (sa_cons (se_int) (sa_nil)))) (sa_nil))) (se_int))))) (ss_one (ss_asg (se_neg (se_int)) (sg_sub (u128 hr) (se_var 2) (se_int)))) (ss_nil)) (ss_one (ss_ret (se_tup (sa_cons (se_callTy call_tupleZ rc_tuple tupleG_calm (by rfl) T.m_tuple (by decide +kernel) (sa_cons (se_var 2) (sa_nil))) (sa_cons (se_callTy call_tupleZ rc_tuple tupleG_calm (by rfl) T.m_tuple (by decide +kernel) (sa_cons (se_var 3) (sa_nil))) (sa_nil))))))))))
theorem dv__law_turned (T : Top K mg) : FnD P w K mg base CX0 eo0 3 T.f__law_turned T.fd__law_turned ["bag", "tariff"] F__law_turned :=
  fnD_of T.fn__law_turned sc__law_turned fun cdv A outer s H E hr hg => SSs.nox (
    ss_cons (ss_par2 2 3 rfl sc__law_turned.nd (sa_cons (se_callTy call_list_of rc_list listG_calm (by rfl) T.m_list (by decide +kernel) (sa_cons (se_ix (u128 hr) (se_var 1) (se_int)) (sa_nil))) (sa_cons (se_callTy call_list_of rc_list listG_calm (by rfl) T.m_list (by decide +kernel) (sa_cons (se_ix (u128 hr) (se_var 1) (se_int)) (sa_nil))) (sa_nil)))) (ss_cons (ss_par2 4 5 rfl sc__law_turned.nd (sa_cons (se_call 2 (dv__law_take T) hg (hr.mono (by decide)) (by rfl) T.g__law_take T.fn__law_take.kp T.bn__law_take pass0 (fun _ _ _ _ _ h => h) (sa_cons (se_var 0) (sa_cons (se_bin op_addA ro_add addG_calm (se_callB call_len rc_len lenG_calm (by rfl) T.m_len (by decide +kernel) (sa_cons (se_var 2) (sa_nil))) (se_callB call_len rc_len lenG_calm (by rfl) T.m_len (by decide +kernel) (sa_cons (se_var 3) (sa_nil)))) (sa_nil))) (len_cons (len_cons len_nil)) rfl) (sa_cons (se_call 2 (dv__law_one T) hg (hr.mono (by decide)) (by rfl) T.g__law_one T.fn__law_one.kp T.bn__law_one pass0 (fun _ _ _ _ _ h => h) (sa_cons (se_var 0) (sa_cons (se_lst (sa_cons (se_int) (sa_cons (se_neg (se_int)) (sa_nil)))) (sa_nil))) (len_cons (len_cons len_nil)) rfl) (sa_nil)))) (ss_cons (ss_if (st_cmp op_lt ro_cmp (cmpG_calm _) (se_var 4) (se_callB call_len rc_len lenG_calm (by rfl) T.m_len (by decide +kernel) (sa_cons (se_var 2) (sa_nil)))) (ss_one (ss_augS (u128 hr) ip_addI ro_addI addI_calm (se_var 2) (se_var 4) (se_var 5))) (ss_one (ss_asg (se_callB (call_maxA rfl) rc_max maxG_calm (by rfl) T.m_max (by decide +kernel) (sa_cons (se_int) (sa_cons (se_bin op_addA ro_add addG_calm (se_ix (u128 hr) (se_var 3) (se_bin op_sub ro_sub subG_calm (se_var 4) (se_callB call_len rc_len lenG_calm (by rfl) T.m_len (by decide +kernel) (sa_cons (se_var 2) (sa_nil))))) (se_var 5)) (sa_nil)))) (sg_sub (u128 hr) (se_var 3) (se_bin op_sub ro_sub subG_calm (se_var 4) (se_callB call_len rc_len lenG_calm (by rfl) T.m_len (by decide +kernel) (sa_cons (se_var 2) (sa_nil)))))))) (ss_cons (ss_if (SW.st (sw_and (st_cmp (op_eqN (u128 hr)) ro_eq (eqG_calm false) (se_var 2) (se_bin op_mulA ro_mul mulG_calm (se_lst (sa_cons (se_int) (sa_nil))) (se_callB call_len rc_len lenG_calm (by rfl) T.m_len (by decide +kernel) (sa_cons (se_var 2) (sa_nil))))) (sw_and1 (st_cmp (op_eqN (u128 hr)) ro_eq (eqG_calm false) (se_var 3) (se_bin op_mulA ro_mul mulG_calm (se_lst (sa_cons (se_int) (sa_nil))) (se_callB call_len rc_len lenG_calm (by rfl) T.m_len (by decide +kernel) (sa_cons (se_var 3) (sa_nil)))))))) (ss_one (ss_asg (se_int) (sg_sub (u128 hr) (se_var 2) (se_int)))) (ss_nil)) (ss_one (ss_ret (se_tup (sa_cons (se_callTy call_tupleZ rc_tuple tupleG_calm (by rfl) T.m_tuple (by decide +kernel) (sa_cons (se_var 2) (sa_nil))) (sa_cons (se_callTy call_tupleZ rc_tuple tupleG_calm (by rfl) T.m_tuple (by decide +kernel) (sa_cons (se_var 3) (sa_nil))) (sa_nil))))))))))
theorem dv__law_times (T : Top K mg) : FnD P w K mg base CX0 eo0 1 T.f__law_times T.fd__law_times ["amounts", "many"] F__law_times :=
  fnD_of T.fn__law_times sc__law_times fun cdv A outer s H E hr hg => SSs.nox (
    ss_one (ss_ret (se_callTy call_tupleZ rc_tuple tupleG_calm (by rfl) T.m_tuple (by decide +kernel) (sa_cons (se_lc [("number", 2)] rfl sc__law_times.nd (si_seq (se_var 0)) (blkOk_by (by kernel_rfl)) (fun _ _ _ _ _ => svi_one (sv_name 2 sc__law_times.nd)) (fun _ _ _ _ _ => sts_nil) (fun _ _ _ _ _ => se_bin op_mulA ro_mul mulG_calm (se_var 2) (se_var 1))) (sa_nil)))))
theorem dv_dot (T : Top K mg) : FnD P w K mg base CX0 eo0 1 T.f_dot T.fd_dot ["one", "other"] F_dot :=
  fnD_of T.fn_dot sc_dot fun cdv A outer s H E hr hg => SSs.nox (
    ss_one (ss_ret (se_callB (cr_sum rfl) rc_sum sumG_calm (by rfl) T.m_sum (by decide +kernel) (sa_cons (se_lc [("left", 2), ("right", 3)] rfl sc_dot.nd (si_zip (by rfl) T.m_zip (sa_cons (se_var 0) (sa_cons (se_var 1) (sa_nil)))) (blkOk_by (by kernel_rfl)) (fun _ _ _ _ _ => svi_pair rfl (svs_cons (sv_name 2 sc_dot.nd) (svs_cons (sv_name 3 sc_dot.nd) (svs_nil)))) (fun _ _ _ _ _ => sts_nil) (fun _ _ _ _ _ => se_bin op_mulA ro_mul mulG_calm (se_var 2) (se_var 3))) (sa_nil)))))
theorem dv_worth (T : Top K mg) : FnD P w K mg base CX0 eo0 2 T.f_worth T.fd_worth ["tariff", "amounts"] F_worth :=
  fnD_of T.fn_worth sc_worth fun cdv A outer s H E hr hg => SSs.nox (
    ss_one (ss_ret (se_call 2 (dv_dot T) hg (hr.mono (by decide)) (by rfl) T.g_dot T.fn_dot.kp T.bn_dot pass0 (fun _ _ _ _ _ h => h) (sa_cons (se_ix (u128 hr) (se_var 0) (se_int)) (sa_cons (se_var 1) (sa_nil))) (len_cons (len_cons len_nil)) rfl)))
theorem dv_pay (T : Top K mg) : FnD P w K mg base CX0 eo0 2 T.f_pay T.fd_pay ["tariff", "crew"] F_pay :=
  fnD_of T.fn_pay sc_pay fun cdv A outer s H E hr hg => SSs.nox (
    ss_one (ss_ret (se_call 2 (dv_dot T) hg (hr.mono (by decide)) (by rfl) T.g_dot T.fn_dot.kp T.bn_dot pass0 (fun _ _ _ _ _ h => h) (sa_cons (se_ix (u128 hr) (se_var 0) (se_int)) (sa_cons (se_var 1) (sa_nil))) (len_cons (len_cons len_nil)) rfl)))
theorem dv_used_up (T : Top K mg) : FnD P w K mg base CX0 eo0 1 T.f_used_up T.fd_used_up ["recipe"] F_used_up :=
  fnD_of T.fn_used_up sc_used_up fun cdv A outer s H E hr hg => SSs.nox (
    ss_cons (ss_asg (se_var 0) (sg_tup rfl (sgs_cons (sg_name 1 sc_used_up.nd) (sgs_cons (sg_name 2 sc_used_up.nd) (sgs_cons (sg_name 3 sc_used_up.nd) (sgs_nil)))))) (ss_one (ss_ret (se_callTy call_tupleZ rc_tuple tupleG_calm (by rfl) T.m_tuple (by decide +kernel) (sa_cons (se_lc [("taken", 4), ("put", 5)] rfl sc_used_up.nd (si_zip (by rfl) T.m_zip (sa_cons (se_var 1) (sa_cons (se_var 2) (sa_nil)))) (blkOk_by (by kernel_rfl)) (fun _ _ _ _ _ => svi_pair rfl (svs_cons (sv_name 4 sc_used_up.nd) (svs_cons (sv_name 5 sc_used_up.nd) (svs_nil)))) (fun _ _ _ _ _ => sts_nil) (fun _ _ _ _ _ => se_bin op_sub ro_sub subG_calm (se_var 4) (se_var 5))) (sa_nil))))))
theorem dv_wanted (T : Top K mg) : FnD P w K mg base CX0 eo0 1 T.f_wanted T.fd_wanted ["works", "recipe"] F_wanted :=
  fnD_of T.fn_wanted sc_wanted fun cdv A outer s H E hr hg => SSs.nox (
    ss_one (ss_ret (se_callTy call_tupleZ rc_tuple tupleG_calm (by rfl) T.m_tuple (by decide +kernel) (sa_cons (se_lc [("hand", 2)] rfl sc_wanted.nd (si_seq (se_ix (u128 hr) (se_var 0) (se_int))) (blkOk_by (by kernel_rfl)) (fun _ _ _ _ _ => svi_one (sv_name 2 sc_wanted.nd)) (fun _ _ _ _ _ => sts_nil) (fun _ _ _ _ _ => se_if (st_cmp (op_eqN (u128 hr)) ro_eq (eqG_calm false) (se_var 2) (se_ix (u128 hr) (se_var 1) (se_int))) (se_int) (se_int))) (sa_nil)))))
theorem dv__is_fair_for (T : Top K mg) : FnD P w K mg base CX0 eo0 3 T.f__is_fair_for T.fd__is_fair_for ["works", "tariff", "recipe"] F__is_fair_for :=
  fnD_of T.fn__is_fair_for sc__is_fair_for fun cdv A outer s H E hr hg => SSs.nox (
    ss_one (ss_ret (se_cmp op_le ro_cmp (cmpG_calm _) (se_call 2 (dv_worth T) hg (hr.mono (by decide)) (by rfl) T.g_worth T.fn_worth.kp T.bn_worth pass0 (fun _ _ _ _ _ h => h) (sa_cons (se_var 1) (sa_cons (se_call 1 (dv_used_up T) hg (hr.mono (by decide)) (by rfl) T.g_used_up T.fn_used_up.kp T.bn_used_up pass0 (fun _ _ _ _ _ h => h) (sa_cons (se_var 2) (sa_nil)) (len_cons len_nil) rfl) (sa_nil))) (len_cons (len_cons len_nil)) rfl) (se_call 2 (dv_pay T) hg (hr.mono (by decide)) (by rfl) T.g_pay T.fn_pay.kp T.bn_pay pass0 (fun _ _ _ _ _ h => h) (sa_cons (se_var 1) (sa_cons (se_call 2 (dv_wanted T) hg (hr.mono (by decide)) (by rfl) T.g_wanted T.fn_wanted.kp T.bn_wanted pass0 (fun _ _ _ _ _ h => h) (sa_cons (se_var 0) (sa_cons (se_var 2) (sa_nil))) (len_cons (len_cons len_nil)) rfl) (sa_nil))) (len_cons (len_cons len_nil)) rfl))))
theorem dv_is_fair (T : Top K mg) : FnD P w K mg base CX0 eo0 4 T.f_is_fair T.fd_is_fair ["works", "tariff"] F_is_fair :=
  fnD_of T.fn_is_fair sc_is_fair fun cdv A outer s H E hr hg => SSs.nox (
    ss_one (ss_ret (se_callB (cr_all rfl) rc_all (allG_calm false) (by rfl) T.m_all (by decide +kernel) (sa_cons (se_lc [("recipe", 2)] rfl sc_is_fair.nd (si_seq (se_ix (u128 hr) (se_var 0) (se_int))) (blkOk_by (by kernel_rfl)) (fun _ _ _ _ _ => svi_one (sv_name 2 sc_is_fair.nd)) (fun _ _ _ _ _ => sts_nil) (fun _ _ _ _ _ => se_call 3 (dv__is_fair_for T) hg (hr.mono (by decide)) (by rfl) T.g__is_fair_for T.fn__is_fair_for.kp T.bn__is_fair_for pass0 (fun _ _ _ _ _ h => h) (sa_cons (se_var 0) (sa_cons (se_var 1) (sa_cons (se_var 2) (sa_nil)))) (len_cons (len_cons (len_cons len_nil))) rfl)) (sa_nil)))))
theorem dv__law_alike (T : Top K mg) : FnD P w K mg base CX0 eo0 1 T.f__law_alike T.fd__law_alike ["found", "due"] F__law_alike :=
  fnD_of T.fn__law_alike sc__law_alike fun cdv A outer s H E hr hg => SSs.nox (
    ss_one (ss_ret (se_and (se_cmp (op_eqN (u128 hr)) ro_eq (eqG_calm false) (se_var 0) (se_var 1)) (se_one (se_cmp (op_eqN (u128 hr)) ro_eq (eqG_calm false) (se_callB (call_repr hg hr.units) rc_repr reprG_calm (by rfl) T.m_repr (by decide +kernel) (sa_cons (se_var 0) (sa_nil))) (se_callB (call_repr hg hr.units) rc_repr reprG_calm (by rfl) T.m_repr (by decide +kernel) (sa_cons (se_var 1) (sa_nil))))))))
theorem dv__law_is_fair (T : Top K mg) : FnD P w K mg base CX0 eo0 2 T.f__law_is_fair T.fd__law_is_fair ["works", "tariff"] F__law_is_fair :=
  fnD_of T.fn__law_is_fair sc__law_is_fair fun cdv A outer s H E hr hg => SSs.nox (
    ss_cons (ss_for PassesOwn.never rfl (si_seq (se_ix (u128 hr) (se_var 0) (se_int))) (sgi_one (sg_tup rfl (sgs_cons (sg_name 2 sc__law_is_fair.nd) (sgs_cons (sg_name 3 sc__law_is_fair.nd) (sgs_cons (sg_name 4 sc__law_is_fair.nd) (sgs_nil)))))) (ss_cons (ss_set 5 sc__law_is_fair.nd (se_if (st_isN (se_var 4)) (se_int) (se_ix (u128 hr) (se_ix (u128 hr) (se_var 1) (se_int)) (se_meth PySem.F.plainAttrs_tuple PySem.F.slot_tuple_index PySem.F.type_tuple_index mt_tup_index rm_tindex tindexG_calm (se_ix (u128 hr) (se_var 0) (se_int)) (sa_cons (se_var 4) (sa_nil)))))) (ss_one (ss_if (st_cmp op_gt ro_cmp (cmpG_calm _) (se_call 2 (dv__law_worth T) hg (hr.mono (by decide)) (by rfl) T.g__law_worth T.fn__law_worth.kp T.bn__law_worth pass0 (fun _ _ _ _ _ h => h) (sa_cons (se_ix (u128 hr) (se_var 1) (se_int)) (sa_cons (se_var 2) (sa_nil))) (len_cons (len_cons len_nil)) rfl) (se_bin op_addA ro_add addG_calm (se_call 2 (dv__law_worth T) hg (hr.mono (by decide)) (by rfl) T.g__law_worth T.fn__law_worth.kp T.bn__law_worth pass0 (fun _ _ _ _ _ h => h) (sa_cons (se_ix (u128 hr) (se_var 1) (se_int)) (sa_cons (se_var 3) (sa_nil))) (len_cons (len_cons len_nil)) rfl) (se_var 5))) (ss_one (ss_ret (se_bl))) (ss_nil))))) (ss_one (ss_ret (se_bl))))
theorem dv_law (T : Top K mg) : FnD P w K mg base CX0 eo0 5 T.f_law T.fd_law ["script"] F_law :=
  fnD_of T.fn_law sc_law fun cdv A outer s H E hr hg => SSs.nox (
    ss_cons (ss_set 1 sc_law.nd (se_call 1 (dv__law_bag T) hg (hr.mono (by decide)) (by rfl) T.g__law_bag T.fn__law_bag.kp T.bn__law_bag pass0 (fun _ _ _ _ _ h => h) (sa_cons (se_var 0) (sa_nil)) (len_cons len_nil) rfl)) (ss_cons (ss_for PassesOwn.never rfl (si_r1 (by rfl) T.m_range (sa_cons (se_int) (sa_nil))) (sgi_one (sg_name 2 sc_law.nd)) (ss_cons (ss_set 3 sc_law.nd (se_call 4 (dv__law_works T) hg (hr.mono (by decide)) (by rfl) T.g__law_works T.fn__law_works.kp T.bn__law_works pass0 (fun _ _ _ _ _ h => h) (sa_cons (se_var 1) (sa_cons (se_int) (sa_cons (se_int) (sa_cons (se_int) (sa_nil))))) (len_cons (len_cons (len_cons (len_cons len_nil)))) rfl)) (ss_cons (ss_set 4 sc_law.nd (se_call 2 (dv__law_fair_tariff T) hg (hr.mono (by decide)) (by rfl) T.g__law_fair_tariff T.fn__law_fair_tariff.kp T.bn__law_fair_tariff pass0 (fun _ _ _ _ _ h => h) (sa_cons (se_var 1) (sa_cons (se_var 3) (sa_nil))) (len_cons (len_cons len_nil)) rfl)) (ss_cons (ss_set 5 sc_law.nd (se_lst (sa_cons (se_var 4) (sa_cons (se_call 2 (dv__law_turned T) hg (hr.mono (by decide)) (by rfl) T.g__law_turned T.fn__law_turned.kp T.bn__law_turned pass0 (fun _ _ _ _ _ h => h) (sa_cons (se_var 1) (sa_cons (se_var 4) (sa_nil))) (len_cons (len_cons len_nil)) rfl) (sa_cons (se_call 2 (dv__law_turned T) hg (hr.mono (by decide)) (by rfl) T.g__law_turned T.fn__law_turned.kp T.bn__law_turned pass0 (fun _ _ _ _ _ h => h) (sa_cons (se_var 1) (sa_cons (se_call 2 (dv__law_turned T) hg (hr.mono (by decide)) (by rfl) T.g__law_turned T.fn__law_turned.kp T.bn__law_turned pass0 (fun _ _ _ _ _ h => h) (sa_cons (se_var 1) (sa_cons (se_var 4) (sa_nil))) (len_cons (len_cons len_nil)) rfl) (sa_nil))) (len_cons (len_cons len_nil)) rfl) (sa_nil)))))) (ss_cons (ss_set 6 sc_law.nd (se_call 2 (dv__law_one T) hg (hr.mono (by decide)) (by rfl) T.g__law_one T.fn__law_one.kp T.bn__law_one pass0 (fun _ _ _ _ _ h => h) (sa_cons (se_var 1) (sa_cons (se_lst (sa_cons (se_int) (sa_cons (se_int) (sa_cons (se_bin op_pow ro_pow powG_calm (se_int) (se_int)) (sa_nil))))) (sa_nil))) (len_cons (len_cons len_nil)) rfl)) (ss_cons (ss_expr (se_meth PySem.F.plainAttrs_list PySem.F.slot_list_append PySem.F.type_list_append mt_append rm_append appendG_calm (se_var 5) (sa_cons (se_tup (sa_cons (se_call 2 (dv__law_times T) hg (hr.mono (by decide)) (by rfl) T.g__law_times T.fn__law_times.kp T.bn__law_times pass0 (fun _ _ _ _ _ h => h) (sa_cons (se_ix (u128 hr) (se_var 4) (se_int)) (sa_cons (se_var 6) (sa_nil))) (len_cons (len_cons len_nil)) rfl) (sa_cons (se_call 2 (dv__law_times T) hg (hr.mono (by decide)) (by rfl) T.g__law_times T.fn__law_times.kp T.bn__law_times pass0 (fun _ _ _ _ _ h => h) (sa_cons (se_ix (u128 hr) (se_var 4) (se_int)) (sa_cons (se_var 6) (sa_nil))) (len_cons (len_cons len_nil)) rfl) (sa_nil)))) (sa_nil)))) (ss_one (ss_for PassesOwn.never rfl (si_seq (se_var 5)) (sgi_one (sg_name 7 sc_law.nd)) (ss_cons (ss_set 8 sc_law.nd (se_call 2 (dv__law_one T) hg (hr.mono (by decide)) (by rfl) T.g__law_one T.fn__law_one.kp T.bn__law_one pass0 (fun _ _ _ _ _ h => h) (sa_cons (se_var 1) (sa_cons (se_lst (sa_cons (se_lst (sa_cons (se_int) (sa_cons (se_int) (sa_cons (se_int) (sa_nil))))) (sa_cons (se_lst (sa_cons (se_int) (sa_nil))) (sa_cons (se_lst (sa_cons (se_int) (sa_nil))) (sa_cons (se_lst (sa_cons (se_bin op_pow ro_pow powG_calm (se_int) (se_int)) (sa_cons (se_int) (sa_nil)))) (sa_nil)))))) (sa_nil))) (len_cons (len_cons len_nil)) rfl)) (ss_cons (ss_par2 9 10 rfl sc_law.nd (sa_cons (se_callTy call_tupleZ rc_tuple tupleG_calm (by rfl) T.m_tuple (by decide +kernel) (sa_cons (se_lc [("kind", 13)] rfl sc_law.nd (si_seq (se_ix (u128 hr) (se_var 3) (se_int))) (blkOk_by (by kernel_rfl)) (fun _ _ _ _ _ => svi_one (sv_name 13 sc_law.nd)) (fun _ _ _ _ _ => sts_nil) (fun _ _ _ _ _ => se_call 2 (dv__law_one T) hg (hr.mono (by decide)) (by rfl) T.g__law_one T.fn__law_one.kp T.bn__law_one pass0 (fun _ _ _ _ _ h => h) (sa_cons (se_var 1) (sa_cons (se_var 8) (sa_nil))) (len_cons (len_cons len_nil)) rfl)) (sa_nil))) (sa_cons (se_callTy call_tupleZ rc_tuple tupleG_calm (by rfl) T.m_tuple (by decide +kernel) (sa_cons (se_lc [("hand", 14)] rfl sc_law.nd (si_seq (se_ix (u128 hr) (se_var 3) (se_int))) (blkOk_by (by kernel_rfl)) (fun _ _ _ _ _ => svi_one (sv_name 14 sc_law.nd)) (fun _ _ _ _ _ => sts_nil) (fun _ _ _ _ _ => se_call 2 (dv__law_one T) hg (hr.mono (by decide)) (by rfl) T.g__law_one T.fn__law_one.kp T.bn__law_one pass0 (fun _ _ _ _ _ h => h) (sa_cons (se_var 1) (sa_cons (se_var 8) (sa_nil))) (len_cons (len_cons len_nil)) rfl)) (sa_nil))) (sa_nil)))) (ss_cons (ss_set 11 sc_law.nd (se_callB (call_repr hg hr.units) rc_repr reprG_calm (by rfl) T.m_repr (by decide +kernel) (sa_cons (se_lst (sa_cons (se_var 3) (sa_cons (se_var 7) (sa_cons (se_var 9) (sa_cons (se_var 10) (sa_nil)))))) (sa_nil)))) (ss_cons (ss_set 12 sc_law.nd (se_lst (sa_cons (se_call 2 (dv_is_fair T) hg (hr.mono (by decide)) (by rfl) T.g_is_fair T.fn_is_fair.kp T.bn_is_fair pass0 (fun _ _ _ _ _ h => h) (sa_cons (se_var 3) (sa_cons (se_var 7) (sa_nil))) (len_cons (len_cons len_nil)) rfl) (sa_cons (se_call 2 (dv_worth T) hg (hr.mono (by decide)) (by rfl) T.g_worth T.fn_worth.kp T.bn_worth pass0 (fun _ _ _ _ _ h => h) (sa_cons (se_var 7) (sa_cons (se_var 9) (sa_nil))) (len_cons (len_cons len_nil)) rfl) (sa_cons (se_call 2 (dv_pay T) hg (hr.mono (by decide)) (by rfl) T.g_pay T.fn_pay.kp T.bn_pay pass0 (fun _ _ _ _ _ h => h) (sa_cons (se_var 7) (sa_cons (se_var 10) (sa_nil))) (len_cons (len_cons len_nil)) rfl) (sa_nil)))))) (ss_cons (ss_if (st_not (st_val (se_call 2 (dv__law_alike T) hg (hr.mono (by decide)) (by rfl) T.g__law_alike T.fn__law_alike.kp T.bn__law_alike pass0 (fun _ _ _ _ _ h => h) (sa_cons (se_var 12) (sa_cons (se_lst (sa_cons (se_call 2 (dv__law_is_fair T) hg (hr.mono (by decide)) (by rfl) T.g__law_is_fair T.fn__law_is_fair.kp T.bn__law_is_fair pass0 (fun _ _ _ _ _ h => h) (sa_cons (se_var 3) (sa_cons (se_var 7) (sa_nil))) (len_cons (len_cons len_nil)) rfl) (sa_cons (se_call 2 (dv__law_worth T) hg (hr.mono (by decide)) (by rfl) T.g__law_worth T.fn__law_worth.kp T.bn__law_worth pass0 (fun _ _ _ _ _ h => h) (sa_cons (se_ix (u128 hr) (se_var 7) (se_int)) (sa_cons (se_var 9) (sa_nil))) (len_cons (len_cons len_nil)) rfl) (sa_cons (se_call 2 (dv__law_worth T) hg (hr.mono (by decide)) (by rfl) T.g__law_worth T.fn__law_worth.kp T.bn__law_worth pass0 (fun _ _ _ _ _ h => h) (sa_cons (se_ix (u128 hr) (se_var 7) (se_int)) (sa_cons (se_var 10) (sa_nil))) (len_cons (len_cons len_nil)) rfl) (sa_nil))))) (sa_nil))) (len_cons (len_cons len_nil)) rfl))) (ss_one (ss_ret (se_bl))) (ss_nil)) (ss_one (ss_if (st_cmp (op_neN (u128 hr)) ro_eq (eqG_calm true) (se_callB (call_repr hg hr.units) rc_repr reprG_calm (by rfl) T.m_repr (by decide +kernel) (sa_cons (se_lst (sa_cons (se_var 3) (sa_cons (se_var 7) (sa_cons (se_var 9) (sa_cons (se_var 10) (sa_nil)))))) (sa_nil))) (se_var 11)) (ss_one (ss_ret (se_bl))) (ss_nil)))))))))))))))) (ss_one (ss_ret (se_bl)))))
end
/-! ### the head -/
def top_mk {K : PySem.W.Frag} {h : Heap} {mg : Str → Option Value} (X : K.In h) (G : h.Ns mainGlobals mg) {f0 f1 f2 f3 f4 f5 f6 f7 f8 f9 f10 f11 f12 f13 f14 f15 f16 f17 f18 f19 f20 f21 f22 : Addr}
    {od0 an0 od1 an1 od2 an2 od3 an3 od4 an4 od5 an5 od6 an6 od7 an7 od8 an8 od9 an9 od10 an10 od11 an11 od12 an12 od13 an13 od14 an14 od15 an15 od16 an16 od17 an17 od18 an18 od19 an19 od20 an20 od21 an21 od22 an22 : Option Addr} {sl0 sl1 sl2 sl3 sl4 sl5 sl6 sl7 sl8 sl9 sl10 sl11 sl12 sl13 sl14 sl15 sl16 sl17 sl18 sl19 sl20 sl21 sl22 : Array (Option Value)} {oc0 kV0 dc0 pm0 cd0 ct0 oc1 kV1 dc1 pm1 cd1 ct1 oc2 kV2 dc2 pm2 cd2 ct2 oc3 kV3 dc3 pm3 cd3 ct3 oc4 kV4 dc4 pm4 cd4 ct4 oc5 kV5 dc5 pm5 cd5 ct5 oc6 kV6 dc6 pm6 cd6 ct6 oc7 kV7 dc7 pm7 cd7 ct7 oc8 kV8 dc8 pm8 cd8 ct8 oc9 kV9 dc9 pm9 cd9 ct9 oc10 kV10 dc10 pm10 cd10 ct10 oc11 kV11 dc11 pm11 cd11 ct11 oc12 kV12 dc12 pm12 cd12 ct12 oc13 kV13 dc13 pm13 cd13 ct13 oc14 kV14 dc14 pm14 cd14 ct14 oc15 kV15 dc15 pm15 cd15 ct15 oc16 kV16 dc16 pm16 cd16 ct16 oc17 kV17 dc17 pm17 cd17 ct17 oc18 kV18 dc18 pm18 cd18 ct18 oc19 kV19 dc19 pm19 cd19 ct19 oc20 kV20 dc20 pm20 cd20 ct20 oc21 kV21 dc21 pm21 cd21 ct21 oc22 kV22 dc22 pm22 cd22 ct22 : Value}
    (a0 : PySem.W.nsIn K mainGlobals "_law_bag" = some (some (.ref f0))) (l0 : K.lookup f0 = some ⟨oc0, od0, .func (PySem.W.fnOf "_law_bag" "_law_bag" (defArgs s__law_bag) (defBody s__law_bag) (defScope s__law_bag) .none kV0 dc0 pm0 an0 cd0 ct0), sl0⟩) (c0 : PySem.W.codeIn K cd0 "_law_bag" = true) (k0 : PySem.W.keepIn K (.ref f0) = true)
    (a1 : PySem.W.nsIn K mainGlobals "_law_take" = some (some (.ref f1))) (l1 : K.lookup f1 = some ⟨oc1, od1, .func (PySem.W.fnOf "_law_take" "_law_take" (defArgs s__law_take) (defBody s__law_take) (defScope s__law_take) .none kV1 dc1 pm1 an1 cd1 ct1), sl1⟩) (c1 : PySem.W.codeIn K cd1 "_law_take" = true) (k1 : PySem.W.keepIn K (.ref f1) = true)
    (a2 : PySem.W.nsIn K mainGlobals "_law_one" = some (some (.ref f2))) (l2 : K.lookup f2 = some ⟨oc2, od2, .func (PySem.W.fnOf "_law_one" "_law_one" (defArgs s__law_one) (defBody s__law_one) (defScope s__law_one) .none kV2 dc2 pm2 an2 cd2 ct2), sl2⟩) (c2 : PySem.W.codeIn K cd2 "_law_one" = true) (k2 : PySem.W.keepIn K (.ref f2) = true)
    (a3 : PySem.W.nsIn K mainGlobals "_law_mixed" = some (some (.ref f3))) (l3 : K.lookup f3 = some ⟨oc3, od3, .func (PySem.W.fnOf "_law_mixed" "_law_mixed" (defArgs s__law_mixed) (defBody s__law_mixed) (defScope s__law_mixed) .none kV3 dc3 pm3 an3 cd3 ct3), sl3⟩) (c3 : PySem.W.codeIn K cd3 "_law_mixed" = true) (k3 : PySem.W.keepIn K (.ref f3) = true)
    (a4 : PySem.W.nsIn K mainGlobals "_law_names" = some (some (.ref f4))) (l4 : K.lookup f4 = some ⟨oc4, od4, .func (PySem.W.fnOf "_law_names" "_law_names" (defArgs s__law_names) (defBody s__law_names) (defScope s__law_names) .none kV4 dc4 pm4 an4 cd4 ct4), sl4⟩) (c4 : PySem.W.codeIn K cd4 "_law_names" = true) (k4 : PySem.W.keepIn K (.ref f4) = true)
    (a5 : PySem.W.nsIn K mainGlobals "_law_recipe" = some (some (.ref f5))) (l5 : K.lookup f5 = some ⟨oc5, od5, .func (PySem.W.fnOf "_law_recipe" "_law_recipe" (defArgs s__law_recipe) (defBody s__law_recipe) (defScope s__law_recipe) .none kV5 dc5 pm5 an5 cd5 ct5), sl5⟩) (c5 : PySem.W.codeIn K cd5 "_law_recipe" = true) (k5 : PySem.W.keepIn K (.ref f5) = true)
    (a6 : PySem.W.nsIn K mainGlobals "_law_out" = some (some (.ref f6))) (l6 : K.lookup f6 = some ⟨oc6, od6, .func (PySem.W.fnOf "_law_out" "_law_out" (defArgs s__law_out) (defBody s__law_out) (defScope s__law_out) .none kV6 dc6 pm6 an6 cd6 ct6), sl6⟩) (c6 : PySem.W.codeIn K cd6 "_law_out" = true) (k6 : PySem.W.keepIn K (.ref f6) = true)
    (a7 : PySem.W.nsIn K mainGlobals "_law_works" = some (some (.ref f7))) (l7 : K.lookup f7 = some ⟨oc7, od7, .func (PySem.W.fnOf "_law_works" "_law_works" (defArgs s__law_works) (defBody s__law_works) (defScope s__law_works) .none kV7 dc7 pm7 an7 cd7 ct7), sl7⟩) (c7 : PySem.W.codeIn K cd7 "_law_works" = true) (k7 : PySem.W.keepIn K (.ref f7) = true)
    (a8 : PySem.W.nsIn K mainGlobals "_law_last_taken" = some (some (.ref f8))) (l8 : K.lookup f8 = some ⟨oc8, od8, .func (PySem.W.fnOf "_law_last_taken" "_law_last_taken" (defArgs s__law_last_taken) (defBody s__law_last_taken) (defScope s__law_last_taken) .none kV8 dc8 pm8 an8 cd8 ct8), sl8⟩) (c8 : PySem.W.codeIn K cd8 "_law_last_taken" = true) (k8 : PySem.W.keepIn K (.ref f8) = true)
    (a9 : PySem.W.nsIn K mainGlobals "_law_worth" = some (some (.ref f9))) (l9 : K.lookup f9 = some ⟨oc9, od9, .func (PySem.W.fnOf "_law_worth" "_law_worth" (defArgs s__law_worth) (defBody s__law_worth) (defScope s__law_worth) .none kV9 dc9 pm9 an9 cd9 ct9), sl9⟩) (c9 : PySem.W.codeIn K cd9 "_law_worth" = true) (k9 : PySem.W.keepIn K (.ref f9) = true)
    (a10 : PySem.W.nsIn K mainGlobals "_law_fair_tariff" = some (some (.ref f10))) (l10 : K.lookup f10 = some ⟨oc10, od10, .func (PySem.W.fnOf "_law_fair_tariff" "_law_fair_tariff" (defArgs s__law_fair_tariff) (defBody s__law_fair_tariff) (defScope s__law_fair_tariff) .none kV10 dc10 pm10 an10 cd10 ct10), sl10⟩) (c10 : PySem.W.codeIn K cd10 "_law_fair_tariff" = true) (k10 : PySem.W.keepIn K (.ref f10) = true)
    (a11 : PySem.W.nsIn K mainGlobals "_law_turned" = some (some (.ref f11))) (l11 : K.lookup f11 = some ⟨oc11, od11, .func (PySem.W.fnOf "_law_turned" "_law_turned" (defArgs s__law_turned) (defBody s__law_turned) (defScope s__law_turned) .none kV11 dc11 pm11 an11 cd11 ct11), sl11⟩) (c11 : PySem.W.codeIn K cd11 "_law_turned" = true) (k11 : PySem.W.keepIn K (.ref f11) = true)
    (a12 : PySem.W.nsIn K mainGlobals "_law_times" = some (some (.ref f12))) (l12 : K.lookup f12 = some ⟨oc12, od12, .func (PySem.W.fnOf "_law_times" "_law_times" (defArgs s__law_times) (defBody s__law_times) (defScope s__law_times) .none kV12 dc12 pm12 an12 cd12 ct12), sl12⟩) (c12 : PySem.W.codeIn K cd12 "_law_times" = true) (k12 : PySem.W.keepIn K (.ref f12) = true)
    (a13 : PySem.W.nsIn K mainGlobals "dot" = some (some (.ref f13))) (l13 : K.lookup f13 = some ⟨oc13, od13, .func (PySem.W.fnOf "dot" "dot" (defArgs s_dot) (defBody s_dot) (defScope s_dot) .none kV13 dc13 pm13 an13 cd13 ct13), sl13⟩) (c13 : PySem.W.codeIn K cd13 "dot" = true) (k13 : PySem.W.keepIn K (.ref f13) = true)
    (a14 : PySem.W.nsIn K mainGlobals "worth" = some (some (.ref f14))) (l14 : K.lookup f14 = some ⟨oc14, od14, .func (PySem.W.fnOf "worth" "worth" (defArgs s_worth) (defBody s_worth) (defScope s_worth) .none kV14 dc14 pm14 an14 cd14 ct14), sl14⟩) (c14 : PySem.W.codeIn K cd14 "worth" = true) (k14 : PySem.W.keepIn K (.ref f14) = true)
    (a15 : PySem.W.nsIn K mainGlobals "pay" = some (some (.ref f15))) (l15 : K.lookup f15 = some ⟨oc15, od15, .func (PySem.W.fnOf "pay" "pay" (defArgs s_pay) (defBody s_pay) (defScope s_pay) .none kV15 dc15 pm15 an15 cd15 ct15), sl15⟩) (c15 : PySem.W.codeIn K cd15 "pay" = true) (k15 : PySem.W.keepIn K (.ref f15) = true)
    (a16 : PySem.W.nsIn K mainGlobals "used_up" = some (some (.ref f16))) (l16 : K.lookup f16 = some ⟨oc16, od16, .func (PySem.W.fnOf "used_up" "used_up" (defArgs s_used_up) (defBody s_used_up) (defScope s_used_up) .none kV16 dc16 pm16 an16 cd16 ct16), sl16⟩) (c16 : PySem.W.codeIn K cd16 "used_up" = true) (k16 : PySem.W.keepIn K (.ref f16) = true)
    (a17 : PySem.W.nsIn K mainGlobals "wanted" = some (some (.ref f17))) (l17 : K.lookup f17 = some ⟨oc17, od17, .func (PySem.W.fnOf "wanted" "wanted" (defArgs s_wanted) (defBody s_wanted) (defScope s_wanted) .none kV17 dc17 pm17 an17 cd17 ct17), sl17⟩) (c17 : PySem.W.codeIn K cd17 "wanted" = true) (k17 : PySem.W.keepIn K (.ref f17) = true)
    (a18 : PySem.W.nsIn K mainGlobals "_is_fair_for" = some (some (.ref f18))) (l18 : K.lookup f18 = some ⟨oc18, od18, .func (PySem.W.fnOf "_is_fair_for" "_is_fair_for" (defArgs s__is_fair_for) (defBody s__is_fair_for) (defScope s__is_fair_for) .none kV18 dc18 pm18 an18 cd18 ct18), sl18⟩) (c18 : PySem.W.codeIn K cd18 "_is_fair_for" = true) (k18 : PySem.W.keepIn K (.ref f18) = true)
    (a19 : PySem.W.nsIn K mainGlobals "is_fair" = some (some (.ref f19))) (l19 : K.lookup f19 = some ⟨oc19, od19, .func (PySem.W.fnOf "is_fair" "is_fair" (defArgs s_is_fair) (defBody s_is_fair) (defScope s_is_fair) .none kV19 dc19 pm19 an19 cd19 ct19), sl19⟩) (c19 : PySem.W.codeIn K cd19 "is_fair" = true) (k19 : PySem.W.keepIn K (.ref f19) = true)
    (a20 : PySem.W.nsIn K mainGlobals "_law_alike" = some (some (.ref f20))) (l20 : K.lookup f20 = some ⟨oc20, od20, .func (PySem.W.fnOf "_law_alike" "_law_alike" (defArgs s__law_alike) (defBody s__law_alike) (defScope s__law_alike) .none kV20 dc20 pm20 an20 cd20 ct20), sl20⟩) (c20 : PySem.W.codeIn K cd20 "_law_alike" = true) (k20 : PySem.W.keepIn K (.ref f20) = true)
    (a21 : PySem.W.nsIn K mainGlobals "_law_is_fair" = some (some (.ref f21))) (l21 : K.lookup f21 = some ⟨oc21, od21, .func (PySem.W.fnOf "_law_is_fair" "_law_is_fair" (defArgs s__law_is_fair) (defBody s__law_is_fair) (defScope s__law_is_fair) .none kV21 dc21 pm21 an21 cd21 ct21), sl21⟩) (c21 : PySem.W.codeIn K cd21 "_law_is_fair" = true) (k21 : PySem.W.keepIn K (.ref f21) = true)
    (a22 : PySem.W.nsIn K mainGlobals "law" = some (some (.ref f22))) (l22 : K.lookup f22 = some ⟨oc22, od22, .func (PySem.W.fnOf "law" "law" (defArgs s_law) (defBody s_law) (defScope s_law) .none kV22 dc22 pm22 an22 cd22 ct22), sl22⟩) (c22 : PySem.W.codeIn K cd22 "law" = true) (k22 : PySem.W.keepIn K (.ref f22) = true)
    (z0 : PySem.W.nsIn K mainGlobals "abs" = some none)
    (z1 : PySem.W.nsIn K mainGlobals "all" = some none)
    (z2 : PySem.W.nsIn K mainGlobals "int" = some none)
    (z3 : PySem.W.nsIn K mainGlobals "len" = some none)
    (z4 : PySem.W.nsIn K mainGlobals "list" = some none)
    (z5 : PySem.W.nsIn K mainGlobals "max" = some none)
    (z6 : PySem.W.nsIn K mainGlobals "range" = some none)
    (z7 : PySem.W.nsIn K mainGlobals "repr" = some none)
    (z8 : PySem.W.nsIn K mainGlobals "sorted" = some none)
    (z9 : PySem.W.nsIn K mainGlobals "sum" = some none)
    (z10 : PySem.W.nsIn K mainGlobals "tuple" = some none)
    (z11 : PySem.W.nsIn K mainGlobals "zip" = some none) : Top K mg :=
  {
    f__law_bag := f0, fd__law_bag := _, fn__law_bag := fun_mk (st := s__law_bag) l0 c0 k0, bn__law_bag := (fun_mk (st := s__law_bag) l0 c0 k0).binds fun _ _ _ _ _ _ us hl => match us, hl with | [_], _ => rfl, g__law_bag := PySem.W.mg_of X G a0,
    f__law_take := f1, fd__law_take := _, fn__law_take := fun_mk (st := s__law_take) l1 c1 k1, bn__law_take := (fun_mk (st := s__law_take) l1 c1 k1).binds fun _ _ _ _ _ _ us hl => match us, hl with | [_, _], _ => rfl, g__law_take := PySem.W.mg_of X G a1,
    f__law_one := f2, fd__law_one := _, fn__law_one := fun_mk (st := s__law_one) l2 c2 k2, bn__law_one := (fun_mk (st := s__law_one) l2 c2 k2).binds fun _ _ _ _ _ _ us hl => match us, hl with | [_, _], _ => rfl, g__law_one := PySem.W.mg_of X G a2,
    f__law_mixed := f3, fd__law_mixed := _, fn__law_mixed := fun_mk (st := s__law_mixed) l3 c3 k3, bn__law_mixed := (fun_mk (st := s__law_mixed) l3 c3 k3).binds fun _ _ _ _ _ _ us hl => match us, hl with | [_, _], _ => rfl, g__law_mixed := PySem.W.mg_of X G a3,
    f__law_names := f4, fd__law_names := _, fn__law_names := fun_mk (st := s__law_names) l4 c4 k4, bn__law_names := (fun_mk (st := s__law_names) l4 c4 k4).binds fun _ _ _ _ _ _ us hl => match us, hl with | [_, _], _ => rfl, g__law_names := PySem.W.mg_of X G a4,
    f__law_recipe := f5, fd__law_recipe := _, fn__law_recipe := fun_mk (st := s__law_recipe) l5 c5 k5, bn__law_recipe := (fun_mk (st := s__law_recipe) l5 c5 k5).binds fun _ _ _ _ _ _ us hl => match us, hl with | [_, _, _, _], _ => rfl, g__law_recipe := PySem.W.mg_of X G a5,
    f__law_out := f6, fd__law_out := _, fn__law_out := fun_mk (st := s__law_out) l6 c6 k6, bn__law_out := (fun_mk (st := s__law_out) l6 c6 k6).binds fun _ _ _ _ _ _ us hl => match us, hl with | [_, _, _, _], _ => rfl, g__law_out := PySem.W.mg_of X G a6,
    f__law_works := f7, fd__law_works := _, fn__law_works := fun_mk (st := s__law_works) l7 c7 k7, bn__law_works := (fun_mk (st := s__law_works) l7 c7 k7).binds fun _ _ _ _ _ _ us hl => match us, hl with | [_, _, _, _], _ => rfl, g__law_works := PySem.W.mg_of X G a7,
    f__law_last_taken := f8, fd__law_last_taken := _, fn__law_last_taken := fun_mk (st := s__law_last_taken) l8 c8 k8, bn__law_last_taken := (fun_mk (st := s__law_last_taken) l8 c8 k8).binds fun _ _ _ _ _ _ us hl => match us, hl with | [_], _ => rfl, g__law_last_taken := PySem.W.mg_of X G a8,
    f__law_worth := f9, fd__law_worth := _, fn__law_worth := fun_mk (st := s__law_worth) l9 c9 k9, bn__law_worth := (fun_mk (st := s__law_worth) l9 c9 k9).binds fun _ _ _ _ _ _ us hl => match us, hl with | [_, _], _ => rfl, g__law_worth := PySem.W.mg_of X G a9,
    f__law_fair_tariff := f10, fd__law_fair_tariff := _, fn__law_fair_tariff := fun_mk (st := s__law_fair_tariff) l10 c10 k10, bn__law_fair_tariff := (fun_mk (st := s__law_fair_tariff) l10 c10 k10).binds fun _ _ _ _ _ _ us hl => match us, hl with | [_, _], _ => rfl, g__law_fair_tariff := PySem.W.mg_of X G a10,
    f__law_turned := f11, fd__law_turned := _, fn__law_turned := fun_mk (st := s__law_turned) l11 c11 k11, bn__law_turned := (fun_mk (st := s__law_turned) l11 c11 k11).binds fun _ _ _ _ _ _ us hl => match us, hl with | [_, _], _ => rfl, g__law_turned := PySem.W.mg_of X G a11,
    f__law_times := f12, fd__law_times := _, fn__law_times := fun_mk (st := s__law_times) l12 c12 k12, bn__law_times := (fun_mk (st := s__law_times) l12 c12 k12).binds fun _ _ _ _ _ _ us hl => match us, hl with | [_, _], _ => rfl, g__law_times := PySem.W.mg_of X G a12,
    f_dot := f13, fd_dot := _, fn_dot := fun_mk (st := s_dot) l13 c13 k13, bn_dot := (fun_mk (st := s_dot) l13 c13 k13).binds fun _ _ _ _ _ _ us hl => match us, hl with | [_, _], _ => rfl, g_dot := PySem.W.mg_of X G a13,
    f_worth := f14, fd_worth := _, fn_worth := fun_mk (st := s_worth) l14 c14 k14, bn_worth := (fun_mk (st := s_worth) l14 c14 k14).binds fun _ _ _ _ _ _ us hl => match us, hl with | [_, _], _ => rfl, g_worth := PySem.W.mg_of X G a14,
    f_pay := f15, fd_pay := _, fn_pay := fun_mk (st := s_pay) l15 c15 k15, bn_pay := (fun_mk (st := s_pay) l15 c15 k15).binds fun _ _ _ _ _ _ us hl => match us, hl with | [_, _], _ => rfl, g_pay := PySem.W.mg_of X G a15,
    f_used_up := f16, fd_used_up := _, fn_used_up := fun_mk (st := s_used_up) l16 c16 k16, bn_used_up := (fun_mk (st := s_used_up) l16 c16 k16).binds fun _ _ _ _ _ _ us hl => match us, hl with | [_], _ => rfl, g_used_up := PySem.W.mg_of X G a16,
    f_wanted := f17, fd_wanted := _, fn_wanted := fun_mk (st := s_wanted) l17 c17 k17, bn_wanted := (fun_mk (st := s_wanted) l17 c17 k17).binds fun _ _ _ _ _ _ us hl => match us, hl with | [_, _], _ => rfl, g_wanted := PySem.W.mg_of X G a17,
    f__is_fair_for := f18, fd__is_fair_for := _, fn__is_fair_for := fun_mk (st := s__is_fair_for) l18 c18 k18, bn__is_fair_for := (fun_mk (st := s__is_fair_for) l18 c18 k18).binds fun _ _ _ _ _ _ us hl => match us, hl with | [_, _, _], _ => rfl, g__is_fair_for := PySem.W.mg_of X G a18,
    f_is_fair := f19, fd_is_fair := _, fn_is_fair := fun_mk (st := s_is_fair) l19 c19 k19, bn_is_fair := (fun_mk (st := s_is_fair) l19 c19 k19).binds fun _ _ _ _ _ _ us hl => match us, hl with | [_, _], _ => rfl, g_is_fair := PySem.W.mg_of X G a19,
    f__law_alike := f20, fd__law_alike := _, fn__law_alike := fun_mk (st := s__law_alike) l20 c20 k20, bn__law_alike := (fun_mk (st := s__law_alike) l20 c20 k20).binds fun _ _ _ _ _ _ us hl => match us, hl with | [_, _], _ => rfl, g__law_alike := PySem.W.mg_of X G a20,
    f__law_is_fair := f21, fd__law_is_fair := _, fn__law_is_fair := fun_mk (st := s__law_is_fair) l21 c21 k21, bn__law_is_fair := (fun_mk (st := s__law_is_fair) l21 c21 k21).binds fun _ _ _ _ _ _ us hl => match us, hl with | [_, _], _ => rfl, g__law_is_fair := PySem.W.mg_of X G a21,
    f_law := f22, fd_law := _, fn_law := fun_mk (st := s_law) l22 c22 k22, bn_law := (fun_mk (st := s_law) l22 c22 k22).binds fun _ _ _ _ _ _ us hl => match us, hl with | [_], _ => rfl, g_law := PySem.W.mg_of X G a22,
    bl_law := fun _ _ => .of_eq rfl,
    m_abs := PySem.W.mg_none_of X G z0,
    m_all := PySem.W.mg_none_of X G z1,
    m_int := PySem.W.mg_none_of X G z2,
    m_len := PySem.W.mg_none_of X G z3,
    m_list := PySem.W.mg_none_of X G z4,
    m_max := PySem.W.mg_none_of X G z5,
    m_range := PySem.W.mg_none_of X G z6,
    m_repr := PySem.W.mg_none_of X G z7,
    m_sorted := PySem.W.mg_none_of X G z8,
    m_sum := PySem.W.mg_none_of X G z9,
    m_tuple := PySem.W.mg_none_of X G z10,
    m_zip := PySem.W.mg_none_of X G z11 }
theorem fin {P : Program} {w : World} {K : PySem.W.Frag} {mg : Str → Option Value} {fa : Addr} (hfa : mg "law" = some (.ref fa)) (T : Top K mg) : ∃ fd : FuncData, (∀ (s : Shared) (u : Value), BindsTo s fd ⟨[u], []⟩ [("script", u)]) ∧ ∀ base : Heap, K.In base → base.Ns mainGlobals mg → FnD P w K mg base CX0 eo0 5 fa fd ["script"] F_law := by
  cases hfa.symm.trans T.g_law
  exact ⟨_, T.bl_law, fun base _ _ => dv_law T⟩
end K16

set_option Elab.async false
set_option linter.all false
set_option maxRecDepth 100000
set_option maxHeartbeats 4000000
namespace K16
open PySem PySem.Spec PyProof.Rows L2 Mn Lw
theorem w_eqShown {S : Bxs} {E : Nat → List Dt → Bxs → Prop} {neg : Bool} {d : Dt} {p : PyData} {n w : Nat} {P : Dt → Bxs → Prop} (h : Pl S n d p w) (q : P (.bl (if neg then false else true)) S) : (eqG neg (.str p.shown) (.str p.shown) S).Wp P E := by
  have e : eqG neg (.str p.shown) (.str p.shown) S = .ok (.bl (if neg then !PyData.eqv (.str p.shown) (.str p.shown) else PyData.eqv (.str p.shown) (.str p.shown))) S := by
    have e1 : pdo S (.str p.shown) = some (.str p.shown) := rfl
    unfold eqG
    rw [e1]
    have sh : SeqAt.shaped (.str p.shown) = true := by
      unfold SeqAt.shaped
      have := h.pf.ok
      simp [PyData.canLay0, PyData.depth, this]
    show (if SeqAt.shaped (.str p.shown) = true ∧ SeqAt.shaped (.str p.shown) = true then _ else _) = _
    rw [if_pos ⟨sh, sh⟩]
  have e2 : PyData.eqv (.str p.shown) (.str p.shown) = true := by simp [PyData.eqv]
  rw [e, e2]
  refine sat_mk ?_
  cases neg <;> exact q
theorem alikeK_ok {S : Bxs} {x y : Nat} {ds : List Dt} {ps : List PyData} {w : Nat} (hx : S[x]? = some (.lst ds)) (hy : S[y]? = some (.lst ds)) (h : Pls S 59 ds ps w) (hw : w + 3 ≤ 1000000) : (F__law_alike [.box x, .box y] S).Wp (fun r S' => r = .bl true ∧ S' = S) noX := by
  have px : Pl S 60 (.box x) (.list ps) (w + 3) := .box (seq_lst hx) h (Nat.le_refl _)
  have py : Pl S 60 (.box y) (.list ps) (w + 3) := .box (seq_lst hy) h (Nat.le_refl _)
  unfold F__law_alike
  refine w_body ?_
  unfold B__law_alike
  simp only [startD, List.map_cons, List.map_nil, List.length_cons, List.length_nil, List.cons_append, List.nil_append, Nat.reduceAdd, Nat.reduceSub, List.replicate, List.replicate_succ, List.replicate_zero]
  and_intros
  refine w_eq px py ?_
  have e := px.pf.eqv
  rw [e]
  refine ⟨true, rfl, fun _ => ?_, fun z => nomatch z⟩
  and_intros
  refine w_repr px hw ?_
  and_intros
  refine w_repr py hw ?_
  refine w_eqShown px ?_
  exact .inl ⟨_, rfl, rfl, rfl⟩
theorem pl_worksK {S : Bxs} {n size : Nat} {w : Dt} {ks hs rs : List Dt} (W : Works w size ks hs rs) : ∃ p, Pl S (n + 5) w p 2000 := by
  obtain ⟨p1, q1, _⟩ := Pls.of_all (S := S) (n := n + 3) (w := 8) (ds := ks) fun d hd => pl_menu (W.km d hd)
  obtain ⟨p2, q2, _⟩ := Pls.of_all (S := S) (n := n + 3) (w := 8) (ds := hs) fun d hd => pl_menu (W.hm d hd)
  obtain ⟨p3, q3, _⟩ := Pls.of_all (S := S) (n := n + 3) (w := 66) (ds := rs) fun d hd => by
    obtain ⟨ts, us, h, R⟩ := W.rr d hd
    obtain ⟨p, q⟩ := pl_recipe (S := S) (n := n) R W.hm
    have := W.s1
    exact ⟨p, q.mono (by omega)⟩
  have kl := W.kl
  have s1 := W.s1
  have hl := W.hl
  have rl := W.rl
  rw [W.eq]
  exact ⟨_, .tup (.cons (.tup q1 (Nat.le_refl _)) (.cons (.tup q2 (Nat.le_refl _)) (.cons (.tup q3 (Nat.le_refl _)) .nil))) (by omega)⟩
theorem pl_tf {S : Bxs} {n k h : Nat} {t : Dt} {M : Int} {ps ws : List Int} (T : Tf t k h M ps ws) (hM : M < 10 ^ 22) (hk : k ≤ 5) (hh : h ≤ 3) : ∃ p, Pl S (n + 3) t p 1000 := by
  obtain ⟨p1, q1⟩ := pls_ints (S := S) (n := n) T.pb hM
  obtain ⟨p2, q2⟩ := pls_ints (S := S) (n := n) T.wb hM
  have pl := T.pl
  have wl := T.wl
  rw [T.eq]
  exact ⟨_, .tup (.cons (.tup q1 (Nat.le_refl _)) (.cons (.tup q2 (Nat.le_refl _)) .nil)) (by omega)⟩
theorem pl_lot {S : Bxs} {n : Nat} {is : List Int} (h : Bd (10 ^ 9) is) (hl : is.length ≤ 5) : ∃ p, Pl S (n + 2) (.tup (is.map Dt.int)) p 200 := by
  obtain ⟨p1, q1⟩ := pls_ints (S := S) (n := n) h (by decide)
  exact ⟨_, .tup q1 (by omega)⟩
theorem dot_any {M : Int} (hM : 0 ≤ M) : ∀ {ps ts : List Int}, Bd M ps → Bd (10 ^ 9) ts → -((ps.length : Int) * (10 ^ 9 * M)) ≤ dotI ps ts ∧ dotI ps ts ≤ (ps.length : Int) * (10 ^ 9 * M)
  | [], ts, _, _ => by simp [dotI]
  | p :: ps, [], _, _ => by
    have h : dotI (p :: ps) [] = 0 := by simp [dotI]
    rw [h]
    have : 0 ≤ ((p :: ps).length : Int) * (10 ^ 9 * M) := Int.mul_nonneg (by omega) (by omega)
    omega
  | p :: ps, t :: ts, hp, ht => by
    have ih := dot_any hM (ps := ps) (ts := ts) (fun q hq => hp q (List.mem_cons_of_mem _ hq)) (fun q hq => ht q (List.mem_cons_of_mem _ hq))
    have h : dotI (p :: ps) (t :: ts) = p * t + dotI ps ts := by simp [dotI]
    rw [h]
    have e : ((p :: ps).length : Int) * (10 ^ 9 * M) = (ps.length : Int) * (10 ^ 9 * M) + 10 ^ 9 * M := by
      rw [List.length_cons]; push_cast; rw [Int.add_mul, Int.one_mul]
    rw [e]
    have hp1 := hp p List.mem_cons_self
    have ht1 := ht t List.mem_cons_self
    have c1 : (0 : Int) ≤ 10 ^ 9 - t := by omega
    have c2 : (0 : Int) ≤ 10 ^ 9 + t := by omega
    have c3 : (0 : Int) ≤ M - p := by omega
    have c4 : (0 : Int) ≤ M + p := by omega
    have m1 := Int.mul_nonneg c3 c2
    have m2 := Int.mul_nonneg c4 c1
    have m3 := Int.mul_nonneg c4 c2
    have m4 := Int.mul_nonneg c3 c1
    have x1 : (M - p) * (10 ^ 9 + t) = M * 10 ^ 9 + M * t - (p * 10 ^ 9 + p * t) := by rw [Int.sub_mul, Int.mul_add, Int.mul_add]
    have x2 : (M + p) * (10 ^ 9 - t) = M * 10 ^ 9 - M * t + (p * 10 ^ 9 - p * t) := by rw [Int.add_mul, Int.mul_sub, Int.mul_sub]
    have x3 : (M + p) * (10 ^ 9 + t) = M * 10 ^ 9 + M * t + (p * 10 ^ 9 + p * t) := by rw [Int.add_mul, Int.mul_add, Int.mul_add]
    have x4 : (M - p) * (10 ^ 9 - t) = M * 10 ^ 9 - M * t - (p * 10 ^ 9 - p * t) := by rw [Int.sub_mul, Int.mul_sub, Int.mul_sub]
    omega
theorem pl_told {S : Bxs} {M : Int} {f : Bool} {a b : Int} (ha : a.natAbs < 10 ^ 40) (hb : b.natAbs < 10 ^ 40) : ∃ ps, Pls S 59 [.bl f, .int a, .int b] ps 188 := by
  have := Pls.cons (S := S) (n := 59) (Pl.bl f (show 5 ≤ 100 by decide)) (.cons (Pl.mkInt 40 (by decide) (by decide) ha) (.cons (Pl.mkInt 40 (by decide) (by decide) hb) .nil))
  exact ⟨_, this⟩
theorem lot_ok {σ : Sg} {S : Bxs} {E : Nat → List Dt → Bxs → Prop} {b c m v : Nat} {ms : List Int} {xs : List Dt} {f : FE} (hf : f σ S = .ok (.tup xs) S) (h1 : ∀ x, ((wipeD σ [v]).set v (some x))[1]? = some (some (.box b))) (h8 : ∀ x, ((wipeD σ [v]).set v (some x))[8]? = some (some (.box m)))
    (B : Bag S b c) (I : IL S m ms) (hm : m ≠ b) (m0 : ms ≠ []) (ml : ms.length ≤ 3) (mb : Bd (10 ^ 9) ms) (hx : xs.length ≤ 5) :
    (dLc (srcSeq f) (tName v) bYes (dCall F__law_one (aCons (dVar 1) (aCons (dVar 8) aNil))) [v] σ S).Wp (fun d S' => ∃ is : List Int, d = .box S.length ∧ IL S' S.length is ∧ is.length = xs.length ∧ Bd (10 ^ 9) is ∧ IL S' m ms ∧ Bag S' b c ∧ Fr b S S') E := by
  have qB := B.lt
  have qm := get_lt I
  refine w_lc ?_
  refine w_srcSeq ?_
  rw [hf]
  refine sat_mk ⟨xs, rfl, ?_⟩
  refine ⟨fun i acc S' => ∃ is : List Int, acc = is.map Dt.int ∧ is.length = i ∧ Bd (10 ^ 9) is ∧ IL S' m ms ∧ Bag S' b c ∧ Fr b S S', fun _ _ _ _ => rfl, fun i x acc S1 hx1 hn ⟨is, e1, e2, e3, I1, B1, F1⟩ => ?_, ⟨[], rfl, rfl, (fun _ z => nomatch z), IL.app I, B.app, (Fr.refl b S).app⟩, fun acc S1 hn ⟨is, e1, e2, e3, I1, B1, F1⟩ => ?_⟩
  · have hik := (List.getElem?_eq_some_iff.mp hx1).1
    have hik : i < xs.length := hik
    have hnb : S.length ≠ b := by omega
    and_intros
    refine w_yes ?_
    refine ⟨fun _ => ?_, fun z => nomatch z⟩
    refine w_call (w_consA (w_var (h1 x) (w_consA (w_var (h8 x) (w_nil ?_)))))
    refine (one_ok B1 (IL.seq I1) hm (fun z => by rw [List.map_eq_nil_iff] at z; exact m0 z) (by rw [List.length_map]; omega)).mono (fun d S2 ⟨hd, B2, F2⟩ => ?_) fun _ _ _ q => q
    obtain ⟨u, hu, rfl⟩ := List.mem_map.mp hd
    refine ⟨F2.at_ hn hnb, ?_, is ++ [u], by rw [e1]; simp, by simp [e2], fun p hp => ?_, (IL.fr I1 F2 hm).skip (by omega), B2.own hnb (by omega), (F1.trans F2).own (Nat.le_refl _)⟩
    · rw [e1, List.length_map, e2]; exact Nat.lt_of_lt_of_le (show i < 100 by omega) (by decide)
    · rcases List.mem_append.mp hp with z | z
      · exact e3 p z
      · rw [List.mem_singleton.mp z]; exact mb u hu
  · subst e1
    exact ⟨is, rfl, hn, e2, e3, I1, B1, F1⟩
theorem law_ok {ns : List Int} (hl : ns.length ≤ 63) : (F_law [.box 0] (script0 ns)).Wp (fun d S' => d = .bl true) noX := by
  unfold K16.F_law Lw.F_law
  refine w_body ?_
  unfold Lw.B_law
  simp only [startD, List.map_cons, List.map_nil, List.length_cons, List.length_nil, List.cons_append, List.nil_append, Nat.reduceAdd, Nat.reduceSub, List.replicate, List.replicate_succ, List.replicate_zero]
  and_intros
  refine (bag_ok hl).mono (fun d S1 ⟨b, c, ed, hb0, B⟩ => ?_) fun _ _ _ q => q
  subst ed
  and_intros
  refine ⟨inR_small (by decide) (by decide), ?_⟩
  refine w_loop (fun i σ S' => ∃ d2 d3 d4 d5 d6 d7 d8 d9 d10 d11 d12 d13 d14, σ = [some (.box 0), some (.box b), d2, d3, d4, d5, d6, d7, d8, d9, d10, d11, d12, d13, d14] ∧ Bag S' b c) (fun _ _ _ _ => trivial) (fun i x σ S2 hx ⟨d2, d3, d4, d5, d6, d7, d8, d9, d10, d11, d12, d13, d14, e, B2⟩ => ?_) (fun σ S2 ⟨d2, d3, d4, d5, d6, d7, d8, d9, d10, d11, d12, d13, d14, e, B2⟩ => ?_) ⟨_, _, _, _, _, _, _, _, _, _, _, _, _, rfl, B⟩
  · subst e
    and_intros
    refine (works_ok B2 (by decide) (by decide) (by decide) (by decide) (by decide) (by decide)).mono (fun w S3 ⟨⟨size, ks, hs, rs, W⟩, B3, F3⟩ => ?_) fun _ _ _ q => q
    and_intros
    refine (fair_ok B3 W).mono (fun t0 S4 ⟨⟨ps0, ws0, T0⟩, B4, F4⟩ => ?_) fun _ _ _ q => q
    and_intros
    have s0 := W.s0
    have s1 := W.s1
    have hl3 := W.hl
    refine (turned_ok B4 T0 s0 s1 hl3 (by decide) (by decide)).mono (fun t1 S5 ⟨⟨ps1, ws1, T1⟩, B5, F5⟩ => ?_) fun _ _ _ q => q
    and_intros
    refine (turned_ok B5 T0 s0 s1 hl3 (by decide) (by decide)).mono (fun t2 S6 ⟨⟨ps2, ws2, T2⟩, B6, F6⟩ => ?_) fun _ _ _ q => q
    and_intros
    refine (turned_ok B6 T2 s0 s1 hl3 (by decide) (by decide)).mono (fun t3 S7 ⟨⟨ps3, ws3, T3⟩, B7, F7⟩ => ?_) fun _ _ _ q => q
    and_intros
    have hq7 := B7.lt
    refine (one_ok (xs := [Dt.int 2, Dt.int 3, Dt.int (10 ^ (4 : Int).toNat)]) B7.app.app (seq_lst get_last) (by simp only [List.length_append, List.length_cons, List.length_nil]; omega) (fun z => nomatch z) (by decide)).mono (fun d S8 ⟨hd, B8, F8⟩ => ?_) fun _ _ _ q => q
    obtain ⟨m, rfl, hm0, hm1⟩ : ∃ v : Int, d = .int v ∧ 0 ≤ v ∧ v ≤ 10000 := by
      simp at hd
      rcases hd with z | z | z <;> exact ⟨_, z, by decide, by decide⟩
    have g8 : S8[S7.length]? = some (.lst [t0, t1, t3]) := (((Fr.refl b (S7 ++ [MBox.lst [t0, t1, t3]])).app).trans F8).at_ get_last (by omega)
    have tb : S7.length ≠ b := by omega
    have tc : S7.length ≠ c := by omega
    generalize S7.length = tx at g8 tb tc ⊢
    have T0e := T0.eq
    subst T0e
    and_intros
    refine ⟨ty_list g8, ?_⟩
    and_intros
    have pl0 := T0.pl
    have wl0 := T0.wl
    refine (times_ok (by omega) T0.pb (by decide) hm0 hm1).mono (fun d S9 ⟨ed, bd1, p9⟩ => ?_) fun _ _ _ q => q
    subst ed
    and_intros
    refine (times_ok (by omega) T0.wb (by decide) hm0 hm1).mono (fun d S10 ⟨ed, bd2, p10⟩ => ?_) fun _ _ _ q => q
    subst ed
    and_intros
    refine ⟨Nat.le_of_ble_eq_true (by rfl), ?_⟩
    and_intros
    have T4 : Tf (.tup [.tup ((ps0.map (· * m)).map Dt.int), .tup ((ws0.map (· * m)).map Dt.int)]) size hs.length (10 ^ 21) (ps0.map (· * m)) (ws0.map (· * m)) :=
      ⟨rfl, by rw [List.length_map]; exact pl0, by rw [List.length_map]; exact wl0, bd1.mono (by decide), bd2.mono (by decide)⟩
    generalize Dt.tup [.tup ((ps0.map (· * m)).map Dt.int), .tup ((ws0.map (· * m)).map Dt.int)] = t4 at T4 ⊢
    have g10 := get_pre (p9.trans p10) g8
    have B10 := B8.pre (p9.trans p10)
    refine w_append (lst_of g10) (Nat.lt_of_le_of_lt (show [Dt.tup [.tup (ps0.map Dt.int), .tup (ws0.map Dt.int)], t1, t3].length ≤ 3 from Nat.le_refl _) (by decide)) ?_
    have g11 : (S10.set tx (.lst ([Dt.tup [.tup (ps0.map Dt.int), .tup (ws0.map Dt.int)], t1, t3] ++ [t4])))[tx]? = some (.lst [Dt.tup [.tup (ps0.map Dt.int), .tup (ws0.map Dt.int)], t1, t3, t4]) := List.getElem?_set_self (get_lt g10)
    have B11 := B10.own (x := .lst ([Dt.tup [.tup (ps0.map Dt.int), .tup (ws0.map Dt.int)], t1, t3] ++ [t4])) tb tc
    generalize S10.set tx (.lst ([Dt.tup [.tup (ps0.map Dt.int), .tup (ws0.map Dt.int)], t1, t3] ++ [t4])) = S11 at g11 B11 ⊢
    have all4 : ∀ t ∈ [Dt.tup [.tup (ps0.map Dt.int), .tup (ws0.map Dt.int)], t1, t3, t4], ∃ ps ws, Tf t size hs.length (10 ^ 21) ps ws := fun t ht => by
      simp only [List.mem_cons, List.not_mem_nil, or_false] at ht
      rcases ht with rfl | rfl | rfl | rfl
      · exact ⟨_, _, rfl, T0.pl, T0.wl, T0.pb.mono (by decide), T0.wb.mono (by decide)⟩
      · exact ⟨_, _, T1.eq, T1.pl, T1.wl, T1.pb.mono (by decide), T1.wb.mono (by decide)⟩
      · exact ⟨_, _, T3.eq, T3.pl, T3.wl, T3.pb.mono (by decide), T3.wb.mono (by decide)⟩
      · exact ⟨_, _, T4⟩
    generalize hf0 : Dt.tup [.tup (ps0.map Dt.int), .tup (ws0.map Dt.int)] = t0 at g11 all4 ⊢
    generalize [t0, t1, t3, t4] = tl at g11 all4
    and_intros
    refine ⟨tl, w_seqB g11, ?_⟩
    refine w_loop (fun i σ S' => ∃ e7 e8 e9 e10 e11 e12 e13 e14, σ = [some (.box 0), some (.box b), some x, some w, some t0, some (.box tx), some (.int m), e7, e8, e9, e10, e11, e12, e13, e14] ∧ Bag S' b c ∧ S'[tx]? = some (.lst tl)) (fun i σ S' ⟨_, _, _, _, _, _, _, _, _, _, g⟩ => w_seqB g) (fun j t σ S12 ht ⟨e7, e8, e9, e10, e11, e12, e13, e14, e, B12, g12⟩ => ?_) (fun σ S12 ⟨e7, e8, e9, e10, e11, e12, e13, e14, e, B12, g12⟩ => ?_) ⟨_, _, _, _, _, _, _, _, rfl, B11, g11⟩
    · subst e
      have ht : tl[j]? = some t := ht
      obtain ⟨ps, ws, T⟩ := all4 t (List.mem_of_getElem? ht)
      have hq12 := B12.lt
      have We := W.eq
      have Te := T.eq
      subst We
      subst Te
      and_intros
      have menuF : ∃ S13 : Bxs, ∃ bs : List Dt, S13 = (S12 ++ [MBox.lst [Dt.int 0, Dt.int 1, Dt.int 2]] ++ [MBox.lst [Dt.int 9]] ++ [MBox.lst [Dt.int 0]] ++ [MBox.lst [Dt.int (10 ^ Int.toNat 9), Dt.int 0]]) ∧
          bs = [Dt.box (List.length S12), Dt.box (List.length (S12 ++ [MBox.lst [Dt.int 0, Dt.int 1, Dt.int 2]])), Dt.box (List.length (S12 ++ [MBox.lst [Dt.int 0, Dt.int 1, Dt.int 2]] ++ [MBox.lst [Dt.int 9]])), Dt.box (List.length (S12 ++ [MBox.lst [Dt.int 0, Dt.int 1, Dt.int 2]] ++ [MBox.lst [Dt.int 9]] ++ [MBox.lst [Dt.int 0]]))] ∧
          bs ≠ [] ∧ bs.length ≤ 4 ∧ S12 <+: S13 ∧ ∀ d ∈ bs, ∃ q ms, d = .box q ∧ IL S13 q ms ∧ ms ≠ [] ∧ ms.length ≤ 3 ∧ Bd (10 ^ 9) ms ∧ S12.length ≤ q := by
        refine ⟨_, _, rfl, rfl, (fun z => nomatch z), Nat.le_of_ble_eq_true (by rfl), ?_, fun d hd => ?_⟩
        · rw [List.append_assoc, List.append_assoc, List.append_assoc]; exact List.prefix_append _ _
        · simp only [List.mem_cons, List.not_mem_nil, or_false] at hd
          rcases hd with rfl | rfl | rfl | rfl
          · exact ⟨_, [0, 1, 2], rfl, IL.app (IL.app (IL.app (show IL _ _ [0, 1, 2] from get_last))), (fun z => nomatch z), by decide, (by intro p hp; simp at hp; omega), Nat.le_refl _⟩
          · exact ⟨_, [9], rfl, IL.app (IL.app (show IL _ _ [9] from get_last)), (fun z => nomatch z), by decide, (by intro p hp; simp at hp; omega), by simp⟩
          · exact ⟨_, [0], rfl, IL.app (show IL _ _ [0] from get_last), (fun z => nomatch z), by decide, (by intro p hp; simp at hp; omega), by simp⟩
          · exact ⟨_, [10 ^ Int.toNat 9, 0], rfl, (show IL _ _ [10 ^ Int.toNat 9, 0] from get_last), (fun z => nomatch z), Nat.le_of_ble_eq_true (by rfl), (by intro p hp; simp at hp; rcases hp with hp | hp <;> subst hp <;> decide), by simp⟩
      obtain ⟨S13, bs, eS, eb, bs0, bsl, p13, hbs⟩ := menuF
      rw [← eb, ← eS]
      have B13 := B12.pre p13
      have q13 := p13.length_le
      refine (one_ok (xs := bs) B13.app (seq_lst get_last) (by omega) bs0 (by omega)).mono (fun d S14 ⟨hd, B14, F14⟩ => ?_) fun _ _ _ q => q
      obtain ⟨q, ms, rfl, IM, m0, ml, mb, hqm⟩ := hbs d hd
      have F13 := ((Fr.refl b S13).app (x := MBox.lst bs)).trans F14
      have IM14 := IM.fr F13 (by omega)
      have g14 : S14[tx]? = some (.lst tl) := F13.at_ (get_pre p13 g12) tb
      and_intros
      have kl := W.kl
      refine (lot_ok (xs := ks) (c := c) rfl (fun _ => rfl) (fun _ => rfl) B14 IM14 (by omega) m0 ml mb (by omega)).mono (fun d S15 ⟨lot, ed, L15, ll, lb, IM15, B15, F15⟩ => ?_) fun _ _ _ q => q
      subst ed
      and_intros
      refine w_tupB (IL.seq L15) ?_
      and_intros
      refine (lot_ok (xs := hs) (c := c) rfl (fun _ => rfl) (fun _ => rfl) B15 IM15 (by omega) m0 ml mb (by omega)).mono (fun d S16 ⟨cr, ed, C16, cl, cb, IM16, B16, F16⟩ => ?_) fun _ _ _ q => q
      subst ed
      and_intros
      refine w_tupB (IL.seq C16) ?_
      have g16 : S16[tx]? = some (.lst tl) := (F15.trans F16).at_ g14 tb
      and_intros
      obtain ⟨pw, plw⟩ := pl_worksK (S := S16) (n := 54) W
      obtain ⟨pt, plt⟩ := pl_tf (S := S16) (n := 56) T (by decide) s1 hl3
      obtain ⟨pa, pla⟩ := pl_lot (S := S16) (n := 57) lb (by omega)
      obtain ⟨pc, plc⟩ := pl_lot (S := S16) (n := 57) cb (by omega)
      have items := Pls.cons plw (.cons plt (.cons pla (.cons plc .nil)))
      refine w_repr (.box (seq_lst get_last) (Pls.pre (List.prefix_append _ _) items) (Nat.le_refl _)) (by decide) ?_
      have smallL : ∀ q ∈ lot, -(2 ^ 64 : Int) < q ∧ q < 2 ^ 64 := fun q hq => by have := lb q hq; omega
      have smallC : ∀ q ∈ cr, -(2 ^ 64 : Int) < q ∧ q < 2 ^ 64 := fun q hq => by have := cb q hq; omega
      have tpl := T.pl
      have twl := T.wl
      have p17 := List.prefix_append S16 [MBox.lst [Dt.tup [.tup ks, .tup hs, .tup rs], Dt.tup [.tup (ps.map Dt.int), .tup (ws.map Dt.int)], Dt.tup (lot.map Dt.int), Dt.tup (cr.map Dt.int)]]
      generalize S16 ++ [MBox.lst [Dt.tup [.tup ks, .tup hs, .tup rs], Dt.tup [.tup (ps.map Dt.int), .tup (ws.map Dt.int)], Dt.tup (lot.map Dt.int), Dt.tup (cr.map Dt.int)]] = S17 at p17 ⊢
      and_intros
      refine (p_is_fair W T).mono (fun d S18 ⟨ed, p18⟩ => ?_) fun _ _ _ q => q
      subst ed
      and_intros
      refine (p_worth (by omega) smallL).mono (fun d S19 ⟨ed, p19⟩ => ?_) fun _ _ _ q => q
      subst ed
      and_intros
      refine (p_pay (by omega) smallC).mono (fun d S20 ⟨ed, p20⟩ => ?_) fun _ _ _ q => q
      subst ed
      and_intros
      refine (l_is_fair W T).mono (fun d S21 ⟨ed, p21⟩ => ?_) fun _ _ _ q => q
      subst ed
      and_intros
      refine (worth_ok (ps := ps) (qs := lot) rfl rfl (by omega) smallL (fun _ _ => rfl) (fun _ _ => rfl)).mono (fun d S22 ⟨ed, p22⟩ => ?_) fun _ _ _ q => q
      subst ed
      and_intros
      refine (worth_ok (ps := ws) (qs := cr) rfl rfl (by omega) smallC (fun _ _ => rfl) (fun _ _ => rfl)).mono (fun d S23 ⟨ed, p23⟩ => ?_) fun _ _ _ q => q
      subst ed
      and_intros
      have bd1 := dot_any (by decide) T.pb lb
      have bd2 := dot_any (by decide) T.wb cb
      obtain ⟨pp, hpp⟩ := pl_told (S := S23 ++ [MBox.lst [Dt.bl (rs.all (fairD ps ws hs)), Dt.int (dotI ps lot), Dt.int (dotI ws cr)]]) (M := 0) (f := rs.all (fairD ps ws hs)) (a := dotI ps lot) (b := dotI ws cr) (by rw [tpl] at bd1; omega) (by rw [twl] at bd2; omega)
      refine (alikeK_ok (get_pre ((p21.trans (p22.trans p23)).trans (List.prefix_append _ _)) get_last) get_last hpp (by decide)).mono (fun d S24 ⟨ed, eS4⟩ => ?_) fun _ _ _ q => q
      subst ed
      subst eS4
      and_intros
      refine ⟨(fun z => nomatch z), fun _ => ?_⟩
      and_intros
      have pre23 := ((p17.trans (p18.trans (p19.trans p20))).trans (List.prefix_append S20 [MBox.lst [Dt.bl (rs.all (fairD ps ws hs)), Dt.int (dotI ps lot), Dt.int (dotI ws cr)]])).trans ((p21.trans (p22.trans p23)).trans (List.prefix_append S23 [MBox.lst [Dt.bl (rs.all (fairD ps ws hs)), Dt.int (dotI ps lot), Dt.int (dotI ws cr)]]))
      have pl2 := Pl.box (seq_lst get_last) (Pls.pre (pre23.trans (List.prefix_append _ [MBox.lst [Dt.tup [.tup ks, .tup hs, .tup rs], Dt.tup [.tup (ps.map Dt.int), .tup (ws.map Dt.int)], Dt.tup (lot.map Dt.int), Dt.tup (cr.map Dt.int)]])) items) (Nat.le_refl _)
      refine w_repr pl2 (by decide) ?_
      and_intros
      refine w_eqShown (neg := true) pl2 ?_
      and_intros
      refine ⟨(fun z => nomatch z), fun _ => ?_⟩
      and_intros
      have preF := pre23.trans (List.prefix_append _ [MBox.lst [Dt.tup [.tup ks, .tup hs, .tup rs], Dt.tup [.tup (ps.map Dt.int), .tup (ws.map Dt.int)], Dt.tup (lot.map Dt.int), Dt.tup (cr.map Dt.int)]])
      exact .inl ⟨rfl, _, _, _, _, _, _, _, _, rfl, B16.pre preF, get_pre preF g16⟩
    · subst e
      exact .inl ⟨rfl, _, _, _, _, _, _, _, _, _, _, _, _, _, rfl, B12⟩
  · subst e
    and_intros
    exact .inl ⟨_, rfl, rfl⟩
theorem true_law : ∀ ns : List Int, ns.length ≤ 63 → ∃ S', F_law [.box 0] (script0 ns) = .ok (.bl true) S' := fun ns h => by
  obtain ⟨d, S', e, rfl⟩ := (law_ok h).ok
  exact ⟨S', e⟩
end K16

open PySem PySem.W PyProof.Rows
set_option maxHeartbeats 0 in
set_option maxRecDepth 100000 in
theorem PySem.Challenge.cw_neverheaps_k16_worth_pay_and_fair_holds : PySem.Challenge.rw_neverheaps_k16_worth_pay_and_fair.Holds := by
  w_on; o_law; k_head; (case hw => w_witness2)
  k_fill
  refine Mn.walkD (l := PySem.Challenge.rw_neverheaps_k16_worth_pay_and_fair) (n := 63) (k := 5) (x := "script") (CX := fun _ => L2.CX0) (eo := fun _ => K16.eo0) (F := K16.F_law) rfl (by decide) rfl ⟨rfl, by decide, by decide⟩ (fun w h Y => PySem.W.kIn_of Y) ?F K16.true_law (fun _ _ _ _ _ h => h)
  case F =>
    intro w mg fa h KX G hmg
    refine K16.fin (show mg "law" = some (.ref fa) from hmg) ?T
    refine' K16.top_mk KX G ?a0 ?l0 ?c0 ?k0 ?a1 ?l1 ?c1 ?k1 ?a2 ?l2 ?c2 ?k2 ?a3 ?l3 ?c3 ?k3 ?a4 ?l4 ?c4 ?k4 ?a5 ?l5 ?c5 ?k5 ?a6 ?l6 ?c6 ?k6 ?a7 ?l7 ?c7 ?k7 ?a8 ?l8 ?c8 ?k8 ?a9 ?l9 ?c9 ?k9 ?a10 ?l10 ?c10 ?k10 ?a11 ?l11 ?c11 ?k11 ?a12 ?l12 ?c12 ?k12 ?a13 ?l13 ?c13 ?k13 ?a14 ?l14 ?c14 ?k14 ?a15 ?l15 ?c15 ?k15 ?a16 ?l16 ?c16 ?k16 ?a17 ?l17 ?c17 ?k17 ?a18 ?l18 ?c18 ?k18 ?a19 ?l19 ?c19 ?k19 ?a20 ?l20 ?c20 ?k20 ?a21 ?l21 ?c21 ?k21 ?a22 ?l22 ?c22 ?k22 ?z0 ?z1 ?z2 ?z3 ?z4 ?z5 ?z6 ?z7 ?z8 ?z9 ?z10 ?z11
    (case a0 => k_is); (case l0 => k_is); (case c0 => k_is); (case k0 => k_is); (case a1 => k_is); (case l1 => k_is); (case c1 => k_is); (case k1 => k_is); (case a2 => k_is); (case l2 => k_is); (case c2 => k_is); (case k2 => k_is); (case a3 => k_is); (case l3 => k_is); (case c3 => k_is); (case k3 => k_is); (case a4 => k_is); (case l4 => k_is); (case c4 => k_is); (case k4 => k_is); (case a5 => k_is); (case l5 => k_is); (case c5 => k_is); (case k5 => k_is); (case a6 => k_is); (case l6 => k_is); (case c6 => k_is); (case k6 => k_is); (case a7 => k_is); (case l7 => k_is); (case c7 => k_is); (case k7 => k_is); (case a8 => k_is); (case l8 => k_is); (case c8 => k_is); (case k8 => k_is); (case a9 => k_is); (case l9 => k_is); (case c9 => k_is); (case k9 => k_is); (case a10 => k_is); (case l10 => k_is); (case c10 => k_is); (case k10 => k_is); (case a11 => k_is); (case l11 => k_is); (case c11 => k_is); (case k11 => k_is); (case a12 => k_is); (case l12 => k_is); (case c12 => k_is); (case k12 => k_is); (case a13 => k_is); (case l13 => k_is); (case c13 => k_is); (case k13 => k_is); (case a14 => k_is); (case l14 => k_is); (case c14 => k_is); (case k14 => k_is); (case a15 => k_is); (case l15 => k_is); (case c15 => k_is); (case k15 => k_is); (case a16 => k_is); (case l16 => k_is); (case c16 => k_is); (case k16 => k_is); (case a17 => k_is); (case l17 => k_is); (case c17 => k_is); (case k17 => k_is); (case a18 => k_is); (case l18 => k_is); (case c18 => k_is); (case k18 => k_is); (case a19 => k_is); (case l19 => k_is); (case c19 => k_is); (case k19 => k_is); (case a20 => k_is); (case l20 => k_is); (case c20 => k_is); (case k20 => k_is); (case a21 => k_is); (case l21 => k_is); (case c21 => k_is); (case k21 => k_is); (case a22 => k_is); (case l22 => k_is); (case c22 => k_is); (case k22 => k_is); (case z0 => k_is); (case z1 => k_is); (case z2 => k_is); (case z3 => k_is); (case z4 => k_is); (case z5 => k_is); (case z6 => k_is); (case z7 => k_is); (case z8 => k_is); (case z9 => k_is); (case z10 => k_is); (case z11 => k_is)
