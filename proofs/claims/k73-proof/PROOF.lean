import PyProof.Rows.All
import Wide.All
import OpenK.AllK
import Wide.FinOn
import HandS.ForMost
import HandS.ForExc
import HandS.Lambda
import HandS.EndTab
import HandS.ExcInit
import HandS.TupAny
import HandS.TupMul
import HandS.Wide
import KE.DataEq
import KE.DataFind
import HandS.Text
import HandS.Deep
import HandS.IsInst
import HandS.Iter
import PyProof.ReprRoads
import HandS.Exc
import HandS.ExcField
import HandS.ExcIs
import KE.KExcInit
import HandS.EndBits
import HandS.Head0
import HandS.Head1
import HandS.Head2
import HandS.HeadEnd
import HandS.HeadHook1
import HandS.HeadHook2
import KE.KStateDown
import HandS.TryMany
import HandS.Defaults
import KE.DataCmp
import HandS.Style
import PyProof.StrBlock2
import KE.SortData
import KE.KEqNest
import HandS.Zip
import HandS.Strs
import HandS.Dict
import KE.KDflt
import HandS.OwnEq
import HandS.HeadHook3
import HandS.HeadHook4
import KE.KDictPairs
import HandS.ReCall
import HandS.DictTup
import KE.GoesEnum
import HandS.DictSubView
import KE.KDictCopyH
import HandS.Conv
import PyProof.SeqI3
import HandS.FltList
import PyProof.TupleOfSeq
import HandS.List
import KE.DataMinKey
import KE.KItemsList
import HandS.ListItems
import HandS.DictComp
import KE.GoesMore
import KE.GoesZip
import HandS.NamedTup0
import Open.SpecLaws
import PySem.Challenge.RW_handedvotes_k73_more_calls_by_names
set_option Elab.async false
set_option linter.all false
set_option maxRecDepth 100000
set_option maxHeartbeats 0
/-! Data as trees, over the hand layer: what values denote, runs with free choices, the ghost state. -/
namespace DL
open PySem PySem.Spec L2

inductive D where
  | non | bl (b : Bool) | int (i : Int) | str (s : Str)
  | tup (xs : List D) | lst (xs : List D) | dct (t : Bool) (kvs : List (D × D))
  | ins (c : Nat) (fs : List D)
  | exc (c : Nat) (v : D) | err (c : Nat) (v : D)
  | ty (n : String) | clo (n : Nat)
  | rnd
  | scr (ns : List Int)
  | pr (xs : List D)

/-- an exception that flies: its class, its one field -/
structure Ex where
  c : Nat
  v : D

inductive M (α : Type) where
  | ret (a : α) | exc (x : Ex) | stuck | choose (n : Nat) (k : Nat → M α) | begun (k : M α)
def lim : Nat := 2 ^ 100000
namespace M
def bind {α β : Type} : M α → (α → M β) → M β
  | ret a, f => f a
  | exc x, _ => exc x
  | stuck, _ => stuck
  | choose n k, f => choose n fun i => (k i).bind f
  | begun k, f => begun (k.bind f)
def wp {α : Type} : M α → (α → Prop) → (Ex → Prop) → Prop
  | ret a, Q, _ => Q a
  | exc x, _, E => E x
  | stuck, _, _ => False
  | choose n k, Q, E => ∀ i, i < n → (k i).wp Q E
  | begun k, Q, E => k.wp Q E
theorem wp_mono {α : Type} {Q Q' : α → Prop} {E E' : Ex → Prop} (hQ : ∀ a, Q a → Q' a) (hE : ∀ x, E x → E' x) : ∀ (m : M α), m.wp Q E → m.wp Q' E'
  | ret a, h => hQ a h
  | exc x, h => hE x h
  | stuck, h => h.elim
  | choose _ k, h => fun i hi => wp_mono hQ hE (k i) (h i hi)
  | begun k, h => wp_mono hQ hE k h
/-- with a number of choices that are left -/
def wpB {α : Type} : M α → Nat → (α → Nat → Prop) → (Ex → Nat → Prop) → Prop
  | ret a, b, Q, _ => Q a b
  | exc x, b, _, E => E x b
  | stuck, _, _, _ => False
  | choose _ _, 0, _, _ => False
  | choose n k, b + 1, Q, E => ∀ i, i < n → (k i).wpB b Q E
  | begun k, b, Q, E => b = lim + 1 ∧ k.wpB lim Q E
theorem wpB_mono {α : Type} {Q Q' : α → Nat → Prop} {E E' : Ex → Nat → Prop} (hQ : ∀ a b, Q a b → Q' a b) (hE : ∀ x b, E x b → E' x b) : ∀ (m : M α) (b : Nat), m.wpB b Q E → m.wpB b Q' E'
  | ret a, b, h => hQ a b h
  | exc x, b, h => hE x b h
  | stuck, _, h => h.elim
  | choose _ _, 0, h => h.elim
  | choose _ k, b + 1, h => fun i hi => wpB_mono hQ hE (k i) b (h i hi)
  | begun k, _, h => ⟨h.1, wpB_mono hQ hE k lim h.2⟩
theorem wpB_bind {α β : Type} {Q : β → Nat → Prop} {E : Ex → Nat → Prop} {f : α → M β} : ∀ (m : M α) (b : Nat), (m.bind f).wpB b Q E ↔ m.wpB b (fun a c => (f a).wpB c Q E) E
  | ret _, _ => Iff.rfl
  | exc _, _ => Iff.rfl
  | stuck, _ => Iff.rfl
  | choose _ _, 0 => Iff.rfl
  | choose _ k, b + 1 => forall_congr' fun i => forall_congr' fun _ => wpB_bind (k i) b
  | begun k, _ => and_congr_right' (wpB_bind k lim)
/-- nothing may be raised -/
def noX {α : Type} : M α → M α
  | ret a => ret a
  | exc _ => stuck
  | stuck => stuck
  | choose n k => choose n fun i => (k i).noX
  | begun k => begun k.noX
theorem wpB_noX {α : Type} {Q : α → Nat → Prop} {E E' : Ex → Nat → Prop} : ∀ (m : M α) (b : Nat), m.noX.wpB b Q E → m.wpB b Q E'
  | ret _, _, h => h
  | exc _, _, h => h.elim
  | stuck, _, h => h
  | choose _ _, 0, h => h
  | choose _ k, b + 1, h => fun i hi => wpB_noX (k i) b (h i hi)
  | begun k, _, h => ⟨h.1, wpB_noX k lim h.2⟩
/-- at most so many choices -/
def fin {α : Type} : M α → Nat → Prop
  | ret _, _ => True
  | exc _, _ => True
  | stuck, _ => True
  | choose _ _, 0 => False
  | choose n k, b + 1 => ∀ i, i < n → (k i).fin b
  | begun k, b => b = lim + 1 ∧ k.fin lim
theorem wpB_of {α : Type} {Q : α → Prop} {E : Ex → Prop} : ∀ (m : M α) (b : Nat), m.fin b → m.wp Q E → m.wpB b (fun a _ => Q a) (fun x _ => E x)
  | ret _, _, _, h => h
  | exc _, _, _, h => h
  | stuck, _, _, h => h
  | choose _ _, 0, f, _ => f.elim
  | choose _ k, b + 1, f, h => fun i hi => wpB_of (k i) b (f i hi) (h i hi)
  | begun k, _, f, h => ⟨f.1, wpB_of k lim f.2 h⟩
theorem wp_bind {α β : Type} {Q : β → Prop} {E : Ex → Prop} {f : α → M β} : ∀ (m : M α), (m.bind f).wp Q E ↔ m.wp (fun a => (f a).wp Q E) E
  | ret _ => Iff.rfl
  | exc _ => Iff.rfl
  | stuck => Iff.rfl
  | choose _ k => forall_congr' fun i => forall_congr' fun _ => wp_bind (k i)
  | begun k => wp_bind k
end M

/-- what a law's text is proved over: the written part, the tables of code objects, the own classes and their fields -/
structure Lx where
  K : PySem.W.Frag
  T : List (Addr × Str)
  cA : Nat → Addr
  cF : Nat → List Str
  /-- an error that a suite holds: where it stands, its class, its dict, what the dict holds -/
  er : Option (Addr × Nat × Addr × V)
  /-- the instance that is being made -/
  sf : Option Addr
  /-- all tuples keep their object (no tuple is a key) -/
  fz : Bool := false
  /-- the top's tuples that the text names -/
  gt : List Addr := []

/-- the ghost: what is frozen for good, the law's own m -/
structure Gh where
  F : Hp
  mu : Option Addr
  bud : Nat
  nt : ∀ a ps, F a ≠ some (.tbl ps)

def keyD : Key → D
  | .inl i => .int i
  | .inr s => .str s

/-- no key of a dict -/
def notKey : V → Bool
  | .int _ | .str _ => false
  | _ => true
/-- a tuple that is the run's own, or written at the top, or the run's own with a known object -/
def SqD (fz : Bool) (gt : List Addr) (K : PySem.W.Frag) (F : Hp) (a : Addr) (xs : List V) : Prop :=
  ((fz || xs.any notKey) = false ∧ F a = some (.tup xs)) ∨ (∃ (o : Obj) (its : Array Value) (n : Nat), K.lookup a = some o ∧ o.cls = .type "tuple" ∧ o.data = .seq its n ∧ its.size ≤ sizeLine ∧ (o.dict = none ∧ a ∈ gt) ∧ Vals xs its.toList) ∨ ∃ o : Obj, F a = some (.frz o (.tup xs)) ∧ o.cls = .type "tuple" ∧ o.dict = none ∧ (fz || xs.any notKey) = true
theorem SqD.sq {fz : Bool} {gt : List Addr} {K : PySem.W.Frag} {F : Hp} {a : Addr} {xs : List V} : SqD fz gt K F a xs → SqT K F a xs
  | .inl e => .inl (.inl e.2)
  | .inr (.inl ⟨o, its, n, h1, h2, h3, h4, _, h5⟩) => .inr ⟨o, its, n, h1, h2, h3, h4, h5⟩
  | .inr (.inr ⟨o, e, _⟩) => .inl (.inr ⟨o, e⟩)
theorem SqD.mono {fz : Bool} {gt : List Addr} {K : PySem.W.Frag} {F F' : Hp} {a : Addr} {vs : List V} (h : ∀ a o, F a = some o → F' a = some o) : SqD fz gt K F a vs → SqD fz gt K F' a vs
  | .inl ⟨z, e⟩ => .inl ⟨z, h _ _ e⟩
  | .inr (.inl e) => .inr (.inl e)
  | .inr (.inr ⟨o, e, r⟩) => .inr (.inr ⟨o, h _ _ e, r⟩)
/-- how a new tuple is laid -/
def newT (fz : Bool) (o : Obj) (xs : List V) : HO := if (fz || xs.any notKey) = true then .frz o (.tup xs) else .tup xs
theorem newT_nt {fz : Bool} {o : Obj} {xs : List V} (ps : Array Value) : newT fz o xs ≠ .tbl ps := by
  unfold newT
  split <;> exact fun h => nomatch h
theorem newT_sq {fz : Bool} {gt : List Addr} {K : PySem.W.Frag} {F : Hp} {a : Addr} {o : Obj} {xs : List V} (h : F a = some (newT fz o xs)) (hc : o.cls = .type "tuple") (hd : o.dict = none) : SqD fz gt K F a xs := by
  unfold newT at h
  split at h
  · rename_i z
    exact .inr (.inr ⟨o, h, hc, hd, z⟩)
  · rename_i z
    exact .inl ⟨eq_false_of_ne_true z, h⟩
mutual
inductive Den (L : Lx) (g : Gh) : V → D → Prop
  | non : Den L g .non .non
  | bl (b : Bool) : Den L g (.bl b) (.bl b)
  | int (i : Int) : Den L g (.int i) (.int i)
  | str (s : Str) : Den L g (.str s) (.str s)
  | tup {a : Addr} {vs : List V} {ds : List D} : SqD L.fz L.gt L.K g.F a vs → DenL L g vs ds → Den L g (.ref a) (.tup ds)
  | lst {a : Addr} {vs : List V} {ds : List D} : g.F a = some (.lst vs) → DenL L g vs ds → Den L g (.ref a) (.lst ds)
  | dK {a : Addr} {o : Obj} {ks : List Key} {vs : List V} {ds : List D} : g.F a = some (.frz o (.dK (ks.zip vs))) → ks.length = vs.length → DenL L g vs ds → Den L g (.ref a) (.dct false ((ks.map keyD).zip ds))
  | dT {a : Addr} {o : Obj} {ks : List (List Key)} {vs : List V} {ds : List D} : g.F a = some (.frz o (.dT (ks.zip vs))) → ks.length = vs.length → DenL L g vs ds → Den L g (.ref a) (.dct true ((ks.map fun k => D.tup (k.map keyD)).zip ds))
  | ins {a c dx : Addr} {n : Nat} {vs : List V} {ds : List D} : g.F a = some (.ins (L.cA n) dx ((L.cF n).zip vs)) → (L.cF n).length = vs.length → DenL L g vs ds → Den L g (.ref a) (.ins n ds)
  | exc {a d : Addr} {n : Nat} {f : Str} {v : V} {x : D} : g.F a = some (exo a (L.cA n) (some d)) → g.F d = some (exd d [(f, v)]) → L.cF n = [f] → Den L g v x → Den L g (.ref a) (.exc n x)
  | err {a d : Addr} {n : Nat} {u : V} {x : D} : L.er = some (a, n, d, u) → Den L g u x → Den L g (.ref a) (.err n x)
  | ty (n : String) : Den L g (.ty n) (.ty n)
  | clo (n : Nat) : Den L g (.ref (L.cA n)) (.clo n)
  | rnd {a : Addr} : g.mu = some a → Den L g (.ref a) .rnd
  | scr {a : Addr} {ns : List Int} : SqL L.K g.F a (ns.map V.int) → Den L g (.ref a) (.scr ns)
  | pr {a : Addr} {vs : List V} {ds : List D} : g.F a = some (.tup vs) → DenL L g vs ds → Den L g (.ref a) (.pr ds)
inductive DenL (L : Lx) (g : Gh) : List V → List D → Prop
  | nil : DenL L g [] []
  | cons {v : V} {vs : List V} {d : D} {ds : List D} : Den L g v d → DenL L g vs ds → DenL L g (v :: vs) (d :: ds)
end

section
variable {L : Lx} {g g' : Gh}
theorem sqT_mono {K : PySem.W.Frag} {F F' : Hp} {a : Addr} {vs : List V} (h : ∀ a o, F a = some o → F' a = some o) : SqT K F a vs → SqT K F' a vs
  | .inl (.inl e) => .inl (.inl (h _ _ e))
  | .inl (.inr ⟨o, e⟩) => .inl (.inr ⟨o, h _ _ e⟩)
  | .inr e => .inr e
theorem sqL_mono {K : PySem.W.Frag} {F F' : Hp} {a : Addr} {vs : List V} (h : ∀ a o, F a = some o → F' a = some o) : SqL K F a vs → SqL K F' a vs
  | .inl (.inl e) => .inl (.inl (h _ _ e))
  | .inl (.inr ⟨o, e⟩) => .inl (.inr ⟨o, h _ _ e⟩)
  | .inr e => .inr e
theorem rd_mono {F F' : Hp} {a : Addr} {o : HO} (h : ∀ a o, F a = some o → F' a = some o) : Rd F a o → Rd F' a o
  | .inl e => .inl (h _ _ e)
  | .inr ⟨o, e⟩ => .inr ⟨o, h _ _ e⟩
mutual
theorem Den.mono (h : ∀ a o, g.F a = some o → g'.F a = some o) (hm : ∀ a, g.mu = some a → g'.mu = some a) : ∀ {v : V} {d : D}, Den L g v d → Den L g' v d
  | _, _, .non => .non
  | _, _, .bl b => .bl b
  | _, _, .int i => .int i
  | _, _, .str s => .str s
  | _, _, .tup e l => .tup (e.mono h) (DenL.mono h hm l)
  | _, _, .lst e l => .lst (h _ _ e) (DenL.mono h hm l)
  | _, _, .dK e z l => .dK (h _ _ e) z (DenL.mono h hm l)
  | _, _, .dT e z l => .dT (h _ _ e) z (DenL.mono h hm l)
  | _, _, .ins (c := c) e z l => .ins (c := c) (h _ _ e) z (DenL.mono h hm l)
  | _, _, .exc (n := n) a b c l => .exc (n := n) (h _ _ a) (h _ _ b) c (Den.mono h hm l)
  | _, _, .err (n := n) a l => .err (n := n) a (Den.mono h hm l)
  | _, _, .ty n => .ty n
  | _, _, .clo n => .clo n
  | _, _, .rnd e => .rnd (hm _ e)
  | _, _, .scr e => .scr (sqL_mono h e)
  | _, _, .pr e l => .pr (h _ _ e) (DenL.mono h hm l)
theorem DenL.mono (h : ∀ a o, g.F a = some o → g'.F a = some o) (hm : ∀ a, g.mu = some a → g'.mu = some a) : ∀ {vs : List V} {ds : List D}, DenL L g vs ds → DenL L g' vs ds
  | _, _, .nil => .nil
  | _, _, .cons a l => .cons (Den.mono h hm a) (DenL.mono h hm l)
end
theorem DenL.length : ∀ {vs : List V} {ds : List D}, DenL L g vs ds → vs.length = ds.length
  | _, _, .nil => rfl
  | _, _, .cons _ l => congrArg (· + 1) (DenL.length l)
theorem DenL.append : ∀ {vs : List V} {ds : List D} {ws : List V} {es : List D}, DenL L g vs ds → DenL L g ws es → DenL L g (vs ++ ws) (ds ++ es)
  | _, _, _, _, .nil, r => r
  | _, _, _, _, .cons a l, r => .cons a (DenL.append l r)
theorem DenL.get : ∀ {vs : List V} {ds : List D} {i : Nat} {d : D}, DenL L g vs ds → ds[i]? = some d → ∃ v, vs[i]? = some v ∧ Den L g v d
  | _, _, _, _, .nil, e => by simp at e
  | _, _, 0, _, .cons a _, e => by simp at e; subst e; exact ⟨_, rfl, a⟩
  | _, _, i + 1, d, .cons _ l, e => by
    obtain ⟨v, h1, h2⟩ := DenL.get (i := i) (d := d) l (by simpa using e)
    exact ⟨v, by simpa using h1, h2⟩
theorem DenL.get' : ∀ {vs : List V} {ds : List D} {i : Nat} {v : V}, DenL L g vs ds → vs[i]? = some v → ∃ d, ds[i]? = some d ∧ Den L g v d
  | _, _, _, _, .nil, e => by simp at e
  | _, _, 0, _, .cons a _, e => by simp at e; subst e; exact ⟨_, rfl, a⟩
  | _, _, i + 1, v, .cons _ l, e => by
    obtain ⟨d, h1, h2⟩ := DenL.get' (i := i) (v := v) l (by simpa using e)
    exact ⟨d, by simpa using h1, h2⟩
theorem DenL.take : ∀ {vs : List V} {ds : List D} (n : Nat), DenL L g vs ds → DenL L g (vs.take n) (ds.take n)
  | _, _, 0, _ => .nil
  | _, _, _ + 1, .nil => .nil
  | _, _, n + 1, .cons a l => .cons a (DenL.take n l)
theorem DenL.drop : ∀ {vs : List V} {ds : List D} (n : Nat), DenL L g vs ds → DenL L g (vs.drop n) (ds.drop n)
  | _, _, 0, l => l
  | _, _, _ + 1, .nil => .nil
  | _, _, n + 1, .cons _ l => DenL.drop n l
theorem DenL.reverse : ∀ {vs : List V} {ds : List D}, DenL L g vs ds → DenL L g vs.reverse ds.reverse
  | _, _, .nil => .nil
  | _, _, .cons a l => by rw [List.reverse_cons, List.reverse_cons]; exact DenL.append (DenL.reverse l) (.cons a .nil)
end

/-! ### the law's m, the steps of a run -/
/-- a stands in m -/
def InM (mu : Option Addr) (H : Hp) (a : Addr) : Prop := ∃ m, mu = some m ∧ (a = m ∨ ∃ kvs k, H m = some (.dK kvs) ∧ (k, V.ref a) ∈ kvs)
def bitsOk (z : Int) : Prop := z.natAbs < 2 ^ 1048600
def MOk (b : Nat) (H : Hp) (m : Addr) : Prop := ∃ (c l : Addr) (cs ls : List Int) (at_ : Int), H m = some (.dK [(Sum.inr "cells", .ref c), (Sum.inr "left", .ref l), (Sum.inr "at", .int at_)]) ∧
  H c = some (.lst (cs.map V.int)) ∧ H l = some (.lst (ls.map V.int)) ∧ c ≠ l ∧ cs.length ≤ 63 ∧ ls.length ≤ 63 ∧ (∀ z ∈ cs, bitsOk z) ∧ (∀ z ∈ ls, bitsOk z ∧ 0 ≤ z) ∧ 0 ≤ at_ ∧ at_.toNat + b ≤ lim
def RndOk (g : Gh) (H : Hp) : Prop := (g.mu = none → g.bud = lim + 1) ∧ ∀ m, g.mu = some m → MOk g.bud H m

/-- what stands whatever is done: the tables of code objects, a held error's dict -/
def TabX (L : Lx) (H : Hp) : Prop := LamX.Tabs L.T H ∧ ∀ a n d u, L.er = some (a, n, d, u) → ∃ f, L.cF n = [f] ∧ H d = some (.xd [(f, u)])
theorem TabX.ext {L : Lx} {H H' : Hp} (t : TabX L H) (e : ∀ b o, H b = some o → H' b = some o) : TabX L H' :=
  ⟨t.1.ext e, fun a n d u h => let ⟨f, h1, h2⟩ := t.2 a n d u h; ⟨f, h1, e _ _ h2⟩⟩
/-- a tuple stands there -/
def Tp (H : Hp) (a : Addr) : Prop := ∃ xs, H a = some (.tup xs)
/-- from (g, H) to (g', H'): what is frozen stays, what is not m's stays -/
structure Stp (L : Lx) (g : Gh) (H : Hp) (g' : Gh) (H' : Hp) : Prop where
  le : ∀ a o, g.F a = some o → g'.F a = some o
  mu : ∀ m, g.mu = some m → g'.mu = some m
  sub : ∀ a o, g'.F a = some o → H' a = some o
  keep : ∀ a o, H a = some o → (∀ ps, o ≠ .tbl ps) → ¬ InM g.mu H a → H' a = some o ∧ ¬ InM g'.mu H' a
  nf : ∀ a, H a ≠ none → H' a ≠ none ∧ (g.F a = none → g'.F a = none ∨ Tp H' a)
  nm : ∀ a o, g'.F a = some o → ¬ InM g'.mu H' a
  rnd : RndOk g' H'
  bud : g'.bud ≤ g.bud
  tab : TabX L H'
end DL
/-! The frame's slots as data, readings of expressions by runs. -/
namespace DL
open PySem PySem.Spec L2

/-- a slot: data, or a list or dict of one's own that is changed -/
inductive B where
  | fz (d : D) | ol (ds : List D) | od (t : Bool) (kvs : List (D × D)) | os (n : Nat) (fs : List (Str × D))
abbrev Env := List (Option B)
abbrev IE := Env → M D

section
variable {L : Lx} {g g' g'' : Gh} {H H' H'' : Hp} {σ σ' : L2.St} {Γ : Env}

/-- a dict at a, as data -/
def DctAt (L : Lx) (g : Gh) (H : Hp) (p : Addr) (t : Bool) (kvs : List (D × D)) : Prop :=
  (∃ (ks : List Key) (vs : List V) (ds : List D), H p = some (.dK (ks.zip vs)) ∧ ks.length = vs.length ∧ DenL L g vs ds ∧ kvs = (ks.map keyD).zip ds ∧ t = false) ∨
  (∃ (ks : List (List Key)) (vs : List V) (ds : List D), H p = some (.dT (ks.zip vs)) ∧ ks.length = vs.length ∧ DenL L g vs ds ∧ kvs = (ks.map fun k => D.tup (k.map keyD)).zip ds ∧ t = true)
theorem DctAt.step {t : Bool} (h : DctAt L g H a t kvs) (e : H' a = H a) (le : ∀ a o, g.F a = some o → g'.F a = some o) (mu : ∀ m, g.mu = some m → g'.mu = some m) : DctAt L g' H' a t kvs := by
  rcases h with ⟨ks, vs, ds, h1, h2, h3, h4⟩ | ⟨ks, vs, ds, h1, h2, h3, h4⟩
  · exact .inl ⟨ks, vs, ds, e.trans h1, h2, h3.mono le mu, h4⟩
  · exact .inr ⟨ks, vs, ds, e.trans h1, h2, h3.mono le mu, h4⟩
def Bind1 (L : Lx) (g : Gh) (H : Hp) (x : Option V) : B → Prop
  | .fz d => ∃ v, x = some v ∧ Den L g v d
  | .ol ds => ∃ p vs, x = some (.ref p) ∧ H p = some (.lst vs) ∧ DenL L g vs ds ∧ g.F p = none ∧ ¬ InM g.mu H p
  | .od t kvs => ∃ p, x = some (.ref p) ∧ g.F p = none ∧ ¬ InM g.mu H p ∧ DctAt L g H p t kvs
  | .os n fs => ∃ p dx vs, x = some (.ref p) ∧ (∀ a, L.sf = some a → p = a) ∧ H p = some (.ins (L.cA n) dx ((fs.map (·.1)).zip vs)) ∧ DenL L g vs (fs.map (·.2)) ∧ g.F p = none ∧ ¬ InM g.mu H p
def B.own : B → Bool
  | .fz _ => false
  | _ => true

structure Rep (L : Lx) (Γ : Env) (g : Gh) (σ : L2.St) (H : Hp) : Prop where
  sub : ∀ a o, g.F a = some o → H a = some o
  rnd : RndOk g H
  tab : TabX L H
  loc : ∀ (i : Nat) (b : B), Γ[i]? = some (some b) → ∃ x, σ[i]? = some x ∧ Bind1 L g H x b
  dis : ∀ (i j : Nat) (b c : B) (p : Addr), Γ[i]? = some (some b) → Γ[j]? = some (some c) → b.own = true → c.own = true → σ[i]? = some (some (.ref p)) → σ[j]? = some (some (.ref p)) → i = j
  nF : ∀ a o, g.F a = some o → ¬ InM g.mu H a
  len : Γ.length = σ.length

theorem tup_notM {x : Addr} {xs : List V} (r : RndOk g H) (h : H x = some (.tup xs)) : ¬ InM g.mu H x := by
  rintro ⟨m, hm, rfl | ⟨kvs, k, h1, h2⟩⟩
  · obtain ⟨c, l, cs, ls, at_, e, _⟩ := r.2 _ hm
    rw [h] at e
    cases e
  · obtain ⟨c, l, cs, ls, at_, e, ec, el, _⟩ := r.2 m hm
    rw [h1] at e
    cases e
    simp only [List.mem_cons, Prod.mk.injEq, List.not_mem_nil, or_false] at h2
    rcases h2 with ⟨_, z⟩ | ⟨_, z⟩ | ⟨_, z⟩
    · cases z; rw [h] at ec; cases ec
    · cases z; rw [h] at el; cases el
    · cases z
theorem Stp.keepF (s : Stp L g H g' H') {p : Addr} {o : HO} (h : H p = some o) (ho : ∀ xs, o ≠ .tup xs) (nt : ∀ ps, o ≠ .tbl ps) (m : ¬ InM g.mu H p) (hf : g.F p = none) : g'.F p = none := by
  obtain ⟨k, _⟩ := s.keep p o h nt m
  rcases (s.nf p (by rw [h]; simp)).2 hf with q | ⟨xs, q⟩
  · exact q
  · rw [k] at q
    cases q
    exact absurd rfl (ho xs)
theorem Stp.refl (r : Rep L Γ g σ H) : Stp L g H g H :=
  ⟨fun _ _ e => e, fun _ e => e, r.sub, fun _ _ e _ n => ⟨e, n⟩, fun _ n => ⟨n, .inl⟩, r.nF, r.rnd, Nat.le_refl _, r.tab⟩
theorem Stp.trans (a : Stp L g H g' H') (b : Stp L g' H' g'' H'') : Stp L g H g'' H'' :=
  ⟨fun x o e => b.le x o (a.le x o e), fun m e => b.mu m (a.mu m e), b.sub, fun x o e n h => let ⟨e1, h1⟩ := a.keep x o e n h; b.keep x o e1 n h1,
   fun x e => let ⟨e1, h1⟩ := a.nf x e; let ⟨e2, h2⟩ := b.nf x e1; ⟨e2, fun q => (h1 q).elim h2 fun ⟨xs, t⟩ => .inr ⟨xs, (b.keep x _ t (fun _ z => nomatch z) (tup_notM a.rnd t)).1⟩⟩, b.nm, b.rnd, Nat.le_trans b.bud a.bud, b.tab⟩
theorem Bind1.step {x : Option V} {b : B} (h : Bind1 L g H x b) (s : Stp L g H g' H') : Bind1 L g' H' x b := by
  cases b with
  | fz d => obtain ⟨v, e, h⟩ := h; exact ⟨v, e, h.mono s.le s.mu⟩
  | ol ds =>
    obtain ⟨p, vs, e, hp, hd, hf, hm⟩ := h
    obtain ⟨e1, m1⟩ := s.keep p _ hp (fun _ z => nomatch z) hm
    exact ⟨p, vs, e, e1, hd.mono s.le s.mu, s.keepF hp (fun _ z => nomatch z) (fun _ z => nomatch z) hm hf, m1⟩
  | od t kvs =>
    obtain ⟨p, e, hf, hm, hd⟩ := h
    have hp : ∃ o, H p = some o ∧ (∀ ps, o ≠ .tbl ps) ∧ ∀ xs, o ≠ .tup xs := by
      rcases hd with ⟨_, _, _, h1, _⟩ | ⟨_, _, _, h1, _⟩
      · exact ⟨_, h1, (fun _ z => nomatch z), fun _ z => nomatch z⟩
      · exact ⟨_, h1, (fun _ z => nomatch z), fun _ z => nomatch z⟩
    obtain ⟨o, h1, h2, h5⟩ := hp
    obtain ⟨e1, m1⟩ := s.keep p _ h1 h2 hm
    exact ⟨p, e, s.keepF h1 h5 h2 hm hf, m1, hd.step (e1.trans h1.symm) s.le s.mu⟩
  | os n fs =>
    obtain ⟨p, dx, vs, e, es, hp, hd, hf, hm⟩ := h
    obtain ⟨e1, m1⟩ := s.keep p _ hp (fun _ z => nomatch z) hm
    exact ⟨p, dx, vs, e, es, e1, hd.mono s.le s.mu, s.keepF hp (fun _ z => nomatch z) (fun _ z => nomatch z) hm hf, m1⟩
theorem Rep.step (r : Rep L Γ g σ H) (s : Stp L g H g' H') : Rep L Γ g' σ H' :=
  ⟨s.sub, s.rnd, s.tab, fun i b e => let ⟨x, e1, h⟩ := r.loc i b e; ⟨x, e1, h.step s⟩, r.dis, s.nm, r.len⟩

/-- a value to be looked at: frozen data, or a list or dict of one's own -/
def Vw (L : Lx) (g : Gh) (H : Hp) (v : V) (d : D) : Prop :=
  Den L g v d ∨ (∃ p vs ds, v = .ref p ∧ d = .lst ds ∧ H p = some (.lst vs) ∧ DenL L g vs ds ∧ ¬ InM g.mu H p) ∨ (∃ p t kvs, v = .ref p ∧ d = .dct t kvs ∧ ¬ InM g.mu H p ∧ DctAt L g H p t kvs)
theorem Vw.step {v : V} {d : D} (h : Vw L g H v d) (s : Stp L g H g' H') : Vw L g' H' v d := by
  rcases h with h | ⟨p, vs, ds, e1, e2, h1, h2, h3⟩ | ⟨p, t, kvs, e1, e2, hm, hd⟩
  · exact .inl (h.mono s.le s.mu)
  · obtain ⟨e, m⟩ := s.keep p _ h1 (fun _ z => nomatch z) h3
    exact .inr (.inl ⟨p, vs, ds, e1, e2, e, h2.mono s.le s.mu, m⟩)
  · have hp : ∃ o, H p = some o ∧ ∀ ps, o ≠ .tbl ps := by
      rcases hd with ⟨_, _, _, h1, _⟩ | ⟨_, _, _, h1, _⟩
      · exact ⟨_, h1, fun _ z => nomatch z⟩
      · exact ⟨_, h1, fun _ z => nomatch z⟩
    obtain ⟨o, h1, h2⟩ := hp
    obtain ⟨e, m⟩ := s.keep p _ h1 h2 hm
    exact .inr (.inr ⟨p, t, kvs, e1, e2, m, hd.step (e.trans h1.symm) s.le s.mu⟩)

/-- how an exception of a run lies in the hand layer: its class, its own dict -/
def ExAt (L : Lx) (g : Gh) (H : Hp) (x : Ex) (cls : Value) (d : Option Addr) : Prop :=
  cls = .ref (L.cA x.c) ∧ ∃ da f v, d = some da ∧ L.cF x.c = [f] ∧ H da = some (.xd [(f, v)]) ∧ Den L g v x.v
/-- the wish about exceptions, from where the run began -/
def XW (L : Lx) (W : WX) (g : Gh) (σ : L2.St) (H : Hp) (x : Ex) (b : Nat) : Prop :=
  ∀ cls d g' H', Stp L g H g' H' → g'.bud = b → ExAt L g' H' x cls d → W cls d σ H'
/-- what an expression's run says of its value: v says how it is told -/
abbrev TT1 := Lx → Hp → Gh → Hp → V → D → Prop
def Rd1 (L : Lx) (T : TT1) (W : WX) (i : IE) : TE := fun σ H Q => ∃ Γ g, Rep L Γ g σ H ∧
  (i Γ).wpB g.bud (fun d b => ∀ v g' H', Stp L g H g' H' → g'.bud = b → T L H g' H' v d → Q v H') (XW L W g σ H)
abbrev DenT : TT1 := fun L _ g _ v d => Den L g v d
abbrev VwT : TT1 := fun L _ g H v d => Vw L g H v d
/-- a new list of one's own -/
def FrT : TT1 := fun L H₀ g H v d => ∃ p vs ds, v = .ref p ∧ d = .lst ds ∧ H p = some (.lst vs) ∧ DenL L g vs ds ∧ g.F p = none ∧ ¬ InM g.mu H p ∧ H₀ p = none
/-- DE: the expression does what the run says, its value is frozen data; DV: .. is to be looked at -/
def DE (L : Lx) (X : Cx) (i : IE) (e : Expr) : Prop := ∀ W, Takes X W → PE X e (Rd1 L DenT W i)
def DV (L : Lx) (X : Cx) (i : IE) (e : Expr) : Prop := ∀ W, Takes X W → PE X e (Rd1 L VwT W i)
def DF (L : Lx) (X : Cx) (i : IE) (e : Expr) : Prop := ∀ W, Takes X W → PE X e (Rd1 L FrT W i)
theorem Rd1.weak {T T' : TT1} {W : WX} {i : IE} {Q : VK} (h : ∀ H₀ g H v d, T L H₀ g H v d → T' L H₀ g H v d) (r : Rd1 L T' W i σ H Q) : Rd1 L T W i σ H Q := by
  obtain ⟨Γ, g, rp, w⟩ := r
  exact ⟨Γ, g, rp, M.wpB_mono (fun d b k v g' H' s e t => k v g' H' s e (h _ _ _ _ _ t)) (fun _ _ x => x) _ _ w⟩
theorem DE.dv {X : Cx} {i : IE} {e : Expr} (h : DE L X i e) : DV L X i e := fun W tk =>
  ⟨fun pins s σ H Q I r => (h W tk).run pins s σ H Q I (r.weak fun _ _ _ _ _ t => .inl t)⟩
end
end DL
/-! Expressions. -/
namespace DL
open PySem PySem.Spec L2
theorem PE.imp {X : Cx} {e : Expr} {t t' : TE} (h : PE X e t) (k : ∀ σ H Q, t' σ H Q → t σ H Q) : PE X e t' := ⟨fun pins s σ H Q I r => h.run pins s σ H Q I (k _ _ _ r)⟩
section
variable {L : Lx} {X : Cx} {i j : IE} {a b e : Expr} {pos : Pos} {W : WX} {σ : L2.St} {H : Hp} {Q : VK}
theorem XW.of {g g' : Gh} {H' : Hp} {x : Ex} {b : Nat} (h : XW L W g σ H x b) (s : Stp L g H g' H') : XW L W g' σ H' x b := fun cls d g2 H2 s2 e q => h cls d g2 H2 (s.trans s2) e q
/-- what is wanted of a run's value, from (g, H) -/
abbrev Wn (L : Lx) (T : TT1) (g : Gh) (H : Hp) (Q : VK) : D → Nat → Prop := fun d b => ∀ v g' H', Stp L g H g' H' → g'.bud = b → T L H g' H' v d → Q v H'
/-- one run behind another -/
theorem Rd1.go {α : Type} {T : TT1} {Γ : Env} {g : Gh} {f : D → M α} {R : α → Nat → Prop} {Q : VK} (r : Rep L Γ g σ H) (h : ((i Γ).bind f).wpB g.bud R (XW L W g σ H))
    (k : ∀ v H1 d g1, Rep L Γ g1 σ H1 → Stp L g H g1 H1 → T L H g1 H1 v d → (f d).wpB g1.bud R (XW L W g1 σ H1) → Q v H1) : Rd1 L T W i σ H Q := by
  refine ⟨Γ, g, r, M.wpB_mono (fun d b h v g' H' s e t => ?_) (fun _ _ x => x) _ _ ((M.wpB_bind _ _).mp h)⟩
  subst e
  exact k v H' d g' (r.step s) s t (M.wpB_mono (fun _ _ x => x) (fun _ _ x => x.of s) _ _ h)

def iVar (n : Nat) : IE := fun Γ => match Γ[n]? with
  | some (some (.fz d)) => .ret d
  | _ => .stuck
def iUse (n : Nat) : IE := fun Γ => match Γ[n]? with
  | some (some (.fz d)) => .ret d
  | some (some (.ol ds)) => .ret (.lst ds)
  | some (some (.od t kvs)) => .ret (.dct t kvs)
  | _ => .stuck
def iLit (d : D) : IE := fun _ => .ret d
theorem de_var {n : Nat} {x : Str} (h : ∀ Y : Cx, Y.env = X.env → Y.N = X.N → PE Y (.Name x pos) (tVar n)) : DE L X (iVar n) (.Name x pos) := fun W _ => by
  refine PE.imp (h X rfl rfl) fun σ H Q r => ?_
  obtain ⟨Γ, g, rp, w⟩ := r
  unfold iVar at w
  split at w
  · rename_i d e
    obtain ⟨x, e1, v, e2, h⟩ := rp.loc _ _ e
    subst e2
    exact ⟨v, e1, w v g H (Stp.refl rp) rfl h⟩
  · exact w.elim
theorem dv_use {n : Nat} {x : Str} (h : PE X (.Name x pos) (tVar n)) : DV L X (iUse n) (.Name x pos) := fun W _ => by
  refine PE.imp h fun σ H Q r => ?_
  obtain ⟨Γ, g, rp, w⟩ := r
  unfold iUse at w
  split at w
  · rename_i d e
    obtain ⟨x, e1, v, e2, h⟩ := rp.loc _ _ e
    subst e2
    exact ⟨v, e1, w v g H (Stp.refl rp) rfl (.inl h)⟩
  · rename_i d e
    obtain ⟨x, e1, p, vs, e2, h1, h2, _, h3⟩ := rp.loc _ _ e
    subst e2
    exact ⟨.ref p, e1, w _ g H (Stp.refl rp) rfl (.inr (.inl ⟨p, vs, d, rfl, rfl, h1, h2, h3⟩))⟩
  · rename_i t d e
    obtain ⟨x, e1, p, e2, _, h3, h4⟩ := rp.loc _ _ e
    subst e2
    exact ⟨.ref p, e1, w _ g H (Stp.refl rp) rfl (.inr (.inr ⟨p, t, d, rfl, rfl, h3, h4⟩))⟩
  · exact w.elim
theorem de_c {v : V} {d : D} (h : PE X e (tC v)) (hd : ∀ g, Den L g v d) : DE L X (iLit d) e := fun W _ => by
  refine PE.imp h fun σ H Q r => ?_
  obtain ⟨Γ, g, rp, w⟩ := r
  exact w v g H (Stp.refl rp) rfl (hd g)

/-! argument lists -/
def evs : List IE → Env → M (List D)
  | [], _ => .ret []
  | i :: r, Γ => (i Γ).bind fun d => (evs r Γ).bind fun ds => .ret (d :: ds)
def RdA (L : Lx) (W : WX) (is : List IE) : TA := fun σ H Q => ∃ Γ g, Rep L Γ g σ H ∧
  (evs is Γ).wpB g.bud (fun ds b => ∀ vs g' H', Stp L g H g' H' → g'.bud = b → DenL L g' vs ds → Q vs H') (XW L W g σ H)
def DA (L : Lx) (X : Cx) (is : List IE) (es : List Expr) : Prop := ∀ W, Takes X W → PA X es (RdA L W is)
theorem PA.imp {es : List Expr} {t t' : TA} (h : PA X es t) (k : ∀ σ H Q, t' σ H Q → t σ H Q) : PA X es t' := ⟨fun pos pins s σ H Q I r => h.run pos pins s σ H Q I (k _ _ _ r)⟩
theorem RdA.go {α : Type} {Γ : Env} {g : Gh} {is : List IE} {f : List D → M α} {R : α → Nat → Prop} {Q : List V → Hp → Prop} (r : Rep L Γ g σ H) (h : ((evs is Γ).bind f).wpB g.bud R (XW L W g σ H))
    (k : ∀ vs H1 ds g1, Rep L Γ g1 σ H1 → Stp L g H g1 H1 → DenL L g1 vs ds → (f ds).wpB g1.bud R (XW L W g1 σ H1) → Q vs H1) : RdA L W is σ H Q := by
  refine ⟨Γ, g, r, M.wpB_mono (fun d b h v g' H' s e t => ?_) (fun _ _ x => x) _ _ ((M.wpB_bind _ _).mp h)⟩
  subst e
  exact k v H' d g' (r.step s) s t (M.wpB_mono (fun _ _ x => x) (fun _ _ x => x.of s) _ _ h)
theorem da_nil : DA L X [] [] := fun W _ => PA.imp pa_nil fun σ H Q ⟨Γ, g, rp, w⟩ => w [] g H (Stp.refl rp) rfl .nil
theorem da_cons {is : List IE} {es : List Expr} (h : DE L X i e) (hr : DA L X is es) (hs : starEach (e :: es) X.env = (false, eval e X.env) :: starEach es X.env := by rfl) : DA L X (i :: is) (e :: es) := fun W tk => by
  refine PA.imp (pa_cons (h W tk) (hr W tk) hs) fun σ H Q ⟨Γ, g, rp, w⟩ => ?_
  refine ⟨Γ, g, rp, M.wpB_mono (fun d b h v g1 H1 s e t => ?_) (fun _ _ x => x) _ _ ((M.wpB_bind _ _).mp w)⟩
  subst e
  refine ⟨Γ, g1, rp.step s, M.wpB_mono (fun ds b h vs g2 H2 s2 e2 t2 => ?_) (fun _ _ x => x.of s) _ _ ((M.wpB_bind _ _).mp h)⟩
  exact h (v :: vs) g2 H2 (s.trans s2) e2 (.cons (t.mono s2.le s2.mu) t2)
end
end DL
/-! New objects. -/
namespace DL
open PySem PySem.Spec L2
section
variable {L : Lx} {g : Gh} {H : Hp} {σ : L2.St} {Γ : Env} {p : Addr} {o : HO}
theorem upd_keep {H : Hp} {p b : Addr} {o u : HO} (n : H p = none) (e : H b = some u) : upd H p o b = some u := by rw [upd_ne (ne_of_none e n)]; exact e
theorem InM.there {mu : Option Addr} {H : Hp} {a : Addr} (h : ∀ m, mu = some m → ∃ b, MOk b H m) (i : InM mu H a) : H a ≠ none := by
  obtain ⟨m, e, h1⟩ := i
  obtain ⟨b, c, l, cs, ls, at_, e1, e2, e3, _⟩ := h m e
  rcases h1 with rfl | ⟨kvs, k, e4, hm⟩
  · rw [e1]; simp
  · rw [e1] at e4
    cases e4
    simp only [List.mem_cons, Prod.mk.injEq, V.ref.injEq, List.not_mem_nil, or_false] at hm
    rcases hm with ⟨_, rfl⟩ | ⟨_, rfl⟩ | ⟨_, h⟩
    · rw [e2]; simp
    · rw [e3]; simp
    · cases h
theorem MOk.new {b : Nat} {m : Addr} (n : H p = none) (h : MOk b H m) : MOk b (upd H p o) m := by
  obtain ⟨c, l, cs, ls, at_, e1, e2, e3, r⟩ := h
  exact ⟨c, l, cs, ls, at_, upd_keep n e1, upd_keep n e2, upd_keep n e3, r⟩
theorem InM.new {mu : Option Addr} {a : Addr} (n : H p = none) (h : ∀ m, mu = some m → ∃ b, MOk b H m) (i : InM mu (upd H p o) a) : InM mu H a := by
  obtain ⟨m, e, h1⟩ := i
  refine ⟨m, e, ?_⟩
  rcases h1 with h1 | ⟨kvs, k, e4, hm⟩
  · exact .inl h1
  · obtain ⟨b, c, l, cs, ls, at_, e1, _⟩ := h m e
    rw [upd_keep n e1] at e4
    exact .inr ⟨kvs, k, e1.trans e4, hm⟩
theorem RndOk.ok (r : RndOk g H) : ∀ m, g.mu = some m → ∃ b, MOk b H m := fun m e => ⟨_, r.2 m e⟩
theorem put_nt {g : Gh} {p : Addr} {o : HO} (ho : ∀ ps, o ≠ .tbl ps) (a : Addr) (ps : Array Value) : upd g.F p o a ≠ some (.tbl ps) := fun e => by
  by_cases h : a = p
  · subst h
    rw [upd_same] at e
    exact ho ps (Option.some.inj e)
  · rw [upd_ne h] at e
    exact g.nt a ps e
def Gh.put (g : Gh) (p : Addr) (o : HO) (ho : ∀ ps, o ≠ .tbl ps := by intro _ z; cases z) : Gh := { g with F := upd g.F p o, nt := put_nt ho }
/-- a new object is laid -/
theorem stp_new (r : Rep L Γ g σ H) (n : H p = none) (f : Bool) (ho : ∀ ps, o ≠ .tbl ps := by intro _ z; cases z) : Stp L g H (if f then g.put p o ho else g) (upd H p o) := by
  have nF : g.F p = none := by
    cases e : g.F p with
    | none => rfl
    | some u => rw [r.sub _ _ e] at n; cases n
  have nM : ¬ InM g.mu (upd H p o) p := fun i => (InM.there r.rnd.ok (i.new n r.rnd.ok)) n
  have emu : (if f then g.put p o ho else g).mu = g.mu := by cases f <;> rfl
  have ebud : (if f then g.put p o ho else g).bud = g.bud := by cases f <;> rfl
  have hF : ∀ a u, (if f then g.put p o ho else g).F a = some u → (a = p ∧ u = o) ∨ g.F a = some u := fun a u e => by
    cases f with
    | false => exact .inr e
    | true =>
      by_cases h : a = p
      · subst h
        have e' : upd g.F a o a = some u := e
        rw [upd_same] at e'
        exact .inl ⟨rfl, (Option.some.inj e').symm⟩
      · have e' : upd g.F p o a = some u := e
        rw [upd_ne h] at e'
        exact .inr e'
  refine ⟨fun a u e => ?_, fun m e => emu.trans e, fun a u e => ?_, fun a u e _ nm => ⟨upd_keep n e, fun i => nm (by rw [emu] at i; exact i.new n r.rnd.ok)⟩, fun a h => ⟨?_, fun e => ?_⟩, fun a u e i => ?_, ⟨by rw [ebud, emu]; exact r.rnd.1, fun m e => ?_⟩, Nat.le_of_eq ebud, r.tab.ext fun b u e => upd_keep n e⟩
  · cases f with
    | false => exact e
    | true => exact upd_keep nF e
  · rcases hF a u e with ⟨rfl, rfl⟩ | e
    · exact upd_same
    · exact upd_keep n (r.sub _ _ e)
  · by_cases q : a = p
    · rw [q]; rw [upd_same]; simp
    · rw [upd_ne q]; exact h
  · have q : a ≠ p := fun z => h (by rw [z]; exact n)
    cases f with
    | false => exact .inl e
    | true => exact .inl ((upd_ne q).trans e)
  · rw [emu] at i
    rcases hF a u e with ⟨rfl, rfl⟩ | e
    · exact nM i
    · exact r.nF _ _ e (i.new n r.rnd.ok)
  · rw [emu] at e
    rw [ebud]
    exact (r.rnd.2 m e).new n
theorem stp_put (r : Rep L Γ g σ H) (n : H p = none) (ho : ∀ ps, o ≠ .tbl ps := by intro _ z; cases z) : Stp L g H (g.put p o ho) (upd H p o) := stp_new r n true ho
theorem put_F {ho : ∀ ps, o ≠ .tbl ps} : (g.put p o ho).F p = some o := upd_same

theorem none_back {g' : Gh} {H' : Hp} {p : Addr} (s : Stp L g H g' H') (n : H' p = none) : H p = none := by
  cases e : H p with
  | none => rfl
  | some o => exact absurd n (s.nf p (by rw [e]; simp)).1
theorem nF_of (r : Rep L Γ g σ H) (n : H p = none) : g.F p = none := by
  cases e : g.F p with
  | none => rfl
  | some u => rw [r.sub _ _ e] at n; cases n
/-- a list that was laid just now -/
theorem FrT.new {g1 : Gh} {H1 : Hp} {vs : List V} {ds : List D} (r1 : Rep L Γ g1 σ H1) (s : Stp L g H g1 H1) (n : H1 p = none) (t : DenL L g1 vs ds) : FrT L H g1 (upd H1 p (.lst vs)) (.ref p) (.lst ds) :=
  ⟨p, vs, ds, rfl, rfl, upd_same, t, nF_of r1 n, fun i => (InM.there r1.rnd.ok (i.new n r1.rnd.ok)) n, none_back s n⟩
/-- it is frozen -/
theorem stp_frz {H₀ : Hp} {g₀ : Gh} {v : V} {d : D} (s : Stp L g₀ H₀ g H) (t : FrT L H₀ g H v d) : ∃ g', Stp L g₀ H₀ g' H ∧ g'.bud = g.bud ∧ Den L g' v d := by
  obtain ⟨p, vs, ds, rfl, rfl, h1, h2, h3, h4, h5⟩ := t
  have le : ∀ a o, g.F a = some o → (g.put p (.lst vs)).F a = some o := fun a o e => upd_keep h3 e
  have hF : ∀ a u, (g.put p (.lst vs)).F a = some u → (a = p ∧ u = .lst vs) ∨ g.F a = some u := fun a u e => by
    by_cases h : a = p
    · subst h
      have e' : upd g.F a (.lst vs) a = some u := e
      rw [upd_same] at e'
      exact .inl ⟨rfl, (Option.some.inj e').symm⟩
    · have e' : upd g.F p (.lst vs) a = some u := e
      rw [upd_ne h] at e'
      exact .inr e'
  refine ⟨g.put p (.lst vs), ⟨fun a o e => le a o (s.le a o e), s.mu, fun a o e => ?_, s.keep, fun a n => ⟨(s.nf a n).1, fun e => ?_⟩, fun a o e => ?_, s.rnd, s.bud, s.tab⟩, rfl, .lst put_F (h2.mono le fun _ e => e)⟩
  · rcases hF a o e with ⟨rfl, rfl⟩ | e
    · exact h1
    · exact s.sub _ _ e
  · have q : a ≠ p := fun z => n (by rw [z]; exact h5)
    exact ((s.nf a n).2 e).imp (upd_ne q).trans id
  · rcases hF a o e with ⟨rfl, rfl⟩ | e
    · exact h4
    · exact s.nm _ _ e
theorem DF.de {X : Cx} {i : IE} {e : Expr} (h : DF L X i e) : DE L X i e := fun W tk => by
  refine PE.imp (h W tk) fun σ H Q ⟨Γ, g, rp, w⟩ => ⟨Γ, g, rp, M.wpB_mono (fun d b k v g' H' s e t => ?_) (fun _ _ x => x) _ _ w⟩
  obtain ⟨g2, s2, e2, t2⟩ := stp_frz s t
  exact k v g2 H' s2 (e2.trans e) t2

/-! displays -/
variable {X : Cx} {W : WX} {is : List IE} {es : List Expr} {pos : Pos}
def iTup (is : List IE) : IE := fun Γ => (evs is Γ).bind fun ds => if ds.length ≤ sizeLine then .ret (.tup ds) else .stuck
def iLst (is : List IE) : IE := fun Γ => (evs is Γ).bind fun ds => if ds.length ≤ sizeLine then .ret (.lst ds) else .stuck
/-- a tuple's display, its object known -/
theorem pe_tupF {es : List Expr} {t : TA} {fz : Bool} {x1} (h : PA X es t) : PE X (.Tuple es x1 pos) (fun σ H Q => t σ H fun xs H1 => xs.length ≤ sizeLine ∧ ∀ p o, H1 p = none → o.cls = .type "tuple" → o.dict = none → Q (.ref p) (upd H1 p (newT fz o xs))) := by
  refine ⟨fun pins s σ H Q I hq => ?_⟩
  refine PySem.wpAny_Tuple_spliced (thn (h.run pos pins s σ H _ I hq) fun us s1 ⟨xs, H1, I1, r, z, q⟩ => ⟨by rw [← r.length]; exact z, ?_⟩)
  have hf := I1.hok.fresh (a := s1.heap.objs.size) (Nat.le_refl _)
  refine ⟨.ref s1.heap.objs.size, upd H1 s1.heap.objs.size (newT fz { cls := .type "tuple", data := .seq us.toArray } xs), I1.laid (t' := s1.toks) (fun b u e => Heap.get?_push_of_some _ e) (Nat.le_refl _) ?_, rfl, q _ { cls := .type "tuple", data := .seq us.toArray } hf rfl rfl⟩
  have k : ObjOk X.prog X.w (upd H1 s1.heap.objs.size (newT fz { cls := .type "tuple", data := .seq us.toArray } xs)) (s1.heap.push { cls := .type "tuple", data := .seq us.toArray }) s1.heap.objs.size (.tup xs) := ⟨z, us, r, ⟨_, Heap.get?_push_size _ rfl, rfl, _, rfl⟩⟩
  unfold newT at k ⊢
  split
  · rename_i c
    rw [if_pos c] at k
    exact ⟨Heap.get?_push_size _ rfl, k⟩
  · rename_i c
    rw [if_neg c] at k
    exact k
theorem de_tup {x1} (h : DA L X is es) : DE L X (iTup is) (.Tuple es x1 pos) := fun W tk => by
  refine PE.imp (pe_tupF (fz := L.fz) (h W tk)) fun σ H Q ⟨Γ, g, rp, w⟩ => RdA.go rp w fun xs H1 ds g1 r1 s t w => ?_
  split at w
  · rename_i z
    refine ⟨by rw [t.length]; exact z, fun p o n hc hd => w _ _ _ (s.trans (stp_put r1 n newT_nt)) rfl (.tup (newT_sq put_F hc hd) ?_)⟩
    exact t.mono (stp_put r1 n newT_nt).le (stp_put (o := newT L.fz o xs) r1 n newT_nt).mu
  · exact w.elim
theorem df_lst (h : DA L X is es) : DF L X (iLst is) (.List es pos) := fun W tk => by
  refine PE.imp (pe_lst (h W tk)) fun σ H Q ⟨Γ, g, rp, w⟩ => RdA.go rp w fun xs H1 ds g1 r1 s t w => ?_
  split at w
  · rename_i z
    refine ⟨by rw [t.length]; exact z, fun p n => w _ _ _ (s.trans (stp_new r1 n false)) rfl (FrT.new r1 s n t)⟩
  · exact w.elim
end
end DL
/-! Operators. -/
namespace DL
open PySem PySem.Spec L2

mutual
def D.py : D → PyData
  | .non => .none
  | .bl b => .bool b
  | .int i => .int i
  | .str s => .str s
  | .tup xs => .tuple (D.pyL xs)
  | .lst xs => .list (D.pyL xs)
  | .dct _ _ | .ins _ _ | .exc _ _ | .err _ _ | .ty _ | .clo _ | .rnd | .scr _ | .pr _ => .none
def D.pyL : List D → List PyData
  | [] => []
  | x :: r => D.py x :: D.pyL r
end
mutual
def D.pl : D → Bool
  | .non | .bl _ | .int _ | .str _ => true
  | .tup xs | .lst xs => D.plL xs
  | .dct _ _ | .ins _ _ | .exc _ _ | .err _ _ | .ty _ | .clo _ | .rnd | .scr _ | .pr _ => false
def D.plL : List D → Bool
  | [] => true
  | x :: r => D.pl x && D.plL r
end
mutual
def D.dep : D → Nat
  | .tup xs | .lst xs => D.depL xs + 1
  | .non | .bl _ | .int _ | .str _ | .dct _ _ | .ins _ _ | .exc _ _ | .err _ _ | .ty _ | .clo _ | .rnd | .scr _ | .pr _ => 0
def D.depL : List D → Nat
  | [] => 0
  | x :: r => max (D.dep x) (D.depL r)
end
mutual
theorem D.plain_py : ∀ d : D, d.pl = true → d.py.plain = true
  | .non, _ | .bl _, _ | .int _, _ | .str _, _ => rfl
  | .tup xs, h => by simp only [D.py, PyData.plain]; exact D.plain_pyL xs (by simpa only [D.pl] using h)
  | .lst xs, h => by simp only [D.py, PyData.plain]; exact D.plain_pyL xs (by simpa only [D.pl] using h)
  | .dct _ _, h | .ins _ _, h | .exc _ _, h | .err _ _, h | .ty _, h | .clo _, h | .rnd, h | .scr _, h | .pr _, h => by simp only [D.pl] at h; cases h
theorem D.plain_pyL : ∀ ds : List D, D.plL ds = true → PyData.plainAll (D.pyL ds) = true
  | [], _ => rfl
  | x :: r, h => by
    simp only [D.plL, Bool.and_eq_true] at h
    simp only [D.pyL, PyData.plainAll, D.plain_py x h.1, D.plain_pyL r h.2, Bool.and_self]
end
mutual
theorem D.depth_py : ∀ d : D, d.py.depth = d.dep
  | .non | .bl _ | .int _ | .str _ | .dct _ _ | .ins _ _ | .exc _ _ | .err _ _ | .ty _ | .clo _ | .rnd | .scr _ | .pr _ => by simp only [D.py, PyData.depth, D.dep]
  | .tup xs => by simp only [D.py, PyData.depth, D.dep, D.depth_pyL xs]
  | .lst xs => by simp only [D.py, PyData.depth, D.dep, D.depth_pyL xs]
theorem D.depth_pyL : ∀ ds : List D, PyData.depthAll (D.pyL ds) = D.depL ds
  | [] => rfl
  | x :: r => by simp only [D.pyL, PyData.depthAll, D.depL, D.depth_py x, D.depth_pyL r]
end

section
variable {L : Lx} {X : Cx} {g : Gh} {H : Hp} {σ : L2.St} {Γ : Env}
theorem rd_sub {F H : Hp} {a : Addr} {o : HO} (h : ∀ a o, F a = some o → H a = some o) (r : Rd F a o) : Rd H a o := rd_mono h r
mutual
theorem Den.dp (sub : ∀ a o, g.F a = some o → H a = some o) : ∀ {v : V} {d : D}, Den L g v d → d.pl = true → Dp L.K H v d.py
  | _, _, .non, _ => .non
  | _, _, .bl b, _ => .bl b
  | _, _, .int i, _ => .int i
  | _, _, .str s, _ => .str s
  | _, _, .tup e l, h => by simp only [D.py]; exact .tup (sqT_mono sub e.sq) (DenL.dp sub l (by simpa only [D.pl] using h))
  | _, _, .lst e l, h => by simp only [D.py]; exact (.lst (.inl (.inl (sub _ _ e))) (DenL.dp sub l (by simpa only [D.pl] using h)))
  | _, _, .dK _ _ _, h => by simp only [D.pl] at h; cases h
  | _, _, .dT _ _ _, h => by simp only [D.pl] at h; cases h
  | _, _, .ins _ _ _, h => by simp only [D.pl] at h; cases h
  | _, _, .exc _ _ _ _, h => by simp only [D.pl] at h; cases h
  | _, _, .err _ _, h => by simp only [D.pl] at h; cases h
  | _, _, .ty _, h => by simp only [D.pl] at h; cases h
  | _, _, .clo _, h => by simp only [D.pl] at h; cases h
  | _, _, .rnd _, h => by simp only [D.pl] at h; cases h
  | _, _, .scr _, h => by simp only [D.pl] at h; cases h
  | _, _, .pr _ _, h => by simp only [D.pl] at h; cases h
theorem DenL.dp (sub : ∀ a o, g.F a = some o → H a = some o) : ∀ {vs : List V} {ds : List D}, DenL L g vs ds → D.plL ds = true → DpAll L.K H vs (D.pyL ds)
  | _, _, .nil, _ => .nil
  | _, _, .cons a l, h => by
    simp only [D.plL, Bool.and_eq_true] at h
    exact .cons (Den.dp sub a h.1) (DenL.dp sub l h.2)
end
theorem Vw.dp (sub : ∀ a o, g.F a = some o → H a = some o) {v : V} {d : D} (h : Vw L g H v d) (p : d.pl = true) : Dp L.K H v d.py := by
  rcases h with h | ⟨q, vs, ds, rfl, rfl, h1, h2, _⟩ | ⟨q, t, kvs, rfl, rfl, _, _⟩
  · exact h.dp sub p
  · simp only [D.py]
    exact .lst (.inl (.inl h1)) (h2.dp sub (by simpa only [D.pl] using p))
  · simp only [D.pl] at p
    cases p

/-- a two-place operation on values, by what it says of data; it raises nothing -/
def RdO (L : Lx) (f : D → D → Option D) : R2 := fun x y H Q => ∃ Γ g σ dx dy d, Rep L Γ g σ H ∧ Vw L g H x dx ∧ Vw L g H y dy ∧ f dx dy = some d ∧ Wn L DenT g H Q d g.bud
def OpD (L : Lx) (X : Cx) (s : Value → Value → Sem Value) (f : D → D → Option D) : Prop := OpR X s (RdO L f)
def orD (f f' : D → D → Option D) : D → D → Option D := fun x y => match f x y with
  | some d => some d
  | none => f' x y
theorem OpD.or {s : Value → Value → Sem Value} {f f' : D → D → Option D} (h : OpD L X s f) (h' : OpD L X s f') : OpD L X s (orD f f') := by
  intro pins st σ H x y v u Q I rx ry ⟨Γ, g, σ', dx, dy, d, rp, vx, vy, e, w⟩
  unfold orD at e
  split at e
  · rename_i d' e'
    cases e
    exact h pins st σ H x y v u Q I rx ry ⟨Γ, g, σ', dx, dy, d, rp, vx, vy, e', w⟩
  · exact h' pins st σ H x y v u Q I rx ry ⟨Γ, g, σ', dx, dy, d, rp, vx, vy, e, w⟩
def iOp (f : D → D → Option D) (i j : IE) : IE := fun Γ => (i Γ).bind fun x => (j Γ).bind fun y => match f x y with
  | some d => .ret d
  | none => .stuck
theorem Rd1.op {T T' : TT1} {i j : IE} {f : D → D → Option D} {W : WX} {Q : VK} (hT : ∀ H₀ g H v d, T L H₀ g H v d → Vw L g H v d) (hT' : ∀ H₀ g H v d, T' L H₀ g H v d → Vw L g H v d) (h : Rd1 L DenT W (iOp f i j) σ H Q) : tOp (RdO L f) (Rd1 L T W i) (Rd1 L T' W j) σ H Q := by
  obtain ⟨Γ, g, rp, w⟩ := h
  refine Rd1.go rp w fun x H1 dx g1 r1 s1 t1 w => Rd1.go r1 w fun y H2 dy g2 r2 s2 t2 w => ?_
  skip
  split at w
  · rename_i d e
    exact ⟨Γ, g2, σ, dx, dy, d, r2, (hT _ _ _ _ _ t1).step s2, hT' _ _ _ _ _ t2, e, fun v g' H' s eb t => w v g' H' (s1.trans (s2.trans s)) eb t⟩
  · exact w.elim
theorem de_bin {o : Operator} {f : D → D → Option D} {i j : IE} {a b : Expr} {pos : Pos} (ho : OpD L X (binaryOp o) f) (ha : DV L X i a) (hb : DV L X j b) : DE L X (iOp f i j) (.BinOp a o b pos) := fun W tk =>
  PE.imp (pe_op ho (ha W tk) (hb W tk)) fun σ H Q h => h.op (fun _ _ _ _ _ t => t) fun _ _ _ _ _ t => t
theorem de_cmp {o : CmpOp} {f : D → D → Option D} {i j : IE} {a b : Expr} {pos : Pos} (ho : OpD L X (compareOp o) f) (ha : DV L X i a) (hb : DV L X j b) (hm : behindInMarks o b = false) : DE L X (iOp f i j) (.Compare a [o] [b] pos) := fun W tk =>
  PE.imp (pe_cmpR ho (ha W tk) (hb W tk) hm) fun σ H Q h => h.op (fun _ _ _ _ _ t => t) fun _ _ _ _ _ t => t

/-! the operations -/
theorem Vw.int {v : V} {i : Int} (h : Vw L g H v (.int i)) : v = .int i := by
  rcases h with h | ⟨_, _, _, _, e, _⟩ | ⟨_, _, _, _, e, _⟩
  · cases h; rfl
  · cases e
  · cases e
theorem Vw.str {v : V} {i : Str} (h : Vw L g H v (.str i)) : v = .str i := by
  rcases h with h | ⟨_, _, _, _, e, _⟩ | ⟨_, _, _, _, e, _⟩
  · cases h; rfl
  · cases e
  · cases e
theorem Vw.bl {v : V} {i : Bool} (h : Vw L g H v (.bl i)) : v = .bl i := by
  rcases h with h | ⟨_, _, _, _, e, _⟩ | ⟨_, _, _, _, e, _⟩
  · cases h; rfl
  · cases e
  · cases e
theorem Vw.tup {v : V} {ds : List D} (sub : ∀ a o, g.F a = some o → H a = some o) (h : Vw L g H v (.tup ds)) : ∃ a vs, v = .ref a ∧ SqT L.K H a vs ∧ DenL L g vs ds ∧ Den L g v (.tup ds) := by
  rcases h with h | ⟨_, _, _, _, e, _⟩ | ⟨_, _, _, _, e, _⟩
  · cases id h with
    | tup e l => exact ⟨_, _, rfl, sqT_mono sub e.sq, l, h⟩
  · cases e
  · cases e
theorem Vw.lst {v : V} {ds : List D} (sub : ∀ a o, g.F a = some o → H a = some o) (h : Vw L g H v (.lst ds)) : ∃ a vs, v = .ref a ∧ H a = some (.lst vs) ∧ DenL L g vs ds := by
  rcases h with h | ⟨p, vs, ds', rfl, e, h1, h2, _⟩ | ⟨_, _, _, _, e, _⟩
  · cases id h with
    | lst e l => exact ⟨_, _, rfl, sub _ _ e, l⟩
  · cases e
    exact ⟨p, vs, rfl, h1, h2⟩
  · cases e
def fII (c : Int → Int → Bool) (k : Int → Int → D) : D → D → Option D
  | .int i, .int j => if c i j then some (k i j) else none
  | _, _ => none
theorem opd_ii {s : Value → Value → Sem Value} {C : Int → Int → Prop} {k : Int → Int → V} {kd : Int → Int → D} {c : Int → Int → Bool} (h : OpR X s (rI C k)) (hc : ∀ i j, c i j = true → C i j) (hk : ∀ g i j, Den L g (k i j) (kd i j)) : OpD L X s (fII c kd) := by
  intro pins st σ H x y v u Q I rx ry ⟨Γ, g, σ', dx, dy, d, rp, vx, vy, e, w⟩
  unfold fII at e
  split at e
  · split at e
    · rename_i z
      cases e
      cases vx.int
      cases vy.int
      exact h pins st σ H _ _ v u Q I rx ry ⟨_, _, rfl, rfl, hc _ _ z, w _ g H (Stp.refl rp) rfl (hk g _ _)⟩
    · cases e
  · cases e

def fAddI := fII (fun _ _ => true) fun i j => .int (i + j)
def fSubI := fII (fun _ _ => true) fun i j => .int (i - j)
theorem od_addI : OpD L X (binaryOp .Add) fAddI := opd_ii (C := fun _ _ => True) (k := fun i j => .int (i + j)) (fun pins s σ H x y v u Q I rx ry ⟨i, j, e1, e2, _, q⟩ => op_add pins s σ H x y v u Q I rx ry ⟨i, j, e1, e2, q⟩) (fun _ _ _ => trivial) fun _ _ _ => .int _
theorem od_subI : OpD L X (binaryOp .Sub) fSubI := opd_ii (C := fun _ _ => True) (k := fun i j => .int (i - j)) (fun pins s σ H x y v u Q I rx ry ⟨i, j, e1, e2, _, q⟩ => op_sub pins s σ H x y v u Q I rx ry ⟨i, j, e1, e2, q⟩) (fun _ _ _ => trivial) fun _ _ _ => .int _
def fMulI := fII (fun i j => decide (i.natAbs.log2 + j.natAbs.log2 < 1000000)) fun i j => .int (i * j)
theorem od_mulI : OpD L X (binaryOp .Mult) fMulI := opd_ii op_mulW (fun _ _ h => by simpa [CMulW] using h) fun _ _ _ => .int _
def fDivI := fII (fun _ j => decide (0 < j) && decide (j.natAbs.log2 < 9000)) fun i j => .int (i / j)
theorem od_divI : OpD L X (binaryOp .FloorDiv) fDivI := opd_ii op_fdivW (fun _ _ h => by simpa [CDivW] using h) fun _ _ _ => .int _
def fModI := fII (fun _ j => decide (0 < j)) fun i j => .int (i % j)
theorem od_modI : OpD L X (binaryOp .Mod) fModI := opd_ii op_mod (fun _ _ h => of_decide_eq_true h) fun _ _ _ => .int _
def fLtI := fII (fun _ _ => true) fun i j => .bl (decide (i < j))
def fLeI := fII (fun _ _ => true) fun i j => .bl (decide (i ≤ j))
def fGtI := fII (fun _ _ => true) fun i j => .bl (decide (j < i))
def fGeI := fII (fun _ _ => true) fun i j => .bl (decide (j ≤ i))
theorem od_ltI : OpD L X (compareOp .Lt) fLtI := opd_ii (C := fun _ _ => True) (k := fun i j => .bl (decide (i < j))) (fun pins s σ H x y v u Q I rx ry ⟨i, j, e1, e2, _, q⟩ => op_lt pins s σ H x y v u Q I rx ry ⟨i, j, e1, e2, q⟩) (fun _ _ _ => trivial) fun _ _ _ => .bl _
theorem od_leI : OpD L X (compareOp .LtE) fLeI := opd_ii (C := fun _ _ => True) (k := fun i j => .bl (decide (i ≤ j))) (fun pins s σ H x y v u Q I rx ry ⟨i, j, e1, e2, _, q⟩ => op_le pins s σ H x y v u Q I rx ry ⟨i, j, e1, e2, q⟩) (fun _ _ _ => trivial) fun _ _ _ => .bl _
theorem od_gtI : OpD L X (compareOp .Gt) fGtI := opd_ii (C := fun _ _ => True) (k := fun i j => .bl (decide (j < i))) (fun pins s σ H x y v u Q I rx ry ⟨i, j, e1, e2, _, q⟩ => op_gt pins s σ H x y v u Q I rx ry ⟨i, j, e1, e2, q⟩) (fun _ _ _ => trivial) fun _ _ _ => .bl _
theorem od_geI : OpD L X (compareOp .GtE) fGeI := opd_ii (C := fun _ _ => True) (k := fun i j => .bl (decide (j ≤ i))) (fun pins s σ H x y v u Q I rx ry ⟨i, j, e1, e2, _, q⟩ => op_ge pins s σ H x y v u Q I rx ry ⟨i, j, e1, e2, q⟩) (fun _ _ _ => trivial) fun _ _ _ => .bl _
def fAddS : D → D → Option D
  | .str x, .str y => if x.length + y.length ≤ sizeLine then some (.str (x ++ y)) else none
  | _, _ => none
theorem od_addS : OpD L X (binaryOp .Add) fAddS := by
  intro pins st σ H x y v u Q I rx ry ⟨Γ, g, σ', dx, dy, d, rp, vx, vy, e, w⟩
  unfold fAddS at e
  split at e
  · split at e
    · rename_i z
      cases e
      cases vx.str
      cases vy.str
      exact op_add_str pins st σ H _ _ v u Q I rx ry ⟨_, _, rfl, rfl, z, w _ g H (Stp.refl rp) rfl (.str _)⟩
    · cases e
  · cases e
def fAddL : D → D → Option D
  | .lst x, .lst y => if x.length + y.length ≤ sizeLine then some (.lst (x ++ y)) else none
  | _, _ => none
theorem od_addL : OpD L X (binaryOp .Add) fAddL := by
  intro pins st σ H x y v u Q I rx ry ⟨Γ, g, σ', dx, dy, d, rp, vx, vy, e, w⟩
  unfold fAddL at e
  split at e
  · split at e
    · rename_i z
      cases e
      obtain ⟨a, vs, rfl, h1, l1⟩ := vx.lst rp.sub
      obtain ⟨b, ws, rfl, h2, l2⟩ := vy.lst rp.sub
      refine op_cat pins st σ H _ _ v u Q I rx ry ⟨a, b, vs, ws, rfl, rfl, h1, h2, by rw [l1.length, l2.length]; exact z, fun p n => ?_⟩
      have s := stp_put (o := .lst (vs ++ ws)) rp n
      exact w _ _ _ s rfl (.lst put_F ((l1.append l2).mono s.le s.mu))
    · cases e
  · cases e
def fAddT : D → D → Option D
  | .tup x, .tup y => if x.length + y.length ≤ sizeLine then some (.tup (x ++ y)) else none
  | _, _ => none
/-- t + u, the new tuple's object known -/
theorem op_catF {fz : Bool} : OpR X (binaryOp .Add) (fun x y H Q => ∃ a b xs ys, x = .ref a ∧ y = .ref b ∧ SqT X.K H a xs ∧ SqT X.K H b ys ∧ xs.length + ys.length ≤ sizeLine ∧ (xs = [] → Q (.ref b) H) ∧ (ys = [] → Q (.ref a) H) ∧
    ∀ p o, H p = none → o.cls = .type "tuple" → o.dict = none → Q (.ref p) (upd H p (newT fz o (xs ++ ys)))) := by
  intro pins s σ H x y v u Q I rx ry h
  obtain ⟨a, b, xs, ys, rfl, rfl, sa, sb, fit, g0, g1, g2⟩ := h
  cases rx
  cases ry
  obtain ⟨ws1, e1, t1, _⟩ := I.tuple sa
  obtain ⟨ws2, e2, t2, _⟩ := I.tuple sb
  by_cases hx : xs = []
  · subst hx
    cases e1
    exact cat_tup0 t1 t2 ⟨.ref b, H, I, rfl, g0 rfl⟩
  · refine HT.cat_tup t1 t2 (fun z => hx (e1.nil_iff.mp z)) (fun z => ⟨.ref a, H, I, rfl, g1 (e2.nil_iff.mp z)⟩) (fun z => ?_) (by rw [← e1.length, ← e2.length]; exact fit)
    refine ⟨.ref s.heap.objs.size, _, I.laid (t' := s.toks) (o := newT fz { cls := .type "tuple", data := .seq (ws1 ++ ws2).toArray } (xs ++ ys)) (fun b ob q => Heap.get?_push_of_some _ q) (Nat.le_refl _) ?_, rfl, g2 _ _ (I.hok.fresh (Nat.le_refl _)) rfl rfl⟩
    have k : ∀ H', ObjOk X.prog X.w H' (s.heap.push { cls := .type "tuple", data := .seq (ws1 ++ ws2).toArray }) s.heap.objs.size (.tup (xs ++ ys)) := fun _ => ⟨by rw [List.length_append]; exact fit, _, e1.append e2, PyProof.Rows.IsTup.new _ _⟩
    unfold newT
    split
    · exact ⟨Heap.get?_push_size _ rfl, k _⟩
    · exact k _
theorem od_addT (hK : X.K = L.K) : OpD L X (binaryOp .Add) fAddT := by
  intro pins st σ H x y v u Q I rx ry ⟨Γ, g, σ', dx, dy, d, rp, vx, vy, e, w⟩
  unfold fAddT at e
  split at e
  · split at e
    · rename_i z
      cases e
      obtain ⟨a, vs, rfl, h1, l1, d1⟩ := vx.tup rp.sub
      obtain ⟨b, ws, rfl, h2, l2, d2⟩ := vy.tup rp.sub
      rw [← hK] at h1 h2
      refine op_catF (fz := L.fz) pins st σ H _ _ v u Q I rx ry ⟨a, b, vs, ws, rfl, rfl, h1, h2, by rw [l1.length, l2.length]; exact z, fun q => ?_, fun q => ?_, fun p o n hc hd => ?_⟩
      · subst q
        cases l1
        exact w _ g H (Stp.refl rp) rfl d2
      · subst q
        cases l2
        rw [List.append_nil] at w
        exact w _ g H (Stp.refl rp) rfl d1
      · have s := stp_put (o := newT L.fz o (vs ++ ws)) rp n newT_nt
        exact w _ _ _ s rfl (.tup (newT_sq put_F hc hd) ((l1.append l2).mono s.le s.mu))
    · cases e
  · cases e
/-- == of data -/
def dEq (x y : D) : Bool := PyData.eqv x.py y.py
def okEq (x y : D) : Bool := x.pl && y.pl && decide (min x.dep y.dep ≤ 60)
def fEqD (x y : D) : Option D := if okEq x y then some (.bl (dEq x y)) else none
def fNeD (x y : D) : Option D := if okEq x y then some (.bl (!dEq x y)) else none
theorem od_eqD (hK : X.K = L.K) (hu : X.A.units + 64 < cLine) : OpD L X (compareOp .Eq) fEqD := by
  intro pins st σ H x y v u Q I rx ry ⟨Γ, g, σ', dx, dy, d, rp, vx, vy, e, w⟩
  unfold fEqD at e
  split at e
  · rename_i z
    cases e
    unfold okEq at z
    simp only [Bool.and_eq_true, decide_eq_true_eq] at z
    obtain ⟨as, r1⟩ := Dp.reads I dx.py x v (hK ▸ vx.dp rp.sub z.1.1) rx
    obtain ⟨bs, r2⟩ := Dp.reads I dy.py y u (hK ▸ vy.dp rp.sub z.1.2) ry
    exact SeqAt.eq_plain r1 r2 (D.plain_py _ z.1.1) (D.plain_py _ z.1.2) (by rw [D.depth_py, D.depth_py]; omega) ⟨.bl _, H, I, rfl, w _ g H (Stp.refl rp) rfl (.bl _)⟩
  · cases e
theorem od_neD (hK : X.K = L.K) (hu : X.A.units + 64 < cLine) : OpD L X (compareOp .NotEq) fNeD := by
  intro pins st σ H x y v u Q I rx ry ⟨Γ, g, σ', dx, dy, d, rp, vx, vy, e, w⟩
  unfold fNeD at e
  split at e
  · rename_i z
    cases e
    unfold okEq at z
    simp only [Bool.and_eq_true, decide_eq_true_eq] at z
    obtain ⟨as, r1⟩ := Dp.reads I dx.py x v (hK ▸ vx.dp rp.sub z.1.1) rx
    obtain ⟨bs, r2⟩ := Dp.reads I dy.py y u (hK ▸ vy.dp rp.sub z.1.2) ry
    exact SeqAt.ne_plain r1 r2 (D.plain_py _ z.1.1) (D.plain_py _ z.1.2) (by rw [D.depth_py, D.depth_py]; omega) ⟨.bl _, H, I, rfl, w _ g H (Stp.refl rp) rfl (.bl _)⟩
  · cases e
end
end DL
/-! Statements. -/
namespace DL
open PySem PySem.Spec L2

inductive Fl where
  | nx (Γ : Env) | bk (Γ : Env) | ct (Γ : Env) | rt (d : D)
abbrev IS := Env → M Fl
abbrev IT := Env → M Bool
/-- the ghost grows -/
structure FLe (g g' : Gh) : Prop where
  F : ∀ a o, g.F a = some o → g'.F a = some o
  mu : ∀ m, g.mu = some m → g'.mu = some m
theorem FLe.refl (g : Gh) : FLe g g := ⟨fun _ _ e => e, fun _ e => e⟩
theorem FLe.trans {g g' g'' : Gh} (a : FLe g g') (b : FLe g' g'') : FLe g g'' := ⟨fun x o e => b.F x o (a.F x o e), fun m e => b.mu m (a.mu m e)⟩
section
variable {L : Lx} {X : Cx} {g0 g g' : Gh} {H0 H H' : Hp} {σ σ' : L2.St} {Γ Γ' : Env} {W : WX}
theorem Stp.fle (s : Stp L g H g' H') : FLe g g' := ⟨s.le, s.mu⟩

structure RepS (L : Lx) (g0 : Gh) (H0 : Hp) (Γ : Env) (g : Gh) (σ : L2.St) (H : Hp) : Prop where
  rep : Rep L Γ g σ H
  base : Stp L g0 H0 g H
  new : ∀ (i : Nat) (b : B) (p : Addr), Γ[i]? = some (some b) → b.own = true → σ[i]? = some (some (.ref p)) → H0 p = none
theorem RepS.step (r : RepS L g0 H0 Γ g σ H) (s : Stp L g H g' H') : RepS L g0 H0 Γ g' σ H' := ⟨r.rep.step s, r.base.trans s, r.new⟩
theorem set_at {n : Nat} {d : D} {i : Nat} {b : B} {v : V} (hl : Γ.length = σ.length) (e : (Γ.set n (some (.fz d)))[i]? = some (some b)) :
    (i = n ∧ b = .fz d ∧ (σ.set n (some v))[i]? = some (some v)) ∨ (i ≠ n ∧ Γ[i]? = some (some b) ∧ (σ.set n (some v))[i]? = σ[i]?) := by
  by_cases h : i = n
  · subst h
    by_cases hl' : i < Γ.length
    · rw [List.getElem?_set_self hl'] at e
      cases e
      exact .inl ⟨rfl, rfl, List.getElem?_set_self (by rw [← hl]; exact hl')⟩
    · rw [List.getElem?_eq_none (by simpa using hl')] at e; cases e
  · rw [List.getElem?_set_ne (Ne.symm h)] at e
    exact .inr ⟨h, e, List.getElem?_set_ne (Ne.symm h)⟩
/-- a slot is given frozen data -/
theorem Rep.set {n : Nat} {v : V} {d : D} (r : Rep L Γ g σ H) (h : Den L g v d) : Rep L (Γ.set n (some (.fz d))) g (σ.set n (some v)) H := by
  refine ⟨r.sub, r.rnd, r.tab, fun i b e => ?_, fun i j b c p e1 e2 o1 o2 s1 s2 => ?_, r.nF, by rw [List.length_set, List.length_set]; exact r.len⟩
  · rcases set_at (v := v) r.len e with ⟨rfl, rfl, s⟩ | ⟨_, e, s⟩
    · exact ⟨_, s, v, rfl, h⟩
    · rw [s]; exact r.loc i b e
  · rcases set_at (v := v) r.len e1 with ⟨_, rfl, _⟩ | ⟨_, e1, t1⟩
    · cases o1
    rcases set_at (v := v) r.len e2 with ⟨_, rfl, _⟩ | ⟨_, e2, t2⟩
    · cases o2
    exact r.dis i j b c p e1 e2 o1 o2 (t1 ▸ s1) (t2 ▸ s2)
theorem RepS.set {n : Nat} {v : V} {d : D} (r : RepS L g0 H0 Γ g σ H) (h : Den L g v d) : RepS L g0 H0 (Γ.set n (some (.fz d))) g (σ.set n (some v)) H :=
  ⟨r.rep.set h, r.base, fun i b p e o s => by
    rcases set_at (v := v) r.rep.len e with ⟨_, rfl, _⟩ | ⟨_, e, t⟩
    · cases o
    · exact r.new i b p e o (t ▸ s)⟩

/-- what is wanted behind a statement's run; gs: the ghost where it began -/
def FlT (L : Lx) (g0 : Gh) (H0 : Hp) (gs : Gh) (Dn : Ends) : Fl → Nat → Prop
  | .nx Γ, b => ∀ g σ H, RepS L g0 H0 Γ g σ H → FLe gs g → g.bud = b → Dn.nx σ H
  | .bk Γ, b => ∀ g σ H, RepS L g0 H0 Γ g σ H → FLe gs g → g.bud = b → Dn.bk σ H
  | .ct Γ, b => ∀ g σ H, RepS L g0 H0 Γ g σ H → FLe gs g → g.bud = b → Dn.ct σ H
  | .rt d, b => ∀ g v H, Stp L g0 H0 g H → g.bud = b → Den L g v d → Dn.rt v H
theorem FlT.of {gs gs' : Gh} {Dn : Ends} {fl : Fl} {b : Nat} (h : FlT L g0 H0 gs Dn fl b) (f : FLe gs gs') : FlT L g0 H0 gs' Dn fl b := by
  cases fl with
  | nx Γ => exact fun g σ H r k e => h g σ H r (f.trans k) e
  | bk Γ => exact fun g σ H r k e => h g σ H r (f.trans k) e
  | ct Γ => exact fun g σ H r k e => h g σ H r (f.trans k) e
  | rt d => exact h
def XS (L : Lx) (W : WX) (g0 : Gh) (H0 : Hp) (x : Ex) (b : Nat) : Prop := ∀ cls d g σ H, Stp L g0 H0 g H → g.bud = b → ExAt L g H x cls d → W cls d σ H
def RdS (L : Lx) (W : WX) (g0 : Gh) (H0 : Hp) (s : IS) : TS := fun Dn σ H => ∃ Γ g, RepS L g0 H0 Γ g σ H ∧ (s Γ).wpB g.bud (FlT L g0 H0 g Dn) (XS L W g0 H0)
def DS (L : Lx) (X : Cx) (s : IS) (st : Stmt) : Prop := ∀ W g0 H0, Takes X W → PS X st (RdS L W g0 H0 s)
def DSs (L : Lx) (X : Cx) (s : IS) (sts : List Stmt) : Prop := ∀ W g0 H0, Takes X W → PSs X sts (RdS L W g0 H0 s)
theorem PS.imp {st : Stmt} {t t' : TS} (h : PS X st t) (k : ∀ Dn σ H, t' Dn σ H → t Dn σ H) : PS X st t' := ⟨fun pins s σ H Dn I r => h.run pins s σ H Dn I (k _ _ _ r)⟩
theorem PSs.imp {st : List Stmt} {t t' : TS} (h : PSs X st t) (k : ∀ Dn σ H, t' Dn σ H → t Dn σ H) : PSs X st t' := ⟨fun pins s σ H Dn I r => h.run pins s σ H Dn I (k _ _ _ r)⟩
theorem XS.xw {x : Ex} {b : Nat} (s : Stp L g0 H0 g H) (h : XS L W g0 H0 x b) : XW L W g σ H x b := fun cls d g' H' s' e q => h cls d g' σ H' (s.trans s') e q
/-- an expression's run, then on -/
theorem Rd1.goS {T : TT1} {i : IE} {f : D → M Fl} {R : Fl → Nat → Prop} {Q : VK} (r : RepS L g0 H0 Γ g σ H) (h : ((i Γ).bind f).wpB g.bud R (XS L W g0 H0))
    (k : ∀ v H1 d g1, RepS L g0 H0 Γ g1 σ H1 → Stp L g H g1 H1 → T L H g1 H1 v d → (f d).wpB g1.bud R (XS L W g0 H0) → Q v H1) : Rd1 L T W i σ H Q := by
  refine ⟨Γ, g, r.rep, M.wpB_mono (fun d b h v g' H' s e t => ?_) (fun _ _ x => x.xw r.base) _ _ ((M.wpB_bind _ _).mp h)⟩
  subst e
  exact k v H' d g' (r.step s) s t h

/-! small statements -/
variable {e : Expr} {i : IE} {pos : Pos} {s t : IS} {st : Stmt} {sts : List Stmt}
def sSet (n : Nat) (i : IE) : IS := fun Γ => (i Γ).bind fun d => .ret (.nx (Γ.set n (some (.fz d))))
def sRet (i : IE) : IS := fun Γ => (i Γ).bind fun d => .ret (.rt d)
def sExpr (i : IE) : IS := fun Γ => (i Γ).bind fun _ => .ret (.nx Γ)
def sPass : IS := fun Γ => .ret (.nx Γ)
def sSeq (s t : IS) : IS := fun Γ => (s Γ).bind fun fl => match fl with
  | .nx Γ' => t Γ'
  | f => .ret f
theorem ds_set {n : Nat} {x : Str} {pos' : Pos} (hN : X.N.Nodup) (hi : X.N[n]? = some x) (hx : Loc X.env.scope x) (h : DE L X i e) (hs : swapsWith e (some (.Name x pos')) pos.line X.env = pure false := by rfl)
    (hf : X.fn x = true ∨ X.env.scope.names.lookup x = some .local := by first | exact .inl rfl | exact .inr rfl) : DS L X (sSet n i) (.Assign [.Name x pos'] e pos) := fun W g0 H0 tk => by
  refine PS.imp (ps_set hN hi hx (h W tk) hs hf) fun Dn σ H ⟨Γ, g, r, w⟩ => Rd1.goS r w fun v H1 d g1 r1 s t w => ?_
  exact w g1 _ H1 (r1.set t) s.fle rfl
theorem ds_ret (h : DE L X i e) : DS L X (sRet i) (.Return (some e) pos) := fun W g0 H0 tk => by
  refine PS.imp (ps_ret (h W tk)) fun Dn σ H ⟨Γ, g, r, w⟩ => Rd1.goS r w fun v H1 d g1 r1 s t w => ?_
  exact w g1 v H1 r1.base rfl t
def sRetN : IS := fun _ => .ret (.rt .non)
theorem ds_retN : DS L X sRetN (.Return none pos) := fun W g0 H0 tk => PS.imp ps_retN fun Dn σ H ⟨Γ, g, r, w⟩ => w g .non H r.base rfl .non
theorem ds_expr (h : DV L X i e) (hs : swapsWith e none pos.line X.env = pure false := by rfl) : DS L X (sExpr i) (.Expr e pos) := fun W g0 H0 tk => by
  refine PS.imp (ps_expr (h W tk) hs) fun Dn σ H ⟨Γ, g, r, w⟩ => Rd1.goS r w fun v H1 d g1 r1 s t w => ?_
  exact w g1 σ H1 r1 s.fle rfl
theorem ds_pass : DS L X sPass (.Pass pos) := fun W g0 H0 tk => PS.imp ps_pass fun Dn σ H ⟨Γ, g, r, w⟩ => w g σ H r (FLe.refl g) rfl
theorem ds_doc {x j} {pos pos' : Pos} : DS L X sPass (.Expr (.Constant (.str x) j pos) pos') := fun W g0 H0 tk => PS.imp ps_doc fun Dn σ H ⟨Γ, g, r, w⟩ => w g σ H r (FLe.refl g) rfl
theorem dss_nil : DSs L X sPass [] := fun W g0 H0 tk => PSs.imp pss_nil fun Dn σ H ⟨Γ, g, r, w⟩ => w g σ H r (FLe.refl g) rfl
theorem dss_one (h : DS L X s st) : DSs L X s [st] := fun W g0 H0 tk => pss_one (h W g0 H0 tk)
theorem dss_cons (h : DS L X s st) (hr : DSs L X t sts) : DSs L X (sSeq s t) (st :: sts) := fun W g0 H0 tk => by
  refine PSs.imp (pss_cons (h W g0 H0 tk) (hr W g0 H0 tk)) fun Dn σ H ⟨Γ, g, r, w⟩ => ⟨Γ, g, r, M.wpB_mono (fun fl b k => ?_) (fun _ _ x => x) _ _ ((M.wpB_bind _ _).mp w)⟩
  cases fl with
  | nx Γ' =>
    intro g' σ' H' r' f e
    subst e
    exact ⟨Γ', g', r', M.wpB_mono (fun _ _ z => z.of f) (fun _ _ x => x) _ _ k⟩
  | bk Γ' => exact k
  | ct Γ' => exact k
  | rt d => exact k
def sBrk : IS := fun Γ => .ret (.bk Γ)
def sCnt : IS := fun Γ => .ret (.ct Γ)
theorem ds_brk : DS L X sBrk (.Break pos) := fun W g0 H0 tk => PS.imp ps_break fun Dn σ H ⟨Γ, g, r, w⟩ => w g σ H r (FLe.refl g) rfl
theorem ds_cnt : DS L X sCnt (.Continue pos) := fun W g0 H0 tk => PS.imp ps_continue fun Dn σ H ⟨Γ, g, r, w⟩ => w g σ H r (FLe.refl g) rfl

/-! tests -/
def RdT (L : Lx) (W : WX) (t : IT) : TT := fun σ H Q => ∃ Γ g, Rep L Γ g σ H ∧ (t Γ).wpB g.bud (fun c b => ∀ g' H', Stp L g H g' H' → g'.bud = b → Q c H') (XW L W g σ H)
def DT (L : Lx) (X : Cx) (t : IT) (e : Expr) : Prop := ∀ W, Takes X W → PT X e (RdT L W t)
theorem PT.imp {e : Expr} {t t' : TT} (h : PT X e t) (k : ∀ σ H Q, t' σ H Q → t σ H Q) : PT X e t' := ⟨fun pins s σ H Q I r => h.run pins s σ H Q I (k _ _ _ r)⟩
def asB (i : IE) : IT := fun Γ => (i Γ).bind fun d => match d with
  | .bl k => .ret k
  | _ => .stuck
theorem dt_val (h : DE L X i e) (he : ∀ whole, isTrue e X.env whole = (do let v ← whole; standAt e.pos; holding [v] (truthy v)) := by intro _; rfl) : DT L X (asB i) e := fun W tk => by
  refine PT.imp (pt_val (h W tk) he) fun σ H Q ⟨Γ, g, r, w⟩ => Rd1.go r w fun v H1 d g1 r1 s t w => ?_
  cases d with
  | bl k =>
    cases t
    exact ⟨k, rfl, w g1 H1 s rfl⟩
  | _ => exact w.elim
theorem dt_cmp {o : CmpOp} {f : D → D → Option D} {i j : IE} {a b : Expr} (ho : OpD L X (compareOp o) f) (ha : DV L X i a) (hb : DV L X j b) (hm : behindInMarks o b = false) : DT L X (asB (iOp f i j)) (.Compare a [o] [b] pos) := fun W tk => by
  refine PT.imp (pt_cmpR ho (ha W tk) (hb W tk) hm) fun σ H Q ⟨Γ, g, r, w⟩ => Rd1.op (fun _ _ _ _ _ t => t) (fun _ _ _ _ _ t => t) ⟨Γ, g, r, M.wpB_mono (fun d b k v g' H' s e t => ?_) (fun _ _ x => x) _ _ ((M.wpB_bind _ _).mp w)⟩
  cases d with
  | bl c =>
    cases t
    exact ⟨c, rfl, k g' H' s e⟩
  | _ => exact k.elim
def notB (t : IT) : IT := fun Γ => (t Γ).bind fun c => .ret (!c)
theorem dt_not {t : IT} (h : DT L X t e) : DT L X (notB t) (.UnaryOp .Not e pos) := fun W tk =>
  PT.imp (pt_not (h W tk)) fun σ H Q ⟨Γ, g, r, w⟩ => ⟨Γ, g, r, (M.wpB_bind _ _).mp w⟩
def DW (L : Lx) (X : Cx) (t : IT) (e : Expr) : Prop := ∀ W, Takes X W → PW X e (RdT L W t)
theorem PW.imp {e : Expr} {t t' : TT} (h : PW X e t) (k : ∀ σ H Q, t' σ H Q → t σ H Q) : PW X e t' := ⟨fun wh pins s σ H Q I r => h.run wh pins s σ H Q I (k _ _ _ r)⟩
def andB (t u : IT) : IT := fun Γ => (t Γ).bind fun c => if c = true then u Γ else .ret false
def orB (t u : IT) : IT := fun Γ => (t Γ).bind fun c => if c = true then .ret true else u Γ
theorem RdT.go {t : IT} {f : Bool → M Bool} {Q : Bool → Hp → Prop} {R : Bool → Nat → Prop} (r : Rep L Γ g σ H) (h : ((t Γ).bind f).wpB g.bud R (XW L W g σ H))
    (k : ∀ c H1 g1, Rep L Γ g1 σ H1 → Stp L g H g1 H1 → (f c).wpB g1.bud R (XW L W g1 σ H1) → Q c H1) : RdT L W t σ H Q := by
  refine ⟨Γ, g, r, M.wpB_mono (fun c b h g' H' s e => ?_) (fun _ _ x => x) _ _ ((M.wpB_bind _ _).mp h)⟩
  subst e
  exact k c H' g' (r.step s) s (M.wpB_mono (fun _ _ x => x) (fun _ _ x => x.of s) _ _ h)
theorem dw_and1 {t : IT} {a : Expr} (h : DT L X t a) : DW L X t (.BoolOp .And [a] pos) := fun W tk => pw_and1 (h W tk)
theorem dw_or1 {t : IT} {a : Expr} (h : DT L X t a) : DW L X t (.BoolOp .Or [a] pos) := fun W tk => pw_or1 (h W tk)
theorem dw_and {t u : IT} {a b : Expr} {rest : List Expr} (h : DT L X t a) (h2 : DW L X u (.BoolOp .And (b :: rest) pos)) : DW L X (andB t u) (.BoolOp .And (a :: b :: rest) pos) := fun W tk => by
  refine PW.imp (pw_and (h W tk) (h2 W tk)) fun σ H Q ⟨Γ, g, r, w⟩ => RdT.go r w fun c H1 g1 r1 s w => ?_
  cases c with
  | true => exact iteT ⟨Γ, g1, r1, M.wpB_mono (fun c b k g' H' s' e => k g' H' (s.trans s') e) (fun _ _ x => x) _ _ w⟩
  | false => exact iteF (w g1 H1 s rfl)
theorem dw_or {t u : IT} {a b : Expr} {rest : List Expr} (h : DT L X t a) (h2 : DW L X u (.BoolOp .Or (b :: rest) pos)) : DW L X (orB t u) (.BoolOp .Or (a :: b :: rest) pos) := fun W tk => by
  refine PW.imp (pw_or (h W tk) (h2 W tk)) fun σ H Q ⟨Γ, g, r, w⟩ => RdT.go r w fun c H1 g1 r1 s w => ?_
  cases c with
  | false => exact iteF ⟨Γ, g1, r1, M.wpB_mono (fun c b k g' H' s' e => k g' H' (s.trans s') e) (fun _ _ x => x) _ _ w⟩
  | true => exact iteT (w g1 H1 s rfl)
theorem DW.dt {t : IT} (h : DW L X t e) : DT L X t e := fun W tk => (h W tk).pt
/-- if -/
def sIf (c : IT) (s t : IS) : IS := fun Γ => (c Γ).bind fun b => if b = true then s Γ else t Γ
theorem ds_if {c : IT} {ce : Expr} {sa sb : List Stmt} (hc : DT L X c ce) (ha : DSs L X s sa) (hb : DSs L X t sb) : DS L X (sIf c s t) (.If ce sa sb pos) := fun W g0 H0 tk => by
  refine PS.imp (ps_if (hc W tk) (ha W g0 H0 tk) (hb W g0 H0 tk)) fun Dn σ H ⟨Γ, g, r, w⟩ => ⟨Γ, g, r.rep, M.wpB_mono (fun c b k g' H' sp e => ?_) (fun _ _ x => x.xw r.base) _ _ ((M.wpB_bind _ _).mp w)⟩
  subst e
  cases c with
  | true => exact iteT ⟨Γ, g', r.step sp, M.wpB_mono (fun _ _ z => z.of sp.fle) (fun _ _ x => x) _ _ k⟩
  | false => exact iteF ⟨Γ, g', r.step sp, M.wpB_mono (fun _ _ z => z.of sp.fle) (fun _ _ x => x) _ _ k⟩
/-- a if c else b; and, or as values -/
def iIf (c : IT) (i j : IE) : IE := fun Γ => (c Γ).bind fun b => if b = true then i Γ else j Γ
theorem de_if {c : IT} {i j : IE} {ce a b : Expr} (hc : DT L X c ce) (ha : DE L X i a) (hb : DE L X j b) : DE L X (iIf c i j) (.IfExp ce a b pos) := fun W tk => by
  refine PE.imp (pe_ifExp (hc W tk) (ha W tk) (hb W tk)) fun σ H Q ⟨Γ, g, r, w⟩ => ⟨Γ, g, r, M.wpB_mono (fun c b k g' H' s e => ?_) (fun _ _ x => x) _ _ ((M.wpB_bind _ _).mp w)⟩
  subst e
  cases c with
  | true => exact iteT ⟨Γ, g', r.step s, M.wpB_mono (fun d b k v g2 H2 s2 e t => k v g2 H2 (s.trans s2) e t) (fun _ _ x => x.of s) _ _ k⟩
  | false => exact iteF ⟨Γ, g', r.step s, M.wpB_mono (fun d b k v g2 H2 s2 e t => k v g2 H2 (s.trans s2) e t) (fun _ _ x => x.of s) _ _ k⟩
def iAnd (i j : IE) : IE := fun Γ => (asB i Γ).bind fun c => if c = true then j Γ else .ret (.bl false)
def iOr (i j : IE) : IE := fun Γ => (asB i Γ).bind fun c => if c = true then .ret (.bl true) else j Γ
def iNot (i : IE) : IE := fun Γ => (asB i Γ).bind fun c => .ret (.bl (!c))
theorem asB_bind {α : Type} {f : Bool → M α} : ((asB i Γ).bind f) = (i Γ).bind fun d => match d with
  | .bl k => f k
  | _ => .stuck := by
  unfold asB
  generalize i Γ = m
  induction m with
  | ret d => cases d <;> rfl
  | exc x => rfl
  | stuck => rfl
  | choose n k ih => exact congrArg (M.choose n) (funext ih)
  | begun k ih => exact congrArg M.begun ih
theorem de_one {o} {a : Expr} (h : DE L X i a) : DE L X i (.BoolOp o [a] pos) := fun W tk => pe_one (h W tk)
theorem de_and {i j : IE} {a b : Expr} {rest : List Expr} (ha : DE L X i a) (hb : DE L X j (.BoolOp .And (b :: rest) pos)) : DE L X (iAnd i j) (.BoolOp .And (a :: b :: rest) pos) := fun W tk => by
  refine PE.imp (pe_and (ha W tk) (hb W tk)) fun σ H Q ⟨Γ, g, r, w⟩ => ?_
  unfold iAnd at w
  rw [asB_bind] at w
  refine Rd1.go r w fun v H1 d g1 r1 s t w => ?_
  cases d with
  | bl c =>
    cases t
    refine ⟨c, rfl, ?_⟩
    cases c with
    | true => exact iteT ⟨Γ, g1, r1, M.wpB_mono (fun d b k v g2 H2 s2 e t => k v g2 H2 (s.trans s2) e t) (fun _ _ x => x) _ _ w⟩
    | false => exact iteF (w _ g1 H1 s rfl (.bl _))
  | _ => exact w.elim
theorem de_or {i j : IE} {a b : Expr} {rest : List Expr} (ha : DE L X i a) (hb : DE L X j (.BoolOp .Or (b :: rest) pos)) : DE L X (iOr i j) (.BoolOp .Or (a :: b :: rest) pos) := fun W tk => by
  refine PE.imp (pe_or (ha W tk) (hb W tk)) fun σ H Q ⟨Γ, g, r, w⟩ => ?_
  unfold iOr at w
  rw [asB_bind] at w
  refine Rd1.go r w fun v H1 d g1 r1 s t w => ?_
  cases d with
  | bl c =>
    cases t
    refine ⟨c, rfl, ?_⟩
    cases c with
    | false => exact iteF ⟨Γ, g1, r1, M.wpB_mono (fun d b k v g2 H2 s2 e t => k v g2 H2 (s.trans s2) e t) (fun _ _ x => x) _ _ w⟩
    | true => exact iteT (w _ g1 H1 s rfl (.bl _))
  | _ => exact w.elim
theorem de_not {a : Expr} (ha : DE L X i a) : DE L X (iNot i) (.UnaryOp .Not a pos) := fun W tk => by
  refine PE.imp (pe_not (ha W tk)) fun σ H Q ⟨Γ, g, r, w⟩ => ?_
  unfold iNot at w
  rw [asB_bind] at w
  refine Rd1.go r w fun v H1 d g1 r1 s t w => ?_
  cases d with
  | bl c =>
    cases t
    exact ⟨c, rfl, w _ g1 H1 s rfl (.bl _)⟩
  | _ => exact w.elim
end
end DL
/-! Targets, walks, loops, comprehensions. -/
namespace DL
open PySem PySem.Spec L2
section
variable {L : Lx} {X : Cx} {g0 g g' : Gh} {H0 H H' : Hp} {σ σ' : L2.St} {Γ Γ' : Env} {W : WX} {pos : Pos}

/-! targets -/
abbrev IG := D → Env → M Env
def RdG (L : Lx) (W : WX) (g0 : Gh) (H0 : Hp) (t : IG) : TG := fun v σ H Q => ∃ Γ g d, RepS L g0 H0 Γ g σ H ∧ Den L g v d ∧
  (t d Γ).wpB g.bud (fun Γ' b => ∀ g' σ' H', RepS L g0 H0 Γ' g' σ' H' → FLe g g' → g'.bud = b → Q σ' H') (XS L W g0 H0)
def DG (L : Lx) (X : Cx) (t : IG) (e : Expr) : Prop := ∀ W g0 H0, Takes X W → PG X e (RdG L W g0 H0 t)
theorem PG.imp {e : Expr} {t t' : TG} (h : PG X e t) (k : ∀ v σ H Q, t' v σ H Q → t v σ H Q) : PG X e t' := ⟨fun pins s σ H v u Q I r q => h.run pins s σ H v u Q I r (k _ _ _ _ q)⟩
def gN (n : Nat) : IG := fun d Γ => .ret (Γ.set n (some (.fz d)))
theorem dg_name {n : Nat} {x : Str} (hN : X.N.Nodup) (hi : X.N[n]? = some x) (hx : Loc X.env.scope x) (hf : X.fn x = true ∨ X.env.scope.names.lookup x = some .local := by first | exact .inl rfl | exact .inr rfl) : DG L X (gN n) (.Name x pos) := fun W g0 H0 tk =>
  PG.imp (pg_name hN hi hx hf) fun v σ H Q ⟨Γ, g, d, r, t, w⟩ => w g _ H (r.set t) (FLe.refl g) rfl
def gTs : List IG → List D → Env → M Env
  | [], [], Γ => .ret Γ
  | t :: ts, d :: ds, Γ => (t d Γ).bind fun Γ' => gTs ts ds Γ'
  | _, _, _ => .stuck
def gT (ts : List IG) : IG := fun d Γ => match d with
  | .tup ds => if ds.length = ts.length then gTs ts ds Γ else .stuck
  | .pr ds => if ds.length = ts.length then gTs ts ds Γ else .stuck
  | _ => .stuck
def RdGs (L : Lx) (W : WX) (g0 : Gh) (H0 : Hp) (ts : List IG) : TGs := fun vs σ H Q => ∃ Γ g ds, RepS L g0 H0 Γ g σ H ∧ DenL L g vs ds ∧
  (gTs ts ds Γ).wpB g.bud (fun Γ' b => ∀ g' σ' H', RepS L g0 H0 Γ' g' σ' H' → FLe g g' → g'.bud = b → Q σ' H') (XS L W g0 H0)
def DGs (L : Lx) (X : Cx) (ts : List IG) (es : List Expr) : Prop := ∀ W g0 H0, Takes X W → PGs X es (RdGs L W g0 H0 ts)
theorem PGs.imp {e : List Expr} {t t' : TGs} (h : PGs X e t) (k : ∀ v σ H Q, t' v σ H Q → t v σ H Q) : PGs X e t' := ⟨fun pins s σ H v u Q I r q => h.run pins s σ H v u Q I r (k _ _ _ _ q)⟩
theorem dgs_nil : DGs L X [] [] := fun W g0 H0 tk => PGs.imp pgs_nil fun v σ H Q ⟨Γ, g, ds, r, t, w⟩ => by
  cases ds with
  | nil => cases t; exact ⟨rfl, w g σ H r (FLe.refl g) rfl⟩
  | cons d ds => exact w.elim
theorem dgs_cons {t : IG} {ts : List IG} {e : Expr} {es : List Expr} (h : DG L X t e) (hr : DGs L X ts es)
    (hs : (assignEach (e :: es) X.env).map (·.2) = assign e X.env :: (assignEach es X.env).map (·.2) := by rfl) : DGs L X (t :: ts) (e :: es) := fun W g0 H0 tk => PGs.imp (pgs_cons (h W g0 H0 tk) (hr W g0 H0 tk) hs) fun vs σ H Q ⟨Γ, g, ds, r, l, w⟩ => by
  cases ds with
  | nil => exact w.elim
  | cons d ds =>
    cases l with
    | cons a l =>
      refine ⟨_, _, rfl, Γ, g, d, r, a, M.wpB_mono (fun Γ' b k g' σ' H' r' f e => ?_) (fun _ _ x => x) _ _ ((M.wpB_bind _ _).mp w)⟩
      subst e
      exact ⟨Γ', g', ds, r', l.mono f.F f.mu, M.wpB_mono (fun Γ2 b k g2 σ2 H2 r2 f2 e => k g2 σ2 H2 r2 (f.trans f2) e) (fun _ _ x => x) _ _ k⟩
theorem dg_tup (hK : X.K = L.K) {ts : List IG} {es : List Expr} {k : Nat} (hc : X.calm = true) (h : DGs L X ts es) (hl : ts.length = es.length := by rfl) (hn : (assignEach es X.env).length = es.length := by rfl) (hst : (assignEach es X.env).findIdx? (·.1) = none := by rfl) : DG L X (gT ts) (.Tuple es k pos) := fun W g0 H0 tk =>
  PG.imp (pg_tup hc (h W g0 H0 tk) hn hst) fun v σ H Q ⟨Γ, g, d, r, t, w⟩ => by
  unfold gT at w
  split at w
  · rename_i ds
    split at w
    · rename_i z
      cases t with
      | tup e l => exact ⟨_, _, rfl, hK ▸ sqT_mono r.rep.sub e.sq, by rw [l.length, z, hl], Γ, g, ds, r, l, w⟩
    · exact w.elim
  · rename_i ds
    split at w
    · rename_i z
      cases t with
      | pr e l => exact ⟨_, _, rfl, .inl (.inl (r.rep.sub _ _ e)), by rw [l.length, z, hl], Γ, g, ds, r, l, w⟩
    · exact w.elim
  · exact w.elim
/-- a, b = e -/
def sAsg (t : IG) (i : IE) : IS := fun Γ => (i Γ).bind fun d => (t d Γ).bind fun Γ' => .ret (.nx Γ')
theorem ds_asg {t : IG} {i : IE} {tg e : Expr} (he : DE L X i e) (hg : DG L X t tg) (hs : swapsWithSole [tg] e pos.line X.env = pure false := by rfl) (hw : swappedStores [tg] e X.env = pure none := by rfl)
    (h1 : (assignEach [tg] X.env).map (·.2) = [assign tg X.env] := by rfl) : DS L X (sAsg t i) (.Assign [tg] e pos) := fun W g0 H0 tk => by
  refine PS.imp (ps_asg (he W tk) (hg W g0 H0 tk) hs hw h1) fun Dn σ H ⟨Γ, g, r, w⟩ => Rd1.goS r w fun v H1 d g1 r1 s t w => ?_
  exact ⟨Γ, g1, d, r1, t, M.wpB_mono (fun Γ' b k g' σ' H' r' f e => k g' σ' H' r' (s.fle.trans f) e) (fun _ _ x => x) _ _ ((M.wpB_bind _ _).mp w)⟩
/-- a, b = x, y -/
def sPar (n m : Nat) (i j : IE) : IS := fun Γ => (evs [i, j] Γ).bind fun ds => match ds with
  | [d, e] => .ret (.nx ((Γ.set n (some (.fz d))).set m (some (.fz e))))
  | _ => .stuck
theorem ds_par {n m : Nat} {x y : Str} {i j : IE} {a b : Expr} {px py pt : Pos} {kt k2 pt2} (hc : X.calm = true) (hN : X.N.Nodup) (hi : X.N[n]? = some x) (hj : X.N[m]? = some y) (hij : n ≠ m)
    (hx : X.env.scope.names.lookup x = some .local) (hy : X.env.scope.names.lookup y = some .local) (ha : DA L X [i, j] [a, b])
    (hw : swappedStores [.Tuple [.Name x px, .Name y py] kt pt] (.Tuple [a, b] k2 pt2) X.env = pure (some [x, y]))
    (hs : swapsWithSole [.Tuple [.Name x px, .Name y py] kt pt] (.Tuple [a, b] k2 pt2) pos.line X.env = pure false := by rfl) :
    DS L X (sPar n m i j) (.Assign [.Tuple [.Name x px, .Name y py] kt pt] (.Tuple [a, b] k2 pt2) pos) := fun W g0 H0 tk => by
  refine PS.imp (ps_par hc hN hi hj hij hx hy (ha W tk) hw hs) fun Dn σ H ⟨Γ, g, r, w⟩ => ?_
  refine ⟨Γ, g, r.rep, M.wpB_mono (fun ds b k vs g1 H1 s e t => ?_) (fun _ _ x => x.xw r.base) _ _ ((M.wpB_bind _ _).mp w)⟩
  subst e
  cases t with
  | nil => exact k.elim
  | cons t1 l =>
    cases l with
    | nil => exact k.elim
    | cons t2 l =>
      cases l with
      | nil => exact ⟨_, _, rfl, k g1 _ H1 (((r.step s).set t1).set t2) s.fle rfl⟩
      | cons _ _ => exact k.elim

/-! walks -/
structure Wk (L : Lx) (J : It) (gs : Gh) (ds : List D) : Prop where
  step : ∀ (i : Nat) (d : D) (Γ : Env) (g : Gh) (σ : L2.St) (H : Hp), ds[i]? = some d → Rep L Γ g σ H → FLe gs g → J.go i H ∧ ∀ x H', J.yld i H x H' → ∃ g', Stp L g H g' H' ∧ g'.bud = g.bud ∧ Den L g' x d
  stop : ∀ (Γ : Env) (g : Gh) (σ : L2.St) (H : Hp), Rep L Γ g σ H → FLe gs g → J.stop ds.length H
abbrev II := Env → M (List D)
def RdI (L : Lx) (W : WX) (t : II) : TI := fun σ H R => ∃ Γ g, Rep L Γ g σ H ∧ (t Γ).wpB g.bud (fun ds b => ∀ g' H' J, Stp L g H g' H' → g'.bud = b → Wk L J g' ds → R J H') (XW L W g σ H)
def DI (L : Lx) (X : Cx) (t : II) (tg iter : Expr) : Prop := ∀ W, Takes X W → PI X tg iter (RdI L W t)
theorem PI.imp {tg e : Expr} {t t' : TI} (h : PI X tg e t) (k : ∀ σ H Q, t' σ H Q → t σ H Q) : PI X tg e t' := ⟨fun pins s σ H R I r => h.run pins s σ H R I (k _ _ _ r)⟩
theorem PI.or {tg e : Expr} {t t' : TI} (h : PI X tg e t) (h' : PI X tg e t') : PI X tg e (fun σ H R => t σ H R ∨ t' σ H R) := ⟨fun pins s σ H R I r => r.elim (h.run pins s σ H R I) (h'.run pins s σ H R I)⟩
def itL (d : D) : M (List D) := match d with
  | .lst ds => .ret ds
  | _ => .stuck
def itT (d : D) : M (List D) := match d with
  | .tup ds => .ret ds
  | _ => .stuck
def iiL (i : IE) : II := fun Γ => (i Γ).bind itL
def iiT (i : IE) : II := fun Γ => (i Γ).bind itT
theorem wk_list {a : Addr} {vs : List V} {ds : List D} (h : g.F a = some (.lst vs)) (l : DenL L g vs ds) : Wk L (Itl L.K a) g ds where
  step := fun i d Γ g' σ H e r f => by
    obtain ⟨v, hv, t⟩ := (l.mono f.F f.mu).get e
    have hH := r.sub _ _ (f.F _ _ h)
    refine ⟨⟨vs, v, .inl (.inl hH), hv⟩, fun x H' ⟨e1, y⟩ => ?_⟩
    subst e1
    have e2 := y vs (.inl (.inl hH))
    rw [hv] at e2
    cases e2
    exact ⟨g', Stp.refl r, rfl, t⟩
  stop := fun Γ g' σ H r f => ⟨vs, .inl (.inl (r.sub _ _ (f.F _ _ h))), Nat.le_of_eq l.length⟩
theorem wk_tup {a : Addr} {vs : List V} {ds : List D} (h : SqT L.K g.F a vs) (l : DenL L g vs ds) : Wk L (Itt L.K a) g ds where
  step := fun i d Γ g' σ H e r f => by
    obtain ⟨v, hv, t⟩ := (l.mono f.F f.mu).get e
    have hH := sqT_mono r.sub (sqT_mono f.F h)
    refine ⟨⟨vs, v, hH, hv⟩, fun x H' ⟨e1, y⟩ => ?_⟩
    subst e1
    have e2 := y vs hH
    rw [hv] at e2
    cases e2
    exact ⟨g', Stp.refl r, rfl, t⟩
  stop := fun Γ g' σ H r f => ⟨vs, sqT_mono r.sub (sqT_mono f.F h), Nat.le_of_eq l.length⟩
theorem RdI.go {i : IE} {it : D → M (List D)} {Q : VK} {R : It → Hp → Prop} {Γ : Env} {T : TT1} (r : Rep L Γ g σ H) (h : ((i Γ).bind it).wpB g.bud (fun ds b => ∀ g' H' J, Stp L g H g' H' → g'.bud = b → Wk L J g' ds → R J H') (XW L W g σ H))
    (k : ∀ v H1 d g1, Rep L Γ g1 σ H1 → Stp L g H g1 H1 → T L H g1 H1 v d → (it d).wpB g1.bud (fun ds b => ∀ g' H' J, Stp L g1 H1 g' H' → g'.bud = b → Wk L J g' ds → R J H') (XW L W g1 σ H1) → Q v H1) : Rd1 L T W i σ H Q := by
  refine Rd1.go r h fun v H1 d g1 r1 s t w => k v H1 d g1 r1 s t (M.wpB_mono (fun ds b k g' H' J s' e q => k g' H' J (s.trans s') e q) (fun _ _ x => x) _ _ w)
theorem di_list (hK : X.K = L.K) {i : IE} {tg e : Expr} (h : DE L X i e) : DI L X (iiL i) tg e := fun W tk => by
  refine PI.imp (pi_list (h W tk)) fun σ H R ⟨Γ, g, r, w⟩ => RdI.go (T := DenT) r w fun v H1 d g1 r1 s t w => ?_
  cases d with
  | lst ds =>
    cases id t with
    | lst e l => exact ⟨_, rfl, ⟨_, .inl (.inl (r1.sub _ _ e))⟩, w g1 H1 _ (Stp.refl r1) rfl (hK ▸ wk_list e l)⟩
  | _ => exact w.elim
theorem di_tup (hK : X.K = L.K) {i : IE} {tg e : Expr} (h : DE L X i e) : DI L X (iiT i) tg e := fun W tk => by
  refine PI.imp (pi_tup (h W tk)) fun σ H R ⟨Γ, g, r, w⟩ => RdI.go (T := DenT) r w fun v H1 d g1 r1 s t w => ?_
  cases d with
  | tup ds =>
    cases id t with
    | tup e l => exact ⟨_, rfl, ⟨_, hK ▸ sqT_mono r1.sub e.sq⟩, w g1 H1 _ (Stp.refl r1) rfl (hK ▸ wk_tup e.sq l)⟩
  | _ => exact w.elim
/-- range(n), range(a, b) -/
def rngD (lo : Int) (n : Nat) : List D := (List.range n).map fun k => D.int (lo + (k : Nat))
/-- a bound that range takes -/
def rOk (j : Int) : Bool := decide (-(2 ^ 62) ≤ j) && decide (j < 2 ^ 62)
def iiR1 (i : IE) : II := fun Γ => (evs [i] Γ).bind fun ds => match ds with
  | [.int j] => if rOk j = true then .ret (rngD 0 j.toNat) else .stuck
  | _ => .stuck
def iiR2 (i j : IE) : II := fun Γ => (evs [i, j] Γ).bind fun ds => match ds with
  | [.int a, .int b] => if decide (-(2 ^ 62) ≤ a) && decide (a < 2 ^ 62) && decide (-(2 ^ 62) ≤ b) && decide (b < 2 ^ 62) then .ret (rngD a (b - a).toNat) else .stuck
  | _ => .stuck
theorem wk_range {lo : Int} {n : Nat} : Wk L (Itr lo n) g (rngD lo n) where
  step := fun i d Γ g' σ H e r f => by
    unfold rngD at e
    rw [List.getElem?_map] at e
    by_cases h : i < n
    · rw [List.getElem?_range h] at e
      cases e
      refine ⟨h, fun x H' ⟨e1, y⟩ => ?_⟩
      subst e1 y
      exact ⟨g', Stp.refl r, rfl, .int _⟩
    · rw [List.getElem?_eq_none (by simpa using h)] at e; cases e
  stop := fun Γ g' σ H r f => by
    show n ≤ (rngD lo n).length
    unfold rngD
    simp
theorem di_range1 {i : IE} {tg a : Expr} {p : Pos} (hg : Gl X "range") (hm : X.mg "range" = none) (ha : DA L X [i] [a]) (hs : starEach [a] X.env = [(false, eval a X.env)] := by rfl) : DI L X (iiR1 i) tg (.Call (.Name "range" p) [a] [] pos) := fun W tk => by
  refine PI.imp (pi_range1 hg hm (ha W tk) hs) fun σ H R ⟨Γ, g, r, w⟩ => RdA.go r w fun vs H1 ds g1 r1 s t w => ?_
  split at w
  · rename_i j
    cases t with
    | cons a l =>
      cases a
      cases l
      split at w
      · rename_i z
        unfold rOk at z
        simp only [Bool.and_eq_true, decide_eq_true_eq] at z
        exact ⟨j, rfl, z.1, z.2, w g1 H1 _ s rfl wk_range⟩
      · exact w.elim
  · exact w.elim
theorem di_range2 {i j : IE} {tg a b : Expr} {p : Pos} (hg : Gl X "range") (hm : X.mg "range" = none) (ha : DA L X [i, j] [a, b]) (hs : starEach [a, b] X.env = [(false, eval a X.env), (false, eval b X.env)] := by rfl) (hs2 : starEach [b] X.env = [(false, eval b X.env)] := by rfl) : DI L X (iiR2 i j) tg (.Call (.Name "range" p) [a, b] [] pos) := fun W tk => by
  refine PI.imp (pi_range2 hg hm (ha W tk) hs hs2) fun σ H R ⟨Γ, g, r, w⟩ => RdA.go r w fun vs H1 ds g1 r1 s t w => ?_
  split at w
  · rename_i a b
    cases t with
    | cons x l =>
      cases x
      cases l with
      | cons x l =>
        cases x
        cases l
        split at w
        · rename_i z
          simp only [Bool.and_eq_true, decide_eq_true_eq] at z
          exact ⟨a, b, rfl, ⟨z.1.1.1, z.1.1.2, z.1.2, z.2⟩, w g1 H1 _ s rfl wk_range⟩
        · exact w.elim
  · exact w.elim

/-! for -/
def loop (t : IG) (s : IS) : List D → Env → M Fl
  | [], Γ => .ret (.nx Γ)
  | d :: r, Γ => (t d Γ).bind fun Γ1 => (s Γ1).bind fun fl => match fl with
    | .nx Γ2 => loop t s r Γ2
    | .ct Γ2 => loop t s r Γ2
    | .bk Γ2 => .ret (.nx Γ2)
    | .rt d => .ret (.rt d)
def sFor (t : IG) (it : II) (s : IS) : IS := fun Γ => (it Γ).bind fun ds => loop t s ds Γ
theorem ds_for {t : IG} {it : II} {s : IS} {tg iter : Expr} {body : List Stmt} (hp : PassesOwn (model X.prog X.w) X.A X.env X.xe) (hc : X.calm = true) (hi : DI L X it tg iter) (hg : DG L X t tg) (hb : DSs L X s body)
    (hs : ∀ x, foldedSetIterable iter X.env x = pure x := by intro _; rfl) : DS L X (sFor t it s) (.For tg iter body [] pos) := fun W g0 H0 tk => by
  refine PS.imp (ps_for hp hc (hi W tk) (hg W g0 H0 tk) (hb W g0 H0 tk) hs) fun Dn σ H ⟨Γ, g, r, w⟩ => ?_
  refine ⟨Γ, g, r.rep, M.wpB_mono (fun ds b k g1 H1 J sp e wk => ?_) (fun _ _ x => x.xw r.base) _ _ ((M.wpB_bind _ _).mp w)⟩
  subst e
  refine ⟨fun i m σ H => i ≤ ds.length ∧ m = ds.length - i ∧ ∃ Γ g2, RepS L g0 H0 Γ g2 σ H ∧ FLe g1 g2 ∧ (loop t s (ds.drop i) Γ).wpB g2.bud (FlT L g0 H0 g Dn) (XS L W g0 H0), ⟨ds.length, Nat.zero_le _, by simp, Γ, g1, r.step sp, FLe.refl g1, k⟩, ?_⟩
  rintro i m σ H ⟨hi, rfl, Γ, g2, r2, f2, w2⟩
  by_cases hlt : i < ds.length
  · have ed : ds.drop i = ds[i] :: ds.drop (i + 1) := List.drop_eq_getElem_cons hlt
    rw [ed] at w2
    obtain ⟨go, yl⟩ := wk.step i ds[i] Γ g2 σ H (List.getElem?_eq_getElem hlt) r2.rep f2
    refine .inr ⟨go, fun σ H => ∃ Γ g3, RepS L g0 H0 Γ g3 σ H ∧ FLe g1 g3 ∧ (loop t s (ds.drop (i + 1)) Γ).wpB g3.bud (FlT L g0 H0 g Dn) (XS L W g0 H0), fun σ' H' ⟨Γ', g', r', f', w'⟩ => ⟨ds.length - (i + 1), by omega, hlt, rfl, Γ', g', r', f', w'⟩, fun x H' y => ?_⟩
    obtain ⟨g3, s3, b3, t3⟩ := yl x H' y
    rw [← b3] at w2
    refine ⟨Γ, g3, ds[i], r2.step s3, t3, M.wpB_mono (fun Γ' b k g4 σ4 H4 r4 f4 e4 => ?_) (fun _ _ x => x) _ _ ((M.wpB_bind _ _).mp w2)⟩
    subst e4
    have fl4 : FLe g1 g4 := f2.trans (s3.fle.trans f4)
    refine ⟨Γ', g4, r4, M.wpB_mono (fun fl b k => ?_) (fun _ _ x => x) _ _ ((M.wpB_bind _ _).mp k)⟩
    cases fl with
    | nx Γ5 => exact fun g5 σ5 H5 r5 f5 e5 => ⟨Γ5, g5, r5, fl4.trans f5, by subst e5; exact k⟩
    | ct Γ5 => exact fun g5 σ5 H5 r5 f5 e5 => ⟨Γ5, g5, r5, fl4.trans f5, by subst e5; exact k⟩
    | bk Γ5 => exact fun g5 σ5 H5 r5 f5 e5 => k g5 σ5 H5 r5 (sp.fle.trans (fl4.trans f5)) e5
    | rt d => exact k
  · have e : i = ds.length := by omega
    subst e
    rw [List.drop_length] at w2
    exact .inl ⟨wk.stop Γ g2 σ H r2.rep f2, w2 g2 σ H r2 (sp.fle.trans f2) rfl⟩

/-! comprehensions of one for -/
def wipeE (Γ : Env) : List Nat → Env
  | [] => Γ
  | v :: vs => (wipeE Γ vs).set v none
def lcRun (t : IG) (c : IT) (i : IE) (own : List Nat) (Γ : Env) : List D → List D → M (List D)
  | acc, [] => .ret acc
  | acc, d :: r => (t d (wipeE Γ own)).bind fun Γ1 => (c Γ1).bind fun b => if b = true then (i Γ1).bind fun x => if acc.length < sizeLine then lcRun t c i own Γ (acc ++ [x]) r else .stuck else lcRun t c i own Γ acc r
def iLc (t : IG) (it : II) (c : IT) (i : IE) (own : List Nat) : IE := fun Γ => (it Γ).bind fun ds => (lcRun t c i own Γ [] ds).noX.bind fun acc => .ret (.lst acc)
/-- a comprehension's target: its stores, and what the block keeps -/
def GK (L : Lx) (gt : TG) (t : IG) (own : List Nat) : Prop := ∀ (v : V) (d : D) (Γ : Env) (g : Gh) (σ : L2.St) (H : Hp) (Q : L2.St → Hp → Prop) (E : Ex → Nat → Prop) (b : Nat), Rep L (wipeE Γ own) g (wipe σ own) H → Den L g v d →
  (t d (wipeE Γ own)).wpB b (fun Γ1 c => c = b → ∀ σ1, Rep L Γ1 g σ1 H → wipe σ1 own = wipe σ own → Q σ1 H) E → gt v (wipe σ own) H Q
def cYes : IT := fun _ => .ret true
/-- the tests' reading -/
def TK (L : Lx) (tt : TT) (c : IT) : Prop := ∀ (σ : L2.St) (H : Hp) (Q : Bool → Hp → Prop), RdT L (fun _ _ _ _ => False) c σ H Q → tt σ H Q
theorem tk_yes : TK L tYes cYes := fun σ H Q ⟨Γ, g, r, w⟩ => w g H (Stp.refl r) rfl
theorem xw_false {x : Ex} {b : Nat} (h : XW L (fun _ _ _ _ => False) g σ H x b) (W : WX) (hx : ∃ cls d g' H', Stp L g H g' H' ∧ g'.bud = b ∧ ExAt L g' H' x cls d) : False := by
  obtain ⟨cls, d, g', H', s, e, a⟩ := hx
  exact h cls d g' H' s e a
theorem wipe_rep {own : List Nat} (r : Rep L Γ g σ H) : Rep L (wipeE Γ own) g (wipe σ own) H := by
  induction own with
  | nil => exact r
  | cons n vs ih =>
    have at_ : ∀ (i : Nat) (b : B), ((wipeE Γ vs).set n none)[i]? = some (some b) → i ≠ n ∧ (wipeE Γ vs)[i]? = some (some b) := fun i b e => by
      by_cases h : i = n
      · subst h
        by_cases hl : i < (wipeE Γ vs).length
        · rw [List.getElem?_set_self hl] at e; cases e
        · rw [List.getElem?_eq_none (by simpa using hl)] at e; cases e
      · rw [List.getElem?_set_ne (Ne.symm h)] at e; exact ⟨h, e⟩
    refine ⟨ih.sub, ih.rnd, ih.tab, fun i b e => ?_, fun i j b c p e1 e2 o1 o2 s1 s2 => ?_, ih.nF, ?_⟩
    · obtain ⟨h, e⟩ := at_ i b e
      show ∃ x, ((wipe σ vs).set n none)[i]? = some x ∧ _
      rw [List.getElem?_set_ne (Ne.symm h)]
      exact ih.loc i b e
    · obtain ⟨h1, e1⟩ := at_ i b e1
      obtain ⟨h2, e2⟩ := at_ j c e2
      have s1 : ((wipe σ vs).set n none)[i]? = some (some (.ref p)) := s1
      have s2 : ((wipe σ vs).set n none)[j]? = some (some (.ref p)) := s2
      rw [List.getElem?_set_ne (Ne.symm h1)] at s1
      rw [List.getElem?_set_ne (Ne.symm h2)] at s2
      exact ih.dis i j b c p e1 e2 o1 o2 s1 s2
    · show ((wipeE Γ vs).set n none).length = ((wipe σ vs).set n none).length
      rw [List.length_set, List.length_set]; exact ih.len
/-- the own list that is being made -/
def AccAt (L : Lx) (g : Gh) (H : Hp) (p : Addr) (acc : List D) : Prop := ∃ vs, H p = some (.lst vs) ∧ DenL L g vs acc ∧ g.F p = none ∧ ¬ InM g.mu H p
theorem AccAt.step {p : Addr} {acc : List D} (a : AccAt L g H p acc) (s : Stp L g H g' H') : AccAt L g' H' p acc := by
  obtain ⟨vs, h1, h2, h3, h4⟩ := a
  obtain ⟨e, m⟩ := s.keep p _ h1 (fun _ z => nomatch z) h4
  exact ⟨vs, e, h2.mono s.le s.mu, s.keepF h1 (fun _ z => nomatch z) (fun _ z => nomatch z) h4 h3, m⟩
/-- an own list is changed that the run before did not see: from (gs, Hs), where p was free -/
theorem stp_upd {gs : Gh} {Hs : Hp} {p : Addr} {vs ws : List V} (s : Stp L gs Hs g H) (n : Hs p = none) (h1 : H p = some (.lst vs)) (h3 : g.F p = none) (h4 : ¬ InM g.mu H p) : Stp L gs Hs g (upd H p (.lst ws)) := by
  have im : ∀ a, InM g.mu (upd H p (.lst ws)) a → InM g.mu H a := fun a ⟨m, e, h⟩ => by
    refine ⟨m, e, ?_⟩
    rcases h with h | ⟨kvs, k, e4, hm⟩
    · exact .inl h
    · have q : m ≠ p := fun z => by rw [z, upd_same] at e4; cases e4
      rw [upd_ne q] at e4
      exact .inr ⟨kvs, k, e4, hm⟩
  have ne : ∀ a, Hs a ≠ none → a ≠ p := fun a h z => h (by rw [z]; exact n)
  refine ⟨s.le, s.mu, fun a o e => ?_, fun a o e nt nm => ?_, fun a h => ?_, fun a o e i => s.nm a o e (im a i), ⟨s.rnd.1, fun m e => ?_⟩, s.bud, ⟨fun q hq => ?_, fun ea en ed eu he => ?_⟩⟩
  · have q : a ≠ p := fun z => by rw [z, h3] at e; cases e
    rw [upd_ne q]; exact s.sub a o e
  · obtain ⟨e1, m1⟩ := s.keep a o e nt nm
    rw [upd_ne (ne a (by rw [e]; simp))]
    exact ⟨e1, fun i => m1 (im a i)⟩
  · unfold Tp; rw [upd_ne (ne a h)]; exact s.nf a h
  · obtain ⟨c, l, cs, ls, at_, e1, e2, e3, r⟩ := s.rnd.2 m e
    have q : ∀ a, InM g.mu H a → a ≠ p := fun a i z => h4 (z ▸ i)
    have em : upd H p (.lst ws) m = H m := upd_ne (q m ⟨m, e, .inl rfl⟩)
    have ec : upd H p (.lst ws) c = H c := upd_ne (q c ⟨m, e, .inr ⟨_, Sum.inr "cells", e1, by simp⟩⟩)
    have el : upd H p (.lst ws) l = H l := upd_ne (q l ⟨m, e, .inr ⟨_, Sum.inr "left", e1, by simp⟩⟩)
    exact ⟨c, l, cs, ls, at_, em.trans e1, ec.trans e2, el.trans e3, r⟩
  · obtain ⟨ps, e1, e2, e3⟩ := s.tab.1 q hq
    have n1 : q.1 ≠ p := fun z => by rw [z, h1] at e1; cases e1
    refine ⟨ps, by rw [upd_ne n1]; exact e1, e2, fun pos cv hc => ?_⟩
    obtain ⟨c, z1, z2⟩ := e3 pos cv hc
    have n2 : c ≠ p := fun z => by rw [z, h1] at z2; unfold LamX.CodeO at z2; cases z2
    exact ⟨c, z1, by rw [upd_ne n2]; exact z2⟩
  · obtain ⟨f, e1, e2⟩ := s.tab.2 ea en ed eu he
    have n1 : ed ≠ p := fun z => by rw [z, h1] at e2; cases e2
    exact ⟨f, e1, by rw [upd_ne n1]; exact e2⟩
theorem inM_upd {mu : Option Addr} {p : Addr} {ws : List V} {a : Addr} (h : InM mu (upd H p (.lst ws)) a) : InM mu H a := by
  obtain ⟨m, e, h⟩ := h
  refine ⟨m, e, ?_⟩
  rcases h with h | ⟨kvs, k, e4, hm⟩
  · exact .inl h
  · have q : m ≠ p := fun z => by rw [z, upd_same] at e4; cases e4
    rw [upd_ne q] at e4
    exact .inr ⟨kvs, k, e4, hm⟩
theorem acc_upd {p : Addr} {vs : List V} {acc : List D} {v : V} {d : D} (h2 : DenL L g vs acc) (h3 : g.F p = none) (h4 : ¬ InM g.mu H p) (h : Den L g v d) : AccAt L g (upd H p (.lst (vs ++ [v]))) p (acc ++ [d]) :=
  ⟨_, upd_same, h2.append (.cons h .nil), h3, fun i => h4 (inM_upd i)⟩
theorem lc_read {t : IG} {it : II} {c : IT} {i : IE} {own : List Nat} {gt : TG} {tt : TT} {Q : VK} (gk : GK L gt t own) (tk : TK L tt c) (r : Rep L Γ g σ H)
    (w : (iLc t it c i own Γ).wpB g.bud (Wn L FrT g H Q) (XW L W g σ H)) : tLc (RdI L W it) gt tt (Rd1 L DenT (fun _ _ _ _ => False) i) own σ H Q := by
  refine ⟨Γ, g, r, M.wpB_mono (fun ds b k g1 H1 J sp e wk => ?_) (fun _ _ x => x) _ _ ((M.wpB_bind _ _).mp w)⟩
  subst e
  intro Dd nD
  replace k : ((lcRun t c i own Γ [] ds).bind fun acc => M.ret (D.lst acc)).wpB g1.bud (Wn L FrT g H Q) (XW L (fun _ _ _ _ => False) g σ H) := (M.wpB_bind _ _).mpr (M.wpB_noX (Q := fun acc c => Wn L FrT g H Q (.lst acc) c) _ _ ((M.wpB_bind _ _).mp k))
  have r1 := r.step sp
  have s2 : Stp L g1 H1 g1 (upd H1 Dd (.lst [])) := stp_new (o := .lst []) r1 nD false
  have xw : ∀ {g2 : Gh} {H2 : Hp} {σ2 : L2.St} {x : Ex} {b : Nat}, Stp L g1 H1 g2 H2 → XW L (fun _ _ _ _ => False) g σ H x b → XW L (fun _ _ _ _ => False) g2 σ2 H2 x b := fun s h cls d g' H' s' e a => h cls d g' H' (sp.trans (s.trans s')) e a
  have nM0 : ¬ InM g1.mu H1 Dd := fun i => (InM.there r1.rnd.ok i) nD
  refine ⟨fun j m Hj => j ≤ ds.length ∧ m = ds.length - j ∧ ∃ g2 acc, Stp L g1 H1 g2 Hj ∧ AccAt L g2 Hj Dd acc ∧ ((lcRun t c i own Γ acc (ds.drop j)).bind fun acc => M.ret (D.lst acc)).wpB g2.bud (Wn L FrT g H Q) (XW L (fun _ _ _ _ => False) g σ H),
    ⟨ds.length, Nat.zero_le _, by simp, g1, [], s2, ⟨[], upd_same, .nil, nF_of r1 nD, fun i => nM0 (inM_upd i)⟩, k⟩, ?_⟩
  rintro j m Hj ⟨hj, rfl, g2, acc, s, a, w2⟩
  have r2 := r1.step s
  by_cases hlt : j < ds.length
  · have ed : ds.drop j = ds[j] :: ds.drop (j + 1) := List.drop_eq_getElem_cons hlt
    rw [ed] at w2
    obtain ⟨go, yl⟩ := wk.step j ds[j] Γ g2 σ Hj (List.getElem?_eq_getElem hlt) r2 s.fle
    refine .inr ⟨go, fun Hn => ∃ g2 acc, Stp L g1 H1 g2 Hn ∧ AccAt L g2 Hn Dd acc ∧ ((lcRun t c i own Γ acc (ds.drop (j + 1))).bind fun acc => M.ret (D.lst acc)).wpB g2.bud (Wn L FrT g H Q) (XW L (fun _ _ _ _ => False) g σ H), fun H' ⟨g', acc', s', a', w'⟩ => ⟨ds.length - (j + 1), by omega, hlt, rfl, g', acc', s', a', w'⟩, fun x H' y => ?_⟩
    obtain ⟨g3, s3, b3, t3⟩ := yl x H' y
    rw [← b3] at w2
    have s13 := s.trans s3
    have w3 := (M.wpB_bind _ _).mp w2
    refine gk x ds[j] Γ g3 σ H' _ (XW L (fun _ _ _ _ => False) g σ H) g3.bud (wipe_rep (r2.step s3)) t3 (M.wpB_mono (fun Γ1 c' k eb σ1 rp1 wi => ?_) (fun _ _ x => x) _ _ ((M.wpB_bind _ _).mp w3))
    subst eb
    refine ⟨wi, tk σ1 H' _ ⟨Γ1, g3, rp1, M.wpB_mono (fun b c' k g4 H4 s4 e4 => ?_) (fun _ _ x => xw s13 x) _ _ ((M.wpB_bind _ _).mp k)⟩⟩
    subst e4
    have s14 := s13.trans s4
    have a4 := (a.step s3).step s4
    cases b with
    | false => exact iteF ⟨g4, acc, s14, a4, (M.wpB_bind _ _).mpr k⟩
    | true =>
      refine iteT ⟨Γ1, g4, rp1.step s4, M.wpB_mono (fun d b k v g5 H5 s5 e5 t5 => ?_) (fun _ _ x => xw s14 x) _ _ ((M.wpB_bind _ _).mp k)⟩
      subst e5
      split at k
      · rename_i z
        obtain ⟨vs, h1, h2, h3, h4⟩ := a4.step s5
        exact ⟨vs, h1, by rw [h2.length]; exact z, g5, acc ++ [d], stp_upd (s14.trans s5) nD h1 h3 h4, acc_upd h2 h3 h4 t5, (M.wpB_bind _ _).mpr k⟩
      · exact k.elim
  · have e : j = ds.length := by omega
    subst e
    rw [List.drop_length] at w2
    obtain ⟨vs, h1, h2, h3, h4⟩ := a
    exact .inl ⟨wk.stop Γ g2 σ Hj r2 s.fle, w2 (.ref Dd) g2 Hj (sp.trans s) rfl ⟨Dd, vs, acc, rfl, rfl, h1, h2, h3, h4, none_back sp nD⟩⟩
theorem df_lc {t : IG} {it : II} {c : IT} {i : IE} {own : List (Str × Nat)} {gt : TG} {tt : TT} {elt tg iter : Expr} {ifs : List Expr} {scope : Scope} (hc : X.calm = true) (hN : X.N.Nodup) (hi : DI L X it tg iter) (ok : BlkOk X.N X.env.scope scope own)
    (hg : ∀ (s : Shared) (H : Hp) (C : Addr) (cl : List (Str × Addr)) (fp : List Addr), PG (X.blk s H scope (compEnvC scope cl C X.env) fp) tg gt) (gk : GK L gt t (own.map (·.2)))
    (ht : ∀ (s : Shared) (H : Hp) (C : Addr) (cl : List (Str × Addr)) (fp : List Addr), PTs (X.blk s H scope (compEnvC scope cl C X.env) fp) ifs tt) (tk : TK L tt c)
    (he : ∀ (s : Shared) (H : Hp) (C : Addr) (cl : List (Str × Addr)) (fp : List Addr), DE L (X.blk s H scope (compEnvC scope cl C X.env) fp) i elt) (hs : ∀ x, foldedSetIterable iter X.env x = pure x := by intro _; rfl) :
    DF L X (iLc t it c i (own.map (·.2))) (.ListComp elt [⟨tg, iter, ifs, 0⟩] scope pos) := fun W tk' => by
  exact PE.imp (pe_lc hc hN (hi W tk') ok hg ht (fun s H C cl fp => he s H C cl fp _ LamX.takes0) hs) fun σ H Q ⟨Γ, g, r, w⟩ => lc_read gk tk r w
/-- y = [.. for ..], y a plain local -/
theorem ds_setLc {n : Nat} {y : Str} {py spos : Pos} {t : IG} {it : II} {c : IT} {i : IE} {own : List (Str × Nat)} {gt : TG} {tt : TT} {elt tg iter : Expr} {ifs : List Expr} {scope : Scope} (hc : X.calm = true) (hN : X.N.Nodup) (hy : X.N[n]? = some y) (hyl : X.env.scope.names.lookup y = some .local)
    (hsw : swapsWith (.ListComp elt [⟨tg, iter, ifs, 0⟩] scope pos) (some (.Name y py)) spos.line X.env = pure true) (hi : DI L X it tg iter) (ok : BlkOk X.N X.env.scope scope own)
    (hg : ∀ (s : Shared) (H : Hp) (C : Addr) (cl : List (Str × Addr)) (fp : List Addr), PG (X.blk s H scope (compEnvC scope cl C X.env) fp) tg gt) (gk : GK L gt t (own.map (·.2)))
    (ht : ∀ (s : Shared) (H : Hp) (C : Addr) (cl : List (Str × Addr)) (fp : List Addr), PTs (X.blk s H scope (compEnvC scope cl C X.env) fp) ifs tt) (tk : TK L tt c)
    (he : ∀ (s : Shared) (H : Hp) (C : Addr) (cl : List (Str × Addr)) (fp : List Addr), DE L (X.blk s H scope (compEnvC scope cl C X.env) fp) i elt) (hs : ∀ x, foldedSetIterable iter X.env x = pure x := by intro _; rfl) :
    DS L X (sSet n (iLc t it c i (own.map (·.2)))) (.Assign [.Name y py] (.ListComp elt [⟨tg, iter, ifs, 0⟩] scope pos) spos) := fun W g0 H0 tk' => by
  refine PS.imp (ps_setLc hc hN hy hyl hsw (hi W tk') ok hg ht (fun s H C cl fp => he s H C cl fp _ LamX.takes0) hs) fun Dn σ H ⟨Γ, g, r, w⟩ => ?_
  refine lc_read (Q := fun x H1 => gName n x σ H1 Dn.nx) gk tk r.rep (M.wpB_mono (fun d b k v g' H' s e fr => ?_) (fun _ _ x => x.xw r.base) _ _ ((M.wpB_bind _ _).mp w))
  obtain ⟨g2, s2, e2, t2⟩ := stp_frz s fr
  exact k g2 _ H' ((r.step s2).set t2) s2.fle (e2.trans e)
/-- wiping forgets what was stored at a wiped slot -/
theorem wipe_set {n : Nat} {x : Option V} : ∀ {vs : List Nat} {σ : L2.St}, n ∈ vs → wipe (σ.set n x) vs = wipe σ vs := by
  have out : ∀ (vs : List Nat) (σ : L2.St), n ∉ vs → wipe (σ.set n x) vs = (wipe σ vs).set n x := fun vs σ => by
    induction vs with
    | nil => intro _; rfl
    | cons b vs ih =>
      intro hq
      simp only [List.mem_cons, not_or] at hq
      show (wipe (σ.set n x) vs).set b none = ((wipe σ vs).set b none).set n x
      rw [ih hq.2, List.set_comm _ _ hq.1]
  intro vs σ
  induction vs with
  | nil => intro h; cases h
  | cons a vs ih =>
    intro h
    show (wipe (σ.set n x) vs).set a none = (wipe σ vs).set a none
    by_cases q : n ∈ vs
    · rw [ih q]
    · have e : n = a := (List.mem_cons.mp h).resolve_right q
      subst e
      rw [out vs σ q, List.set_set]
theorem wipe_wipe {vs : List Nat} {σ : L2.St} : wipe (wipe σ vs) vs = wipe σ vs := by
  have gen : ∀ (us : List Nat) (τ : L2.St), (∀ x ∈ us, x ∈ vs) → wipe (wipe τ us) vs = wipe τ vs := fun us => by
    induction us with
    | nil => intro τ _; rfl
    | cons a us ih =>
      intro τ hs
      show wipe ((wipe τ us).set a none) vs = wipe τ vs
      rw [wipe_set (hs a List.mem_cons_self), ih τ fun x hx => hs x (List.mem_cons_of_mem _ hx)]
  exact gen vs σ fun _ h => h
theorem gk_name {n : Nat} {own : List Nat} (h : n ∈ own) : GK L (gName n) (gN n) own := fun v d Γ g σ H Q E b r t w =>
  w rfl _ (r.set t) (by rw [wipe_set h, wipe_wipe])
/-- (a, b, ..) with plain names -/
def gNs : List Nat → TGs
  | [] => gNil
  | n :: ns => gCons (gName n) (gNs ns)
theorem gk_tup {ns own : List Nat} (h : ∀ n ∈ ns, n ∈ own) : GK L (gTup L.K ns.length (gNs ns)) (gT (ns.map gN)) own := fun v d Γ g σ H Q E b r t w => by
  have go : ∀ (ns : List Nat) (vs : List V) (ds : List D) (Γ1 : Env) (σ1 : L2.St), (∀ n ∈ ns, n ∈ own) → DenL L g vs ds → Rep L Γ1 g σ1 H → wipe σ1 own = wipe σ own → (gTs (ns.map gN) ds Γ1).wpB b (fun Γ1 c => c = b → ∀ σ1, Rep L Γ1 g σ1 H → wipe σ1 own = wipe σ own → Q σ1 H) E → gNs ns vs σ1 H Q := fun ns => by
    induction ns with
    | nil =>
      intro vs ds Γ1 σ1 _ l r1 e1 w
      cases l with
      | nil => exact ⟨rfl, w rfl σ1 r1 e1⟩
      | cons _ _ => exact w.elim
    | cons n ns ih =>
      intro vs ds Γ1 σ1 hn l r1 e1 w
      cases l with
      | nil => exact w.elim
      | cons t l => exact ⟨_, _, rfl, ih _ _ _ _ (fun m hm => hn m (List.mem_cons_of_mem _ hm)) l (r1.set t) (by rw [wipe_set (hn n List.mem_cons_self), e1]) w⟩
  unfold gT at w
  split at w
  · rename_i ds
    split at w
    · rename_i z
      rw [List.length_map] at z
      cases t with
      | @tup a vs _ e l => exact ⟨a, vs, rfl, sqT_mono r.sub e.sq, by rw [l.length, z], go ns vs ds _ _ h l r wipe_wipe w⟩
    · exact w.elim
  · rename_i ds
    split at w
    · rename_i z
      rw [List.length_map] at z
      cases t with
      | @pr a vs _ e l => exact ⟨a, vs, rfl, .inl (.inl (r.sub _ _ e)), by rw [l.length, z], go ns vs ds _ _ h l r wipe_wipe w⟩
    · exact w.elim
  · exact w.elim
/-- one test -/
theorem tk_one {c : IT} : TK L (RdT L (fun _ _ _ _ => False) c) c := fun σ H Q h => h
end
end DL
/-! Defs and their calls. -/
namespace DL
open PySem PySem.Spec L2
/-- a def's run over data: its slots begin with its arguments -/
def env0 (n : Nat) (ds : List D) : Env := ds.map (fun d => some (.fz d)) ++ List.replicate (n - ds.length) none
def runFn (n : Nat) (body : IS) (ds : List D) : M D := (body (env0 n ds)).bind fun fl => match fl with
  | .rt d => .ret d
  | .nx _ => .ret .non
  | _ => .stuck
section
variable {L : Lx} {X : Cx} {g g' : Gh} {H H' : Hp} {σ : L2.St} {Γ : Env} {W : WX} {pos : Pos}
def XF (L : Lx) (E : XK) (g : Gh) (H : Hp) (x : Ex) (b : Nat) : Prop := ∀ cls d g' H', Stp L g H g' H' → g'.bud = b → ExAt L g' H' x cls d → E cls d H'
/-- a def's promise by its run -/
def SpD (L : Lx) (m : List D → M D) (vs : List V) (H : Hp) (Q : VK) (E : XK) : Prop := ∃ Γ g σ ds, Rep L Γ g σ H ∧ DenL L g vs ds ∧ (m ds).wpB g.bud (Wn L DenT g H Q) (XF L E g H)
/-- at f stands a def whose calls do what m says, from depth k on -/
structure FG (L : Lx) (P : Program) (w : World) (mg : Str → Option Value) (base : Heap) (k : Nat) (f : Addr) (fd : FuncData) (ps : List Str) (m : List D → M D) : Prop where
  go : ∀ (A : Around) (outer : List PySem.Env) (s : Shared) (H : Hp) (args : Args) (us : List Value) (vs : List V) (Q : VK) (E : XK), Room k A → A.guards = some [] → Env0 P w L.K mg base A outer s H → BindsTo s fd args (ps.zip us) → Vals vs us → us.length = ps.length → SpD L m vs H Q E →
    codeAny (model P w) A (.call (.ref f) args) (CR (L2.CX P w) outer P w H s Q E) s
theorem FG.mono {P : Program} {w : World} {mg : Str → Option Value} {base : Heap} {j k : Nat} {f : Addr} {fd : FuncData} {ps : List Str} {m : List D → M D} (F : FG L P w mg base j f fd ps m) (h : j ≤ k) : FG L P w mg base k f fd ps m :=
  ⟨fun A outer s H args us vs Q E hr => F.go A outer s H args us vs Q E (hr.mono h)⟩
theorem rep_start {N : List Str} {ds : List D} {vs : List V} (r : Rep L Γ g σ H) (l : DenL L g vs ds) (hn : vs.length ≤ N.length) : RepS L g H (env0 N.length ds) g (L2.start N vs) H := by
  have at_ : ∀ (i : Nat) (b : B), (env0 N.length ds)[i]? = some (some b) → ∃ d, ds[i]? = some d ∧ b = .fz d := fun i b e => by
    unfold env0 at e
    by_cases h : i < ds.length
    · rw [List.getElem?_append_left (by simpa using h), List.getElem?_map] at e
      cases q : ds[i]? with
      | none => rw [q] at e; cases e
      | some d => rw [q] at e; cases e; exact ⟨d, rfl, rfl⟩
    · rw [List.getElem?_append_right (by simpa using h), List.getElem?_replicate] at e
      split at e <;> cases e
  refine ⟨⟨r.sub, r.rnd, r.tab, fun i b e => ?_, fun i j b c p e1 e2 o1 o2 s1 s2 => ?_, r.nF, ?_⟩, Stp.refl r, fun i b p e o s => ?_⟩
  · obtain ⟨d, hd, rfl⟩ := at_ i b e
    obtain ⟨v, hv, t⟩ := l.get hd
    refine ⟨some v, ?_, v, rfl, t⟩
    unfold L2.start
    rw [List.getElem?_append_left (by rw [List.length_map]; exact (List.getElem?_eq_some_iff.mp hv).1), List.getElem?_map, hv]
    rfl
  · obtain ⟨d, _, rfl⟩ := at_ i b e1
    cases o1
  · unfold env0 L2.start
    rw [List.length_append, List.length_append, List.length_map, List.length_map, List.length_replicate, List.length_replicate, l.length]
  · obtain ⟨d, _, rfl⟩ := at_ i b e
    cases o
/-- a def of the text by its body -/
theorem fg_of {P : Program} {w : World} {mg : Str → Option Value} {base : Heap} {x qual : Str} {st : Stmt} {f : Addr} {fd : FuncData} {N ps : List Str} {k : Nat} {body : IS} (F : Fun L.K x qual st f fd) (S : FnScope N ps (defScope st))
    (hb : ∀ (cdv : Value) (A : Around) (outer : List PySem.Env) (s : Shared) (H : Hp) (E : XK), Room k (A.deeper (PyProof.Rows.envOfC qual (defScope st) s.heap.objs.size f cdv)) → A.guards = some [] →
      DSs L (cxOf (L2.CX P w) P w L.K mg base N qual (defScope st) f cdv A outer s H E) body (defBody st)) : FG L P w mg base (k + 1) f fd ps (runFn N.length body) := by
  refine ⟨fun A outer s H args us vs Q E hr hg e0 bt r hl ⟨Γ, g, σ, ds, rp, l, w⟩ => ?_⟩
  obtain ⟨oc, od, kV, doc, pm, an, cdv, ct, osl, rfl, lk, hcd⟩ := F.ex
  refine LamX.run_ofS lk hcd S hr e0 bt r (r.length.trans hl) fun hr' => ⟨_, hb cdv A outer s H E hr' hg (fun cls d _ H => E cls d H) g H (takes_of rfl rfl rfl rfl), ?_⟩
  have hpl : ps.length ≤ N.length := by have := congrArg List.length S.pre; rw [List.length_take] at this; omega
  refine ⟨env0 N.length ds, g, rep_start rp l (by rw [r.length, hl]; exact hpl), M.wpB_mono (fun fl b k => ?_) (fun _ _ x => fun cls d g σ H s e a => x cls d g H s e a) _ _ ((M.wpB_bind _ _).mp w)⟩
  cases fl with
  | nx Γ' => exact fun g' σ' H' r' _ e => k .non g' H' r'.base e .non
  | rt d => exact fun g' v H' s' e t => k v g' H' s' e t
  | bk Γ' => exact k.elim
  | ct Γ' => exact k.elim

/-! calls -/
variable {k : Nat} {f : Addr} {fd : FuncData} {ps : List Str} {m : List D → M D} {x : Str} {p : Pos} {e : Expr} {es : List Expr} {is : List IE} {i : IE}
def iCall (m : List D → M D) (is : List IE) : IE := fun Γ => (evs is Γ).bind m
theorem run_fg {pins : List (Addr × Obj)} {s : Shared} {Q : VK} {us : List Value} {vs : List V} {args : Args} (F : FG L X.prog X.w X.mg X.base k f fd ps m) (hK : X.K = L.K) (hr : Room k X.A) (hgd : X.A.guards = some []) (tk : Takes X W) (I : Inv X pins σ H s) (r : Vals vs us)
    (hb : BindsTo s fd args (ps.zip us)) (hl : us.length = ps.length) (h : SpD L m vs H Q (WE W σ)) : codeAny (model X.prog X.w) X.A (.call (.ref f) args) (fun r s' => match r with
      | .ok (.ret u) => EP X pins σ Q u s'
      | .ok _ => False
      | .error e => X.xe e s') s := by
  refine codeAny_mono (F.go X.A X.stack s H args us vs Q (WE W σ) hr hgd (hK ▸ I.env0) hb r hl h) fun r s' hq => ?_
  cases r with
  | error e => exact passAt tk σ pins H s e s' I hq
  | ok fl =>
    cases fl with
    | ret u => exact I.after hq
    | next => exact hq
    | brk => exact hq
    | cont => exact hq
theorem spd_of {Γ : Env} {Q : VK} {vs : List V} {ds : List D} (r : Rep L Γ g σ H) (l : DenL L g vs ds) (w : (m ds).wpB g.bud (Wn L DenT g H Q) (XW L W g σ H)) : SpD L m vs H Q (WE W σ) := ⟨Γ, g, σ, ds, r, l, w⟩
theorem call_fg {pins : List (Addr × Obj)} {s : Shared} {Q : VK} {us : List Value} {args : Args} (h : codeAny (model X.prog X.w) X.A (.call (.ref f) args) (fun r s' => match r with
      | .ok (.ret u) => EP X pins σ Q u s'
      | .ok _ => False
      | .error e => X.xe e s') s) (ha : args = ⟨us, []⟩) : wpAny (model X.prog X.w) X.A (call (.ref f) us) (EP X pins σ Q) X.xe s := by
  subst ha
  refine wpAny_call (codeAny_mono h fun r s' hq => ?_)
  cases r with
  | error e => exact hq
  | ok fl => cases fl <;> exact hq
theorem evs_len {Q : List D → Nat → Prop} {E : Ex → Nat → Prop} : ∀ (is : List IE) (b : Nat), (evs is Γ).wpB b Q E → (evs is Γ).wpB b (fun ds c => ds.length = is.length ∧ Q ds c) E := fun is => by
  induction is generalizing Q with
  | nil => intro b h; exact ⟨rfl, h⟩
  | cons i is ih =>
    intro b h
    refine (M.wpB_bind _ _).mpr (M.wpB_mono (fun d c k => ?_) (fun _ _ x => x) _ _ ((M.wpB_bind _ _).mp h))
    exact (M.wpB_bind _ _).mpr (M.wpB_mono (fun ds c k => ⟨congrArg (· + 1) k.1, k.2⟩) (fun _ _ x => x) _ _ (ih _ ((M.wpB_bind _ _).mp k)))
/-- a def's arguments, then its run -/
theorem RdA.call {Γ : Env} {Q : VK} (r : Rep L Γ g σ H) (hn : is.length = ps.length) (w : (iCall m is Γ).wpB g.bud (Wn L DenT g H Q) (XW L W g σ H)) : RdA L W is σ H fun vs H1 => vs.length = ps.length ∧ SpD L m vs H1 Q (WE W σ) := by
  refine ⟨Γ, g, r, M.wpB_mono (fun ds b h vs g' H' s e t => ?_) (fun _ _ x => x) _ _ (evs_len is g.bud ((M.wpB_bind _ _).mp w))⟩
  subst e
  refine ⟨t.length.trans (h.1.trans hn), spd_of (r.step s) t (M.wpB_mono (fun d b k v g2 H2 s2 e t => k v g2 H2 (s.trans s2) e t) (fun _ _ x => x.of s) _ _ h.2)⟩
/-- f(e, ..) -/
theorem de_call (F : FG L X.prog X.w X.mg X.base k f fd ps m) (hK : X.K = L.K) (hr : Room k X.A) (hgd : X.A.guards = some []) (gl : Gl X x) (mf : X.mg x = some (.ref f)) (kp : PySem.W.keepIn X.K (.ref f) = true) (bi : Binds X.K fd ps []) (hn : is.length = ps.length)
    (ha : DA L X is (e :: es)) (nd : (x == ("__debug__" : Str)) = false := by decide) (h1 : starEach (e :: es) X.env = (false, eval e X.env) :: starEach es X.env := by rfl) (h2 : (backTo pos (starEach es X.env)).any (·.1) = false := by rfl) :
    DE L X (iCall m is) (.Call (.Name x p) (e :: es) [] pos) := fun W tk => by
  refine ⟨fun pins s σ H Q I ⟨Γ, g, rp, w⟩ => ?_⟩
  refine wpAny_Call_Name_kw (ld_glob I gl mf (PySem.W.callWith_K (h₀ := X.base) I.ok.mod.kin kp (thn ((ha W tk).run pos pins s σ H _ I (RdA.call rp hn w)) fun us s1 ⟨vs, H1, I1, r, hl, q⟩ => ⟨I1.kIn, ?_⟩) h1 h2) nd)
  have hl2 : us.length = ps.length := by rw [← r.length]; exact hl
  have b := bi s1 us I1.kIn (by rw [List.append_nil]; exact hl2)
  rw [List.append_nil] at b
  exact call_fg (run_fg F hK hr hgd tk I1 r b hl2 q) rfl
end
end DL
/-! Subscripts, slices, membership, built-ins. -/
namespace DL
open PySem PySem.Spec L2
section
variable {L : Lx} {X : Cx} {g g' : Gh} {H H' : Hp} {σ : L2.St} {Γ : Env} {W : WX} {pos : Pos}

/-! a[i] -/
def IxD (L : Lx) (X : Cx) (f : D → D → Option D) : Prop := IxR X (RdO L f)
theorem IxD.or {f f' : D → D → Option D} (h : IxD L X f) (h' : IxD L X f') : IxD L X (orD f f') := by
  intro va sl pins st σ H x y v u Q I rx ry ⟨Γ, g, σ', dx, dy, d, rp, vx, vy, e, w⟩ hs
  unfold orD at e
  split at e
  · rename_i d' e'
    cases e
    exact h va sl pins st σ H x y v u Q I rx ry ⟨Γ, g, σ', dx, dy, d, rp, vx, vy, e', w⟩ hs
  · exact h' va sl pins st σ H x y v u Q I rx ry ⟨Γ, g, σ', dx, dy, d, rp, vx, vy, e, w⟩ hs
theorem DenL.atI {vs : List V} {ds : List D} {i : Int} {d : D} (l : DenL L g vs ds) (e : atI ds i = some d) : ∃ v, L2.atI vs i = some v ∧ Den L g v d := by
  unfold L2.atI at e ⊢
  rw [l.length]
  cases q : ixN ds.length i with
  | none => rw [q] at e; cases e
  | some j =>
    rw [q] at e
    exact l.get (i := j) e
def fIxT : D → D → Option D
  | .tup ds, .int i => atI ds i
  | _, _ => none
def fIxL : D → D → Option D
  | .lst ds, .int i => atI ds i
  | _, _ => none
def fIxS : D → D → Option D
  | .str z, .int i => if z.length ≤ sizeLine then (atI z.cps.toList i).map fun c => .str ⟨#[c]⟩ else none
  | _, _ => none
theorem ixd_tup (hK : X.K = L.K) : IxD L X fIxT := by
  intro va sl pins st σ H x y v u Q I rx ry ⟨Γ, g, σ', dx, dy, d, rp, vx, vy, e, w⟩ hs
  unfold fIxT at e
  split at e
  · obtain ⟨a, vs, rfl, h1, l1, _⟩ := vx.tup rp.sub
    cases vy.int
    obtain ⟨z, hz, t⟩ := l1.atI e
    exact ix_tup va sl pins st σ H _ _ v u Q I rx ry ⟨a, vs, _, z, rfl, rfl, hK ▸ h1, hz, w _ g H (Stp.refl rp) rfl t⟩ hs
  · cases e
theorem ixd_list : IxD L X fIxL := by
  intro va sl pins st σ H x y v u Q I rx ry ⟨Γ, g, σ', dx, dy, d, rp, vx, vy, e, w⟩ hs
  unfold fIxL at e
  split at e
  · obtain ⟨a, vs, rfl, h1, l1⟩ := vx.lst rp.sub
    cases vy.int
    obtain ⟨z, hz, t⟩ := l1.atI e
    exact ix_list va sl pins st σ H _ _ v u Q I rx ry ⟨a, vs, _, z, rfl, rfl, SqL.of h1, hz, w _ g H (Stp.refl rp) rfl t⟩ hs
  · cases e
theorem ixd_str : IxD L X fIxS := by
  intro va sl pins st σ H x y v u Q I rx ry ⟨Γ, g, σ', dx, dy, d, rp, vx, vy, e, w⟩ hs
  cases dx with
  | str z =>
    cases dy with
    | int i =>
      replace e : (if z.length ≤ sizeLine then (L2.atI z.cps.toList i).map fun c => D.str ⟨#[c]⟩ else none) = some d := e
      split at e
      · rename_i hz
        cases vx.str
        cases vy.int
        cases q : L2.atI z.cps.toList i with
        | none => rw [q] at e; cases e
        | some c =>
          rw [q] at e
          cases e
          exact ix_str va sl pins st σ H _ _ v u Q I rx ry ⟨z, i, c, rfl, rfl, hz, q, w _ g H (Stp.refl rp) rfl (.str _)⟩ hs
      · cases e
    | _ => cases e
  | _ => cases dy <;> cases e
theorem de_ix {f : D → D → Option D} {i j : IE} {a b : Expr} (ho : IxD L X f) (ha : DV L X i a) (hb : DV L X j b) (hs : PlainIx b := by exact fun _ _ => rfl) : DE L X (iOp f i j) (.Subscript a b pos) := fun W tk =>
  PE.imp (pe_ix ho (ha W tk) (hb W tk) hs) fun σ H Q h => h.op (fun _ _ _ _ _ t => t) fun _ _ _ _ _ t => t

/-! slices -/
abbrev IO := Env → M (Option Int)
def RdPo (L : Lx) (W : WX) (t : IO) : TO := fun σ H Q => ∃ Γ g, Rep L Γ g σ H ∧ (t Γ).wpB g.bud (fun o b => ∀ g' H', Stp L g H g' H' → g'.bud = b → Q o H') (XW L W g σ H)
def DO (L : Lx) (X : Cx) (t : IO) (e : Option Expr) : Prop := ∀ W, Takes X W → PO X e (RdPo L W t)
theorem PO.imp {e : Option Expr} {t t' : TO} (h : PO X e t) (k : ∀ σ H Q, t' σ H Q → t σ H Q) : PO X e t' := ⟨fun pins s σ H Q I r => h.run pins s σ H Q I (k _ _ _ r)⟩
def oNone : IO := fun _ => .ret none
def oSome (i : IE) : IO := fun Γ => (i Γ).bind fun d => match d with
  | .int k => .ret (some k)
  | _ => .stuck
theorem do_none : DO L X oNone none := fun W tk => PO.imp po_none fun σ H Q ⟨Γ, g, r, w⟩ => w g H (Stp.refl r) rfl
theorem do_some {i : IE} {e : Expr} (h : DE L X i e) : DO L X (oSome i) (some e) := fun W tk => PO.imp (po_some (h W tk)) fun σ H Q ⟨Γ, g, r, w⟩ => Rd1.go r w fun v H1 d g1 r1 s t w => by
  cases d with
  | int k => cases t; exact ⟨k, rfl, w g1 H1 s rfl⟩
  | _ => exact w.elim
def cutD (ds : List D) (lo hi : Option Int) : List D := (ds.drop (HT.sIx ds.length 0 lo)).take (HT.sIx ds.length ds.length hi - HT.sIx ds.length 0 lo)
theorem DenL.cut {vs : List V} {ds : List D} {lo hi : Option Int} (l : DenL L g vs ds) : DenL L g (cutV vs lo hi) (cutD ds lo hi) := by
  unfold cutV cutD
  rw [l.length]
  exact (l.drop _).take _
def RdSl (L : Lx) (T : TT1) (f : D → Option Int → Option Int → Option D) : V → Option Int → Option Int → Hp → VK → Prop := fun x lo hi H Q => ∃ Γ g σ dx d, Rep L Γ g σ H ∧ Vw L g H x dx ∧ f dx lo hi = some d ∧ Wn L T g H Q d g.bud
def SlD (L : Lx) (X : Cx) (T : TT1) (f : D → Option Int → Option Int → Option D) : Prop := SlR X (RdSl L T f)
def iSl (f : D → Option Int → Option Int → Option D) (i : IE) (lo hi : IO) : IE := fun Γ => (i Γ).bind fun x => (lo Γ).bind fun l => (hi Γ).bind fun h => match f x l h with
  | some d => .ret d
  | none => .stuck
theorem RdPo.go {α : Type} {t : IO} {f : Option Int → M α} {R : α → Nat → Prop} {Q : Option Int → Hp → Prop} (r : Rep L Γ g σ H) (h : ((t Γ).bind f).wpB g.bud R (XW L W g σ H))
    (k : ∀ o H1 g1, Rep L Γ g1 σ H1 → Stp L g H g1 H1 → (f o).wpB g1.bud R (XW L W g1 σ H1) → Q o H1) : RdPo L W t σ H Q := by
  refine ⟨Γ, g, r, M.wpB_mono (fun d b h g' H' s e => ?_) (fun _ _ x => x) _ _ ((M.wpB_bind _ _).mp h)⟩
  subst e
  exact k d H' g' (r.step s) s (M.wpB_mono (fun _ _ x => x) (fun _ _ x => x.of s) _ _ h)
theorem Rd1.slc {T : TT1} {f : D → Option Int → Option Int → Option D} {i : IE} {lo hi : IO} {Q : VK} (hT : ∀ {g g1 : Gh} {H H1 H2 : Hp} {g2 : Gh} {v : V} {d : D}, Stp L g H g1 H1 → T L H1 g2 H2 v d → T L H g2 H2 v d) (h : Rd1 L T W (iSl f i lo hi) σ H Q) :
    tSl (RdSl L T f) (Rd1 L VwT W i) (RdPo L W lo) (RdPo L W hi) σ H Q := by
  obtain ⟨Γ, g, rp, w⟩ := h
  refine Rd1.go rp w fun x H1 dx g1 r1 s1 t1 w => RdPo.go r1 w fun l H2 g2 r2 s2 w => RdPo.go r2 w fun h H3 g3 r3 s3 w => ?_
  split at w
  · rename_i d e
    exact ⟨Γ, g3, σ, dx, d, r3, (t1.step s2).step s3, e, fun v g' H' s eb t => w v g' H' (s1.trans (s2.trans (s3.trans s))) eb (hT (s1.trans (s2.trans s3)) t)⟩
  · exact w.elim
theorem de_sl {f : D → Option Int → Option Int → Option D} {i : IE} {lo hi : IO} {a : Expr} {l h : Option Expr} {p2 : Pos} (ho : SlD L X DenT f) (ha : DV L X i a) (hl : DO L X lo l) (hh : DO L X hi h) : DE L X (iSl f i lo hi) (.Subscript a (.Slice l h none p2) pos) := fun W tk =>
  PE.imp (pe_slice ho (ha W tk) (hl W tk) (hh W tk)) fun σ H Q h => h.slc fun _ t => t
theorem df_sl {f : D → Option Int → Option Int → Option D} {i : IE} {lo hi : IO} {a : Expr} {l h : Option Expr} {p2 : Pos} (ho : SlD L X FrT f) (ha : DV L X i a) (hl : DO L X lo l) (hh : DO L X hi h) : DF L X (iSl f i lo hi) (.Subscript a (.Slice l h none p2) pos) := fun W tk =>
  PE.imp (pe_slice ho (ha W tk) (hl W tk) (hh W tk)) fun σ H Q h => h.slc fun s ⟨p, vs, ds, e1, e2, h1, h2, h3, h4, h5⟩ => ⟨p, vs, ds, e1, e2, h1, h2, h3, h4, none_back s h5⟩
def fSlT : D → Option Int → Option Int → Option D
  | .tup ds, lo, hi => some (.tup (cutD ds lo hi))
  | _, _, _ => none
def fSlL : D → Option Int → Option Int → Option D
  | .lst ds, lo, hi => some (.lst (cutD ds lo hi))
  | _, _, _ => none
def fSlS : D → Option Int → Option Int → Option D
  | .str z, lo, hi => if z.length ≤ sizeLine then some (.str (cutS z lo hi)) else none
  | _, _, _ => none
def orSl (f f' : D → Option Int → Option Int → Option D) : D → Option Int → Option Int → Option D := fun x l h => match f x l h with
  | some d => some d
  | none => f' x l h
theorem SlD.or {T : TT1} {f f' : D → Option Int → Option Int → Option D} (h : SlD L X T f) (h' : SlD L X T f') : SlD L X T (orSl f f') := by
  intro pins st σ H x v vl vu lo hi sl Q I rx hs pl pu ⟨Γ, g, σ', dx, d, rp, vx, e, w⟩
  unfold orSl at e
  split at e
  · rename_i d' e'
    cases e
    exact h pins st σ H x v vl vu lo hi sl Q I rx hs pl pu ⟨Γ, g, σ', dx, d, rp, vx, e', w⟩
  · exact h' pins st σ H x v vl vu lo hi sl Q I rx hs pl pu ⟨Γ, g, σ', dx, d, rp, vx, e, w⟩
theorem sld_str : SlD L X DenT fSlS := by
  intro pins st σ H x v vl vu lo hi sl Q I rx hs pl pu ⟨Γ, g, σ', dx, d, rp, vx, e, w⟩
  cases dx with
  | str z =>
    replace e : (if z.length ≤ sizeLine then some (D.str (cutS z lo hi)) else none) = some d := e
    split at e
    · rename_i hz
      cases e
      cases vx.str
      exact sl_str pins st σ H _ v vl vu lo hi sl Q I rx hs pl pu ⟨z, rfl, hz, w _ g H (Stp.refl rp) rfl (.str _)⟩
    · cases e
  | _ => cases e
theorem cutD_all {ds : List D} {lo hi : Option Int} (h : HT.sIx ds.length 0 lo = 0 ∧ HT.sIx ds.length ds.length hi = ds.length) : cutD ds lo hi = ds := by
  unfold cutD
  rw [h.1, h.2, List.drop_zero, Nat.sub_zero, List.take_length]
/-- t[lo:hi], the new tuple's object known -/
theorem sl_tupF {fz : Bool} : SlR X (fun x lo hi H Q => ∃ a xs, x = .ref a ∧ SqT X.K H a xs ∧ (HT.sIx xs.length 0 lo = 0 ∧ HT.sIx xs.length xs.length hi = xs.length → Q (.ref a) H) ∧
    ∀ p o, H p = none → o.cls = .type "tuple" → o.dict = none → Q (.ref p) (upd H p (newT fz o (cutV xs lo hi)))) := by
  intro pins s σ H x v vl vu lo hi sl Q I rx hs pl pu wish
  obtain ⟨a, xs, rfl, sx, g1, g2⟩ := wish
  cases rx
  obtain ⟨ws, vs, tt, fit⟩ := I.tuple sx
  have same : ws.toArray.size = xs.length := by rw [List.size_toArray]; exact vs.length.symm
  refine ⟨"tuple", _, PyProof.Rows.slot_tuple_getitem.lookup, tt.typeIs, ?_⟩
  by_cases whole : HT.sIx xs.length 0 lo = 0 ∧ HT.sIx xs.length xs.length hi = xs.length
  · exact getItem_tuple_whole tt hs pl pu (by rw [same]; exact whole) ⟨.ref a, H, I, rfl, g1 whole⟩
  · refine HT.getItem_tuple_cut tt hs pl pu (by rw [same]; exact whole) ?_ (by rw [same]; exact fit)
    rw [same]
    have k : ∀ (H' : Hp) (us : List Value), Vals (cutV xs lo hi) us → ObjOk X.prog X.w H' (s.heap.push { cls := .type "tuple", data := .seq us.toArray }) s.heap.objs.size (.tup (cutV xs lo hi)) := fun _ us hu => ⟨Nat.le_trans (cutV_length xs lo hi) fit, us, hu, PyProof.Rows.IsTup.new _ _⟩
    have r' := (vs.drop (HT.sIx xs.length 0 lo)).take (HT.sIx xs.length xs.length hi - HT.sIx xs.length 0 lo)
    refine ⟨.ref s.heap.objs.size, _, I.laid (t' := s.toks) (o := newT fz { cls := .type "tuple", data := .seq ((ws.drop (HT.sIx xs.length 0 lo)).take (HT.sIx xs.length xs.length hi - HT.sIx xs.length 0 lo)).toArray } (cutV xs lo hi)) (fun b ob q => Heap.get?_push_of_some _ q) (Nat.le_refl _) ?_, rfl, g2 _ _ (I.hok.fresh (Nat.le_refl _)) rfl rfl⟩
    unfold newT
    split
    · exact ⟨Heap.get?_push_size _ rfl, k _ _ r'⟩
    · exact k _ _ r'
theorem sld_tup (hK : X.K = L.K) : SlD L X DenT fSlT := by
  intro pins st σ H x v vl vu lo hi sl Q I rx hs pl pu ⟨Γ, g, σ', dx, d, rp, vx, e, w⟩
  unfold fSlT at e
  split at e
  · cases e
    obtain ⟨a, vs, rfl, h1, l1, d1⟩ := vx.tup rp.sub
    refine sl_tupF (fz := L.fz) pins st σ H _ v vl vu lo hi sl Q I rx hs pl pu ⟨a, vs, rfl, hK ▸ h1, fun z => ?_, fun p o n hc hd => ?_⟩
    · rw [l1.length] at z
      rw [cutD_all z] at w
      exact w _ g H (Stp.refl rp) rfl d1
    · have s := stp_put (o := newT L.fz o (cutV vs lo hi)) rp n newT_nt
      exact w _ _ _ s rfl (.tup (newT_sq put_F hc hd) (l1.cut.mono s.le s.mu))
  · cases e
theorem sld_list : SlD L X FrT fSlL := by
  intro pins st σ H x v vl vu lo hi sl Q I rx hs pl pu ⟨Γ, g, σ', dx, d, rp, vx, e, w⟩
  unfold fSlL at e
  split at e
  · cases e
    obtain ⟨a, vs, rfl, h1, l1⟩ := vx.lst rp.sub
    refine L2.sl_list pins st σ H _ v vl vu lo hi sl Q I rx hs pl pu ⟨a, vs, rfl, SqL.of h1, fun p n => ?_⟩
    exact w _ _ _ (stp_new (o := .lst (cutV vs lo hi)) rp n false) rfl (FrT.new rp (Stp.refl rp) n l1.cut)
  · cases e
theorem SlD.frz {f : D → Option Int → Option Int → Option D} (h : SlD L X FrT f) : SlD L X DenT f := by
  intro pins st σ H x v vl vu lo hi sl Q I rx hs pl pu ⟨Γ, g, σ', dx, d, rp, vx, e, w⟩
  refine h pins st σ H x v vl vu lo hi sl Q I rx hs pl pu ⟨Γ, g, σ', dx, d, rp, vx, e, fun v g' H' s eb fr => ?_⟩
  obtain ⟨g2, s2, e2, t2⟩ := stp_frz s fr
  exact w v g2 H' s2 (e2.trans eb) t2

/-! x in xs -/
def okIn (x : D) (ds : List D) : Bool := x.pl && D.plL ds && decide (min (D.depL ds) x.dep ≤ 60)
def dIn (x : D) (ds : List D) : Bool := ds.any fun y => dEq y x
theorem any_py (x : D) : ∀ ds : List D, ((D.pyL ds).any fun y => PyData.eqv y x.py) = dIn x ds
  | [] => rfl
  | d :: ds => by
    show (PyData.eqv d.py x.py || (D.pyL ds).any fun y => PyData.eqv y x.py) = (dEq d x || ds.any fun y => dEq y x)
    rw [any_py x ds]
    rfl
def itemsD : D → Option (List D)
  | .lst ds => some ds
  | .tup ds => some ds
  | _ => none
def fIn (neg : Bool) (x y : D) : Option D := match itemsD y with
  | some ds => if okIn x ds then some (.bl (if neg then !dIn x ds else dIn x ds)) else none
  | none => none
theorem od_in (hK : X.K = L.K) (hu : X.A.units + 65 < cLine) : OpD L X (compareOp .In) (fIn false) := by
  intro pins st σ H x y v u Q I rx ry ⟨Γ, g, σ', dx, dy, d, rp, vx, vy, e, w⟩
  unfold fIn at e
  split at e
  · rename_i ds q
    split at e
    · rename_i z
      cases e
      unfold okIn at z
      simp only [Bool.and_eq_true, decide_eq_true_eq] at z
      have py : dy.pl = true := by
        cases dy <;> simp only [itemsD, Option.some.injEq, reduceCtorEq] at q
        · subst q; simp only [D.pl]; exact z.1.2
        · subst q; simp only [D.pl]; exact z.1.2
      obtain ⟨as, r1⟩ := Dp.reads I dx.py x v (hK ▸ vx.dp rp.sub z.1.1) rx
      obtain ⟨bs, r2⟩ := Dp.reads I dy.py y u (hK ▸ vy.dp rp.sub py) ry
      have fin : EP X pins σ Q (.bool ((D.pyL ds).any fun y => PyData.eqv y dx.py)) st := ⟨.bl _, H, I, by rw [any_py]; rfl, w _ g H (Stp.refl rp) rfl (.bl _)⟩
      have room : X.A.units + 1 + min (PyData.depthAll (D.pyL ds)) dx.py.depth < cLine := by rw [D.depth_pyL, D.depth_py]; omega
      cases dy <;> simp only [itemsD, Option.some.injEq, reduceCtorEq] at q
      · subst q
        simp only [D.py] at r2
        exact SeqAt.in_tuple_data r2 r1 (D.plain_pyL _ z.1.2) (D.plain_py _ z.1.1) room fin
      · subst q
        simp only [D.py] at r2
        exact SeqAt.in_list_data r2 r1 (D.plain_pyL _ z.1.2) (D.plain_py _ z.1.1) room fin
    · cases e
  · cases e
theorem od_notIn (hK : X.K = L.K) (hu : X.A.units + 65 < cLine) : OpD L X (compareOp .NotIn) (fIn true) := by
  intro pins st σ H x y v u Q I rx ry ⟨Γ, g, σ', dx, dy, d, rp, vx, vy, e, w⟩
  unfold fIn at e
  split at e
  · rename_i ds q
    split at e
    · rename_i z
      cases e
      unfold okIn at z
      simp only [Bool.and_eq_true, decide_eq_true_eq] at z
      have py : dy.pl = true := by
        cases dy <;> simp only [itemsD, Option.some.injEq, reduceCtorEq] at q
        · subst q; simp only [D.pl]; exact z.1.2
        · subst q; simp only [D.pl]; exact z.1.2
      obtain ⟨as, r1⟩ := Dp.reads I dx.py x v (hK ▸ vx.dp rp.sub z.1.1) rx
      obtain ⟨bs, r2⟩ := Dp.reads I dy.py y u (hK ▸ vy.dp rp.sub py) ry
      have fin : EP X pins σ Q (.bool (!(D.pyL ds).any fun y => PyData.eqv y dx.py)) st := ⟨.bl _, H, I, by rw [any_py]; rfl, w _ g H (Stp.refl rp) rfl (.bl _)⟩
      have room : X.A.units + 1 + min (PyData.depthAll (D.pyL ds)) dx.py.depth < cLine := by rw [D.depth_pyL, D.depth_py]; omega
      cases dy <;> simp only [itemsD, Option.some.injEq, reduceCtorEq] at q
      · subst q
        simp only [D.py] at r2
        exact SeqAt.notIn_tuple_data r2 r1 (D.plain_pyL _ z.1.2) (D.plain_py _ z.1.1) room fin
      · subst q
        simp only [D.py] at r2
        exact SeqAt.notIn_list_data r2 r1 (D.plain_pyL _ z.1.2) (D.plain_py _ z.1.1) room fin
    · cases e
  · cases e
/-- one sign in a text -/
def fInS (neg : Bool) : D → D → Option D
  | .str x, .str z => if x.cps.size = 1 then some (.bl (if neg then !decide (x.cps.getD 0 0 ∈ z.cps.toList) else decide (x.cps.getD 0 0 ∈ z.cps.toList))) else none
  | _, _ => none
theorem sign_eq {x : Str} (h : x.cps.size = 1) : x = ⟨#[x.cps.getD 0 0]⟩ := by
  obtain ⟨⟨l⟩⟩ := x
  match l, h with
  | [c], _ => rfl
theorem ins_of {neg : Bool} {dx dy d : D} (e : fInS neg dx dy = some d) : ∃ c z, dx = .str ⟨#[c]⟩ ∧ dy = .str z ∧ d = .bl (if neg then !decide (c ∈ z.cps.toList) else decide (c ∈ z.cps.toList)) := by
  cases dx with
  | str x =>
    cases dy with
    | str z =>
      replace e : (if x.cps.size = 1 then some (D.bl (if neg then !decide (x.cps.getD 0 0 ∈ z.cps.toList) else decide (x.cps.getD 0 0 ∈ z.cps.toList))) else none) = some d := e
      split at e
      · rename_i h
        cases e
        exact ⟨_, z, by rw [← sign_eq h], rfl, rfl⟩
      · cases e
    | _ => cases e
  | _ => cases dy <;> cases e
theorem od_inS : OpD L X (compareOp .In) (fInS false) := by
  intro pins st σ H x y v u Q I rx ry ⟨Γ, g, σ', dx, dy, d, rp, vx, vy, e, w⟩
  obtain ⟨c, z, rfl, rfl, rfl⟩ := ins_of e
  cases vx.str
  cases vy.str
  exact op_in_sign pins st σ H _ _ v u Q I rx ry ⟨_, _, rfl, rfl, w _ g H (Stp.refl rp) rfl (.bl _)⟩
theorem od_notInS : OpD L X (compareOp .NotIn) (fInS true) := by
  intro pins st σ H x y v u Q I rx ry ⟨Γ, g, σ', dx, dy, d, rp, vx, vy, e, w⟩
  obtain ⟨c, z, rfl, rfl, rfl⟩ := ins_of e
  cases vx.str
  cases vy.str
  exact op_notIn_sign pins st σ H _ _ v u Q I rx ry ⟨_, _, rfl, rfl, w _ g H (Stp.refl rp) rfl (.bl _)⟩
/-- is None -/
def fIsN (neg : Bool) : D → D → Option D
  | .non, .non => some (.bl (!neg))
  | .bl _, .non | .int _, .non | .str _, .non | .tup _, .non | .lst _, .non | .dct _ _, .non | .ins _ _, .non => some (.bl neg)
  | _, _ => none
theorem isn_of {dx dy d : D} {neg : Bool} {x y : V} (vx : Vw L g H x dx) (vy : Vw L g H y dy) (e : fIsN neg dx dy = some d) : y = .non ∧ d = .bl (if neg then !decide (x = .non) else decide (x = .non)) := by
  have hy : dy = .non := by unfold fIsN at e; split at e <;> first | rfl | cases e
  subst hy
  have ey : y = .non := by
    rcases vy with h | ⟨_, _, _, _, e, _⟩ | ⟨_, _, _, _, e, _⟩
    · cases h; rfl
    · cases e
    · cases e
  refine ⟨ey, ?_⟩
  unfold fIsN at e
  rcases vx with h | ⟨p, _, _, rfl, rfl, _⟩ | ⟨p, _, _, rfl, rfl, _⟩
  · cases h <;> cases neg <;> simp_all
  · cases neg <;> simp_all
  · cases neg <;> simp_all
theorem od_isN : OpD L X (compareOp .Is) (fIsN false) := by
  intro pins st σ H x y v u Q I rx ry ⟨Γ, g, σ', dx, dy, d, rp, vx, vy, e, w⟩
  obtain ⟨e1, rfl⟩ := isn_of vx vy e
  exact op_isN pins st σ H _ _ v u Q I rx ry ⟨e1, w _ g H (Stp.refl rp) rfl (.bl _)⟩
theorem od_notN : OpD L X (compareOp .IsNot) (fIsN true) := by
  intro pins st σ H x y v u Q I rx ry ⟨Γ, g, σ', dx, dy, d, rp, vx, vy, e, w⟩
  obtain ⟨e1, rfl⟩ := isn_of vx vy e
  exact op_notN pins st σ H _ _ v u Q I rx ry ⟨e1, w _ g H (Stp.refl rp) rfl (.bl _)⟩
end
end DL
/-! Built-in functions and types, called. -/
namespace DL
open PySem PySem.Spec L2
section
variable {L : Lx} {X : Cx} {g g' : Gh} {H H' : Hp} {σ : L2.St} {Γ : Env} {W : WX} {pos : Pos}
inductive VwL (L : Lx) (g : Gh) (H : Hp) : List V → List D → Prop
  | nil : VwL L g H [] []
  | cons {v : V} {vs : List V} {d : D} {ds : List D} : Vw L g H v d → VwL L g H vs ds → VwL L g H (v :: vs) (d :: ds)
def RdAv (L : Lx) (W : WX) (is : List IE) : TA := fun σ H Q => ∃ Γ g, Rep L Γ g σ H ∧
  (evs is Γ).wpB g.bud (fun ds b => ∀ vs g' H', Stp L g H g' H' → g'.bud = b → VwL L g' H' vs ds → Q vs H') (XW L W g σ H)
def DAv (L : Lx) (X : Cx) (is : List IE) (es : List Expr) : Prop := ∀ W, Takes X W → PA X es (RdAv L W is)
theorem dav_nil : DAv L X [] [] := fun W _ => PA.imp pa_nil fun σ H Q ⟨Γ, g, rp, w⟩ => w [] g H (Stp.refl rp) rfl .nil
theorem dav_cons {i : IE} {is : List IE} {e : Expr} {es : List Expr} (h : DV L X i e) (hr : DAv L X is es) (hs : starEach (e :: es) X.env = (false, eval e X.env) :: starEach es X.env := by rfl) : DAv L X (i :: is) (e :: es) := fun W tk => by
  refine PA.imp (pa_cons (h W tk) (hr W tk) hs) fun σ H Q ⟨Γ, g, rp, w⟩ => ?_
  refine ⟨Γ, g, rp, M.wpB_mono (fun d b h v g1 H1 s e t => ?_) (fun _ _ x => x) _ _ ((M.wpB_bind _ _).mp w)⟩
  subst e
  refine ⟨Γ, g1, rp.step s, M.wpB_mono (fun ds b h vs g2 H2 s2 e2 t2 => ?_) (fun _ _ x => x.of s) _ _ ((M.wpB_bind _ _).mp h)⟩
  exact h (v :: vs) g2 H2 (s.trans s2) e2 (.cons (t.step s2) t2)
theorem RdAv.go {α : Type} {is : List IE} {f : List D → M α} {R : α → Nat → Prop} {Q : List V → Hp → Prop} (r : Rep L Γ g σ H) (h : ((evs is Γ).bind f).wpB g.bud R (XW L W g σ H))
    (k : ∀ vs H1 ds g1, Rep L Γ g1 σ H1 → Stp L g H g1 H1 → VwL L g1 H1 vs ds → (f ds).wpB g1.bud R (XW L W g1 σ H1) → Q vs H1) : RdAv L W is σ H Q := by
  refine ⟨Γ, g, r, M.wpB_mono (fun d b h v g' H' s e t => ?_) (fun _ _ x => x) _ _ ((M.wpB_bind _ _).mp h)⟩
  subst e
  exact k v H' d g' (r.step s) s t (M.wpB_mono (fun _ _ x => x) (fun _ _ x => x.of s) _ _ h)
/-- a built-in's call on values, by what it says of data -/
def RdC (L : Lx) (T : TT1) (f : List D → Option D) : List V → Hp → VK → Prop := fun vs H Q => ∃ Γ g σ ds d, Rep L Γ g σ H ∧ VwL L g H vs ds ∧ f ds = some d ∧ Wn L T g H Q d g.bud
def CaD (L : Lx) (X : Cx) (T : TT1) (v : Value) (f : List D → Option D) : Prop := CallR X v (RdC L T f)
def orC (f f' : List D → Option D) : List D → Option D := fun x => match f x with
  | some d => some d
  | none => f' x
theorem CaD.or {T : TT1} {v : Value} {f f' : List D → Option D} (h : CaD L X T v f) (h' : CaD L X T v f') : CaD L X T v (orC f f') := by
  intro pins st σ H xs us Q I r ⟨Γ, g, σ', ds, d, rp, vs, e, w⟩
  unfold orC at e
  split at e
  · rename_i d' e'
    cases e
    exact h pins st σ H xs us Q I r ⟨Γ, g, σ', ds, d, rp, vs, e', w⟩
  · exact h' pins st σ H xs us Q I r ⟨Γ, g, σ', ds, d, rp, vs, e, w⟩
theorem CaD.frz {v : Value} {f : List D → Option D} (h : CaD L X FrT v f) : CaD L X DenT v f := by
  intro pins st σ H xs us Q I r ⟨Γ, g, σ', ds, d, rp, vs, e, w⟩
  refine h pins st σ H xs us Q I r ⟨Γ, g, σ', ds, d, rp, vs, e, fun v g' H' s eb fr => ?_⟩
  obtain ⟨g2, s2, e2, t2⟩ := stp_frz s fr
  exact w v g2 H' s2 (e2.trans eb) t2
def iBi (f : List D → Option D) (is : List IE) : IE := fun Γ => (evs is Γ).bind fun ds => match f ds with
  | some d => .ret d
  | none => .stuck
theorem RdAv.bi {T : TT1} {f : List D → Option D} {is : List IE} {Q : VK} (hT : ∀ {g g1 : Gh} {H H1 H2 : Hp} {g2 : Gh} {v : V} {d : D}, Stp L g H g1 H1 → T L H1 g2 H2 v d → T L H g2 H2 v d) (h : Rd1 L T W (iBi f is) σ H Q) : RdAv L W is σ H fun vs H1 => RdC L T f vs H1 Q := by
  obtain ⟨Γ, g, rp, w⟩ := h
  refine RdAv.go rp w fun vs H1 ds g1 r1 s1 t1 w => ?_
  split at w
  · rename_i d e
    exact ⟨Γ, g1, σ, ds, d, r1, t1, e, fun v g' H' s eb t => w v g' H' (s1.trans s) eb (hT s1 t)⟩
  · exact w.elim
theorem frT_back {g g1 g2 : Gh} {H H1 H2 : Hp} {v : V} {d : D} (s : Stp L g H g1 H1) : FrT L H1 g2 H2 v d → FrT L H g2 H2 v d := fun ⟨p, vs, ds, e1, e2, h1, h2, h3, h4, h5⟩ => ⟨p, vs, ds, e1, e2, h1, h2, h3, h4, none_back s h5⟩
section
variable {x : Str} {p : Pos} {e : Expr} {es : List Expr} {is : List IE} {id : String} {f : List D → Option D}
theorem de_bi (ho : CaD L X DenT (.builtin id) f) (gl : Gl X x) (mn : X.mg x = none) (bv : bootBuiltins x = some (.builtin id)) (ha : DAv L X is (e :: es)) (n1 : x ≠ "__name__" := by decide) (n2 : (x == ("__debug__" : Str)) = false := by decide)
    (h1 : starEach (e :: es) X.env = (false, eval e X.env) :: starEach es X.env := by rfl) (h2 : (backTo pos (starEach es X.env)).any (·.1) = false := by rfl) : DE L X (iBi f is) (.Call (.Name x p) (e :: es) [] pos) := fun W tk =>
  PE.imp (pe_callB ho gl mn bv (ha W tk) n1 n2 h1 h2) fun σ H Q h => RdAv.bi (fun _ t => t) h
theorem df_bi (ho : CaD L X FrT (.builtin id) f) (gl : Gl X x) (mn : X.mg x = none) (bv : bootBuiltins x = some (.builtin id)) (ha : DAv L X is (e :: es)) (n1 : x ≠ "__name__" := by decide) (n2 : (x == ("__debug__" : Str)) = false := by decide)
    (h1 : starEach (e :: es) X.env = (false, eval e X.env) :: starEach es X.env := by rfl) (h2 : (backTo pos (starEach es X.env)).any (·.1) = false := by rfl) : DF L X (iBi f is) (.Call (.Name x p) (e :: es) [] pos) := fun W tk =>
  PE.imp (pe_callB ho gl mn bv (ha W tk) n1 n2 h1 h2) fun σ H Q h => RdAv.bi frT_back h
theorem de_ty (ho : CaD L X DenT (.type id) f) (gl : Gl X x) (mn : X.mg x = none) (bv : bootBuiltins x = some (.type id)) (ha : DAv L X is (e :: es)) (n1 : x ≠ "__name__" := by decide) (n2 : (x == ("__debug__" : Str)) = false := by decide)
    (h1 : starEach (e :: es) X.env = (false, eval e X.env) :: starEach es X.env := by rfl) (h2 : (backTo pos (starEach es X.env)).any (·.1) = false := by rfl) : DE L X (iBi f is) (.Call (.Name x p) (e :: es) [] pos) := fun W tk =>
  PE.imp (pe_callTy ho gl mn bv (ha W tk) n1 n2 h1 h2) fun σ H Q h => RdAv.bi (fun _ t => t) h
theorem df_ty (ho : CaD L X FrT (.type id) f) (gl : Gl X x) (mn : X.mg x = none) (bv : bootBuiltins x = some (.type id)) (ha : DAv L X is (e :: es)) (n1 : x ≠ "__name__" := by decide) (n2 : (x == ("__debug__" : Str)) = false := by decide)
    (h1 : starEach (e :: es) X.env = (false, eval e X.env) :: starEach es X.env := by rfl) (h2 : (backTo pos (starEach es X.env)).any (·.1) = false := by rfl) : DF L X (iBi f is) (.Call (.Name x p) (e :: es) [] pos) := fun W tk =>
  PE.imp (pe_callTy ho gl mn bv (ha W tk) n1 n2 h1 h2) fun σ H Q h => RdAv.bi frT_back h
end

/-! the built-ins -/
theorem VwL.one {vs : List V} {d : D} (h : VwL L g H vs [d]) : ∃ v, vs = [v] ∧ Vw L g H v d := by
  cases h with
  | cons a l => cases l; exact ⟨_, rfl, a⟩
theorem VwL.two {vs : List V} {d e : D} (h : VwL L g H vs [d, e]) : ∃ v u, vs = [v, u] ∧ Vw L g H v d ∧ Vw L g H u e := by
  cases h with
  | cons a l => cases l with
    | cons b l => cases l; exact ⟨_, _, rfl, a, b⟩
def fLen : List D → Option D
  | [.str z] => if z.length ≤ sizeLine then some (.int z.length) else none
  | [.lst ds] => some (.int ds.length)
  | [.tup ds] => some (.int ds.length)
  | [.scr ns] => some (.int ns.length)
  | _ => none
theorem ca_len (hK : X.K = L.K) : CaD L X DenT (.builtin "len") fLen := by
  intro pins st σ H xs us Q I r ⟨Γ, g, σ', ds, d, rp, vs, e, w⟩
  unfold fLen at e
  split at e
  · split at e
    · rename_i z hz
      cases e
      obtain ⟨v, rfl, a⟩ := vs.one
      cases a.str
      exact call_len pins st σ H _ us Q I r ⟨_, z.length, rfl, ⟨hz, rfl⟩, w _ g H (Stp.refl rp) rfl (.int _)⟩
    · cases e
  · rename_i ds
    cases e
    obtain ⟨v, rfl, a⟩ := vs.one
    obtain ⟨p, ws, rfl, h1, l1⟩ := a.lst rp.sub
    exact call_len pins st σ H _ us Q I r ⟨_, ds.length, rfl, .inl ⟨ws, SqL.of h1, l1.length.symm⟩, w _ g H (Stp.refl rp) rfl (.int _)⟩
  · rename_i ds
    cases e
    obtain ⟨v, rfl, a⟩ := vs.one
    obtain ⟨p, ws, rfl, h1, l1, _⟩ := a.tup rp.sub
    exact call_len pins st σ H _ us Q I r ⟨_, ds.length, rfl, .inr ⟨ws, hK ▸ h1, l1.length.symm⟩, w _ g H (Stp.refl rp) rfl (.int _)⟩
  · rename_i ns
    cases e
    obtain ⟨v, rfl, a⟩ := vs.one
    rcases a with h | ⟨_, _, _, _, e, _⟩ | ⟨_, _, _, _, e, _⟩
    · cases h with
      | scr h => exact call_len pins st σ H _ us Q I r ⟨_, ns.length, rfl, .inl ⟨_, hK ▸ sqL_mono rp.sub h, by rw [List.length_map]⟩, w _ g H (Stp.refl rp) rfl (.int _)⟩
    · cases e
    · cases e
  · cases e
def fInt : List D → Option D
  | [.int i] => some (.int i)
  | [.bl k] => some (.int (if k then 1 else 0))
  | _ => none
theorem ca_int : CaD L X DenT (.type "int") fInt := by
  intro pins st σ H xs us Q I r ⟨Γ, g, σ', ds, d, rp, vs, e, w⟩
  unfold fInt at e
  split at e
  · cases e
    obtain ⟨v, rfl, a⟩ := vs.one
    cases a.int
    exact call_int1 pins st σ H _ us Q I r (.inl ⟨_, rfl, w _ g H (Stp.refl rp) rfl (.int _)⟩)
  · cases e
    obtain ⟨v, rfl, a⟩ := vs.one
    cases a.bl
    exact call_int1 pins st σ H _ us Q I r (.inr ⟨_, rfl, w _ g H (Stp.refl rp) rfl (.int _)⟩)
  · cases e
def fMin2 : List D → Option D
  | [.int i, .int j] => some (.int (if j < i then j else i))
  | _ => none
def fMax2 : List D → Option D
  | [.int i, .int j] => some (.int (if j > i then j else i))
  | _ => none
theorem ca_min2 (hc : X.calm = true) : CaD L X DenT (.builtin "min") fMin2 := by
  intro pins st σ H xs us Q I r ⟨Γ, g, σ', ds, d, rp, vs, e, w⟩
  unfold fMin2 at e
  split at e
  · cases e
    obtain ⟨v, u, rfl, a, b⟩ := vs.two
    cases a.int
    cases b.int
    exact call_min2 hc pins st σ H _ us Q I r ⟨_, _, rfl, w _ g H (Stp.refl rp) rfl (.int _)⟩
  · cases e
theorem ca_max2 (hc : X.calm = true) : CaD L X DenT (.builtin "max") fMax2 := by
  intro pins st σ H xs us Q I r ⟨Γ, g, σ', ds, d, rp, vs, e, w⟩
  unfold fMax2 at e
  split at e
  · cases e
    obtain ⟨v, u, rfl, a, b⟩ := vs.two
    cases a.int
    cases b.int
    exact call_max2 hc pins st σ H _ us Q I r ⟨_, _, rfl, w _ g H (Stp.refl rp) rfl (.int _)⟩
  · cases e
/-- tuple(xs), list(xs) -/
def fTuple : List D → Option D
  | [.lst ds] => some (.tup ds)
  | [.tup ds] => some (.tup ds)
  | _ => none
/-- tuple(xs), its object known -/
theorem call_tuple_ofF {fz : Bool} : CallR X (.type "tuple") (fun xs H Q => ∃ p ys, xs = [.ref p] ∧ ((SqL X.K H p ys ∧ ∀ l o, H l = none → o.cls = .type "tuple" → o.dict = none → Q (.ref l) (upd H l (newT fz o ys))) ∨ (SqT X.K H p ys ∧ Q (.ref p) H))) := by
  intro pins s σ H xs us Q I r wish
  obtain ⟨p, ys, rfl, wish⟩ := wish
  obtain ⟨u, rfl, ru⟩ := vals1 r
  cases ru
  rcases wish with ⟨sq, g⟩ | ⟨sq, g⟩
  · obtain ⟨ws, vs, tt, fit⟩ := I.list sq
    have hlen := vs.length
    refine PySem.call_tuple_list tt.isList (fun h' kept => ?_) (by simp only [List.size_toArray] <;> omega)
    have J : Inv X pins σ H { s with heap := h' } := I.kept (t' := s.toks) kept
    have k : ∀ H', ObjOk X.prog X.w H' (h'.push { cls := .type "tuple", data := .seq ws.toArray }) h'.objs.size (.tup ys) := fun _ => ⟨fit, ws, vs, PyProof.Rows.IsTup.new _ _⟩
    have I2 : Inv X pins σ (upd H h'.objs.size (newT fz { cls := .type "tuple", data := .seq ws.toArray } ys)) { s with heap := h'.push { cls := .type "tuple", data := .seq ws.toArray } } :=
      J.laid (t' := s.toks) (fun b o e => Heap.get?_push_of_some _ e) (Nat.le_refl _) (by
        unfold newT
        split
        · exact ⟨Heap.get?_push_size _ rfl, k _⟩
        · exact k _)
    exact ⟨.ref h'.objs.size, _, I2, rfl, g _ { cls := .type "tuple", data := .seq ws.toArray } (J.hok.fresh (Nat.le_refl _)) rfl rfl⟩
  · obtain ⟨ws, vs, tt, fit⟩ := I.tuple sq
    exact PySem.call_tuple_same tt ⟨.ref p, H, I, rfl, g⟩
theorem ca_tuple (hK : X.K = L.K) : CaD L X DenT (.type "tuple") fTuple := by
  intro pins st σ H xs us Q I r ⟨Γ, g, σ', ds, d, rp, vs, e, w⟩
  unfold fTuple at e
  split at e
  · rename_i ds
    cases e
    obtain ⟨v, rfl, a⟩ := vs.one
    obtain ⟨p, ws, rfl, h1, l1⟩ := a.lst rp.sub
    refine call_tuple_ofF (fz := L.fz) pins st σ H _ us Q I r ⟨p, ws, rfl, .inl ⟨SqL.of h1, fun q o n hc hd => ?_⟩⟩
    have s := stp_put (o := newT L.fz o ws) rp n newT_nt
    exact w _ _ _ s rfl (.tup (newT_sq put_F hc hd) (l1.mono s.le s.mu))
  · rename_i ds
    cases e
    obtain ⟨v, rfl, a⟩ := vs.one
    obtain ⟨p, ws, rfl, h1, l1, t⟩ := a.tup rp.sub
    exact call_tuple_of pins st σ H _ us Q I r ⟨p, ws, rfl, .inr ⟨hK ▸ h1, w _ g H (Stp.refl rp) rfl t⟩⟩
  · cases e
def fList : List D → Option D
  | [.lst ds] => some (.lst ds)
  | [.tup ds] => some (.lst ds)
  | _ => none
theorem ca_list (hK : X.K = L.K) : CaD L X FrT (.type "list") fList := by
  intro pins st σ H xs us Q I r ⟨Γ, g, σ', ds, d, rp, vs, e, w⟩
  have fin : ∀ {ws : List V} {ds : List D} {q : Addr}, DenL L g ws ds → H q = none → Wn L FrT g H Q (.lst ds) g.bud → Q (.ref q) (upd H q (.lst ws)) := fun {ws ds q} l n w =>
    w _ g _ (stp_new (o := .lst ws) rp n false) rfl (FrT.new rp (Stp.refl rp) n l)
  unfold fList at e
  split at e
  · rename_i ds
    cases e
    obtain ⟨v, rfl, a⟩ := vs.one
    obtain ⟨p, ws, rfl, h1, l1⟩ := a.lst rp.sub
    exact call_list_of pins st σ H _ us Q I r ⟨p, ws, rfl, .inl (SqL.of h1), fun q n => fin l1 n w⟩
  · rename_i ds
    cases e
    obtain ⟨v, rfl, a⟩ := vs.one
    obtain ⟨p, ws, rfl, h1, l1, _⟩ := a.tup rp.sub
    exact call_list_of pins st σ H _ us Q I r ⟨p, ws, rfl, .inr (hK ▸ h1), fun q n => fin l1 n w⟩
  · cases e
/-- all(xs), any(xs) of truth values -/
def boolsD : List D → Option (List Bool)
  | [] => some []
  | .bl b :: r => (boolsD r).map (b :: ·)
  | _ => none
theorem DenL.bools : ∀ {vs : List V} {ds : List D} {bs : List Bool}, DenL L g vs ds → boolsD ds = some bs → vs = bs.map V.bl
  | _, _, bs, .nil, e => by cases e; rfl
  | _, _, bs, .cons (d := d) a l, e => by
    cases a with
    | bl b =>
      unfold boolsD at e
      cases q : boolsD _ with
      | none => rw [q] at e; cases e
      | some cs =>
        rw [q] at e
        cases e
        rw [l.bools q]
        rfl
    | _ => cases e
def fAll : List D → Option D
  | [.lst ds] => (boolsD ds).map fun bs => .bl (bs.all id)
  | _ => none
theorem ca_all (hc : X.calm = true) : CaD L X DenT (.builtin "all") fAll := by
  intro pins st σ H xs us Q I r ⟨Γ, g, σ', ds, d, rp, vs, e, w⟩
  unfold fAll at e
  split at e
  · rename_i ds
    obtain ⟨v, rfl, a⟩ := vs.one
    obtain ⟨p, ws, rfl, h1, l1⟩ := a.lst rp.sub
    cases q : boolsD ds with
    | none => rw [q] at e; cases e
    | some bs =>
      rw [q] at e
      cases e
      exact cr_all hc pins st σ H _ us Q I r ⟨p, bs, rfl, by rw [← l1.bools q]; exact SqL.of h1, w _ g H (Stp.refl rp) rfl (.bl _)⟩
  · cases e
end
end DL
/-! Lists of one's own, changed in place. -/
namespace DL
open PySem PySem.Spec L2
section
variable {L : Lx} {X : Cx} {g0 g g' : Gh} {H0 H H' : Hp} {σ σ' : L2.St} {Γ Γ' : Env} {W : WX} {pos : Pos}
/-- the frame's data where a list of one's own is changed -/
theorem RepS.upd {n : Nat} {p : Addr} {ds ds' : List D} {vs vs' : List V} (r : RepS L g0 H0 Γ g σ H) (en : Γ[n]? = some (some (.ol ds))) (es : σ[n]? = some (some (.ref p))) (h1 : H p = some (.lst vs)) (h3 : g.F p = none) (h4 : ¬ InM g.mu H p)
    (l : DenL L g vs' ds') : RepS L g0 H0 (Γ.set n (some (.ol ds'))) g σ (L2.upd H p (.lst vs')) := by
  have n0 : H0 p = none := r.new n _ p en rfl es
  have hl : n < Γ.length := (List.getElem?_eq_some_iff.mp en).1
  have s := stp_upd (ws := vs') r.base n0 h1 h3 h4
  have at_ : ∀ (i : Nat) (b : B), (Γ.set n (some (.ol ds')))[i]? = some (some b) → (i = n ∧ b = .ol ds') ∨ (i ≠ n ∧ Γ[i]? = some (some b)) := fun i b e => by
    by_cases h : i = n
    · subst h
      rw [List.getElem?_set_self hl] at e
      cases e
      exact .inl ⟨rfl, rfl⟩
    · rw [List.getElem?_set_ne (Ne.symm h)] at e
      exact .inr ⟨h, e⟩
  refine ⟨⟨s.sub, s.rnd, s.tab, fun i b e => ?_, fun i j b c q e1 e2 o1 o2 s1 s2 => ?_, s.nm, by rw [List.length_set]; exact r.rep.len⟩, s, fun i b q e o sq => ?_⟩
  · rcases at_ i b e with ⟨rfl, rfl⟩ | ⟨hi, e⟩
    · exact ⟨_, es, p, vs', rfl, upd_same, l, h3, fun z => h4 (inM_upd z)⟩
    · obtain ⟨x, ex, hb⟩ := r.rep.loc i b e
      refine ⟨x, ex, ?_⟩
      cases b with
      | fz d => exact hb
      | ol es' =>
        obtain ⟨q, ws, rfl, a1, a2, a3, a4⟩ := hb
        have nq : q ≠ p := fun z => hi (r.rep.dis i n _ _ p e en rfl rfl (z ▸ ex) es)
        exact ⟨q, ws, rfl, by rw [upd_ne nq]; exact a1, a2, a3, fun z => a4 (inM_upd z)⟩
      | od t kvs =>
        obtain ⟨q, rfl, a1, a2, a3⟩ := hb
        have nq : q ≠ p := fun z => hi (r.rep.dis i n _ _ p e en rfl rfl (z ▸ ex) es)
        exact ⟨q, rfl, a1, fun z => a2 (inM_upd z), a3.step (upd_ne nq) (fun _ _ e => e) fun _ e => e⟩
      | os m fs =>
        obtain ⟨q, dx, ws, rfl, sq, a1, a2, a3, a4⟩ := hb
        have nq : q ≠ p := fun z => hi (r.rep.dis i n _ _ p e en rfl rfl (z ▸ ex) es)
        exact ⟨q, dx, ws, rfl, sq, by rw [upd_ne nq]; exact a1, a2, a3, fun z => a4 (inM_upd z)⟩
  · have f : ∀ (i : Nat) (b : B), (Γ.set n (some (.ol ds')))[i]? = some (some b) → b.own = true → ∃ b', Γ[i]? = some (some b') ∧ b'.own = true := fun i b e o => by
      rcases at_ i b e with ⟨rfl, rfl⟩ | ⟨_, e⟩
      · exact ⟨_, en, rfl⟩
      · exact ⟨b, e, o⟩
    obtain ⟨b', e1', o1'⟩ := f i b e1 o1
    obtain ⟨c', e2', o2'⟩ := f j c e2 o2
    exact r.rep.dis i j b' c' q e1' e2' o1' o2' s1 s2
  · rcases at_ i b e with ⟨rfl, rfl⟩ | ⟨_, e⟩
    · rw [es] at sq
      cases sq
      exact n0
    · exact r.new i b q e o sq
/-- a slot is given a new list of one's own -/
theorem RepS.setOwn {n : Nat} {v : V} {ds : List D} {g1 : Gh} {H1 : Hp} (r0 : RepS L g0 H0 Γ g σ H) (s : Stp L g H g1 H1) (h : FrT L H g1 H1 v (.lst ds)) : RepS L g0 H0 (Γ.set n (some (.ol ds))) g1 (σ.set n (some v)) H1 := by
  obtain ⟨p, vs, ds', rfl, e, h1, h2, h3, h4, h5⟩ := h
  cases e
  have r := r0.step s
  have at_ : ∀ (i : Nat) (b : B), (Γ.set n (some (.ol ds)))[i]? = some (some b) → (i = n ∧ b = .ol ds ∧ (σ.set n (some (.ref p)))[i]? = some (some (.ref p))) ∨ (i ≠ n ∧ Γ[i]? = some (some b) ∧ (σ.set n (some (.ref p)))[i]? = σ[i]?) := fun i b e => by
    by_cases h : i = n
    · subst h
      by_cases hl : i < Γ.length
      · rw [List.getElem?_set_self hl] at e
        cases e
        exact .inl ⟨rfl, rfl, List.getElem?_set_self (by rw [← r.rep.len]; exact hl)⟩
      · rw [List.getElem?_eq_none (by simpa using hl)] at e; cases e
    · rw [List.getElem?_set_ne (Ne.symm h)] at e
      exact .inr ⟨h, e, List.getElem?_set_ne (Ne.symm h)⟩
  have old : ∀ (i : Nat) (b : B) (q : Addr), Γ[i]? = some (some b) → b.own = true → σ[i]? = some (some (.ref q)) → q ≠ p := fun i b q e o sq z => by
    subst z
    obtain ⟨x, ex, hb⟩ := r0.rep.loc i b e
    rw [sq] at ex
    cases ex
    cases b with
    | fz d => cases o
    | ol es' => obtain ⟨q, ws, e1, a1, _⟩ := hb; cases e1; rw [h5] at a1; cases a1
    | od t kvs => obtain ⟨q, e1, _, _, a3⟩ := hb; cases e1; rcases a3 with ⟨_, _, _, a, _⟩ | ⟨_, _, _, a, _⟩ <;> rw [h5] at a <;> cases a
    | os m fs => obtain ⟨q, dx, ws, e1, _, a1, _⟩ := hb; cases e1; rw [h5] at a1; cases a1
  refine ⟨⟨r.rep.sub, r.rep.rnd, r.rep.tab, fun i b e => ?_, fun i j b c q e1 e2 o1 o2 s1 s2 => ?_, r.rep.nF, by rw [List.length_set, List.length_set]; exact r.rep.len⟩, r.base, fun i b q e o sq => ?_⟩
  · rcases at_ i b e with ⟨rfl, rfl, t⟩ | ⟨_, e, t⟩
    · exact ⟨_, t, p, vs, rfl, h1, h2, h3, h4⟩
    · rw [t]; exact r.rep.loc i b e
  · rcases at_ i b e1 with ⟨i1, b1, t1⟩ | ⟨n1, f1, t1⟩
    · rcases at_ j c e2 with ⟨j1, c1, t2⟩ | ⟨n2, f2, t2⟩
      · exact i1.trans j1.symm
      · rw [t1] at s1
        cases s1
        rw [t2] at s2
        exact absurd rfl (old j c p f2 o2 s2)
    · rw [t1] at s1
      rcases at_ j c e2 with ⟨j1, c1, t2⟩ | ⟨n2, f2, t2⟩
      · rw [t2] at s2
        cases s2
        exact absurd rfl (old i b p f1 o1 s1)
      · rw [t2] at s2
        exact r.rep.dis i j b c q f1 f2 o1 o2 s1 s2
  · rcases at_ i b e with ⟨rfl, rfl, t⟩ | ⟨_, e, t⟩
    · rw [t] at sq
      cases sq
      exact none_back r0.base h5
    · exact r.new i b q e o (t ▸ sq)

variable {e : Expr} {i : IE}
def sOwn (n : Nat) (i : IE) : IS := fun Γ => (i Γ).bind fun d => match d with
  | .lst ds => .ret (.nx (Γ.set n (some (.ol ds))))
  | _ => .stuck
theorem ds_own {n : Nat} {x : Str} {pos' : Pos} (hN : X.N.Nodup) (hi : X.N[n]? = some x) (hx : Loc X.env.scope x) (h : DF L X i e) (hs : swapsWith e (some (.Name x pos')) pos.line X.env = pure false := by rfl)
    (hf : X.fn x = true ∨ X.env.scope.names.lookup x = some .local := by first | exact .inl rfl | exact .inr rfl) : DS L X (sOwn n i) (.Assign [.Name x pos'] e pos) := fun W g0 H0 tk => by
  refine PS.imp (ps_set hN hi hx (h W tk) hs hf) fun Dn σ H ⟨Γ, g, r, w⟩ => Rd1.goS r w fun v H1 d g1 r1 s t w => ?_
  cases d with
  | lst ds => exact w g1 _ H1 (r.setOwn s t) s.fle rfl
  | _ => exact w.elim
/-- x.append(e), x a local list of one's own -/
def sApp (n : Nat) (i : IE) : IS := fun Γ => match Γ[n]? with
  | some (some (.ol ds)) => (i Γ).bind fun d => if ds.length < sizeLine then .ret (.nx (Γ.set n (some (.ol (ds ++ [d]))))) else .stuck
  | _ => .stuck
theorem ds_app {n : Nat} {e : Expr} (h : ∀ W, Takes X W → PE X e (tBM X.K "list" rAppend (tVar n) (tCons (Rd1 L DenT W i) tNil))) (hs : swapsWith e none pos.line X.env = pure false := by rfl) :
    DS L X (sApp n i) (.Expr e pos) := fun W g0 H0 tk => by
  refine PS.imp (ps_expr (h W tk) hs) fun Dn σ H ⟨Γ, g, r, w⟩ => ?_
  unfold sApp at w
  split at w
  · rename_i ds en
    obtain ⟨xv, es, p, vs, e2, h1, h2, h3, h4⟩ := r.rep.loc _ _ en
    subst e2
    refine ⟨.ref p, es, .inl ⟨rfl, vs, .inl (.inl h1)⟩, Rd1.goS r w fun v H1 d g1 r1 s t w => ?_⟩
    split at w
    · rename_i z
      obtain ⟨e1, m1⟩ := s.keep p _ h1 (fun _ z => nomatch z) h4
      have f1 := s.keepF h1 (fun _ z => nomatch z) (fun _ z => nomatch z) h4 h3
      have l1 := h2.mono s.le s.mu
      exact ⟨p, vs, v, rfl, rfl, e1, by rw [h2.length]; exact z, w g1 σ _ (r1.upd en es e1 f1 m1 (l1.append (.cons t .nil))) s.fle rfl⟩
    · exact w.elim
  · exact w.elim
/-- x.extend(ys) -/
def sExt (n : Nat) (i : IE) : IS := fun Γ => match Γ[n]? with
  | some (some (.ol ds)) => (i Γ).bind fun d => match d with
    | .lst es => if ds.length + es.length ≤ sizeLine then .ret (.nx (Γ.set n (some (.ol (ds ++ es))))) else .stuck
    | _ => .stuck
  | _ => .stuck
theorem ds_ext {n : Nat} {e : Expr} (h : ∀ W, Takes X W → PE X e (tBM X.K "list" rExtend (tVar n) (tCons (Rd1 L DenT W i) tNil))) (hs : swapsWith e none pos.line X.env = pure false := by rfl) :
    DS L X (sExt n i) (.Expr e pos) := fun W g0 H0 tk => by
  refine PS.imp (ps_expr (h W tk) hs) fun Dn σ H ⟨Γ, g, r, w⟩ => ?_
  unfold sExt at w
  split at w
  · rename_i ds en
    obtain ⟨xv, es, p, vs, e2, h1, h2, h3, h4⟩ := r.rep.loc _ _ en
    subst e2
    refine ⟨.ref p, es, .inl ⟨rfl, vs, .inl (.inl h1)⟩, Rd1.goS r w fun v H1 d g1 r1 s t w => ?_⟩
    obtain ⟨e1, m1⟩ := s.keep p _ h1 (fun _ z => nomatch z) h4
    have f1 := s.keepF h1 (fun _ z => nomatch z) (fun _ z => nomatch z) h4 h3
    have l1 := h2.mono s.le s.mu
    cases d with
    | lst us =>
      replace w : (if ds.length + us.length ≤ sizeLine then M.ret (Fl.nx (Γ.set n (some (.ol (ds ++ us))))) else M.stuck).wpB g1.bud (FlT L g0 H0 g Dn) (XS L W g0 H0) := w
      split at w
      · rename_i z
        cases id t with
        | @lst b ws _ eb lb =>
          exact ⟨p, b, vs, ws, rfl, rfl, e1, r1.rep.sub _ _ eb, by rw [h2.length, lb.length]; exact z, w g1 σ _ (r1.upd en es e1 f1 m1 (l1.append lb)) s.fle rfl⟩
      · exact w.elim
    | _ => exact w.elim
  · exact w.elim
/-- return x, x a list of one's own; x is data from now on -/
def sRetOwn (n : Nat) : IS := fun Γ => match Γ[n]? with
  | some (some (.ol ds)) => .ret (.rt (.lst ds))
  | _ => .stuck
theorem RepS.frzL {n : Nat} {ds : List D} (r : RepS L g0 H0 Γ g σ H) (en : Γ[n]? = some (some (.ol ds))) : ∃ v g1, σ[n]? = some (some v) ∧ RepS L g0 H0 (Γ.set n (some (.fz (.lst ds)))) g1 σ H ∧ FLe g g1 ∧ g1.bud = g.bud ∧ Den L g1 v (.lst ds) := by
  obtain ⟨xv, es, p, vs, e2, h1, h2, h3, h4⟩ := r.rep.loc _ _ en
  subst e2
  have n0 : H0 p = none := r.new n _ p en rfl es
  have le : ∀ a o, g.F a = some o → (g.put p (.lst vs)).F a = some o := fun a o e => upd_keep h3 e
  have hF : ∀ a u, (g.put p (.lst vs)).F a = some u → (a = p ∧ u = .lst vs) ∨ g.F a = some u := fun a u e => by
    by_cases h : a = p
    · subst h
      have e' : L2.upd g.F a (.lst vs) a = some u := e
      rw [upd_same] at e'
      exact .inl ⟨rfl, (Option.some.inj e').symm⟩
    · have e' : L2.upd g.F p (.lst vs) a = some u := e
      rw [upd_ne h] at e'
      exact .inr e'
  have hl : n < Γ.length := (List.getElem?_eq_some_iff.mp en).1
  have sub : ∀ a o, (g.put p (.lst vs)).F a = some o → H a = some o := fun a o e => by
    rcases hF a o e with ⟨rfl, rfl⟩ | e
    · exact h1
    · exact r.rep.sub a o e
  have nm : ∀ a o, (g.put p (.lst vs)).F a = some o → ¬ InM g.mu H a := fun a o e => by
    rcases hF a o e with ⟨rfl, rfl⟩ | e
    · exact h4
    · exact r.rep.nF a o e
  have dn : Den L (g.put p (.lst vs)) (.ref p) (.lst ds) := .lst put_F (h2.mono le fun _ e => e)
  have at_ : ∀ (i : Nat) (b : B), (Γ.set n (some (.fz (.lst ds))))[i]? = some (some b) → (i = n ∧ b = .fz (.lst ds)) ∨ (i ≠ n ∧ Γ[i]? = some (some b)) := fun i b e => by
    by_cases h : i = n
    · subst h
      rw [List.getElem?_set_self hl] at e
      cases e
      exact .inl ⟨rfl, rfl⟩
    · rw [List.getElem?_set_ne (Ne.symm h)] at e
      exact .inr ⟨h, e⟩
  refine ⟨.ref p, g.put p (.lst vs), es, ⟨⟨sub, r.rep.rnd, r.rep.tab, fun i b e => ?_, fun i j b c q e1 e2 o1 o2 s1 s2 => ?_, nm, by rw [List.length_set]; exact r.rep.len⟩, ⟨fun a o e => le a o (r.base.le a o e), r.base.mu, sub, r.base.keep, fun a hn => ⟨(r.base.nf a hn).1, fun e => ?_⟩, nm, r.base.rnd, r.base.bud, r.base.tab⟩, fun i b q e o sq => ?_⟩, ⟨le, fun _ e => e⟩, rfl, dn⟩
  · rcases at_ i b e with ⟨rfl, rfl⟩ | ⟨hi, e⟩
    · exact ⟨_, es, .ref p, rfl, dn⟩
    · obtain ⟨x, ex, hb⟩ := r.rep.loc i b e
      refine ⟨x, ex, ?_⟩
      have np : ∀ q, x = some (.ref q) → b.own = true → q ≠ p := fun q eq o z => hi (r.rep.dis i n _ _ p e en o rfl (by rw [ex, eq, z]) es)
      have fz : ∀ q, q ≠ p → g.F q = none → (g.put p (.lst vs)).F q = none := fun q nq e => (upd_ne nq).trans e
      cases b with
      | fz d => obtain ⟨v, e1, t⟩ := hb; exact ⟨v, e1, t.mono le fun _ e => e⟩
      | ol es' =>
        obtain ⟨q, ws, rfl, a1, a2, a3, a4⟩ := hb
        exact ⟨q, ws, rfl, a1, a2.mono le (fun _ e => e), fz q (np q rfl rfl) a3, a4⟩
      | od t kvs =>
        obtain ⟨q, rfl, a1, a2, a3⟩ := hb
        exact ⟨q, rfl, fz q (np q rfl rfl) a1, a2, a3.step rfl le fun _ e => e⟩
      | os m fs =>
        obtain ⟨q, dx, ws, rfl, sq, a1, a2, a3, a4⟩ := hb
        exact ⟨q, dx, ws, rfl, sq, a1, a2.mono le (fun _ e => e), fz q (np q rfl rfl) a3, a4⟩
  · rcases at_ i b e1 with ⟨_, rfl⟩ | ⟨_, e1⟩
    · cases o1
    rcases at_ j c e2 with ⟨_, rfl⟩ | ⟨_, e2⟩
    · cases o2
    exact r.rep.dis i j b c q e1 e2 o1 o2 s1 s2
  · have q : a ≠ p := fun z => hn (by rw [z]; exact n0)
    exact ((r.base.nf a hn).2 e).imp (upd_ne q).trans id
  · rcases at_ i b e with ⟨_, rfl⟩ | ⟨_, e⟩
    · cases o
    · exact r.new i b q e o sq
theorem ds_retOwn {n : Nat} {x : Str} {p1 : Pos} (hx : PE X (.Name x p1) (tVar n)) : DS L X (sRetOwn n) (.Return (some (.Name x p1)) pos) := fun W g0 H0 tk => by
  refine PS.imp (ps_ret hx) fun Dn σ H ⟨Γ, g, r, w⟩ => ?_
  unfold sRetOwn at w
  split at w
  · rename_i ds en
    obtain ⟨v, g1, es, r1, _, eb, t⟩ := r.frzL en
    exact ⟨v, es, w g1 v H r1.base eb t⟩
  · exact w.elim
/-- ahead of a statement: a list of one's own is data from now on -/
def sFrz (n : Nat) (s : IS) : IS := fun Γ => match Γ[n]? with
  | some (some (.ol ds)) => s (Γ.set n (some (.fz (.lst ds))))
  | _ => .stuck
theorem ds_frz {n : Nat} {s : IS} {st : Stmt} (h : DS L X s st) : DS L X (sFrz n s) st := fun W g0 H0 tk => by
  refine PS.imp (h W g0 H0 tk) fun Dn σ H ⟨Γ, g, r, w⟩ => ?_
  unfold sFrz at w
  split at w
  · rename_i ds en
    obtain ⟨v, g1, es, r1, f, eb, t⟩ := r.frzL en
    exact ⟨_, g1, r1, by rw [eb]; exact M.wpB_mono (fun _ _ z => z.of f) (fun _ _ x => x) _ _ w⟩
  · exact w.elim
end
end DL
/-! The law's own draws. -/
namespace DL
open PySem PySem.Spec L2
section
variable {L : Lx} {g : Gh} {H H' : Hp} {σ : L2.St} {Γ : Env}
theorem fg_raw {P : Program} {w : World} {mg : Str → Option Value} {base : Heap} {x qual : Str} {st : Stmt} {f : Addr} {fd : FuncData} {N ps : List Str} {k : Nat} {m : List D → M D} (F : Fun L.K x qual st f fd) (S : FnScope N ps (defScope st))
    (hb : ∀ (cdv : Value) (A : Around) (outer : List PySem.Env) (s : Shared) (H : Hp) (E : XK) (vs : List V) (Q : VK), Room k (A.deeper (PyProof.Rows.envOfC qual (defScope st) s.heap.objs.size f cdv)) → SpD L m vs H Q E → vs.length = ps.length →
      ∃ t, PSs (cxOf (L2.CX P w) P w L.K mg base N qual (defScope st) f cdv A outer s H E) (defBody st) t ∧ t { nx := fun _ H' => Q .non H', rt := Q } (L2.start N vs) H) : FG L P w mg base (k + 1) f fd ps m := by
  refine ⟨fun A outer s H args us vs Q E hr hg e0 bt r hl sp => ?_⟩
  obtain ⟨oc, od, kV, doc, pm, an, cdv, ct, osl, rfl, lk, hcd⟩ := F.ex
  exact LamX.run_ofS lk hcd S hr e0 bt r (r.length.trans hl) fun hr' => hb cdv A outer s H E vs Q hr' sp (r.length.trans hl)

/-- m as it stands, from the heap H at the entry -/
structure MS (am c l : Addr) (cs : List Int) (H : Hp) (l' : Addr) (ls : List Int) (at_ : Int) (H' : Hp) : Prop where
  atM : H' am = some (.dK [(Sum.inr "cells", .ref c), (Sum.inr "left", .ref l'), (Sum.inr "at", .int at_)])
  atC : H' c = some (.lst (cs.map V.int))
  atL : H' l' = some (.lst (ls.map V.int))
  ncl : c ≠ l'
  old : ∃ zs, H' l = some (.lst zs)
  new : l' = l ∨ H l' = none
  keep : ∀ a o, H a = some o → a ≠ am → a ≠ l → H' a = some o
theorem MS.stp {am c l l' : Addr} {cs ls ls' : List Int} {at0 at_ : Int} {b : Nat} (r : Rep L Γ g σ H) (hm : g.mu = some am) (e1 : H am = some (.dK [(Sum.inr "cells", .ref c), (Sum.inr "left", .ref l), (Sum.inr "at", .int at0)])) (e2 : H c = some (.lst (cs.map V.int))) (e3 : H l = some (.lst (ls.map V.int)))
    (s : MS am c l cs H l' ls' at_ H') (ok : MOk b H' am) (hb : b ≤ g.bud) : Stp L g H { g with bud := b } H' := by
  have inm : ∀ a, a = am ∨ a = c ∨ a = l → InM g.mu H a := fun a h => by
    refine ⟨am, hm, ?_⟩
    rcases h with h | h | h
    · exact .inl h
    · exact .inr ⟨_, Sum.inr "cells", e1, by simp [h]⟩
    · exact .inr ⟨_, Sum.inr "left", e1, by simp [h]⟩
  have back : ∀ a, H a ≠ none → InM g.mu H' a → InM g.mu H a := fun a ha ⟨m', em, h⟩ => by
    rw [hm] at em
    cases em
    rcases h with h | ⟨kvs, k, e, h⟩
    · exact inm a (.inl h)
    · rw [s.atM] at e
      cases e
      simp only [List.mem_cons, Prod.mk.injEq, V.ref.injEq, List.not_mem_nil, or_false] at h
      rcases h with ⟨_, h⟩ | ⟨_, h⟩ | ⟨_, h⟩
      · exact inm a (.inr (.inl h))
      · rcases s.new with z | z
        · exact inm a (.inr (.inr (h.trans z)))
        · exact absurd (h ▸ z) ha
      · cases h
  have kp : ∀ a o, H a = some o → ¬ InM g.mu H a → H' a = some o := fun a o e n => s.keep a o e (fun z => n (inm a (.inl z))) fun z => n (inm a (.inr (.inr z)))
  refine ⟨fun _ _ e => e, fun _ e => e, fun a o e => kp a o (r.sub a o e) (r.nF a o e), fun a o e _ n => ⟨kp a o e n, fun z => n (back a (by rw [e]; simp) z)⟩, fun a h => ⟨?_, .inl⟩, fun a o e z => r.nF a o e (back a (by rw [r.sub a o e]; simp) z), ⟨(fun e => by (rw [hm] at e; cases e)), fun m' em => ?_⟩, hb, ⟨fun q hq => ?_, fun ea en ed eu he => ?_⟩⟩
  · by_cases z : InM g.mu H a
    · obtain ⟨m', em, h⟩ := z
      rw [hm] at em
      cases em
      rcases h with h | ⟨kvs, k, e, h⟩
      · rw [h, s.atM]; simp
      · rw [e1] at e
        cases e
        simp only [List.mem_cons, Prod.mk.injEq, V.ref.injEq, List.not_mem_nil, or_false] at h
        rcases h with ⟨_, h⟩ | ⟨_, h⟩ | ⟨_, h⟩
        · rw [h, s.atC]; simp
        · obtain ⟨zs, hz⟩ := s.old
          rw [h, hz]; simp
        · cases h
    · cases e : H a with
      | none => exact absurd e h
      | some o => rw [kp a o e z]; simp
  · rw [hm] at em
    cases em
    exact ok
  · obtain ⟨ps, a1, a2, a3⟩ := r.tab.1 q hq
    refine ⟨ps, s.keep _ _ a1 (fun z => ?_) (fun z => ?_), a2, fun pos cv hc => ?_⟩
    · rw [z, e1] at a1; cases a1
    · rw [z, e3] at a1; cases a1
    · obtain ⟨c', z1, z2⟩ := a3 pos cv hc
      refine ⟨c', z1, s.keep _ _ z2 (fun z => ?_) (fun z => ?_)⟩
      · rw [z, e1] at z2; unfold LamX.CodeO at z2; cases z2
      · rw [z, e3] at z2; unfold LamX.CodeO at z2; cases z2
  · obtain ⟨f, a1, a2⟩ := r.tab.2 ea en ed eu he
    refine ⟨f, a1, s.keep _ _ a2 (fun z => ?_) (fun z => ?_)⟩
    · rw [z, e1] at a2; cases a2
    · rw [z, e3] at a2; cases a2
end
end DL
namespace DL
open PySem PySem.Spec L2
section
variable {L : Lx} {g : Gh} {H H' H1 : Hp} {σ : L2.St} {Γ : Env} {am c l l' : Addr} {cs ls : List Int} {at_ : Int} {K : PySem.W.Frag} {Q : VK}
theorem ne_cl : ¬ ((Sum.inr "cells" : Key) = (Sum.inr "left" : Key)) := by decide +kernel
theorem ne_ca : ¬ ((Sum.inr "cells" : Key) = (Sum.inr "at" : Key)) := by decide +kernel
theorem ne_la : ¬ ((Sum.inr "left" : Key) = (Sum.inr "at" : Key)) := by decide +kernel
theorem val_c (x y z : V) : valV [((Sum.inr "cells" : Key), x), (Sum.inr "left", y), (Sum.inr "at", z)] (Sum.inr "cells") = some x := by
  unfold valV
  rw [List.find?_cons_of_pos (by exact decide_eq_true rfl)]
  rfl
theorem val_l (x y z : V) : valV [((Sum.inr "cells" : Key), x), (Sum.inr "left", y), (Sum.inr "at", z)] (Sum.inr "left") = some y := by
  unfold valV
  rw [List.find?_cons_of_neg (by simp only [decide_eq_true_eq]; exact ne_cl), List.find?_cons_of_pos (by exact decide_eq_true rfl)]
  rfl
theorem val_a (x y z : V) : valV [((Sum.inr "cells" : Key), x), (Sum.inr "left", y), (Sum.inr "at", z)] (Sum.inr "at") = some z := by
  unfold valV
  rw [List.find?_cons_of_neg (by simp only [decide_eq_true_eq]; exact ne_ca), List.find?_cons_of_neg (by simp only [decide_eq_true_eq]; exact ne_la), List.find?_cons_of_pos (by exact decide_eq_true rfl)]
  rfl
theorem put_l (x y z v : V) : putK [((Sum.inr "cells" : Key), x), (Sum.inr "left", y), (Sum.inr "at", z)] (Sum.inr "left") v = ([(Sum.inr "cells", x), (Sum.inr "left", v), (Sum.inr "at", z)] : List (Key × V)) := by
  unfold putK
  rw [if_pos (by simp)]
  show [if _ then _ else _, if _ then _ else _, if _ then _ else _] = _
  rw [if_neg ne_cl, if_pos rfl, if_neg (fun e => ne_la e.symm)]
theorem put_a (x y z v : V) : putK [((Sum.inr "cells" : Key), x), (Sum.inr "left", y), (Sum.inr "at", z)] (Sum.inr "at") v = ([(Sum.inr "cells", x), (Sum.inr "left", y), (Sum.inr "at", v)] : List (Key × V)) := by
  unfold putK
  rw [if_pos (by simp)]
  show [if _ then _ else _, if _ then _ else _, if _ then _ else _] = _
  rw [if_neg ne_ca, if_neg ne_la, if_pos rfl]
theorem MS.lay {p : Addr} {o : HO} (s : MS am c l cs H l' ls at_ H1) (n : H1 p = none) : MS am c l cs H l' ls at_ (upd H1 p o) :=
  ⟨upd_keep n s.atM, upd_keep n s.atC, upd_keep n s.atL, s.ncl, let ⟨z, e⟩ := s.old; ⟨z, upd_keep n e⟩, s.new, fun a u e h1 h2 => upd_keep n (s.keep a u e h1 h2)⟩
theorem rd_l (s : MS am c l cs H l' ls at_ H1) (e : σ[0]? = some (some (.ref am))) (q : Q (.ref l') H1) : tDGet (tVar 0) (tC (.str "left")) σ H1 Q :=
  ⟨_, e, am, .ref l', rfl, by have := DGet.k (k := Sum.inr "left") s.atM; rw [val_l] at this; exact this, q⟩
theorem rd_c (s : MS am c l cs H l' ls at_ H1) (e : σ[0]? = some (some (.ref am))) (q : Q (.ref c) H1) : tDGet (tVar 0) (tC (.str "cells")) σ H1 Q :=
  ⟨_, e, am, .ref c, rfl, by have := DGet.k (k := Sum.inr "cells") s.atM; rw [val_c] at this; exact this, q⟩
theorem rd_a (s : MS am c l cs H l' ls at_ H1) (e : σ[0]? = some (some (.ref am))) (q : Q (.int at_) H1) : tDGet (tVar 0) (tC (.str "at")) σ H1 Q :=
  ⟨_, e, am, .int at_, rfl, by have := DGet.k (k := Sum.inr "at") s.atM; rw [val_a] at this; exact this, q⟩
theorem dp_ints (H : Hp) : ∀ zs : List Int, DpAll K H (zs.map V.int) (zs.map PyData.int)
  | [] => .nil
  | z :: zs => .cons (.int z) (dp_ints H zs)
theorem shaped_ints (zs : List Int) : SeqAt.shaped (.list (zs.map .int)) = true := by
  have a : ∀ zs : List Int, PyData.canLayAll0 (zs.map .int) = true := fun zs => by
    induction zs with
    | nil => rfl
    | cons z zs ih => rw [List.map_cons, PyData.canLayAll0, ih]; rfl
  unfold SeqAt.shaped
  rw [Bool.and_eq_true, decide_eq_true_eq]
  refine ⟨by rw [PyData.canLay0]; exact a zs, ?_⟩
  have b : ∀ zs : List Int, PyData.depthAll (zs.map .int) = 0 := fun zs => by
    induction zs with
    | nil => rfl
    | cons z zs ih => rw [List.map_cons, PyData.depthAll, ih]; rfl
  rw [PyData.depth, b]
  decide
theorem eqv_nil (zs : List Int) : PyData.eqv (.list (zs.map .int)) (.list []) = decide (zs = []) := by
  cases zs with
  | nil => rfl
  | cons z zs => simp [PyData.eqv, PyData.eqvAll]
/-- xs != [] of a list of ints -/
theorem ne_nil {a p : Addr} {zs : List Int} (e : H1 a = some (.lst (zs.map V.int))) (n : H1 p = none) (q : Q (.bl (!decide (zs = []))) (upd H1 p (.lst []))) : rNeD K (.ref a) (.ref p) (upd H1 p (.lst [])) Q :=
  ⟨.list (zs.map .int), .list [], .lst (SqL.of (upd_keep n e)) (dp_ints _ zs), .lst (SqL.of upd_same) .nil, shaped_ints zs, by decide +kernel, by rw [eqv_nil]; exact q⟩
theorem MS.ne (s : MS am c l cs H l' ls at_ H1) : am ≠ c ∧ am ≠ l' ∧ am ≠ l := by
  refine ⟨fun z => ?_, fun z => ?_, fun z => ?_⟩
  · have := s.atC; rw [← z, s.atM] at this; cases this
  · have := s.atL; rw [← z, s.atM] at this; cases this
  · obtain ⟨zs, e⟩ := s.old; rw [← z, s.atM] at e; cases e
theorem MS.setAt (s : MS am c l cs H l' ls at_ H1) (b : Int) : MS am c l cs H l' ls b (upd H1 am (.dK (putK [((Sum.inr "cells" : Key), V.ref c), (Sum.inr "left", V.ref l'), (Sum.inr "at", V.int at_)] (Sum.inr "at") (V.int b)))) := by
  obtain ⟨n1, n2, n3⟩ := s.ne
  refine ⟨by rw [upd_same, put_a], by rw [upd_ne n1.symm]; exact s.atC, by rw [upd_ne n2.symm]; exact s.atL, s.ncl, ?_, s.new, fun a o e h1 h2 => by rw [upd_ne h1]; exact s.keep a o e h1 h2⟩
  obtain ⟨zs, e⟩ := s.old
  exact ⟨zs, by rw [upd_ne n3.symm]; exact e⟩
theorem MS.setLeft {p : Addr} {zs : List Int} (s : MS am c l cs H l' ls at_ H1) (e : H1 p = some (.lst (zs.map V.int))) (n : H p = none) (nc : c ≠ p) :
    MS am c l cs H p zs at_ (upd H1 am (.dK (putK [((Sum.inr "cells" : Key), V.ref c), (Sum.inr "left", V.ref l'), (Sum.inr "at", V.int at_)] (Sum.inr "left") (V.ref p)))) := by
  obtain ⟨n1, n2, n3⟩ := s.ne
  have np : p ≠ am := fun z => by rw [z, s.atM] at e; cases e
  refine ⟨by rw [upd_same, put_l], by rw [upd_ne n1.symm]; exact s.atC, by rw [upd_ne np]; exact e, nc, ?_, .inr n, fun a o e h1 h2 => by rw [upd_ne h1]; exact s.keep a o e h1 h2⟩
  obtain ⟨zs, e⟩ := s.old
  exact ⟨zs, by rw [upd_ne n3.symm]; exact e⟩
theorem MS.setItem {zs : List Int} (s : MS am c l cs H l' ls at_ H1) : MS am c l cs H l' zs at_ (upd H1 l' (.lst (zs.map V.int))) := by
  obtain ⟨n1, n2, n3⟩ := s.ne
  refine ⟨by rw [upd_ne n2]; exact s.atM, by rw [upd_ne s.ncl]; exact s.atC, upd_same, s.ncl, ?_, s.new, fun a o e h1 h2 => ?_⟩
  · by_cases z : l = l'
    · exact ⟨_, by rw [z, upd_same]⟩
    · obtain ⟨ws, e⟩ := s.old
      exact ⟨ws, by rw [upd_ne z]; exact e⟩
  · have q : a ≠ l' := fun z => by
      rcases s.new with w | w
      · exact h2 (z.trans w)
      · rw [z, w] at e; cases e
    rw [upd_ne q]; exact s.keep a o e h1 h2
theorem lim_abs {z : Int} (h0 : 0 ≤ z) (h : z.toNat ≤ lim + 1) : z.natAbs < 2 ^ 100001 := by
  have e : (2 : Nat) ^ 100001 = 2 ^ 100000 + 2 ^ 100000 := by rw [Nat.pow_succ]; omega
  have p : 1 < (2 : Nat) ^ 100000 := Nat.one_lt_two_pow (by decide)
  unfold lim at h
  rw [e]
  omega
theorem at_ints {zs : List Int} {i : Int} (h0 : 0 ≤ i) (h1 : i < zs.length) : ∃ z ∈ zs, atI (zs.map V.int) i = some (.int z) := by
  have hl : i.toNat < zs.length := by omega
  refine ⟨zs[i.toNat], List.getElem_mem hl, ?_⟩
  have := atI_nat (xs := zs.map V.int) (j := i.toNat) (v := .int zs[i.toNat]) (by rw [List.getElem?_map, List.getElem?_eq_getElem hl]; rfl)
  rw [show ((i.toNat : Nat) : Int) = i by omega] at this
  exact this
end
end DL
/-! Own exceptions: made, by position and by the field's name. -/
namespace PySem
namespace DLX
open PySem.W PySem.Calls PyProof.Rows PySem.HandSPX
open Builtin Builtin.ObjectAttr
section
variable {prog : Program} {w : World} {A : Around} {E : Value → Shared → Prop} {R : Result → Shared → Prop} {h : Heap} {g : Array GenState} {d : Drawn} {t : Nat} {os : OsState}
variable {nm q : Str} {C N : Addr} {bs bm bmB : List Value} {hdct : Bool} {sn : List Str} {sub : List Value} {ab : Bool} {col : Option Bool} {dd : Option Addr} {k0 k1 k2 k3 k5 : Option Value} {B newId initId : String}
theorem checkK {M : Model} (F : ExcBaseFacts B newId initId bmB) (hT : ∀ X : String, bm.contains (.type X) = bmB.contains (.type X)) {rest : List Value} {f : Str} {v : Value} {Q : Unit → Shared → Prop}
    (hC : h.get? C = some (excClassObj nm q C N bs bm hdct sn sub ab col dd k0 k1 k2 k3 k5 newId)) (hq : Q () ⟨h, g, d, t, os⟩) : wpAny M A (checkBuiltinCall newId ⟨.ref C :: rest, [(f, v)]⟩) Q E ⟨h, g, d, t, os⟩ := by
  have hcont : (Value.ref C :: bm).contains (.type B) = true := by rw [List.contains_cons, hT, F.hasB, Bool.or_true]
  have hstar := F.noStar
  simp only [checkBuiltinCall, F.newKind, F.newSplit, F.newRow]
  repeat (first
    | refine wpAny_loadPart_at hC ?_
    | (refine wpAny_isSubtype_exc hC ?_; rw [hcont])
    | refine wpAny_staticBase_exc hC ?_
    | refine wpAny_madeBy_exc hC ?_
    | simp only [bne_self_eq_false, Bool.false_eq_true, if_false]
    | wp_step)
  exact hq
theorem newK (F : ExcBaseFacts B newId initId bmB) (hT : ∀ X : String, bm.contains (.type X) = bmB.contains (.type X)) {rest : List Value} {f : Str} {v : Value}
    (hC : h.get? C = some (excClassObj nm q C N bs bm hdct sn sub ab col dd k0 k1 k2 k3 k5 newId))
    (hq : R (.ok (.ret (.ref (h.objs.size + 1)))) ⟨(h.push (kdv_tup rest)).push (excO C h.objs.size), g, d, t, os⟩) (hrest : rest.length ≤ sizeLine) :
    codeAny (model prog w) A (.builtin newId ⟨.ref C :: rest, [(f, v)]⟩) R ⟨h, g, d, t, os⟩ := by
  have he := F.ends
  have cB : (Value.ref C :: bm).contains (.type B) = true := by rw [List.contains_cons, hT, F.hasB, Bool.or_true]
  have cA : (Value.ref C :: bm).contains (.type "AttributeError") = false := by rw [List.contains_cons, hT, F.noAttr]; rfl
  have cN : (Value.ref C :: bm).contains (.type "NameError") = false := by rw [List.contains_cons, hT, F.noName]; rfl
  refine codeAny_builtinAt F.entry ?_
  unfold Builtin.«BaseException.__new__»
  refine wpAt_bind ?_
  show wpAt _ _ _ (stack >>= _) _ _ _
  refine wpAt_bind (wpAt_stack fun p below => wpAt_of_wpAny ?_)
  wp_walk
  refine wpAt_of_wpAny ?_
  rw [F.owner]
  repeat (first
    | with_reducible refine wpAny_madeHere_exc F.canon hC ?_
    | with_reducible refine wpAny_loadPart_at hC ?_
    | (with_reducible refine wpAny_isSubtype_exc hC ?_; first | rw [cB] | rw [cA] | rw [cN])
    | wp_step)
  show R _ _
  rw [Heap.size_push]
  exact hq
theorem typeK (F : ExcBaseFacts B newId initId bmB) (hT : ∀ X : String, bm.contains (.type X) = bmB.contains (.type X)) {rest : List Value} {fI : Addr} {f : Str} {v : Value} {Q : Fin → Shared → Prop}
    (hC : h.get? C = some (excClassObj nm q C N bs bm hdct sn sub ab col dd k0 k1 k2 k3 k5 newId))
    (hi : W.Looks (model prog w) h (typeLookup (.ref C) "__init__") (some (.ref fI))) (hb : ∀ self, W.Looks (model prog w) h (bindSpecial (.ref fI) self) (.ref fI, [self])) (hrest : rest.length ≤ sizeLine)
    (hq : codeAny (model prog w) A (.call (.ref fI) ⟨.ref (h.objs.size + 1) :: rest, [(f, v)]⟩)
      (fun r s' => match r with
        | .ok (.ret v) => v = .none ∧ Q (.done (.ret (.ref (h.objs.size + 1)))) s'
        | .ok _ => False
        | .error e => E e s') ⟨(h.push (kdv_tup rest)).push (excO C h.objs.size), g, d, t, os⟩) :
    wpAny (model prog w) A (Builtin.«type.__call__» ⟨.ref C :: rest, [(f, v)]⟩) Q E ⟨h, g, d, t, os⟩ := by
  repeat (first | with_reducible refine wpAny_loadPart_at hC ?_ | with_reducible refine wpAny_madeBy_exc hC ?_ | wp_step)
  refine codeAny_call_builtin_code (Code.quiet_builtin _ F.quiet) (checkK F hT hC ?_)
  refine newK F hT hC ?_ hrest
  show wpAny _ _ _ _ _ _
  have k : ∀ b o, h.get? b = some o → ((h.push (kdv_tup rest)).push (excO C h.objs.size)).get? b = some o := fun b o e =>
    Heap.get?_push_of_some _ (Heap.get?_push_of_some _ e)
  have c1 := k _ _ hC
  have gt : ((h.push (kdv_tup rest)).push (excO C h.objs.size)).get? (h.objs.size + 1) = some (excO C h.objs.size) := by heap_get
  have cc : (Value.ref C :: bm).contains (.ref C) = true := by simp
  have i1 := hi.keeps k
  have b1 := (hb (.ref (h.objs.size + 1))).keeps k
  unfold isInstance
  repeat (first
    | with_reducible refine wpAny_loadPart_at gt ?_
    | (with_reducible refine wpAny_isSubtype_exc c1 ?_; rw [cc])
    | wp_step)
  show wpAny _ _ (typeLookup (.ref C) _) _ _ _
  refine i1.at ?_
  refine wpAny_holding (wpAny_bind (b1.at ?_))
  refine wpAny_bind (wpAny_call (codeAny_mono hq fun r s' z => ?_))
  cases r with
  | error e => exact z
  | ok fl =>
    cases fl with
    | ret u =>
      have z2 : u = Value.none ∧ Q (.done (.ret (.ref (h.objs.size + 1)))) s' := z
      clear z
      obtain ⟨e, z⟩ := z2
      subst e
      first
        | exact wpAny_pure (wpAny_pure z)
        | (wp_walk; exact z)
    | next => exact False.elim z
    | brk => exact False.elim z
    | cont => exact False.elim z
theorem callK (F : ExcBaseFacts B newId initId bmB) (hT : ∀ X : String, bm.contains (.type X) = bmB.contains (.type X)) {rest : List Value} {fI : Addr} {f : Str} {v : Value}
    (hC : h.get? C = some (excClassObj nm q C N bs bm hdct sn sub ab col dd k0 k1 k2 k3 k5 newId))
    (hi : W.Looks (model prog w) h (typeLookup (.ref C) "__init__") (some (.ref fI))) (hb : ∀ self, W.Looks (model prog w) h (bindSpecial (.ref fI) self) (.ref fI, [self])) (hrest : rest.length ≤ sizeLine)
    (hq : codeAny (model prog w) (A.under (.builtin "type.__call__" ⟨.ref C :: rest, [(f, v)]⟩)) (.call (.ref fI) ⟨.ref (h.objs.size + 1) :: rest, [(f, v)]⟩) (W.InitBack (h.objs.size + 1) R)
      ⟨(h.push (kdv_tup rest)).push (excO C h.objs.size), g, d, t, os⟩) :
    codeAny (model prog w) A (.call (.ref C) ⟨rest, [(f, v)]⟩) R ⟨h, g, d, t, os⟩ := by
  have f1 := tc_lookup
  have f2 := tc_bind (.ref C)
  have ht : (⟨h, g, d, t, os⟩ : Shared).TypeIs (.ref C) "type" := ⟨_, hC, rfl⟩
  refine codeAny_of_tree ?_
  show wpAny _ _ (callAny (.ref C) _) _ _ _
  repeat (any_goals (first | assumption | with_reducible refine wpAny_loadPart_at hC ?_ | wp_step))
  refine ⟨rfl, ?_⟩
  refine codeAny_call_builtin_at (Code.quiet_builtin _ (by decide +kernel)) entry_typeCall (wpAny_check_type_call_sub hC (typeK F hT hC hi hb hrest ?_))
  refine codeAny_mono hq fun r s' z => ?_
  rcases r with e | (v | _ | _ | _) <;> exact z
end
end DLX
end PySem
namespace PySem
namespace DLX
open PySem.W PySem.Calls PyProof.Rows PySem.HandSPX
/-! ### def __init__(self, f): self.f = f -/
def xA (f : Str) (p1 p2 : Pos) : Arguments := ⟨[], [{ arg := "self", annotation := none, pos := p1 }, { arg := f, annotation := none, pos := p2 }], none, [], [], none, []⟩
def xB (f : Str) (q1 q2 q3 q4 : Pos) : List Stmt := [.Assign [.Attribute (.Name "self" q1) f q2] (.Name f q3) q4]
def xS (f : Str) : Scope := { kind := .function, names := [(PySem.Str.ofString "self", .local), (f, .local)], isGenerator := false, isCoroutine := false, more := [] }
/-- the class at C, its __init__ at fI, its field f -/
structure ExT (K : Frag) (C fI : Addr) (f qn : Str) (B newId initId : String) (bmB : List Value) : Prop where
  FB : ExcBaseFacts B newId initId bmB
  SF : StoreFacts B bmB "object.__setattr__" "object"
  q : excInitIn K C bmB newId = true
  ov : excOver K C bmB = true
  tk : takerIn K C f = some none
  sa : findIn K (.ref C) "__setattr__" = some (some (.builtin "object.__setattr__"))
  ga : findIn K (.ref C) "__getattribute__" = some (some (.builtin "BaseException.__getattribute__"))
  gg : findIn K (.ref C) "__getattr__" = some none
  noN : findIn K (.ref C) f = some none
  iC : findIn K (.ref C) "__init__" = some (some (.ref fI))
  tI : typeIn K (.ref fI) = some (.type "function")
  kC : keepIn K (.ref C) = true
  exC : subIn K (.ref C) (.type "BaseException") = some true
  tyC : typeIn K (.ref C) = some (.type "type")
  hdC : hasDictIn K C = true
  hf : f = "value" ∨ f = "place" ∨ f = "line" ∨ f = "most"
  hqn : (qn.length ≤ 200)
  fn : ∃ (oc : Value) (od : Option Addr) (kV doc pm : Value) (an : Option Addr) (cdv ct : Value) (osl : Array (Option Value)) (p1 p2 q1 q2 q3 q4 : Pos),
    K.lookup fI = some ⟨oc, od, .func (fnOf "__init__" qn (xA f p1 p2) (xB f q1 q2 q3 q4) (xS f) .none kV doc pm an cdv ct), osl⟩ ∧ codeIn K cdv qn = true
theorem ldX {M : Model} {s : Shared} {name : Str} {scope : Scope} {L a : Addr} {cd : Value} {m : Str → Option Value} {x : Str} {pos : Pos} {v : Value} {Q : Value → Shared → Prop} {A : Around} {E : Value → Shared → Prop}
    (hn : s.heap.Ns L m) (hv : m x = some v) (h : Q v s) (hk : scope.kind = .function := by rfl) (hl : (envOfC name scope L a cd).kindOf x = some .local := by rfl) (hd : (x == ("__debug__" : Str)) = false := by decide) :
    wpAny M A (eval (.Name x pos) (envOfC name scope L a cd)) Q E s := wpAny_Name (wpAny_loadName_local hk hl hn hv h) hd
open Builtin Builtin.ObjectAttr
/-- what __init__ leaves of an exception at x -/
structure IEnd (h h' : Heap) (f : Str) (x C dx t1 : Addr) (v : Value) : Prop where
  keep : ∀ b o, b ≠ x → h.get? b = some o → h'.get? b = some o
  obj : h'.get? x = some { cls := .ref C, dict := some dx, data := .fields #[.ref t1, .none, .none, .none, .bool false, .none] }
  dbig : h.objs.size ≤ dx
  dne : dx ≠ x
  ns : h'.Ns1 dx (fun y => if y = f then some v else none)
section
variable {prog : Program} {w : World} {A : Around} {E : Value → Shared → Prop} {R : Result → Shared → Prop} {s : Shared} {K : Frag} {C fI : Addr} {f qn : Str} {B newId initId : String} {bmB : List Value}
theorem x_osa (T : ExT K C fI f qn B newId initId bmB) {x t0 : Addr} {v : Value} {tk : Tok} {R : Result → Shared → Prop} (X : K.In s.heap) (hx : s.heap.get? x = some (excO C t0))
    (hq : ∀ h' t' dx, IEnd s.heap h' f x C dx t0 v → R (.ok (.ret .none)) { s with heap := h', toks := t' }) :
    codeAny (model prog w) A (.call (.builtin "object.__setattr__") ⟨[.ref x, .str f tk, v], []⟩) R s := by
  refine osa_openX (od := none) T.SF X ⟨hx, rfl, rfl, trivial⟩ T.ov T.tk fun b => ?_
  obtain ⟨cd, hc, hd'⟩ := any_some T.hdC
  obtain ⟨hp, g, d, t, os⟩ := s
  have hxs : x ≠ hp.objs.size := Nat.ne_of_lt (Heap.lt_size hx)
  refine wpAny_bind (wpAny_pure (wpAny_bind (instanceDict_exc (c2 := .none) hx (looks_clsIn X hc) hd' ?_)))
  show wpAny _ _ (storeInDict hp.objs.size (.str f tk) f v) _ _ _
  refine store_in_new (g := g) (d := d) (os := os) ?_ fun h' tk' hn' hs => ?_
  · exact ⟨_, #[], _, (Heap.get?_update_ne _ _ _ _ hxs.symm).trans (Heap.get?_push_at rfl rfl), rfl, fun e he => absurd he (by simp), fun _ => rfl⟩
  · have hx₁ : (hp.push (dictOf [] 0)).get? x = some (excO C t0) := Heap.get?_push_of_some _ hx
    refine hq h' tk' hp.objs.size ⟨fun b o hb ho => ?_, ?_, Nat.le_refl _, hxs.symm, hn'⟩
    · refine (hs.2 b (Nat.ne_of_lt (Heap.lt_size ho))).trans ?_
      exact (Heap.get?_update_ne _ _ _ _ hb).trans (Heap.get?_push_of_some _ ho)
    · exact (hs.2 x hxs).trans (Heap.get?_update_self _ hx₁ rfl)
def xArgs (f : Str) (first : List Value) (v : Value) (kw : Bool) : Args := if kw then ⟨first, [(f, v)]⟩ else ⟨first ++ [v], []⟩
theorem x_init (T : ExT K C fI f qn B newId initId bmB) (kw : Bool) {x t0 : Addr} {v : Value} (X : K.In s.heap) (hlim : s.heap.NoLimit) (hx : s.heap.get? x = some (excO C t0)) (hroom : A.depth < recursionLimit)
    (hq : ∀ h' tk dx, IEnd s.heap h' f x C dx t0 v → R (.ok (.ret .none)) { s with heap := h', toks := tk }) :
    codeAny (model prog w) A (.call (.ref fI) (xArgs f [.ref x] v kw)) R s := by
  obtain ⟨oc, od, kV, doc, pm, an, cdv, ct, osl, p1, p2, q1, q2, q3, q4, ho, hcd⟩ := T.fn
  have key : ∀ (s₁ : Shared) (args : Args), args = xArgs f [.ref x] v kw → BindsTo s₁ (fnOf "__init__" qn (xA f p1 p2) (xB f q1 q2 q3 q4) (xS f) .none kV doc pm an cdv ct) args [("self", .ref x), (f, v)] := by
    intro s₁ args e
    subst e
    rcases T.hf with rfl | rfl | rfl | rfl <;> cases kw <;> exact BindsTo.of_eq (by first | rfl | with_unfolding_all rfl)
  refine Att.call_fn (binds := [("self", .ref x), (f, v)]) X hlim ho hcd hroom (key s _ rfl) (by rcases T.hf with rfl | rfl | rfl | rfl <;> first | rfl | decide | with_unfolding_all rfl) (fun s₁ IC => ?_) rfl rfl rfl
  obtain ⟨h₁, tk₁, rfl⟩ := IC.toInCall.same
  have k : ∀ b o, s.heap.get? b = some o → h₁.get? b = some o := IC.toInCall.keep
  have hn := IC.toInCall.ns
  have hxL : s.heap.objs.size ≠ x := Nat.ne_of_gt (Heap.lt_size hx)
  have X₁ : K.In h₁ := X.keeps k
  have hx₁ := k _ _ hx
  show wpAny _ _ (execs _ _) _ _ _
  refine wpAny_execs_cons (plainObj_wpAny_Assign_Attribute ?_ (by rcases T.hf with rfl | rfl | rfl | rfl <;> rfl))
  refine ldX (v := v) hn (by rcases T.hf with rfl | rfl | rfl | rfl <;> first | rfl | with_unfolding_all rfl | kernel_rfl) (ldX (v := .ref x) hn (by rcases T.hf with rfl | rfl | rfl | rfl <;> first | rfl | with_unfolding_all rfl | kernel_rfl) ?_ rfl (by rcases T.hf with rfl | rfl | rfl | rfl <;> rfl))
    rfl (by rcases T.hf with rfl | rfl | rfl | rfl <;> rfl) (by rcases T.hf with rfl | rfl | rfl | rfl <;> decide)
  refine set_plain X₁ (ox := excO C t0) (od := none) ⟨hx₁, rfl, rfl, trivial⟩ T.sa ?_
  refine x_osa (s := { s with heap := h₁, toks := tk₁ + 1 }) T X₁ hx₁ fun h₃ tk₃ dx IE => ?_
  have z : s.heap.objs.size ≤ h₁.objs.size := Nat.le_of_lt hn.lt
  show wpAny _ _ (execs _ _) _ _ _
  exact wpAny_execs_nil (hq h₃ tk₃ dx ⟨fun b o hb e => IE.keep b o hb (k b o e), IE.obj, Nat.le_trans z IE.dbig, IE.dne, IE.ns⟩)
/-- a made exception at e -/
structure XMade (h h' : Heap) (f : Str) (e C d t1 : Addr) (v : Value) : Prop where
  keep : ∀ b o, h.get? b = some o → h'.get? b = some o
  new : h.objs.size ≤ e
  obj : h'.get? e = some { cls := .ref C, dict := some d, data := .fields #[.ref t1, .none, .none, .none, .bool false, .none] }
  dbig : h.objs.size ≤ d
  dne : d ≠ e
  ns : h'.Ns1 d (fun y => if y = f then some v else none)
theorem x_made (T : ExT K C fI f qn B newId initId bmB) (kw : Bool) {v : Value} (X : K.In s.heap) (hlim : s.heap.NoLimit) (hroom : A.depth + 1 < recursionLimit)
    (hq : ∀ h' tk e d t1, XMade s.heap h' f e C d t1 v → R (.ok (.ret (.ref e))) { s with heap := h', toks := tk }) : codeAny (model prog w) A (.call (.ref C) (xArgs f [] v kw)) R s := by
  obtain ⟨nm, N', qn', bs, bm, hdct, sn, sub, ab, col, dd, k0, k1, k2, k3, k5, hC, hT⟩ := excInit_of X T.q
  obtain ⟨hp, g, dr, tk, os⟩ := s
  have go : ∀ (rest : List Value) (A' : Around), A'.depth < recursionLimit → codeAny (model prog w) A' (.call (.ref fI) (xArgs f [.ref (hp.objs.size + 1)] v kw)) (W.InitBack (hp.objs.size + 1) R) ⟨(hp.push (kdv_tup rest)).push (excO C hp.objs.size), g, dr, tk, os⟩ := fun rest A' hd => by
    have k : ∀ b o, hp.get? b = some o → ((hp.push (kdv_tup rest)).push (excO C hp.objs.size)).get? b = some o := fun b o e => Heap.get?_push_of_some _ (Heap.get?_push_of_some _ e)
    have hget : ((hp.push (kdv_tup rest)).push (excO C hp.objs.size)).get? (hp.objs.size + 1) = some (excO C hp.objs.size) := by heap_get
    refine x_init (s := ⟨(hp.push (kdv_tup rest)).push (excO C hp.objs.size), g, dr, tk, os⟩) T kw (X.keeps k) (hlim.keeps k) hget hd fun h' tk' dx IE => ?_
    have z : hp.objs.size + 1 + 1 ≤ dx := by
      have q := IE.dbig
      rw [Heap.size_push, Heap.size_push] at q
      exact q
    refine ⟨rfl, hq h' tk' (hp.objs.size + 1) dx _ ⟨fun b o e => IE.keep b o (Nat.ne_of_lt (Nat.lt_succ_of_lt (Heap.lt_size e))) (k b o e), Nat.le_succ _, IE.obj, Nat.le_trans (Nat.le_trans (Nat.le_succ _) (Nat.le_succ _)) z, IE.dne, IE.ns⟩⟩
  cases kw with
  | false =>
    exact call_own T.FB hT hC (looks_findIn X T.iC) (fun self => bind_fn X self T.tI) (by show 1 ≤ sizeLine; rw [sizeLine_eq]; decide) (go [v] _ hroom)
  | true =>
    exact callK T.FB hT hC (looks_findIn X T.iC) (fun self => bind_fn X self T.tI) (by show 0 ≤ sizeLine; rw [sizeLine_eq]; decide) (go [] _ hroom)
end
end DLX
end PySem
/-! Own exceptions as values. -/
namespace DL
open PySem PySem.Spec L2
section
variable {L : Lx} {X : Cx} {g g' : Gh} {H H' H1 : Hp} {σ : L2.St} {Γ : Env} {W : WX} {pos : Pos} {pins : List (Addr × Obj)} {s : Shared}
variable {C fI : Addr} {f qn : Str} {B newId initId : String} {bmB : List Value}
/-- the new exception, tracked -/
theorem x_inv {h' : Heap} {t' : Nat} {e d t1 : Addr} {y : V} {u : Value} (I : Inv X pins σ H s) (M : PySem.DLX.XMade s.heap h' f e C d t1 u) (ry : RelV y u) :
    H e = none ∧ H d = none ∧ Inv X pins σ (upd (upd H d (exd d [(f, y)])) e (exo e C (some d))) { s with heap := h', toks := t' } := by
  have nd : H d = none := I.hok.fresh M.dbig
  have ne : H e = none := I.hok.fresh M.new
  have z1 : ∀ {b : Addr} {o : Obj}, s.heap.get? b = some o → b ≠ d := fun {b o} q => Nat.ne_of_lt (Nat.lt_of_lt_of_le (Heap.lt_size q) M.dbig)
  have z2 : ∀ {b : Addr} {o : Obj}, s.heap.get? b = some o → b ≠ e := fun {b o} q => Nat.ne_of_lt (Nat.lt_of_lt_of_le (Heap.lt_size q) M.new)
  have two : ∀ {b : Addr} {o : HO}, H b = some o → upd (upd H d (exd d [(f, y)])) e (exo e C (some d)) b = some o := fun {b o} q => by
    rw [upd_ne (ne_of_none q ne), upd_ne (ne_of_none q nd)]; exact q
  have U : Un X.fs [] H (upd (upd H d (exd d [(f, y)])) e (exo e C (some d))) s.heap h' := {
    keep := fun b o q n _ _ => M.keep b o q
    slot := fun b o q n _ _ => ⟨o.slots, M.keep b o q⟩
    free := fun b o q n _ => by rw [upd_ne (z2 q), upd_ne (z1 q)]; exact n
    there := fun b o q _ => ⟨o, M.keep b o q⟩
    tups := fun b xs q => two q
    frzs := fun b o v q => two q
    tbls := fun b ps q => ⟨#[], by rw [two q]; simp⟩ }
  refine ⟨ne, nd, I.un (t' := t') U fun b o q => ?_⟩
  by_cases hb : b = e
  · subst hb
    rw [upd_same] at q
    cases q
    exact exo_ok M.obj
  · rw [upd_ne hb] at q
    by_cases hd : b = d
    · subst hd
      rw [upd_same] at q
      cases q
      exact exd_ok M.ns (relO_put (fs := []) ry fun g => True.intro)
    · rw [upd_ne hd] at q
      exact (I.hok b o q).stay (fun c v _ z => M.keep c v z) (fun c hc => two hc) (fun c xs hc => two hc)
/-- C(e), C(f = e): a new exception -/
def tExv (f : Str) (C : Addr) (ta : TA) : TE := fun σ H Q => ta σ H fun vs H1 => ∃ v, vs = [v] ∧ ∀ a d, H1 a = none → H1 d = none → d ≠ a → Q (.ref a) (upd (upd H1 d (exd d [(f, v)])) a (exo a C (some d)))
theorem call_exv (T : PySem.DLX.ExT X.K C fI f qn B newId initId bmB) (kw : Bool) (hr : X.A.depth + 1 < recursionLimit) (I : Inv X pins σ H s) {y : V} {u : Value} (ry : RelV y u) {Q : VK}
    (q : ∀ a d, H a = none → H d = none → d ≠ a → Q (.ref a) (upd (upd H d (exd d [(f, y)])) a (exo a C (some d)))) :
    codeAny (model X.prog X.w) X.A (.call (.ref C) (PySem.DLX.xArgs f [] u kw)) (fun r s' => match r with
      | .ok (.ret u) => EP X pins σ Q u s'
      | .ok _ => False
      | .error e => X.xe e s') s := by
  refine PySem.DLX.x_made T kw I.kIn I.nolimit hr fun h' tk e d t1 M => ?_
  obtain ⟨ne, nd, J⟩ := x_inv (t' := tk) I M ry
  exact ⟨.ref e, _, J, rfl, q e d ne nd M.dne⟩
theorem pe_exv {x : Str} {a : Expr} {ta : TA} {p : Pos} (T : PySem.DLX.ExT X.K C fI f qn B newId initId bmB) (hr : X.A.depth + 1 < recursionLimit) (hg : Gl X x) (gC : X.mg x = some (.ref C)) (ha : PA X [a] ta)
    (hdb : (x == ("__debug__" : Str)) = false := by decide) (he : starEach (a :: []) X.env = (false, eval a X.env) :: starEach [] X.env := by rfl) (hpl : (backTo pos (starEach [] X.env)).any (·.1) = false := by rfl) :
    PE X (.Call (.Name x p) [a] [] pos) (tExv f C ta) := by
  refine ⟨fun pins s σ H Q I h => ?_⟩
  refine wpAny_Call_Name_kw (ld_glob I hg gC ?_ hdb)
  refine PySem.W.callWith_K (h₀ := X.base) I.ok.mod.kin T.kC (thn (ha.run pos pins s σ H _ I h) fun us s1 ⟨vs, H1, I1, r1, v, ev, q1⟩ => ⟨I1.kIn, ?_⟩) he hpl
  subst ev
  cases r1 with
  | cons rv rn =>
    cases rn
    exact wpAny_call (codeAny_mono (call_exv T false hr I1 rv q1) fun r s' z => by
      cases r with
      | error e => exact z
      | ok fl => cases fl <;> exact z)
theorem pe_exvK {x : Str} {a : Expr} {ta : TA} {p kpos : Pos} (T : PySem.DLX.ExT X.K C fI f qn B newId initId bmB) (hr : X.A.depth + 1 < recursionLimit) (hg : Gl X x) (gC : X.mg x = some (.ref C)) (hkw : PK X [⟨some f, a, kpos⟩] ta)
    (hall : (backToKw pos (keywordEach [⟨some f, a, kpos⟩] X.env)).all (·.1.isSome) = true := by rfl) (hks : (backToKw pos (keywordEach [⟨some f, a, kpos⟩] X.env)).filterMap (·.1) = [f] := by rfl) (hdb : (x == ("__debug__" : Str)) = false := by decide)
    (hpl : ((backTo pos (starEach [] X.env)).any (·.1) || (backToKw pos (keywordEach [⟨some f, a, kpos⟩] X.env)).any (·.1.isNone)) = false := by rfl) :
    PE X (.Call (.Name x p) [] [⟨some f, a, kpos⟩] pos) (tExv f C ta) := by
  refine ⟨fun pins s σ H Q I h => ?_⟩
  refine wpAny_Call_Name_kw (ld_glob I hg gC ?_ hdb)
  refine PySem.W.callWith_KW0 (h₀ := X.base) I.ok.mod.kin T.kC hall ?_ hpl
  refine thn (hkw.run pos pins s σ H _ I h) fun ws s2 ⟨zs, H2, I2, rz, v, ev, q2⟩ => ⟨I2.kIn, ?_⟩
  rw [hks]
  subst ev
  cases rz with
  | cons rv rn =>
    cases rn
    exact wpAny_call (codeAny_mono (call_exv T true hr I2 rv q2) fun r s' z => by
      cases r with
      | error e => exact z
      | ok fl => cases fl <;> exact z)
end
end DL
/-! isinstance of own exceptions that have their dict. -/
namespace PySem
namespace DLX
open PySem PySem.Spec PySem.Calls PyProof.Rows PySem.W
section
variable {prog : Program} {w : World} {A : Around} {E : Value → Shared → Prop} {s : Shared} {K : Frag} {x D : Addr} {ox : Obj} {od : Option Obj}
theorem find_data {C : Addr} {name : Str} {a g : Value} (hc : (clsIn K C).isSome = true) (ha : findIn K (.ref C) name = some (some a)) (hg : specialIn K a "__get__" = some (some g)) (ht : takesIn K a = some true) : findObj K C od name = some (.bind g a) := by
  obtain ⟨cd, hc⟩ := Option.isSome_iff_exists.mp hc
  simp only [findObj, hc, ha, hg, ht, Option.bind_some]
theorem cls_some {K : Frag} {D : Addr} (h : hasDictIn K D = true) : (clsIn K D).isSome = true := by
  obtain ⟨cd, hc, _⟩ := any_some h
  rw [hc]
  rfl
theorem class_of_exc {Q : Option Value → Shared → Prop} (c : L2.ExcC K D) (X : K.In s.heap) (I : InstAt s.heap x ox D od) (h : Q (some (.ref D)) { s with toks := s.toks + 1 }) : wpAny (model prog w) A (getAttr? (.ref x) "__class__") Q E s := by
  have hf : findObj K D od "__class__" = some (.bind (.builtin "getset_descriptor.__get__") (.builtin "object.__class__")) := find_data (cls_some c.hd) c.ha c.hn c.ht
  obtain ⟨hp, g, d, t, os⟩ := s
  have l0 := I.type (M := model prog w)
  have l1 := looks_findIn (M := model prog w) X c.hg
  have l2 := looks_findIn (M := model prog w) X c.hk
  have l3 := looks_find (M := model prog w) X I hf
  have below : Looks (model prog w) hp (isInstance (.ref x) (.type "BaseException")) true := l0.andThen (looks_subIn X c.hs)
  have e1 : (Value.builtin "BaseException.__getattribute__" == Value.builtin "object.__getattribute__") = false := by decide +kernel
  have e2 : (onTheHeap (Value.ref D) && Value.builtin "BaseException.__getattribute__" == Value.builtin "object.__getattribute__") = false := by
    rw [e1]; rfl
  have e3 : (false && onTheHeap (Value.builtin "BaseException.__getattribute__")) = false := rfl
  unfold getAttr? getAttrBy? getAttrBy
  refine wpAny_bind (wpAny_mkText (wpAny_bind (wpAny_attempt (wpAny_holding (wpAny_bind (l0.at (wpAny_bind (l1.at ?_))))))))
  show wpAny _ _ (if (onTheHeap (Value.ref D) && Value.builtin "BaseException.__getattribute__" == Value.builtin "object.__getattribute__") = true then _ else _) _ _ _
  rw [e2, if_neg Bool.false_ne_true]
  unfold getAttrByItsOwn hookBefore
  refine wpAny_bind ?_
  rw [if_pos (show onTheHeap (Value.ref D) = true from rfl)]
  refine l2.at (wpAny_bind (wpAny_attempt (wpAny_holding ?_)))
  unfold callGetattribute
  rw [e3, if_neg Bool.false_ne_true]
  unfold boundAndCalled
  rw [PySem.F.excAttr_ValueError.ga.bind (.ref x)]
  refine wpAny_bind (wpAny_pure ?_)
  show wpAny _ _ (call (.builtin "BaseException.__getattribute__") [.ref x, .str "__class__" t]) _ _ _
  refine wpAny_call (codeAny_call_builtin PySem.F.excAttr_ValueError.ga.plain PySem.F.entry_bexc_ga ?_)
  refine @check_slot (model prog w) _ _ ⟨hp, g, d, t + 1, os⟩ "BaseException.__getattribute__" "BaseException" "__getattribute__" (.ref x) [.str "__class__" t] [] _ (by decide +kernel) (by decide +kernel) below
    (PySem.F.args_bexc_ga (.ref x) (.str "__class__" t)) ?_
  unfold Builtin.«object.__getattribute__»
  refine wpAny_bind (wpAny_of_eq (a := ((Value.ref x : Value), [Value.str "__class__" t])) (by first | rfl | (simp only [slotArgs]; rfl)) ?_)
  refine wpAny_bind (wpAny_pure (wpAny_bind (l0.at (wpAny_bind (l3.at ?_)))))
  show wpAny _ _ (holding [Value.builtin "object.__class__"] (call (.builtin "getset_descriptor.__get__") [.builtin "object.__class__", .ref x, .ref D]) >>= ret) _ _ _
  refine wpAny_bind (wpAny_holding (wpAny_call (class_get (s := ⟨hp, g, d, t + 1, os⟩) (ox := ox) (od := od) X I c.hm (wpAny_pure ?_))))
  show wpAny _ _ (handedOut (.ref D)) _ _ _
  rw [handedOut_of (v := .ref D) rfl]
  first
    | exact wpAny_pure (wpAny_pure h)
    | exact wpAny_pure h
    | exact wpAny_pure (wpAny_bind (wpAny_pure (wpAny_pure h)))
theorem at_type {K : Frag} {D : Addr} (h : hasDictIn K D = true) : ∃ c dd cd sl, K.lookup D = some ⟨c, dd, .cls cd, sl⟩ := by
  have q := cls_some h
  unfold clsIn at q
  split at q
  · rename_i c' d' cd' sl' ho
    exact ⟨_, _, _, _, ho⟩
  · cases q
theorem kitx_exc (c : L2.ExcC K D) : KitX K (.ref x) (.ref D) (fun h => InstAt h x ox D od) where
  ty := fun _ _ _ I => I.type
  it := fun M h X _ => by
    obtain ⟨cc, dd, cd, sl, ho⟩ := at_type c.hd
    intro A' Q' E' s' k q
    unfold isType loadHead
    exact wpAny_bind (wpAny_loadPart (k _ _ (X _ _ ho)) (wpAny_pure q))
  ne := fun h tp dd its n sl X htp => (handS_kitx_exc (x := x) (ox := ox) c.hg c.hk c.hs c.hd c.ha c.hn c.ht c.hm).ne h tp dd its n sl X htp
  ca := fun X I k => class_of_exc c X I k
end
end DLX
end PySem
/-! Own exceptions as data; isinstance; repr. -/
namespace DL
open PySem PySem.Spec L2
section
variable {L : Lx} {X : Cx} {g g' : Gh} {H H' H1 : Hp} {σ : L2.St} {Γ : Env} {W : WX} {pos p : Pos} {i : IE}
variable {C fI : Addr} {f qn : Str} {B newId initId : String} {bmB : List Value} {n : Nat} {x : Str} {a : Expr}
/-- C(e): the exception n -/
def iMk (n : Nat) (i : IE) : IE := fun Γ => (i Γ).bind fun d => .ret (.exc n d)
theorem rd_exv {Q : VK} (hC : L.cA n = C) (hf : L.cF n = [f]) (h : Rd1 L DenT W (iMk n i) σ H Q) : tExv f C (tCons (Rd1 L DenT W i) tNil) σ H Q := by
  obtain ⟨Γ, g, rp, w⟩ := h
  refine Rd1.go rp w fun v H1 d g1 r1 s t w => ⟨v, rfl, fun a d na nd ne => ?_⟩
  have s1 := stp_put (o := exd d [(f, v)]) r1 nd
  have na' : upd H1 d (exd d [(f, v)]) a = none := by rw [upd_ne (Ne.symm ne)]; exact na
  have r2 := r1.step s1
  have s2 := stp_put (o := exo a C (some d)) r2 na'
  refine w (.ref a) _ _ (s.trans (s1.trans s2)) rfl ?_
  refine .exc (f := f) (d := d) (v := v) (by rw [hC]; exact put_F) (s2.le _ _ put_F) hf (t.mono (s1.trans s2).le (s1.trans s2).mu)
theorem de_exv (T : PySem.DLX.ExT X.K C fI f qn B newId initId bmB) (hC : L.cA n = C) (hf : L.cF n = [f]) (hr : X.A.depth + 1 < recursionLimit) (hg : Gl X x) (gC : X.mg x = some (.ref C)) (h : DE L X i a)
    (hdb : (x == ("__debug__" : Str)) = false := by decide) (he : starEach (a :: []) X.env = (false, eval a X.env) :: starEach [] X.env := by rfl) (hpl : (backTo pos (starEach [] X.env)).any (·.1) = false := by rfl) :
    DE L X (iMk n i) (.Call (.Name x p) [a] [] pos) := fun W tk => PE.imp (pe_exv T hr hg gC (pa_cons (h W tk) pa_nil he) hdb he hpl) fun σ H Q h => rd_exv hC hf h
theorem de_exvK {kpos : Pos} (T : PySem.DLX.ExT X.K C fI f qn B newId initId bmB) (hC : L.cA n = C) (hf : L.cF n = [f]) (hr : X.A.depth + 1 < recursionLimit) (hg : Gl X x) (gC : X.mg x = some (.ref C)) (h : DE L X i a)
    (hall : (backToKw pos (keywordEach [⟨some f, a, kpos⟩] X.env)).all (·.1.isSome) = true := by rfl) (hks : (backToKw pos (keywordEach [⟨some f, a, kpos⟩] X.env)).filterMap (·.1) = [f] := by rfl) (hdb : (x == ("__debug__" : Str)) = false := by decide)
    (hpl : ((backTo pos (starEach [] X.env)).any (·.1) || (backToKw pos (keywordEach [⟨some f, a, kpos⟩] X.env)).any (·.1.isNone)) = false := by rfl) :
    DE L X (iMk n i) (.Call (.Name x p) [] [⟨some f, a, kpos⟩] pos) := fun W tk => PE.imp (pe_exvK T hr hg gC (pk_cons (h W tk) pk_nil) hall hks hdb hpl) fun σ H Q h => rd_exv hC hf h
/-! ### its field -/
def tXat (K : PySem.W.Frag) (f : Str) (te : TE) : TE := fun σ H Q => te σ H fun x H1 => ∃ a C d v, x = .ref a ∧ H1 a = some (exo a C (some d)) ∧ H1 d = some (exd d [(f, v)]) ∧ XfC K C ∧ PySem.W.findIn K (.ref C) f = some none ∧ Q v H1
theorem pe_xat {e : Expr} {te : TE} (he : PE X e te) (hb : attributeBase e f X.env (eval e X.env) = eval e X.env := by rfl) : PE X (.Attribute e f pos) (tXat X.K f te) := by
  refine ⟨fun pins s σ H Q I h => ?_⟩
  refine attr_of hb (thn (he.run pins s σ H _ I h) fun u s1 hh => ?_)
  obtain ⟨x, H1, I1, rx, a, C, d, v, ex, e1, e2, T, hno, q⟩ := hh
  subst ex
  obtain rfl : u = Value.ref a := rx
  obtain ⟨t1, ho⟩ := exo_at I1.hok e1
  obtain ⟨mA, hns, hr⟩ := exd_at I1.hok e2
  obtain ⟨od, hod, hl⟩ := lookIn_ns hns
  obtain ⟨u, hu, ru⟩ := RelO.some_of (v := v) (o := mA f) (by
    have := hr f
    rw [lookup_put, if_pos rfl] at this
    exact this)
  have J : PySem.W.InstAt s1.heap a { cls := .ref C, dict := some d, data := .fields #[.ref t1, .none, .none, .none, .bool false, .none] } C (some od) := ⟨ho, rfl, rfl, hod⟩
  exact HandSPX.exc_get I1.kIn J T.ga T.gg T.exC (PySem.W.findObj_own T.hdC hno rfl (by rw [hl, hu])) (handed_of ru) ⟨v, H1, I1.tok _, ru, q⟩
/-- x.f of an exception -/
def iXat (ok : Nat → Bool) (i : IE) : IE := fun Γ => (i Γ).bind fun d => match d with
  | .exc n v => if ok n = true then .ret v else .stuck
  | _ => .stuck
theorem de_xat {ok : Nat → Bool} {e : Expr} (h : DE L X i e) (hK : X.K = L.K) (hx : ∀ n, ok n = true → L.cF n = [f] ∧ XfC L.K (L.cA n) ∧ PySem.W.findIn L.K (.ref (L.cA n)) f = some none) (hb : attributeBase e f X.env (eval e X.env) = eval e X.env := by rfl) :
    DE L X (iXat ok i) (.Attribute e f pos) := fun W tk => PE.imp (pe_xat (h W tk) hb) fun σ H Q ⟨Γ, g, rp, w⟩ => by
  refine Rd1.go rp w fun v H1 d g1 r1 s t w => ?_
  split at w
  · rename_i n d
    split at w
    · rename_i hn
      obtain ⟨h1, h2, h3⟩ := hx n hn
      cases t with
      | exc e1 e2 e3 t =>
        rw [h1] at e3
        cases e3
        exact ⟨_, _, _, _, rfl, r1.sub _ _ e1, r1.sub _ _ e2, hK ▸ h2, hK ▸ h3, w _ g1 H1 s rfl t⟩
    · exact w.elim
  · exact w.elim
/-! ### isinstance -/
abbrev TyK := String ⊕ Nat
def Lx.tv (L : Lx) : TyK → Value
  | .inl t => .type t
  | .inr n => .ref (L.cA n)
def D.ck : D → Option TyK
  | .ty n => some (.inl n)
  | .clo n => some (.inr n)
  | _ => none
def D.bk : D → Option String
  | .non => some "NoneType" | .bl _ => some "bool" | .int _ => some "int" | .str _ => some "str" | .tup _ => some "tuple" | .lst _ => some "list" | .dct _ _ => some "dict"
  | _ => none
def isTab (tb : List (String × TyK × Bool)) (te ti : List (Nat × TyK × Bool)) (d c : D) : Option Bool := match c.ck with
  | none => none
  | some k => match d with
    | .exc n _ => (te.find? fun e => decide (e.1 = n) && decide (e.2.1 = k)).map (·.2.2)
    | .ins n _ => (ti.find? fun e => decide (e.1 = n) && decide (e.2.1 = k)).map (·.2.2)
    | d => match d.bk with
      | some t => (tb.find? fun e => decide (e.1 = t) && decide (e.2.1 = k)).map (·.2.2)
      | none => none
def isAny (S : D → Option Bool) : List D → Option Bool
  | [] => some false
  | c :: cs => match S c with
    | some true => some true
    | some false => isAny S cs
    | none => none
def fIsi (S : D → D → Option Bool) : List D → Option D
  | [x, .tup (c :: cs)] => (isAny (S x) (c :: cs)).map .bl
  | [x, .tup []] => none
  | [x, c] => (S x c).map .bl
  | _ => none
/-- what is known of the type of x -/
theorem kit_vw (hK : X.K = L.K) {pins : List (Addr × Obj)} {s : Shared} {v : V} {u : Value} {d : D} {t : String} {σ2 : L2.St} (rp : Rep L Γ g σ H) (I : Inv X pins σ2 H s) (rx : RelV v u) (vx : Vw L g H v d) (e : d.bk = some t) :
    ∃ P : Heap → Prop, PySem.W.KitX X.K u (.type t) P ∧ P s.heap ∧ u ≠ .builtin "__main__.__loader__#opaque" := by
  rcases vx with h | ⟨q, vs, ds, rfl, rfl, h1, h2, _⟩ | ⟨q, t, kvs, rfl, rfl, _, hd⟩
  · cases h with
    | non => cases e; exact kit_of I rx (.base .non)
    | bl b => cases e; exact kit_of I rx (.base (.bl b))
    | int i => cases e; exact kit_of I rx (.base (.int i))
    | str s => cases e; exact kit_of I rx (.base (.str s))
    | tup h l =>
      cases e
      rcases h with h | ⟨o, its, m, h, c, _⟩ | ⟨o, h, _⟩
      · exact kit_of I rx (.base (.tup (rp.sub _ _ h.2)))
      · exact kit_of I rx (.kTuple (hK ▸ h) c)
      · exact kit_of I rx (.fTuple (rp.sub _ _ h))
    | lst h l => cases e; exact kit_of I rx (.base (.lst (rp.sub _ _ h)))
    | dK h _ _ => cases e; exact kit_of I rx (.fDict (rp.sub _ _ h))
    | @dT a ob ks ws ds h _ _ =>
      cases e
      cases (show u = Value.ref a from rx)
      obtain ⟨_, _, _, xs, _, o, es, ep, h1, h2, _⟩ := (show ObjOk X.prog X.w H s.heap a (.frz ob (.dT (ks.zip ws))) from I.hok a _ (rp.sub _ _ h))
      exact ⟨_, PySem.W.kitx_dict, ⟨o, h1, h2.1⟩, fun z => nomatch z⟩
    | ins _ _ _ => cases e
    | exc _ _ _ _ => cases e
    | err _ _ => cases e
    | ty _ => cases e
    | clo _ => cases e
    | rnd _ => cases e
    | scr _ => cases e
    | pr _ _ => cases e
  · cases e; exact kit_of I rx (.base (.lst h1))
  · cases e
    rcases hd with ⟨_, _, _, h1, _⟩ | ⟨_, _, _, h1, _⟩
    · exact kit_of I rx (.base (.dK h1))
    · exact kit_of I rx (.base (.dT h1))
/-- the type of a value, as isinstance asks of it -/
def KitOf (X : Cx) (s : Shared) (u t : Value) : Prop := ∃ P : Heap → Prop, PySem.W.KitX X.K u t P ∧ P s.heap ∧ u ≠ .builtin "__main__.__loader__#opaque"
/-- an own class whose instances are asked for their class -/
structure InsC (K : PySem.W.Frag) (C : Addr) : Prop where
  cl : Cls K C
  ha : PySem.W.findIn K (.ref C) "__class__" = some (some (.builtin "object.__class__"))
  hn : PySem.W.specialIn K (.builtin "object.__class__") "__get__" = some (some (.builtin "getset_descriptor.__get__"))
  ht : PySem.W.takesIn K (.builtin "object.__class__") = some true
  hm : PySem.W.mroIn K C (.type "object") = some true
structure TabOk (L : Lx) (tb : List (String × TyK × Bool)) (te ti : List (Nat × TyK × Bool)) : Prop where
  b : ∀ e ∈ tb, PySem.W.kitOne L.K (.type e.1) (L.tv e.2.1) = some e.2.2
  e : ∀ e ∈ te, ExcC L.K (L.cA e.1) ∧ PySem.W.kitOne L.K (.ref (L.cA e.1)) (L.tv e.2.1) = some e.2.2
  i : ∀ e ∈ ti, InsC L.K (L.cA e.1) ∧ PySem.W.kitOne L.K (.ref (L.cA e.1)) (L.tv e.2.1) = some e.2.2
/-- the type of x, with all answers of the tables -/
theorem kit_tab {tb : List (String × TyK × Bool)} {te ti : List (Nat × TyK × Bool)} (ok : TabOk L tb te ti) (hK : X.K = L.K) {pins : List (Addr × Obj)} {s : Shared} {v : V} {u : Value} {d : D} {σ2 : L2.St} (rp : Rep L Γ g σ H) (I : Inv X pins σ2 H s) (rx : RelV v u) (vx : Vw L g H v d) :
    (∃ t, KitOf X s u t ∧ ∀ c k b, c.ck = some k → isTab tb te ti d c = some b → PySem.W.kitOne X.K t (L.tv k) = some b) ∨ ∀ c, isTab tb te ti d c = none := by
  by_cases hx : ∃ n y, d = .exc n y
  · obtain ⟨n, y, rfl⟩ := hx
    by_cases hc : ∃ e ∈ te, e.1 = n
    · refine .inl ⟨.ref (L.cA n), ?_, fun c k b hk h => ?_⟩
      · obtain ⟨e, he, rfl⟩ := hc
        have xc := (ok.e e he).1
        rcases vx with h | ⟨_, _, _, _, e, _⟩ | ⟨_, _, _, _, e, _⟩
        · cases h with
          | @exc a d n f v x e1 e2 e3 t =>
            obtain rfl : u = Value.ref a := rx
            obtain ⟨t1, ho⟩ := exo_at I.hok (rp.sub _ _ e1)
            obtain ⟨mA, hns, hr⟩ := exd_at I.hok (rp.sub _ _ e2)
            obtain ⟨od, hod, hl⟩ := lookIn_ns hns
            exact ⟨_, PySem.DLX.kitx_exc (x := a) (od := some od) (hK ▸ xc), ⟨ho, rfl, rfl, hod⟩, fun z => nomatch z⟩
        · cases e
        · cases e
      · unfold isTab at h
        rw [hk] at h
        simp only at h
        obtain ⟨e, h1, rfl⟩ := Option.map_eq_some_iff.mp h
        have h2 := List.find?_some h1
        simp only [Bool.and_eq_true, decide_eq_true_eq] at h2
        have := (ok.e e (List.mem_of_find?_eq_some h1)).2
        rw [h2.1, h2.2] at this
        exact hK ▸ this
    · refine .inr fun c => ?_
      unfold isTab
      split
      · rfl
      · simp only [Option.map_eq_none_iff, List.find?_eq_none, Bool.and_eq_true, decide_eq_true_eq, not_and]
        exact fun e he h => absurd ⟨e, he, h⟩ hc
  · by_cases hy : ∃ n y, d = .ins n y
    · obtain ⟨n, y, rfl⟩ := hy
      by_cases hc : ∃ e ∈ ti, e.1 = n
      · refine .inl ⟨.ref (L.cA n), ?_, fun c k b hk h => ?_⟩
        · obtain ⟨e, he, rfl⟩ := hc
          have xc := (ok.i e he).1
          rcases vx with h | ⟨_, _, _, _, e, _⟩ | ⟨_, _, _, _, e, _⟩
          · cases h with
            | ins e1 e2 e3 => exact kit_of I rx (.base (.ins (rp.sub _ _ e1) (hK ▸ xc.cl) (hK ▸ xc.ha) (hK ▸ xc.hn) (hK ▸ xc.ht) (hK ▸ xc.hm)))
          · cases e
          · cases e
        · unfold isTab at h
          rw [hk] at h
          simp only at h
          obtain ⟨e, h1, rfl⟩ := Option.map_eq_some_iff.mp h
          have h2 := List.find?_some h1
          simp only [Bool.and_eq_true, decide_eq_true_eq] at h2
          have := (ok.i e (List.mem_of_find?_eq_some h1)).2
          rw [h2.1, h2.2] at this
          exact hK ▸ this
      · refine .inr fun c => ?_
        unfold isTab
        split
        · rfl
        · simp only [Option.map_eq_none_iff, List.find?_eq_none, Bool.and_eq_true, decide_eq_true_eq, not_and]
          exact fun e he h => absurd ⟨e, he, h⟩ hc
    have hd : ∀ c k, c.ck = some k → isTab tb te ti d c = match d.bk with
        | some t => (tb.find? fun e => decide (e.1 = t) && decide (e.2.1 = k)).map (·.2.2)
        | none => none := fun c k hk => by
      unfold isTab
      rw [hk]
      cases d <;> first | rfl | exact absurd ⟨_, _, rfl⟩ hx | exact absurd ⟨_, _, rfl⟩ hy
    cases hb : d.bk with
    | none =>
      refine .inr fun c => ?_
      cases hk : c.ck with
      | none => unfold isTab; rw [hk]
      | some k => rw [hd c k hk, hb]
    | some t =>
      refine .inl ⟨.type t, kit_vw hK rp I rx vx hb, fun c k b hk h => ?_⟩
      rw [hd c k hk, hb] at h
      simp only at h
      obtain ⟨e, h1, rfl⟩ := Option.map_eq_some_iff.mp h
      have h2 := List.find?_some h1
      simp only [Bool.and_eq_true, decide_eq_true_eq] at h2
      have := ok.b e (List.mem_of_find?_eq_some h1)
      rw [h2.1, h2.2] at this
      exact hK ▸ this
theorem ck_val {v : V} {u : Value} {c : D} {k : TyK} (h : c.ck = some k) (t : Den L g v c) (r : RelV v u) : u = L.tv k := by
  cases t <;> cases h
  · exact r
  · exact r
theorem tab_ck {tb : List (String × TyK × Bool)} {te ti : List (Nat × TyK × Bool)} {d c : D} {b : Bool} (h : isTab tb te ti d c = some b) : ∃ k, c.ck = some k := by
  unfold isTab at h
  split at h
  · cases h
  · exact ⟨_, by assumption⟩
theorem any_kit {tb : List (String × TyK × Bool)} {te ti : List (Nat × TyK × Bool)} {d : D} {t : Value} (hc : ∀ c k b, c.ck = some k → isTab tb te ti d c = some b → PySem.W.kitOne X.K t (L.tv k) = some b) : ∀ (cs : List D) (vs : List V) (us : List Value) (b : Bool), DenL L g vs cs → Vals vs us → isAny (isTab tb te ti d) cs = some b →
    PySem.W.kitAny X.K t us = some b := fun cs => by
  induction cs with
  | nil =>
    intro vs us b l r h
    cases l
    cases r
    cases h
    exact kitAny_nil
  | cons c cs ih =>
    intro vs us b l r h
    cases l with
    | cons tl l =>
      cases r with
      | cons rv r =>
        unfold isAny at h
        split at h
        · rename_i e
          cases h
          obtain ⟨k, hk⟩ := tab_ck e
          have eu := ck_val hk tl rv
          subst eu
          exact kitAny_cons (hc c k true hk e) (fun z => nomatch z) (fun _ => rfl)
        · rename_i e
          obtain ⟨k, hk⟩ := tab_ck e
          have eu := ck_val hk tl rv
          subst eu
          exact kitAny_cons (hc c k false hk e) (fun _ => ih _ _ b l r h) (fun z => nomatch z)
        · cases h
theorem ca_isi {tb : List (String × TyK × Bool)} {te ti : List (Nat × TyK × Bool)} (ok : TabOk L tb te ti) (hK : X.K = L.K) : CaD L X DenT (.builtin "isinstance") (fIsi (isTab tb te ti)) := by
  intro pins st σ H xs us Q I r ⟨Γ, g, σ', ds, d, rp, vs, e, w⟩
  unfold fIsi at e
  split at e
  · rename_i x c cs
    obtain ⟨b, hb, rfl⟩ := Option.map_eq_some_iff.mp e
    obtain ⟨v1, v2, rfl, a1, a2⟩ := vs.two
    obtain ⟨u1, u2, rfl, r1, r2⟩ := vals2 r
    obtain ⟨q, ws, rfl, h1, l1, _⟩ := a2.tup rp.sub
    cases (show u2 = Value.ref q from r2)
    obtain ⟨its, rv, ⟨o, ho, hc, n, hd⟩, _⟩ := I.tuple (hK ▸ h1)
    rcases kit_tab ok hK rp I r1 a1 with ⟨t, ⟨P, Z, p, hx⟩, hk⟩ | hn
    · obtain ⟨oc, od, dt, sl⟩ := o
      simp only at hc hd
      subst hc hd
      exact PySem.W.kia_tup Z I.kIn p ho (any_kit hk _ _ _ _ l1 rv hb) hx fun tk => ⟨.bl b, H, I.tok tk, rfl, w _ g H (Stp.refl rp) rfl (.bl b)⟩
    · unfold isAny at hb
      rw [hn c] at hb
      cases hb
  · cases e
  · rename_i x c _ _
    obtain ⟨b, hb, rfl⟩ := Option.map_eq_some_iff.mp e
    obtain ⟨v1, v2, rfl, a1, a2⟩ := vs.two
    obtain ⟨u1, u2, rfl, r1, r2⟩ := vals2 r
    obtain ⟨k, hk⟩ := tab_ck hb
    rcases kit_tab ok hK rp I r1 a1 with ⟨t, ⟨P, Z, p, hx⟩, hq⟩ | hn
    · have eu : u2 = L.tv k := by
        rcases a2 with h | ⟨_, _, _, _, e, _⟩ | ⟨_, _, _, _, e, _⟩
        · exact ck_val hk h r2
        · subst e; cases hk
        · subst e; cases hk
      subst eu
      exact PySem.W.kia_one Z I.kIn p (hq c k b hk hb) hx fun tk => ⟨.bl b, H, I.tok tk, rfl, w _ g H (Stp.refl rp) rfl (.bl b)⟩
    · rw [hn c] at hb
      cases hb
  · cases e
/-! ### class names -/
theorem de_own {x : Str} {n : Nat} (hg : Gl X x) (hm : X.mg x = some (.ref (L.cA n))) (hd : (x == ("__debug__" : Str)) = false := by decide) : DE L X (iLit (.clo n)) (.Name x pos) := de_c (pe_glob (v := .ref (L.cA n)) hg hm rfl hd) fun g => .clo n
theorem de_type {x : Str} {t : String} (hg : Gl X x) (hm : X.mg x = none) (hv : bootBuiltins x = some (.type t)) (hn : x ≠ "__name__" := by decide) (hd : (x == ("__debug__" : Str)) = false := by decide) : DE L X (iLit (.ty t)) (.Name x pos) :=
  de_c (pe_bltn (v := .ty t) hg hm hv rfl hn hd) fun g => .ty t
/-! ### repr -/
def D.shw : D → Option PyData
  | .dct _ [] => some (.dict [])
  | d => if d.pl = true then some d.py else none
def fRepr : List D → Option D
  | [d] => match d.shw with
    | some z => if z.showable = true ∧ z.depth ≤ 20 ∧ z.shown.length ≤ sizeLine then some (.str z.shown) else none
    | none => none
  | _ => none
mutual
theorem D.noDict : ∀ d : D, d.pl = true → d.py.hasDict = false
  | .non, _ | .bl _, _ | .int _, _ | .str _, _ => rfl
  | .tup xs, h => by simp only [D.py, PyData.hasDict]; exact D.noDictL xs (by simpa only [D.pl] using h)
  | .lst xs, h => by simp only [D.py, PyData.hasDict]; exact D.noDictL xs (by simpa only [D.pl] using h)
  | .dct _ _, h | .ins _ _, h | .exc _ _, h | .err _ _, h | .ty _, h | .clo _, h | .rnd, h | .scr _, h | .pr _, h => by simp only [D.pl] at h; cases h
theorem D.noDictL : ∀ ds : List D, D.plL ds = true → PyData.hasDictAll (D.pyL ds) = false
  | [], _ => rfl
  | x :: r, h => by
    simp only [D.plL, Bool.and_eq_true] at h
    simp only [D.pyL, PyData.hasDictAll, D.noDict x h.1, D.noDictL r h.2, Bool.or_self]
end
theorem vw_reads (hK : X.K = L.K) {pins : List (Addr × Obj)} {s : Shared} {v : V} {u : Value} {d : D} {z : PyData} {σ2 : L2.St} (rp : Rep L Γ g σ H) (I : Inv X pins σ2 H s) (rx : RelV v u) (vx : Vw L g H v d) (h : d.shw = some z) :
    ∃ as, Reads s.heap u z as ∧ (z.hasDict = true → sysModules ∉ as) := by
  unfold D.shw at h
  split at h
  · rename_i t0
    cases h
    have go : ∀ q, (Rd H q (.dK []) ∨ Rd H q (.dT [])) → ∃ as, Reads s.heap (.ref q) (.dict []) as ∧ (sysModules ∉ as) := fun q hq => by
      rcases hq with hq | hq
      · obtain ⟨_, hd, vs, r0, dd⟩ := dk_rd I.hok hq
        cases r0
        obtain ⟨o, es, ep, ho, hx, hdat, _, hp, _⟩ := dd
        obtain ⟨es⟩ := es
        cases hp
        exact ⟨_, Reads.dict ho hx.1 hdat .nil .nil, by simpa using fun z => by rw [← z] at hd; simp at hd⟩
      · obtain ⟨_, hd, xs, r0, o, es, ep, ho, hx, hdat, hp, _⟩ := dt_rd I.hok hq
        cases r0
        obtain ⟨es⟩ := es
        cases (show es = [] from hp)
        exact ⟨_, Reads.dict ho hx.1 hdat .nil .nil, by simpa using fun z => by rw [← z] at hd; simp at hd⟩
    have zl : ∀ {α β γ : Type} {ks : List α} {ws : List γ} {ds : List D} {f : α → D}, ks.length = ws.length → ws.length = ds.length → [] = (ks.map f).zip ds → ks = [] ∧ ws = [] := fun {α β γ ks ws ds f} h1 h2 h3 => by
      cases ks with
      | nil => exact ⟨rfl, List.eq_nil_of_length_eq_zero h1.symm⟩
      | cons k ks =>
        cases ds with
        | nil => rw [h2] at h1; simp at h1
        | cons d ds => simp at h3
    rcases vx with h | ⟨q, vs, ds, rfl, e, h1, h2, _⟩ | ⟨q, t, kvs, rfl, e, _, hd⟩
    · generalize hz : D.dct t0 [] = d at h
      cases h with
      | dK e1 e2 e3 =>
        obtain ⟨rfl, rfl⟩ := zl (β := Nat) e2 e3.length ((D.dct.inj hz).2)
        cases rx
        obtain ⟨as, r, hs⟩ := go _ (.inl (.inr ⟨_, rp.sub _ _ e1⟩))
        exact ⟨as, r, fun _ => hs⟩
      | dT e1 e2 e3 =>
        obtain ⟨rfl, rfl⟩ := zl (β := Nat) e2 e3.length ((D.dct.inj hz).2)
        cases rx
        obtain ⟨as, r, hs⟩ := go _ (.inr (.inr ⟨_, rp.sub _ _ e1⟩))
        exact ⟨as, r, fun _ => hs⟩
      | _ => cases hz
    · cases e
    · cases e
      cases rx
      rcases hd with ⟨ks, ws, ds, e1, e2, e3, e4⟩ | ⟨ks, ws, ds, e1, e2, e3, e4⟩
      · obtain ⟨rfl, rfl⟩ := zl (β := Nat) e2 e3.length e4.1
        obtain ⟨as, r, hs⟩ := go _ (.inl (.inl e1))
        exact ⟨as, r, fun _ => hs⟩
      · obtain ⟨rfl, rfl⟩ := zl (β := Nat) e2 e3.length e4.1
        obtain ⟨as, r, hs⟩ := go _ (.inr (.inl e1))
        exact ⟨as, r, fun _ => hs⟩
  · split at h
    · rename_i hp
      cases h
      have dp := vx.dp rp.sub hp
      obtain ⟨as, r⟩ := Dp.reads I d.py v u (hK ▸ dp) rx
      refine ⟨as, r, fun q => ?_⟩
      rw [D.noDict d hp] at q
      cases q
    · cases h
theorem ca_repr (hK : X.K = L.K) (hgd : X.A.guards = some []) (hu : X.A.units + 64 < cLine) : CaD L X DenT (.builtin "repr") fRepr := by
  intro pins st σ H xs us Q I r ⟨Γ, g, σ', ds, d, rp, vs, e, w⟩
  unfold fRepr at e
  split at e
  · split at e
    · rename_i z hz
      split at e
      · rename_i hs
        cases e
        obtain ⟨v, rfl, a⟩ := vs.one
        obtain ⟨u, rfl, rv⟩ := vals1 r
        obtain ⟨as, rd, hsm⟩ := vw_reads hK rp I rv a hz
        have fin : ∀ (h' : Heap) (t : Tok) (tk : Nat), (∀ b o, st.heap.get? b = some o → h'.get? b = some o) → EP X pins σ Q (.str z.shown t) { st with heap := h', toks := tk } := fun h' t tk hk =>
          ⟨.str z.shown, H, I.kept (t' := tk) hk, ⟨t, rfl⟩, w _ g H (Stp.refl rp) rfl (.str _)⟩
        have ref : ∀ q, u = .ref q → wpAny (model X.prog X.w) X.A (call (.builtin "repr") [u]) (EP X pins σ Q) X.xe st := fun q hq => by
          subst hq
          exact repr_of_reads' rd hs.1 hsm hgd (by omega) (fun b o e => e) (fun h' t tk hk => fin h' t tk hk) hs.2.2
        cases rd with
        | none => exact PySem.P.repr_of_none (fin _ _ _ fun b o e => e)
        | bool b => exact PySem.P.repr_of_bool (fin _ _ _ fun b o e => e)
        | int i t => exact PySem.P.repr_of_int (of_decide_eq_true hs.1) (fin _ _ _ fun b o e => e)
        | str x t => exact PySem.P.repr_of_str (fin _ _ _ fun b o e => e) hs.2.2
        | list => exact ref _ rfl
        | tuple => exact ref _ rfl
        | dict => exact ref _ rfl
      · cases e
    · cases e
  · cases e
end
end DL
/-! enumerate, {}. -/
namespace DL
open PySem PySem.Spec L2
section
variable {L : Lx} {X : Cx} {g g' : Gh} {H H' H1 : Hp} {σ : L2.St} {Γ : Env} {W : WX} {pos p : Pos} {i : IE}
def enumD (ds : List D) : List D := (List.range ds.length).map fun k => D.pr [.int (k : Nat), ds.getD k .non]
def iiEn (i : IE) : II := fun Γ => (evs [i] Γ).bind fun ds => match ds with
  | [.lst ds] => .ret (enumD ds)
  | _ => .stuck
theorem wk_enum {a : Addr} {vs : List V} {ds : List D} (h : g.F a = some (.lst vs)) (l : DenL L g vs ds) : Wk L (Ite L.K a) g (enumD ds) where
  step := fun i d Γ g' σ H e r f => by
    unfold enumD at e
    rw [List.getElem?_map] at e
    by_cases hi : i < ds.length
    · rw [List.getElem?_range hi] at e
      cases e
      have e2 : ds[i]? = some ds[i] := List.getElem?_eq_getElem hi
      obtain ⟨v, hv, t⟩ := (l.mono f.F f.mu).get e2
      have hH := r.sub _ _ (f.F _ _ h)
      refine ⟨⟨vs, v, .inl (.inl hH), hv⟩, fun x H' ⟨T, y, ex, nT, eH, q⟩ => ?_⟩
      subst ex eH
      have e3 := q vs (.inl (.inl hH))
      rw [hv] at e3
      cases e3
      refine ⟨g'.put T (.tup [.int (i : Nat), v]), stp_put r nT, rfl, .pr put_F (.cons (.int _) (.cons ?_ .nil))⟩
      rw [List.getD_eq_getElem?_getD, e2]
      exact t.mono (stp_put (o := .tup [.int (i : Nat), v]) r nT).le (stp_put (o := .tup [.int (i : Nat), v]) r nT).mu
    · rw [List.getElem?_eq_none (by simpa using hi)] at e; cases e
  stop := fun Γ g' σ H r f => ⟨vs, .inl (.inl (r.sub _ _ (f.F _ _ h))), by unfold enumD; rw [List.length_map, List.length_range]; exact Nat.le_of_eq l.length⟩
theorem di_enum (hK : X.K = L.K) {i : IE} {e : Expr} {elts : List Expr} {kk : Nat} {tpos : Pos} (hg : Gl X "enumerate") (hm : X.mg "enumerate" = none) (ha : DA L X [i] [e]) (hs : starEach [e] X.env = [(false, eval e X.env)] := by rfl) :
    DI L X (iiEn i) (.Tuple elts kk tpos) (.Call (.Name "enumerate" p) [e] [] pos) := fun W tk => by
  refine PI.imp (pi_enum hg hm (ha W tk) hs) fun σ H R ⟨Γ, g, r, w⟩ => RdA.go r w fun vs H1 ds g1 r1 s t w => ?_
  split at w
  · rename_i ds
    cases t with
    | cons a l =>
      cases a with
      | lst e l2 =>
        cases l
        exact ⟨_, _, rfl, .inl (.inl (r1.sub _ _ e)), w g1 H1 _ s rfl (hK ▸ wk_enum e l2)⟩
  · exact w.elim
/-- what an expression gave may be locked for good -/
theorem pe_lockV {e : Expr} {t : TE} (h : PE X e t) : PE X e (fun σ H Q => t σ H fun v H1 => Q v H1 ∨ ∃ d u, v = .ref d ∧ H1 d = some u ∧ Mut (some u) ∧ ∀ od, Q v (upd H1 d (.frz od u))) := by
  refine ⟨fun pins s σ H Q I hw => ?_⟩
  refine thn (h.run pins s σ H _ I hw) fun v s1 ⟨x, H1, I1, r, q⟩ => ?_
  rcases q with q | ⟨d, u, _, hd, mu, q⟩
  · exact ⟨x, H1, I1, r, q⟩
  · obtain ⟨od, I2⟩ := I1.lock hd mu
    exact ⟨x, _, I2, r, q od⟩
theorem upd_upd' {H : Hp} {p : Addr} {o u : HO} : upd (upd H p o) p u = upd H p u := by
  funext b
  by_cases h : b = p
  · subst h; rw [upd_same, upd_same]
  · rw [upd_ne h, upd_ne h, upd_ne h]
theorem de_dnew : DE L X (iLit (.dct false [])) (.Dict [] [] pos) := fun W tk => PE.imp (pe_lockV pe_dnewK) fun σ H Q ⟨Γ, g, rp, w⟩ => fun p n => by
  refine .inr ⟨p, .dK [], rfl, upd_same, trivial, fun od => ?_⟩
  rw [upd_upd']
  refine w (.ref p) _ _ (stp_put (o := .frz od (.dK [])) rp n) rfl ?_
  exact .dK (o := od) (ks := []) (vs := []) (ds := []) put_F rfl .nil
def RdOF (L : Lx) (f : D → D → Option D) : R2 := fun x y H Q => ∃ Γ g σ dx dy d, Rep L Γ g σ H ∧ Vw L g H x dx ∧ Vw L g H y dy ∧ f dx dy = some d ∧ Wn L FrT g H Q d g.bud
theorem of_addL : OpR X (binaryOp .Add) (RdOF L fAddL) := by
  intro pins st σ H x y v u Q I rx ry ⟨Γ, g, σ', dx, dy, d, rp, vx, vy, e, w⟩
  unfold fAddL at e
  split at e
  · split at e
    · rename_i z
      cases e
      obtain ⟨a, vs, rfl, h1, l1⟩ := vx.lst rp.sub
      obtain ⟨b, ws, rfl, h2, l2⟩ := vy.lst rp.sub
      refine op_cat pins st σ H _ _ v u Q I rx ry ⟨a, b, vs, ws, rfl, rfl, h1, h2, by rw [l1.length, l2.length]; exact z, fun p n => ?_⟩
      exact w _ _ _ (stp_new rp n false) rfl (FrT.new rp (Stp.refl rp) n (l1.append l2))
    · cases e
  · cases e
theorem df_addL {i j : IE} {a b : Expr} (ha : DV L X i a) (hb : DV L X j b) : DF L X (iOp fAddL i j) (.BinOp a .Add b pos) := fun W tk => PE.imp (pe_op of_addL (ha W tk) (hb W tk)) fun σ H Q ⟨Γ, g, rp, w⟩ => by
  refine Rd1.go rp w fun x H1 dx g1 r1 s1 t1 w => Rd1.go r1 w fun y H2 dy g2 r2 s2 t2 w => ?_
  split at w
  · rename_i d e
    exact ⟨Γ, g2, σ, dx, dy, d, r2, t1.step s2, t2, e, fun v g' H' s eb t => w v g' H' (s1.trans (s2.trans s)) eb (frT_back (s1.trans s2) t)⟩
  · exact w.elim
def fPowI := fII (fun i j => decide (0 ≤ j) && (decide (j ≤ 1000000) && decide (i.natAbs < 2 ^ 64))) fun i j => .int (i ^ j.toNat)
theorem od_powI : OpD L X (binaryOp .Pow) fPowI := opd_ii op_pow (fun _ _ h => by
  simp only [Bool.and_eq_true, decide_eq_true_eq] at h
  exact ⟨h.1, h.2.1, h.2.2⟩) fun _ _ _ => .int _
/-- -e -/
def iNeg (i : IE) : IE := fun Γ => (i Γ).bind fun d => match d with
  | .int z => .ret (.int (-z))
  | _ => .stuck
theorem de_neg {i : IE} {a : Expr} (h : DE L X i a) : DE L X (iNeg i) (.UnaryOp .USub a pos) := fun W tk => PE.imp (pe_un un_neg (h W tk)) fun σ H Q ⟨Γ, g, rp, w⟩ => by
  refine Rd1.go rp w fun x H1 dx g1 r1 s1 t1 w => ?_
  split at w
  · rename_i z
    cases t1
    exact ⟨z, rfl, w _ g1 H1 s1 rfl (.int _)⟩
  · exact w.elim
end
end DL
/-! The end: the law called by the claim's caller. -/
namespace DL
open PySem PySem.Spec PyProof.Rows L2
/-- the promise of a law's def at the entry -/
theorem spd_law {L : Lx} {m : List D → M D} {H : Hp} {a : Addr} {ns : List Int} (hT : L.T = []) (hE : L.er = none) (hF : ∀ a ps, H a ≠ some (.tbl ps)) (hS : SqL L.K H a (ns.map V.int)) (hm : (m [.scr ns]).wpB (lim + 1) (fun d _ => d = .bl true) (fun _ _ => False)) :
    SpD L m [.ref a] H (fun v _ => v = .bl true) fun _ _ _ => False := by
  refine ⟨[], ⟨H, none, lim + 1, hF⟩, [], [.scr ns], ⟨fun _ _ e => e, ⟨fun _ => rfl, fun m e => (by cases e)⟩, ⟨fun p hp => (by rw [hT] at hp; cases hp), fun _ _ _ _ h => (by rw [hE] at h; cases h)⟩, fun i b e => (by simp at e), fun i j b c p e => (by simp at e), fun b o e i => ?_, rfl⟩, .cons (.scr hS) .nil, ?_⟩
  · obtain ⟨m, e, _⟩ := i
    cases e
  · refine M.wpB_mono (fun d b e v g' H' s eb t => ?_) (fun _ _ f => f.elim) _ _ hm
    subst e
    cases t
    rfl
theorem law_callG {L : Lx} {P : Program} {w : World} {mg mb : Str → Option Value} {k : Nat} {fa a : Addr} {fd : FuncData} {x : Str} {m : List D → M D} {s₁ : Shared} {vs : List Value} {ns : List Int} (hT : L.T = []) (hE : L.er = none)
    (KX : L.K.In s₁.heap) (hns : s₁.heap.Ns mainGlobals mg) (hb : s₁.heap.Ns builtinsNs mb) (hbb : ∀ x : Str, x ≠ "__name__" → mb x = bootBuiltins x) (hlim : s₁.heap.NoLimit) (hg : s₁.gens = #[])
    (ha : s₁.heap.get? a = some { cls := .type "list", data := .seq vs.toArray }) (hi : IntsAre vs ns) (hl : ns.length ≤ sizeLine) (hr : Room k callerA)
    (F : ∀ base : Heap, L.K.In base → base.Ns mainGlobals mg → FG L P w mg base k fa fd [x] m) (hbind : ∀ (s : Shared) (u : Value), BindsTo s fd ⟨[u], []⟩ [(x, u)])
    (hm : (m [.scr ns]).wpB (lim + 1) (fun d _ => d = .bl true) (fun _ _ => False)) :
    codeAny (model P w) callerA (.call (.ref fa) ⟨[.ref a], []⟩) (fun r s' => r = .ok (.ret (.bool true)) ∧ OldK s₁.heap s'.heap ∧ s'.os = s₁.os ∧ AllBare s'.gens) s₁ := by
  have rv := vals_ints hi
  have core : ∀ H : Hp, Only H → SqL L.K H a (ns.map V.int) → HOk P w H s₁.heap → (∀ b, H b ≠ none → b = a) → (H a ≠ none → L.K.lookup a = none) →
      codeAny (model P w) callerA (.call (.ref fa) ⟨[.ref a], []⟩) (fun r s' => r = .ok (.ret (.bool true)) ∧ OldK s₁.heap s'.heap ∧ s'.os = s₁.os ∧ AllBare s'.gens) s₁ := by
    intro H hO hS hok hA hK
    have here : ∀ {b : Addr}, H b ≠ none → b = a := fun {b} h => hA b h
    have notA : ∀ {b : Addr} {o : Obj} {es : Array DictEntry} {ep : Nat}, s₁.heap.get? b = some o → o.data = .dict es ep → H b = none := fun {b o es ep} e d => by
      by_cases q : H b = none
      · exact q
      · have e' := here q
        subst e'
        rw [ha] at e
        cases e
        have d' : Data.seq vs.toArray _ = Data.dict es ep := d
        cases d'
    have nsK : ∀ {b : Addr} {m : Str → Option Value}, s₁.heap.Ns b m → (hidT s₁.heap H).Ns b m := fun {b m} ⟨o, es, ep, e, d, r⟩ => ⟨o, es, ep, hidT_get e (notA e d), d, r⟩
    have inK : L.K.In (hidT s₁.heap H) := fun b o e => hidT_get (KX b o e) (by
      by_cases q : H b = none
      · exact q
      · have e' := here q
        subst e'
        rw [hK q] at e
        cases e)
    have hM : Mod L.K mg (hidT s₁.heap H) := ⟨inK, nsK hns, ⟨mb, nsK hb, hbb⟩, let ⟨mc, h1, h2⟩ := hlim; ⟨mc, nsK h1, h2⟩⟩
    have e0 : Env0 P w L.K mg (hidT s₁.heap H) callerA [] s₁ H :=
      ⟨rfl, hM, fun b o e => of_hidT e, Nat.le_of_eq (hidT_size _ _), trivial, fun b hb => absurd (show b ∈ ([] : List Addr) from hb) (by simp), hok, .of_eq hg⟩
    refine codeAny_mono ((F _ inK (nsK hns)).go callerA [] s₁ H ⟨[.ref a], []⟩ [.ref a] [.ref a] _ _ hr rfl e0 (hbind s₁ (.ref a)) (.cons rfl .nil) rfl (spd_law hT hE (fun b ps z => by
      rcases hO b with q | ⟨ob, xs, q⟩
      · rw [q] at z; cases z
      · rw [q] at z; cases z) hS hm)) fun r s' h => ?_
    cases r with
    | error e =>
      obtain ⟨_, _, _, _, _, _, _, _, _, _, _, _, z⟩ := h
      exact z.elim
    | ok fl =>
      cases fl with
      | next => exact False.elim h
      | brk => exact False.elim h
      | cont => exact False.elim h
      | ret u =>
        obtain ⟨v, H', os, bare, un, hok', r', q⟩ := h
        have q' : v = .bl true := q
        subst q'
        obtain rfl : u = Value.bool true := r'
        refine ⟨rfl, OldK.of_keep fun b o e => ?_, os, bare⟩
        cases q : H b with
        | none => exact un.keep b o e q (fun z => absurd (show b ∈ ([] : List Addr) from z) (by simp)) (by simp)
        | some u =>
          rcases hO b with z | ⟨ob, xs, z⟩
          · rw [q] at z
            cases z
          · obtain ⟨e1, _⟩ := hok b _ z
            obtain ⟨e2, _⟩ := hok' b _ (un.frzs b ob _ z)
            rw [e] at e1
            cases e1
            exact e2
  have fits : vs.toArray.size ≤ sizeLine := by
    rw [List.size_toArray, hi.length]
    exact hl
  cases hk : L.K.lookup a with
  | some o =>
    have e := KX a o hk
    rw [ha] at e
    cases e
    refine core (fun _ => none) (fun _ => .inl rfl) (.inr ⟨_, vs.toArray, _, hk, rfl, rfl, rfl, fits, by simpa using rv⟩) (fun b u z => ?_) (fun b z => absurd rfl z) fun z => absurd rfl z
    have z' : (none : Option HO) = some u := z
    cases z'
  | none =>
    have at_ : ∀ b, b ≠ a → (if b = a then some (HO.frz { cls := .type "list", data := .seq vs.toArray } (.lst (ns.map V.int))) else none) = none := fun b h => if_neg h
    refine core (fun b => if b = a then some (.frz { cls := .type "list", data := .seq vs.toArray } (.lst (ns.map V.int))) else none) (fun b => ?_) (.inl (.inr ⟨{ cls := .type "list", data := .seq vs.toArray }, if_pos rfl⟩)) (fun b u z => ?_) (fun b z => ?_) fun _ => hk
    · by_cases h : b = a
      · exact .inr ⟨_, _, if_pos h⟩
      · exact .inl (at_ b h)
    · by_cases h : b = a
      · have z' := (if_pos h).symm.trans z
        cases z'
        subst h
        exact ⟨ha, by rw [List.length_map]; exact hl, vs, _, rv, ha⟩
      · exact absurd ((at_ b h).symm.trans z) (by simp)
    · by_cases h : b = a
      · exact h
      · exact absurd (at_ b h) z
end DL
namespace DLH
open PySem PySem.Spec PyProof.Rows L2
/-! ### a hook with conditions of one's own -/
abbrev AlX : Type := Bool × He.AlD
def obsX (n : Nat) (xb : PySem.W.Frag → Bool) (fa : List He.Fa) (fn : List He.DefD) (g : Addr → Option Obj) : AlX := (xb (He.frG g (He.asD g n)), He.obsD fa fn (He.frG g (He.asD g n)))
def hookX (n : Nat) (xb : PySem.W.Frag → Bool) (fa : List He.Fa) (fn : List He.DefD) : PySem.W.Hook where
  α := AlX
  obs := fun s => obsX n xb fa fn s.heap.get?
  val := fun _ => (true, He.valD fn)
  says := fun _ h => ∃ K : PySem.W.Frag, K.In h ∧ xb K = true ∧ He.SaysD fa fn K
  of := fun _ s e => ⟨He.frG s.heap.get? (He.asD s.heap.get? n), He.frG_in, congrArg (fun z : AlX => z.1) e, congrArg (fun z : AlX => z.2) e⟩
  keeps := fun _ _ _ ⟨K, hK, b, c⟩ k => ⟨K, PySem.W.Frag.In.keeps hK k, b, c⟩
theorem obsX_eq {n : Nat} {xb : PySem.W.Frag → Bool} {fa : List He.Fa} {fn : List He.DefD} {g : Addr → Option Obj} {s : Shared} (h : ∀ a, g a = s.heap.get? a) : obsX n xb fa fn g = (hookX n xb fa fn).obs s := by
  have e : g = s.heap.get? := funext h
  rw [e] <;> rfl
theorem fun_of {K : PySem.W.Frag} {x qual : Str} {st : Stmt} {f : Addr} {fd : FuncData} (F : FunD K x qual (defArgs st) (defBody st) (defScope st) [] [] f fd) : Fun K x qual st f fd := by
  obtain ⟨oc, od, dV, kV, doc, pm, an, cdv, ct, osl, rfl, lk, hcd, hD, hK⟩ := F.ex
  rcases hD with ⟨_, rfl⟩ | ⟨e, _⟩
  · exact ⟨⟨oc, od, kV, doc, pm, an, cdv, ct, osl, rfl, lk, hcd⟩, F.kp⟩
  · exact absurd rfl e
/-- what the top must show of an own exception class -/
def exB (K : PySem.W.Frag) (C : Addr) (f : Str) (bm : List Value) (newId : String) : Bool :=
  PySem.W.excInitIn K C bm newId && (PySem.W.excOver K C bm && (decide (PySem.W.takerIn K C f = some none) && (He.eqO (PySem.W.findIn K (.ref C) "__setattr__") (some (some (.builtin "object.__setattr__"))) &&
  (He.eqO (PySem.W.findIn K (.ref C) "__getattribute__") (some (some (.builtin "BaseException.__getattribute__"))) && (He.eqO (PySem.W.findIn K (.ref C) "__getattr__") (some none) && (He.eqO (PySem.W.findIn K (.ref C) f) (some none) &&
  (He.eqO (PySem.W.findIn K (.ref C) "__init__") (some (some (.ref (He.ma K C "__init__")))) && (decide (PySem.W.typeIn K (.ref (He.ma K C "__init__")) = some (.type "function")) && (PySem.W.keepIn K (.ref C) &&
  (decide (PySem.W.subIn K (.ref C) (.type "BaseException") = some true) && (decide (PySem.W.typeIn K (.ref C) = some (.type "type")) && PySem.W.hasDictIn K C)))))))))))
def icB (K : PySem.W.Frag) (C : Addr) : Bool :=
  He.eqO (PySem.W.findIn K (.ref C) "__getattribute__") (some (some (.builtin "BaseException.__getattribute__"))) && (He.eqO (PySem.W.findIn K (.ref C) "__getattr__") (some none) && (decide (PySem.W.subIn K (.ref C) (.type "BaseException") = some true) &&
  (PySem.W.hasDictIn K C && (He.eqO (PySem.W.findIn K (.ref C) "__class__") (some (some (.builtin "object.__class__"))) && (He.eqO (PySem.W.specialIn K (.builtin "object.__class__") "__get__") (some (some (.builtin "getset_descriptor.__get__"))) &&
  (decide (PySem.W.takesIn K (.builtin "object.__class__") = some true) && decide (PySem.W.mroIn K C (.type "object") = some true)))))))
theorem icB_ok {K : PySem.W.Frag} {C : Addr} (h : icB K C = true) : ExcC K C := by
  obtain ⟨h1, h⟩ := He.ba h
  obtain ⟨h2, h⟩ := He.ba h
  obtain ⟨h3, h⟩ := He.ba h
  obtain ⟨h4, h⟩ := He.ba h
  obtain ⟨h5, h⟩ := He.ba h
  obtain ⟨h6, h⟩ := He.ba h
  obtain ⟨h7, h8⟩ := He.ba h
  exact ⟨He.eqO_ok h1, He.eqO_ok h2, of_decide_eq_true h3, h4, He.eqO_ok h5, He.eqO_ok h6, of_decide_eq_true h7, of_decide_eq_true h8⟩
theorem exB_ok {K : PySem.W.Frag} {C : Addr} {f qn : Str} {B newId initId : String} {bm : List Value} {fd : FuncData} {p1 p2 q1 q2 q3 q4 : Pos} (FB : ExcBaseFacts B newId initId bm) (SF : StoreFacts B bm "object.__setattr__" "object") (h : exB K C f bm newId = true)
    (hf : f = "value" ∨ f = "place" ∨ f = "line" ∨ f = "most") (hqn : qn.length ≤ 200) (F : FunD K "__init__" qn (PySem.DLX.xA f p1 p2) (PySem.DLX.xB f q1 q2 q3 q4) (PySem.DLX.xS f) [] [] (He.ma K C "__init__") fd) :
    PySem.DLX.ExT K C (He.ma K C "__init__") f qn B newId initId bm := by
  obtain ⟨h1, h⟩ := He.ba h
  obtain ⟨h2, h⟩ := He.ba h
  obtain ⟨h3, h⟩ := He.ba h
  obtain ⟨h4, h⟩ := He.ba h
  obtain ⟨h5, h⟩ := He.ba h
  obtain ⟨h6, h⟩ := He.ba h
  obtain ⟨h7, h⟩ := He.ba h
  obtain ⟨h8, h⟩ := He.ba h
  obtain ⟨h9, h⟩ := He.ba h
  obtain ⟨h10, h⟩ := He.ba h
  obtain ⟨h11, h⟩ := He.ba h
  obtain ⟨h12, h13⟩ := He.ba h
  obtain ⟨oc, od, dV, kV, doc, pm, an, cdv, ct, osl, rfl, lk, hcd, hD, hK⟩ := F.ex
  rcases hD with ⟨_, rfl⟩ | ⟨e, _⟩
  · exact ⟨FB, SF, h1, h2, of_decide_eq_true h3, He.eqO_ok h4, He.eqO_ok h5, He.eqO_ok h6, He.eqO_ok h7, He.eqO_ok h8, of_decide_eq_true h9, h10, of_decide_eq_true h11, of_decide_eq_true h12, h13, hf, hqn, ⟨oc, od, kV, doc, pm, an, cdv, ct, osl, p1, p2, q1, q2, q3, q4, lk, hcd⟩⟩
  · exact absurd rfl e
end DLH
/-! raise of an own exception. -/
namespace DL
open PySem PySem.Spec L2
section
variable {L : Lx} {X : Cx} {g g' : Gh} {H H' H1 : Hp} {σ : L2.St} {Γ : Env} {W : WX} {pos p : Pos} {i : IE}
variable {C fI : Addr} {f qn : Str} {B newId initId : String} {bmB : List Value} {n : Nat} {x : Str} {a : Expr}
/-- C(e), to be raised: the exception let go, its dict tracked -/
def tMkx (f : Str) (C : Addr) (ta : TA) : St → Hp → XK → Prop := fun σ H Q => ta σ H fun vs H1 => ∃ v, vs = [v] ∧ ∀ d, H1 d = none → Q (.ref C) (some d) (upd H1 d (.xd [(f, v)]))
theorem pmk_x {ta : TA} (T : PySem.DLX.ExT X.K C fI f qn B newId initId bmB) (hr : X.A.depth + 1 < recursionLimit) (hg : Gl X x) (gC : X.mg x = some (.ref C)) (ha : PA X [a] ta)
    (hdb : (x == ("__debug__" : Str)) = false := by decide) (he : starEach (a :: []) X.env = (false, eval a X.env) :: starEach [] X.env := by rfl) (hpl : (backTo pos (starEach [] X.env)).any (·.1) = false := by rfl) :
    PMk X (.Call (.Name x p) [a] [] pos) (tMkx f C ta) := by
  intro pins s σ H Q I h
  refine wpAny_Call_Name_kw (ld_glob I hg gC ?_ hdb)
  refine PySem.W.callWith_K (h₀ := X.base) I.ok.mod.kin T.kC (thn (ha.run pos pins s σ H _ I h) fun us s1 ⟨vs, H1, I1, r1, v, ev, q1⟩ => ⟨I1.kIn, ?_⟩) he hpl
  subst ev
  cases r1 with
  | @cons _ v' _ us' rv rn =>
    cases rn
    have hlim := I1.nolimit
    obtain ⟨hp, gg, dr, tk, os⟩ := s1
    show wpAny _ _ (call (.ref C) [v']) _ _ _
    refine wpAny_call (PySem.DLX.x_made T false I1.kIn hlim hr fun h' tk' e d t1 M => ?_)
    show MkP X pins σ Q (.ref e) ⟨h', gg, dr, tk', os⟩
    obtain ⟨G, k1, k2⟩ := restrict h' fun b => decide (b ≠ e)
    have gk : ∀ b, b ≠ e → G.get? b = h'.get? b := fun b hb => k1 b (decide_eq_true hb)
    have ge : G.get? e = none := k2 e (by simp)
    have lt : ∀ {b : Addr} {o : Obj}, hp.get? b = some o → b ≠ e := fun {b o} q => Nat.ne_of_lt (Nat.lt_of_lt_of_le (Heap.lt_size q) M.new)
    have ob : ObjOk X.prog X.w (upd H1 d (.xd [(f, v)])) G d (.xd [(f, v)]) := ⟨_, M.ns.at (fun o q => (gk d M.dne).trans q), relO_put (fs := []) rv fun g => True.intro⟩
    have J : Inv X pins σ (upd H1 d (.xd [(f, v)])) ⟨G, gg, dr, tk', os⟩ := I1.laid (t' := tk') (fun b o q => (gk b (lt q)).trans (M.keep b o q)) M.dbig ob
    refine ⟨e, _, _, ⟨G, gg, dr, tk', os⟩, _, .ref C, some d, rfl, J, fun b o q => ?_, ge, M.obj, ⟨rfl, rfl⟩, rfl, rfl, ?_, rfl, I1.bare, raises_own T.exC T.tyC, q1 d (I1.hok.fresh M.dbig)⟩
    · by_cases hb : b = e
      · have q' : G.get? b = some o := q
        rw [hb, ge] at q'
        cases q'
      · exact (gk b hb).symm.trans q
    · rw [upd_ne (Ne.symm M.dne)]
      exact I1.hok.fresh M.new
/-- raise C(e) -/
def sRaise (n : Nat) (i : IE) : IS := fun Γ => (i Γ).bind fun d => .exc ⟨n, d⟩
theorem ds_raise {pos2 : Pos} (hc : X.calm = true) (T : PySem.DLX.ExT X.K C fI f qn B newId initId bmB) (hC : L.cA n = C) (hf : L.cF n = [f]) (hr : X.A.depth + 1 < recursionLimit) (hg : Gl X x) (gC : X.mg x = some (.ref C)) (h : DE L X i a)
    (hdb : (x == ("__debug__" : Str)) = false := by decide) (he : starEach (a :: []) X.env = (false, eval a X.env) :: starEach [] X.env := by rfl) (hpl : (backTo pos (starEach [] X.env)).any (·.1) = false := by rfl) :
    DS L X (sRaise n i) (.Raise (some (.Call (.Name x p) [a] [] pos)) none pos2) := fun W g0 H0 tk => by
  refine PS.imp (ps_raise hc tk (pmk_x T hr hg gC (pa_cons (h W tk) pa_nil he) hdb he hpl)) fun Dn σ H ⟨Γ, g, r, w⟩ => Rd1.goS r w fun v H1 d g1 r1 s t w => ⟨v, rfl, fun da nd => ?_⟩
  have s2 := stp_new (o := .xd [(f, v)]) r1.rep nd false
  exact w (.ref C) (some da) g1 σ _ (r1.base.trans s2) rfl ⟨by rw [← hC], da, f, v, rfl, hf, upd_same, t⟩
end
end DL
/-! try with several clauses, each with a name or without one. -/
namespace L2
open PySem PySem.Spec PyProof.Rows
abbrev SuT := Addr → Value → Option Addr → TS
/-- the ends of a suite whose error stood in slot i -/
def Ends.bare (D : Ends) (i : Nat) : Ends := { nx := fun σ H => D.nx (σ.set i none) H, rt := D.rt, bk := fun σ H => D.bk (σ.set i none) H, ct := fun σ H => D.ct (σ.set i none) H }
def suAt (o : Option Nat) (ts : SuT) (D : Ends) (cls : Value) (d : Option Addr) (σ : St) (H : Hp) (a : Addr) : Prop := match o with
  | none => ts a cls d D σ H
  | some i => ts a cls d (D.bare i) (σ.set i (some (.ref a))) H
def wEach (K : PySem.W.Frag) (Wout : WX) (D : Ends) : List (Value × Option Nat × SuT) → WX
  | [] => Wout
  | (c, o, ts) :: r => fun cls d σ H => ∃ b, PySem.W.exmOne K cls c = some b ∧ (b = true → ∀ a, H a = none → suAt o ts D cls d σ H a) ∧ (b = false → wEach K Wout D r cls d σ H)
inductive HdE (X : Cx) : List ExceptHandler → List (Value × Option Nat × SuT) → Prop
  | nil : HdE X [] []
  | one {x : Str} {c : Value} {ts : SuT} {b₀ : Stmt} {suite : List Stmt} {np pos' : Pos} {hds : List ExceptHandler} {l : List (Value × Option Nat × SuT)} (hc : Names X x c)
      (su : ∀ (a : Addr) (oe : Obj) (cls : Value) (d : Option Addr) (pn : List (Addr × Obj)), Zc cls d oe → (∃ vs, oe.data = .fields vs) → PSs (X.suite a ((a, oe) :: pn)) (b₀ :: suite) (ts a cls d)) (r : HdE X hds l) :
      HdE X (.ExceptHandler (some (.Name x np)) none (b₀ :: suite) pos' :: hds) ((c, none, ts) :: l)
  | as {x n : Str} {i : Nat} {c : Value} {ts : SuT} {b₀ : Stmt} {suite : List Stmt} {np pos' : Pos} {hds : List ExceptHandler} {l : List (Value × Option Nat × SuT)} (hc : Names X x c) (hi : X.N[i]? = some n) (hln : X.env.kindOf n = some .local)
      (su : ∀ (a : Addr) (oe : Obj) (cls : Value) (d : Option Addr) (pn : List (Addr × Obj)), Zc cls d oe → (∃ vs, oe.data = .fields vs) → PSs (X.suite a ((a, oe) :: pn)) (b₀ :: suite) (ts a cls d)) (r : HdE X hds l) :
      HdE X (.ExceptHandler (some (.Name x np)) (some n) (b₀ :: suite) pos' :: hds) ((c, some i, ts) :: l)
section
variable {X : Cx} {body : List Stmt} {h₀ : ExceptHandler} {hds : List ExceptHandler} {l : List (Value × Option Nat × SuT)} {pos : Pos} {tb : WX → TS} {Wout : WX}
theorem ps_tryE (hs : X.stack = X.env :: X.outer) (hf : X.env.frame = some X.env.locals) (hN : X.N.Nodup) (tk : Takes X Wout)
    (hb : ∀ (W : WX) (pn : List (Addr × Obj)) (xe : Value → Shared → Prop), Takes (X.tr pn xe) W → PassesOwn (model X.prog X.w) X.A X.env xe → PSs (X.tr pn xe) body (tb W))
    (hh : HdE X (h₀ :: hds) l) : PS X (.Try body (h₀ :: hds) [] [] pos) (fun D σ H => tb (wEach X.K Wout D l) D σ H) := by
  refine ⟨fun pins s σ H D I h => ?_⟩
  have ok := I.ok
  have fr : X.A.frames = some (X.env :: X.outer) := by rw [ok.frames, hs]
  refine wpAny_Try_except ?_
  refine wpAny_mono ((hb (wEach X.K Wout D l) (X.pn ++ pins) (fun e s₁ => wpAny (model X.prog X.w) X.A (noteFrame e X.env) (fun _ s₂ => wpAny (model X.prog X.w) X.A (setFlight e none) (fun _ s₃ =>
    wpAny (model X.prog X.w) X.A (handleBy e X.env (h₀ :: hds)) (SP X pins D) X.xe s₃) X.xe s₂) X.xe s₁) (fun u t xx => ?_) PassesOwn.looking).run [] s σ H D (I.toTry _) h) (fun f t hsp => ?_) (fun _ _ he => he)
  · obtain ⟨a, B, sB, pinsB, τ, HB, cls, d, rfl, JT, nb, up, sky, na, os, ag, w⟩ := xx
    have J : Inv X pins τ HB sB := JT.ofTry ok
    have sky2 : Sky B (X.env :: X.outer) a (Zc cls d) X.env.locals t.heap := by rw [← hs]; exact sky
    show wpAny (model X.prog X.w) X.A (noteFrame (.ref a) X.env) _ _ _
    refine Sky.land Zc.steady fr hf sky2 fun h3 fl3 up3 => ?_
    have J3 : Inv X pins τ HB { t with heap := h3 } := J.landed nb fl3.1 (up.trans up3) os ag
    obtain ⟨o3, vs3, g3, z3, d3⟩ := fl3.there
    have apart : a ∉ frs (X.env :: X.outer) := fun hm => by
      obtain ⟨_, o', e', hnf⟩ := fl3.2.2.1.mem hm
      rw [g3] at e'
      cases e'
      exact hnf _ d3
    have nL : a ≠ X.env.locals := fun z => apart (List.mem_filterMap.mpr ⟨X.env, List.mem_cons_self, by rw [hf, z]⟩)
    have nF : a ∉ X.fs := fun hm => by
      obtain ⟨e, he, q⟩ := List.mem_filterMap.mp hm
      exact apart (List.mem_filterMap.mpr ⟨e, List.mem_cons_of_mem _ he, q⟩)
    have S3 := J3.suite g3 d3 na nL nF
    have LT : PySem.W.Looks (model X.prog X.w) h3 (typeOf (.ref a)) cls := fun A Q E s k q => wpAny_typeOf_ref (k _ _ g3) (by rw [z3.1]; exact q)
    have named : ∀ {x : Str} {c : Value} {np : Pos} {Q : Value → Shared → Prop} {E : Value → Shared → Prop}, Names X x c → Q c { t with heap := h3 } →
        wpAny (model X.prog X.w) (X.A.mark (some (.ref a))) (eval (.Name x np) X.env) Q E { t with heap := h3 } := fun {x c np Q E} hc q => by
      obtain ⟨hg, hdbg, hm | ⟨hm, hv, hnn⟩⟩ := hc
      · exact ld_glob (X := X.suite a ((a, o3) :: (X.pn ++ pins))) S3 hg hm q hdbg
      · exact ld_blt (X := X.suite a ((a, o3) :: (X.pn ++ pins))) S3 hg hm hv q hnn hdbg
    have go : ∀ {hds' : List ExceptHandler} {l' : List (Value × Option Nat × SuT)}, HdE X hds' l' → wEach X.K Wout D l' cls d τ HB →
        wpAny (model X.prog X.w) X.A (handleBy (.ref a) X.env hds') (SP X pins D) X.xe { t with heap := h3 } := by
      intro hds' l' hk
      induction hk with
      | nil =>
        intro w
        refine wpAny_handleBy_nil ?_
        obtain ⟨k1, k2, k3, oe, vs, T, oT, tz, he, hz, hd, h1, hr⟩ := id fl3
        unfold PySem.passOn
        refine wpAny_bind (wpAny_field he hd h1 ?_)
        rw [if_neg (show ¬ ((Value.ref T == Value.none) = true) from by simp)]
        have fin : wpAny (model X.prog X.w) X.A (setFlight (.ref a) X.env.frame) (fun _ s4 => wpAny (model X.prog X.w) X.A (throw (.ref a) : Sem Flow) (SP X pins D) X.xe s4) X.xe { t with heap := h3 } := by
          rw [hf]
          refine HandSPX.setFlight_upZ fl3 fun h4 up5 up4 => wpAny_throw (tk _ _ ?_)
          exact ⟨a, B, sB, pins, τ, HB, cls, d, rfl, J, nb, (up.trans up3).trans up4, .inr (.inr (by rw [hs]; exact up5)), na, os, ag, w⟩
        first
          | exact wpAny_bind (wpAny_pure (wpAny_bind fin))
          | exact wpAny_bind fin
      | @one x c ts b₀ suite np pos' hds2 l2 hc su r ih =>
        intro w
        obtain ⟨b, hb1, yes, no⟩ := w
        refine wpAny_handleBy_cons (codeAny_handlers_test ?_) (by intro q; cases q)
        refine named hc ((PySem.W.exm_one (M := model X.prog X.w) J3.kIn LT hb1).here ?_)
        cases b with
        | false => exact ih (no rfl)
        | true =>
          refine codeAny_handlers_suite ?_
          refine HandSPX.lands_againZ fl3 fun h4 fl4 up4 => ?_
          obtain ⟨o4, vs4, g4, z4, d4⟩ := fl4.there
          have S4 := (J.landed (s' := { t with heap := h4 }) nb fl4.1 ((up.trans up3).trans up4) os ag).suite g4 d4 na nL nF
          refine wpAny_mono ((su a o4 cls d (X.pn ++ pins) z4 ⟨_, d4⟩).run [] _ _ HB _ S4 (yes rfl a na)) (fun f s6 hsp => ?_) (fun _ _ z => False.elim z)
          cases f with
          | ret u =>
            obtain ⟨v6, σ6, H6, S6, r6, q6⟩ := hsp
            exact ⟨_, _, _, S6.unsuite ok, r6, q6⟩
          | next => obtain ⟨σ6, H6, S6, q6⟩ := hsp; exact ⟨_, _, S6.unsuite ok, q6⟩
          | brk => obtain ⟨σ6, H6, S6, q6⟩ := hsp; exact ⟨_, _, S6.unsuite ok, q6⟩
          | cont => obtain ⟨σ6, H6, S6, q6⟩ := hsp; exact ⟨_, _, S6.unsuite ok, q6⟩
      | @as x n i c ts b₀ suite np pos' hds2 l2 hc hi hln su r ih =>
        intro w
        obtain ⟨b, hb1, yes, no⟩ := w
        refine wpAny_handleBy_cons (codeAny_handlers_test ?_) (by intro q; cases q)
        refine named hc ((PySem.W.exm_one (M := model X.prog X.w) J3.kIn LT hb1).here ?_)
        cases b with
        | false => exact ih (no rfl)
        | true =>
          refine codeAny_handlers_suite_as ?_
          refine HandSPX.lands_againZ fl3 fun h4 fl4 up4 => ?_
          obtain ⟨o4, vs4, g4, z4, d4⟩ := fl4.there
          have S4 := (J.landed (s' := { t with heap := h4 }) nb fl4.1 ((up.trans up3).trans up4) os ag).suite g4 d4 na nL nF
          refine store_ok (X := X.suite a ((a, o4) :: (X.pn ++ pins))) (v := .ref a) S4 hN hi (.inl hln) rfl (fun s5 S5 => ?_) (.inr hln)
          refine wpAny_mono ((su a o4 cls d (X.pn ++ pins) z4 ⟨_, d4⟩).run [] s5 _ HB _ S5 (yes rfl a na)) (fun f s6 hsp => ?_) (fun _ _ z => False.elim z)
          have fine : ∀ {σ6 : St} {H6 : Hp} {Q : Shared → Prop}, Inv (X.suite a ((a, o4) :: (X.pn ++ pins))) [] σ6 H6 s6 → (∀ s7, Inv X pins (σ6.set i none) H6 s7 → Q s7) →
              wpAny (model X.prog X.w) X.A (do bindName X.env n .none; unbindBehindTheSuite X.env n pos') (fun _ s7 => Q s7) X.xe s6 := fun {σ6 H6 Q} S6 hq => gone_ok (S6.unsuite ok) hN hi hln hq
          cases f with
          | ret u =>
            obtain ⟨v6, σ6, H6, S6, r6, q6⟩ := hsp
            exact fine S6 fun s7 J7 => ⟨_, _, _, J7, r6, q6⟩
          | next => obtain ⟨σ6, H6, S6, q6⟩ := hsp; exact fine S6 fun s7 J7 => ⟨_, _, J7, q6⟩
          | brk => obtain ⟨σ6, H6, S6, q6⟩ := hsp; exact fine S6 fun s7 J7 => ⟨_, _, J7, q6⟩
          | cont => obtain ⟨σ6, H6, S6, q6⟩ := hsp; exact fine S6 fun s7 J7 => ⟨_, _, J7, q6⟩
    exact go hh w
  · cases f with
    | ret u =>
      obtain ⟨v, τ, HB, JT, r, q⟩ := hsp
      exact ⟨v, τ, HB, JT.ofTry ok, r, q⟩
    | next => obtain ⟨τ, HB, JT, q⟩ := hsp; exact wpAny_execs_nil ⟨τ, HB, JT.ofTry ok, q⟩
    | brk => obtain ⟨τ, HB, JT, q⟩ := hsp; exact ⟨τ, HB, JT.ofTry ok, q⟩
    | cont => obtain ⟨τ, HB, JT, q⟩ := hsp; exact ⟨τ, HB, JT.ofTry ok, q⟩
end
end L2
/-! Fields of instances; what is done with a run that raises. -/
namespace DL
open PySem PySem.Spec L2
theorem lookup_zip {f : Str} {v : V} : ∀ {ns : List Str} {vs : List V} {j : Nat}, ns.Nodup → ns[j]? = some f → vs[j]? = some v → (ns.zip vs).lookup f = some v := fun {ns} => by
  induction ns with
  | nil => intro vs j _ h; simp at h
  | cons n ns ih =>
    intro vs j nd h1 h2
    cases vs with
    | nil => simp at h2
    | cons w vs =>
      rw [List.zip_cons_cons, List.lookup_cons]
      cases j with
      | zero =>
        simp only [List.getElem?_cons_zero, Option.some.injEq] at h1 h2
        subst h1 h2
        simp
      | succ j =>
        simp only [List.getElem?_cons_succ] at h1 h2
        have nd2 := List.nodup_cons.mp nd
        have hm : f ∈ ns := List.mem_of_getElem? h1
        have e : (f == n) = false := by
          rw [beq_eq_false_iff_ne]
          intro z
          exact nd2.1 (z ▸ hm)
        rw [e]
        exact ih nd2.2 h1 h2
section
variable {L : Lx} {X : Cx} {g g' : Gh} {H H' : Hp} {σ : L2.St} {Γ : Env} {W : WX} {pos : Pos} {i : IE} {f : Str}
/-- x.f of an instance: at_ tells where the field stands in the class's list -/
def iFld (at_ : Nat → Option Nat) (i : IE) : IE := fun Γ => (i Γ).bind fun d => match d with
  | .ins n ds => match at_ n with
    | some j => match ds[j]? with
      | some d => .ret d
      | none => .stuck
    | none => .stuck
  | _ => .stuck
theorem de_fld {at_ : Nat → Option Nat} {e : Expr} (h : DE L X i e) (hK : X.K = L.K) (hx : ∀ n j, at_ n = some j → (L.cF n).Nodup ∧ (L.cF n)[j]? = some f ∧ Cls L.K (L.cA n) ∧ NoAttr L.K (L.cA n) f)
    (hb : attributeBase e f X.env (eval e X.env) = eval e X.env := by rfl) : DE L X (iFld at_ i) (.Attribute e f pos) := fun W tk => PE.imp (pe_fld (h W tk) hb) fun σ H Q ⟨Γ, g, rp, w⟩ => by
  refine Rd1.go rp w fun v H1 d g1 r1 s t w => ?_
  split at w
  · rename_i n ds
    split at w
    · rename_i j hj
      split at w
      · rename_i d hd
        obtain ⟨h1, h2, h3, h4⟩ := hx n j hj
        cases t with
        | ins e1 e2 l =>
          obtain ⟨v, hv, t⟩ := l.get hd
          exact ⟨_, _, _, _, v, rfl, r1.sub _ _ e1, hK ▸ h3, hK ▸ h4, lookup_zip h1 h2 hv, w v g1 H1 s rfl t⟩
      · exact w.elim
    · exact w.elim
  · exact w.elim
end
namespace M
/-- a run, its value handed on, its exception caught -/
def tryM {α β : Type} : M α → (α → M β) → (Ex → M β) → M β
  | ret a, f, _ => f a
  | exc x, _, h => h x
  | stuck, _, _ => stuck
  | choose n k, f, h => choose n fun i => (k i).tryM f h
  | begun k, f, h => begun (k.tryM f h)
theorem wpB_try {α β : Type} {Q : β → Nat → Prop} {E : Ex → Nat → Prop} {f : α → M β} {h : Ex → M β} : ∀ (m : M α) (b : Nat), (m.tryM f h).wpB b Q E ↔ m.wpB b (fun a c => (f a).wpB c Q E) (fun x c => (h x).wpB c Q E)
  | ret _, _ => Iff.rfl
  | exc _, _ => Iff.rfl
  | stuck, _ => Iff.rfl
  | choose _ _, 0 => Iff.rfl
  | choose _ k, b + 1 => forall_congr' fun i => forall_congr' fun _ => wpB_try (k i) b
  | begun k, _ => and_congr_right' (wpB_try k lim)
end M
end DL
/-! try at the level of data. -/
namespace DL
open PySem PySem.Spec L2
/-- with a held error -/
def Lx.at (L : Lx) (a : Addr) (n : Nat) (d : Addr) (u : V) : Lx := { L with er := some (a, n, d, u) }
mutual
def D.noErr : D → Bool
  | .non | .bl _ | .int _ | .str _ => true
  | .tup xs | .lst xs => D.noErrL xs
  | .dct _ _ | .ins _ _ | .exc _ _ | .err _ _ | .ty _ | .clo _ | .rnd | .scr _ | .pr _ => false
def D.noErrL : List D → Bool
  | [] => true
  | x :: r => D.noErr x && D.noErrL r
end
section
variable {L : Lx} {g g' : Gh} {H H' : Hp} {σ : L2.St} {Γ : Env} {ea ed : Addr} {en : Nat} {eu : V}
mutual
theorem Den.up (h0 : L.er = none) : ∀ {v : V} {d : D}, Den L g v d → Den (L.at ea en ed eu) g v d
  | _, _, .non => .non
  | _, _, .bl b => .bl b
  | _, _, .int i => .int i
  | _, _, .str s => .str s
  | _, _, .tup e l => .tup e (DenL.up h0 l)
  | _, _, .lst e l => .lst e (DenL.up h0 l)
  | _, _, .dK e z l => .dK e z (DenL.up h0 l)
  | _, _, .dT e z l => .dT e z (DenL.up h0 l)
  | _, _, .ins (c := c) (n := n) e z l => .ins (L := L.at ea en ed eu) (c := c) (n := n) e z (DenL.up h0 l)
  | _, _, .exc (n := n) a b c l => .exc (L := L.at ea en ed eu) (n := n) a b c (Den.up h0 l)
  | _, _, .err a _ => by rw [h0] at a; cases a
  | _, _, .ty n => .ty n
  | _, _, .clo n => .clo (L := L.at ea en ed eu) n
  | _, _, .rnd e => .rnd e
  | _, _, .scr e => .scr e
  | _, _, .pr e l => .pr e (DenL.up h0 l)
theorem DenL.up (h0 : L.er = none) : ∀ {vs : List V} {ds : List D}, DenL L g vs ds → DenL (L.at ea en ed eu) g vs ds
  | _, _, .nil => .nil
  | _, _, .cons a l => .cons (Den.up h0 a) (DenL.up h0 l)
end
mutual
theorem Den.drop : ∀ {v : V} {d : D}, Den (L.at ea en ed eu) g v d → d.noErr = true → Den L g v d
  | _, _, .non, _ => .non
  | _, _, .bl b, _ => .bl b
  | _, _, .int i, _ => .int i
  | _, _, .str s, _ => .str s
  | _, _, .tup e l, h => .tup e (DenL.dropE l (by simpa only [D.noErr] using h))
  | _, _, .lst e l, h => .lst e (DenL.dropE l (by simpa only [D.noErr] using h))
  | _, _, .dK _ _ _, h => by simp only [D.noErr] at h; cases h
  | _, _, .dT _ _ _, h => by simp only [D.noErr] at h; cases h
  | _, _, .ins _ _ _, h => by simp only [D.noErr] at h; cases h
  | _, _, .exc _ _ _ _, h => by simp only [D.noErr] at h; cases h
  | _, _, .err _ _, h => by simp only [D.noErr] at h; cases h
  | _, _, .ty _, h => by simp only [D.noErr] at h; cases h
  | _, _, .clo _, h => by simp only [D.noErr] at h; cases h
  | _, _, .rnd _, h => by simp only [D.noErr] at h; cases h
  | _, _, .scr _, h => by simp only [D.noErr] at h; cases h
  | _, _, .pr _ _, h => by simp only [D.noErr] at h; cases h
theorem DenL.dropE : ∀ {vs : List V} {ds : List D}, DenL (L.at ea en ed eu) g vs ds → D.noErrL ds = true → DenL L g vs ds
  | _, _, .nil, _ => .nil
  | _, _, .cons a l, h => by
    simp only [D.noErrL, Bool.and_eq_true] at h
    exact .cons (Den.drop a h.1) (DenL.dropE l h.2)
end
theorem DctAt.up (h0 : L.er = none) {p : Addr} {t : Bool} {kvs : List (D × D)} (h : DctAt L g H p t kvs) : DctAt (L.at ea en ed eu) g H p t kvs := by
  rcases h with ⟨ks, vs, ds, h1, h2, h3, h4⟩ | ⟨ks, vs, ds, h1, h2, h3, h4⟩
  · exact .inl ⟨ks, vs, ds, h1, h2, h3.up h0, h4⟩
  · exact .inr ⟨ks, vs, ds, h1, h2, h3.up h0, h4⟩
theorem Bind1.up (h0 : L.er = none) {x : Option V} {b : B} (h : Bind1 L g H x b) : Bind1 (L.at ea en ed eu) g H x b := by
  cases b with
  | fz d => obtain ⟨v, e, h⟩ := h; exact ⟨v, e, h.up h0⟩
  | ol ds => obtain ⟨p, vs, e, hp, hd, r⟩ := h; exact ⟨p, vs, e, hp, hd.up h0, r⟩
  | od t kvs => obtain ⟨p, e, h1, h2, hd⟩ := h; exact ⟨p, e, h1, h2, hd.up h0⟩
  | os n fs => obtain ⟨p, dx, vs, e, es, h1, hd, r⟩ := h; exact ⟨p, dx, vs, e, es, h1, hd.up h0, r⟩
theorem Rep.up (h0 : L.er = none) {f : Str} (hf : L.cF en = [f]) (hd : H ed = some (.xd [(f, eu)])) (r : Rep L Γ g σ H) : Rep (L.at ea en ed eu) Γ g σ H :=
  ⟨r.sub, r.rnd, ⟨r.tab.1, fun a n d u e => by cases e; exact ⟨f, hf, hd⟩⟩, fun i b e => let ⟨x, e1, h⟩ := r.loc i b e; ⟨x, e1, h.up h0⟩, r.dis, r.nF, r.len⟩
theorem Stp.drop (h0 : L.er = none) (s : Stp (L.at ea en ed eu) g H g' H') : Stp L g H g' H' :=
  ⟨s.le, s.mu, s.sub, s.keep, s.nf, s.nm, s.rnd, s.bud, ⟨s.tab.1, fun a n d u e => by rw [h0] at e; cases e⟩⟩
end
section
variable {L : Lx} {X : Cx} {g0 g g' : Gh} {H0 H H' : Hp} {σ : L2.St} {Γ : Env} {W : WX} {pos : Pos}
/-- a suite that returns -/
def tsX (L : Lx) (i : IE) : SuT := fun a cls d D σ H => ∃ n dd u, cls = .ref (L.cA n) ∧ d = some dd ∧ tRet (Rd1 (L.at a n dd u) DenT (fun _ _ _ _ => False) i) D σ H
abbrev Cl : Type := Nat × Option Nat × IE
def Cl.su (L : Lx) (c : Cl) : Value × Option Nat × SuT := (.ref (L.cA c.1), c.2.1, tsX L c.2.2)
/-- what a suite's expression must be read to do -/
def DSu (L : Lx) (X : Cx) (i : IE) (e : Expr) : Prop := ∀ (a : Addr) (oe : Obj) (cls : Value) (d : Option Addr) (pn : List (Addr × Obj)), Zc cls d oe → (∃ vs, oe.data = .fields vs) → ∀ n dd u, cls = .ref (L.cA n) → d = some dd → DE (L.at a n dd u) (X.suite a ((a, oe) :: pn)) i e
theorem su_ret {i : IE} {e : Expr} {p : Pos} (h : DSu L X i e) (a : Addr) (oe : Obj) (cls : Value) (d : Option Addr) (pn : List (Addr × Obj)) (hz : Zc cls d oe) (hf : ∃ vs, oe.data = .fields vs) : PSs (X.suite a ((a, oe) :: pn)) [.Return (some e) p] (tsX L i a cls d) := by
  refine ⟨fun pins s σ H D I ⟨n, dd, u, h1, h2, q⟩ => ?_⟩
  exact (pss_one (ps_ret (h a oe cls d pn hz hf n dd u h1 h2 _ LamX.takes0))).run pins s σ H D I q
/-- the clauses' run -/
def clRun (sub : Nat → Nat → Option Bool) : List Cl → Ex → Env → M Fl
  | [], x, _ => .exc x
  | (k, o, i) :: r, x, Γ => match sub x.c k with
    | some true => (i (match o with
      | some j => Γ.set j (some (.fz (.err x.c x.v)))
      | none => Γ)).noX.bind fun d => if d.noErr = true then .ret (.rt d) else .stuck
    | some false => clRun sub r x Γ
    | none => .stuck
theorem cl_wish {sub : Nat → Nat → Option Bool} (hsub : ∀ n k b, sub n k = some b → PySem.W.exmOne L.K (.ref (L.cA n)) (.ref (L.cA k)) = some b) (h0 : L.er = none) {Dn : Ends} {x : Ex} {b : Nat} (r : RepS L g0 H0 Γ g σ H) : ∀ (cl : List Cl),
    (clRun sub cl x Γ).wpB b (FlT L g0 H0 g Dn) (XS L W g0 H0) → XW L (wEach L.K W Dn (cl.map (Cl.su L))) g σ H x b := fun cl => by
  induction cl with
  | nil => intro w cls d g' H' s e ea; exact w cls d g' σ H' (r.base.trans s) e ea
  | cons c cl ih =>
    obtain ⟨k, o, i⟩ := c
    intro w cls d g' H' s e ea
    unfold clRun at w
    split at w
    · rename_i hs
      obtain ⟨hc, da, f, v, hd, hf, hda, hv⟩ := id ea
      refine ⟨true, hc ▸ hsub _ _ _ hs, fun _ a na => ?_, fun z => Bool.noConfusion z⟩
      subst e
      have base := r.base.trans s
      have rp : Rep (L.at a x.c da v) Γ g' σ H' := (r.rep.step s).up h0 hf hda
      have fin : ∀ (Γ' : Env) (σ' : L2.St) (D' : Ends), (∀ v H, D'.rt v H = Dn.rt v H) → Rep (L.at a x.c da v) Γ' g' σ' H' → ((i Γ').noX.bind fun d => if d.noErr = true then M.ret (Fl.rt d) else M.stuck).wpB g'.bud (FlT L g0 H0 g Dn) (XS L W g0 H0) → tsX L i a cls d D' σ' H' := fun Γ' σ' D' hD rp' w' => by
        refine ⟨x.c, da, v, hc, hd, Γ', g', rp', M.wpB_mono (fun dd c w2 u g2 H2 s2 e2 t2 => ?_) (fun _ _ z => z) _ _ (M.wpB_noX _ _ ((M.wpB_bind _ _).mp w'))⟩
        split at w2
        · rename_i hn
          rw [hD]
          exact w2 g2 u H2 (base.trans (s2.drop h0)) e2 (t2.drop hn)
        · exact w2.elim
      cases o with
      | none => exact fin Γ σ Dn (fun _ _ => rfl) rp w
      | some j => exact fin _ _ (Dn.bare j) (fun _ _ => rfl) (rp.set (.err rfl (hv.up h0))) w
    · rename_i hs
      obtain ⟨hc, _⟩ := id ea
      exact ⟨false, hc ▸ hsub _ _ _ hs, fun z => Bool.noConfusion z, fun _ => ih w cls d g' H' s e ea⟩
    · exact w.elim
/-- try: x = e / except .. -/
def sTrySet (sub : Nat → Nat → Option Bool) (n : Nat) (i : IE) (cl : List Cl) : IS := fun Γ => (i Γ).tryM (fun d => .ret (.nx (Γ.set n (some (.fz d))))) fun x => clRun sub cl x Γ
/-- try: return e / except .. -/
def sTryRet (sub : Nat → Nat → Option Bool) (i : IE) (cl : List Cl) : IS := fun Γ => (i Γ).tryM (fun d => .ret (.rt d)) fun x => clRun sub cl x Γ
variable {sub : Nat → Nat → Option Bool} {i : IE} {e : Expr} {cl : List Cl} {h₀ : ExceptHandler} {hds : List ExceptHandler}
theorem ds_trySet {n : Nat} {x : Str} {px ps : Pos} (hK : X.K = L.K) (h0 : L.er = none) (hs : X.stack = X.env :: X.outer) (hf : X.env.frame = some X.env.locals) (hN : X.N.Nodup) (hi : X.N[n]? = some x) (hx : Loc X.env.scope x)
    (hsub : ∀ n k b, sub n k = some b → PySem.W.exmOne L.K (.ref (L.cA n)) (.ref (L.cA k)) = some b)
    (h : ∀ (pn : List (Addr × Obj)) (xe : Value → Shared → Prop), PassesOwn (model X.prog X.w) X.A X.env xe → DE L (X.tr pn xe) i e) (hh : HdE X (h₀ :: hds) (cl.map (Cl.su L)))
    (hsw : swapsWith e (some (.Name x px)) ps.line X.env = pure false := by rfl) (hfn : X.fn x = true ∨ X.env.scope.names.lookup x = some .local := by first | exact .inl rfl | exact .inr rfl) :
    DS L X (sTrySet sub n i cl) (.Try [.Assign [.Name x px] e ps] (h₀ :: hds) [] [] pos) := fun W g0 H0 tk => by
  refine PS.imp (ps_tryE (tb := fun W => tAsg (Rd1 L DenT W i) (gName n)) hs hf hN tk (fun W' pn xe tk' pa => pss_one (ps_set (X := X.tr pn xe) hN hi hx (h pn xe pa W' tk') hsw hfn)) hh) fun Dn σ H ⟨Γ, g, r, w⟩ => ?_
  refine ⟨Γ, g, r.rep, M.wpB_mono (fun d b k v g' H' s eb t => ?_) (fun x b k => hK ▸ cl_wish hsub h0 r cl k) _ _ ((M.wpB_try _ _).mp w)⟩
  exact k g' _ H' ((r.step s).set t) s.fle eb
theorem ds_tryRet {ps : Pos} (hK : X.K = L.K) (h0 : L.er = none) (hs : X.stack = X.env :: X.outer) (hf : X.env.frame = some X.env.locals) (hN : X.N.Nodup)
    (hsub : ∀ n k b, sub n k = some b → PySem.W.exmOne L.K (.ref (L.cA n)) (.ref (L.cA k)) = some b)
    (h : ∀ (pn : List (Addr × Obj)) (xe : Value → Shared → Prop), PassesOwn (model X.prog X.w) X.A X.env xe → DE L (X.tr pn xe) i e) (hh : HdE X (h₀ :: hds) (cl.map (Cl.su L))) :
    DS L X (sTryRet sub i cl) (.Try [.Return (some e) ps] (h₀ :: hds) [] [] pos) := fun W g0 H0 tk => by
  refine PS.imp (ps_tryE (tb := fun W => tRet (Rd1 L DenT W i)) hs hf hN tk (fun W' pn xe tk' pa => pss_one (ps_ret (h pn xe pa W' tk'))) hh) fun Dn σ H ⟨Γ, g, r, w⟩ => ?_
  refine ⟨Γ, g, r.rep, M.wpB_mono (fun d b k v g' H' s eb t => ?_) (fun x b k => hK ▸ cl_wish hsub h0 r cl k) _ _ ((M.wpB_try _ _).mp w)⟩
  exact k g' v H' (r.base.trans s) eb t
theorem hd_nil : HdE X [] (([] : List Cl).map (Cl.su L)) := .nil
theorem hd_as {x n : Str} {j k : Nat} {np pos' p : Pos} (hc : Names X x (.ref (L.cA k))) (hi : X.N[j]? = some n) (hln : X.env.kindOf n = some .local) (h : DSu L X i e) (r : HdE X hds (cl.map (Cl.su L))) :
    HdE X (.ExceptHandler (some (.Name x np)) (some n) [.Return (some e) p] pos' :: hds) (((k, some j, i) :: cl).map (Cl.su L)) := .as hc hi hln (su_ret h) r
theorem hd_one {x : Str} {k : Nat} {np pos' p : Pos} (hc : Names X x (.ref (L.cA k))) (h : DSu L X i e) (r : HdE X hds (cl.map (Cl.su L))) :
    HdE X (.ExceptHandler (some (.Name x np)) none [.Return (some e) p] pos' :: hds) (((k, none, i) :: cl).map (Cl.su L)) := .one hc (su_ret h) r
/-- e.f of the held error -/
def iErr (ok : Nat → Bool) (j : Nat) : IE := fun Γ => match Γ[j]? with
  | some (some (.fz (.err n x))) => if ok n = true then .ret x else .stuck
  | _ => .stuck
theorem de_err {ok : Nat → Bool} {j : Nat} {f n : Str} {np : Pos} {a : Addr} {oe : Obj} {cls : Value} {d : Option Addr} {pn : List (Addr × Obj)} {m : Nat} {dd : Addr} {u : V} (hz : Zc cls d oe) (hf : ∃ vs, oe.data = .fields vs) (hc : cls = .ref (L.cA m)) (hd : d = some dd) (hK : X.K = L.K)
    (hx : ∀ n, ok n = true → L.cF n = [f] ∧ XfC L.K (L.cA n) ∧ PySem.W.findIn L.K (.ref (L.cA n)) f = some none) (hv : PE (X.suite a ((a, oe) :: pn)) (.Name n np) (tVar j))
    (hb : attributeBase (.Name n np) f X.env (eval (.Name n np) X.env) = eval (.Name n np) X.env := by rfl) : DE (L.at a m dd u) (X.suite a ((a, oe) :: pn)) (iErr ok j) (.Attribute (.Name n np) f pos) := fun W tk => by
  by_cases ho : ok m = true
  · obtain ⟨h1, h2, h3⟩ := hx m ho
    refine PE.imp (pe_xf (hK ▸ h2) (hK ▸ h3) hz hf hv hb) fun σ H Q ⟨Γ, g, rp, w⟩ => ?_
    unfold iErr at w
    split at w
    · rename_i n' x e
      split at w
      · obtain ⟨y, e1, v, e2, t⟩ := rp.loc _ _ e
        subst e2
        cases t with
        | err q t =>
          cases q
          obtain ⟨f', h4, h5⟩ := rp.tab.2 _ _ _ _ rfl
          have h6 : L.cF m = [f'] := h4
          rw [h1] at h6
          cases h6
          exact ⟨_, e1, rfl, hc, dd, _, u, hd, h5, by simp [List.lookup], w u g H (Stp.refl rp) rfl t⟩
      · exact w.elim
    · exact w.elim
  · refine ⟨fun pins s σ H Q I ⟨Γ, g, rp, w⟩ => ?_⟩
    unfold iErr at w
    split at w
    · rename_i n' x e
      obtain ⟨y, e1, v, e2, t⟩ := rp.loc _ _ e
      cases t with
      | err q t =>
        cases q
        rw [if_neg ho] at w
        exact w.elim
    · exact w.elim
end
end DL
/-! An instance while it is made. -/
namespace DL
open PySem PySem.Spec L2
section
variable {L : Lx} {X : Cx} {g0 g g' : Gh} {H0 H H' : Hp} {σ σ' : L2.St} {Γ Γ' : Env} {W : WX} {pos : Pos} {C dx p : Addr} {fs fs' : List (Str × V)}
theorem inM_ins {mu : Option Addr} {a : Addr} (h : InM mu (upd H p (.ins C dx fs)) a) : InM mu H a := by
  obtain ⟨m, e, h⟩ := h
  refine ⟨m, e, ?_⟩
  rcases h with h | ⟨kvs, k, e4, hm⟩
  · exact .inl h
  · have q : m ≠ p := fun z => by rw [z, upd_same] at e4; cases e4
    rw [upd_ne q] at e4
    exact .inr ⟨kvs, k, e4, hm⟩
theorem stp_ins {gs : Gh} {Hs : Hp} (s : Stp L gs Hs g H) (n : Hs p = none) (h1 : H p = some (.ins C dx fs)) (h3 : g.F p = none) (h4 : ¬ InM g.mu H p) : Stp L gs Hs g (upd H p (.ins C dx fs')) := by
  have ne : ∀ a, Hs a ≠ none → a ≠ p := fun a h z => h (by rw [z]; exact n)
  refine ⟨s.le, s.mu, fun a o e => ?_, fun a o e nt nm => ?_, fun a h => ?_, fun a o e i => s.nm a o e (inM_ins i), ⟨s.rnd.1, fun m e => ?_⟩, s.bud, ⟨fun q hq => ?_, fun ea en ed eu he => ?_⟩⟩
  · have q : a ≠ p := fun z => by rw [z, h3] at e; cases e
    rw [upd_ne q]; exact s.sub a o e
  · obtain ⟨e1, m1⟩ := s.keep a o e nt nm
    rw [upd_ne (ne a (by rw [e]; simp))]
    exact ⟨e1, fun i => m1 (inM_ins i)⟩
  · unfold Tp; rw [upd_ne (ne a h)]; exact s.nf a h
  · obtain ⟨c, l, cs, ls, at_, e1, e2, e3, r⟩ := s.rnd.2 m e
    have q : ∀ a, InM g.mu H a → a ≠ p := fun a i z => h4 (z ▸ i)
    have em : upd H p (.ins C dx fs') m = H m := upd_ne (q m ⟨m, e, .inl rfl⟩)
    have ec : upd H p (.ins C dx fs') c = H c := upd_ne (q c ⟨m, e, .inr ⟨_, Sum.inr "cells", e1, by simp⟩⟩)
    have el : upd H p (.ins C dx fs') l = H l := upd_ne (q l ⟨m, e, .inr ⟨_, Sum.inr "left", e1, by simp⟩⟩)
    exact ⟨c, l, cs, ls, at_, em.trans e1, ec.trans e2, el.trans e3, r⟩
  · obtain ⟨ps, e1, e2, e3⟩ := s.tab.1 q hq
    have n1 : q.1 ≠ p := fun z => by rw [z, h1] at e1; cases e1
    refine ⟨ps, by rw [upd_ne n1]; exact e1, e2, fun pos cv hc => ?_⟩
    obtain ⟨c, z1, z2⟩ := e3 pos cv hc
    have n2 : c ≠ p := fun z => by rw [z, h1] at z2; unfold LamX.CodeO at z2; cases z2
    exact ⟨c, z1, by rw [upd_ne n2]; exact z2⟩
  · obtain ⟨f, e1, e2⟩ := s.tab.2 ea en ed eu he
    have n1 : ed ≠ p := fun z => by rw [z, h1] at e2; cases e2
    exact ⟨f, e1, by rw [upd_ne n1]; exact e2⟩
/-- a field of the instance that is made is given -/
theorem RepS.updI {n c : Nat} {ds ds' : List (Str × D)} {vs vs' : List V} (r : RepS L g0 H0 Γ g σ H) (en : Γ[n]? = some (some (.os c ds))) (esf : ∀ a, L.sf = some a → p = a) (es : σ[n]? = some (some (.ref p))) (h1 : H p = some (.ins (L.cA c) dx ((ds.map (·.1)).zip vs))) (h3 : g.F p = none) (h4 : ¬ InM g.mu H p)
    (l : DenL L g vs' (ds'.map (·.2))) : RepS L g0 H0 (Γ.set n (some (.os c ds'))) g σ (L2.upd H p (.ins (L.cA c) dx ((ds'.map (·.1)).zip vs'))) := by
  have n0 : H0 p = none := r.new n _ p en rfl es
  have hl : n < Γ.length := (List.getElem?_eq_some_iff.mp en).1
  have s := stp_ins (fs' := (ds'.map (·.1)).zip vs') r.base n0 h1 h3 h4
  have at_ : ∀ (i : Nat) (b : B), (Γ.set n (some (.os c ds')))[i]? = some (some b) → (i = n ∧ b = .os c ds') ∨ (i ≠ n ∧ Γ[i]? = some (some b)) := fun i b e => by
    by_cases h : i = n
    · subst h
      rw [List.getElem?_set_self hl] at e
      cases e
      exact .inl ⟨rfl, rfl⟩
    · rw [List.getElem?_set_ne (Ne.symm h)] at e
      exact .inr ⟨h, e⟩
  have f : ∀ (i : Nat) (b : B), (Γ.set n (some (.os c ds')))[i]? = some (some b) → b.own = true → ∃ b', Γ[i]? = some (some b') ∧ b'.own = true := fun i b e o => by
    rcases at_ i b e with ⟨rfl, rfl⟩ | ⟨_, e⟩
    · exact ⟨_, en, rfl⟩
    · exact ⟨b, e, o⟩
  refine ⟨⟨s.sub, s.rnd, s.tab, fun i b e => ?_, fun i j b c q e1 e2 o1 o2 s1 s2 => ?_, s.nm, by rw [List.length_set]; exact r.rep.len⟩, s, fun i b q e o sq => ?_⟩
  · rcases at_ i b e with ⟨rfl, rfl⟩ | ⟨hi, e⟩
    · exact ⟨_, es, p, dx, vs', rfl, esf, upd_same, l, h3, fun z => h4 (inM_ins z)⟩
    · obtain ⟨x, ex, hb⟩ := r.rep.loc i b e
      refine ⟨x, ex, ?_⟩
      cases b with
      | fz d => exact hb
      | ol es' =>
        obtain ⟨q, ws, rfl, a1, a2, a3, a4⟩ := hb
        have nq : q ≠ p := fun z => hi (r.rep.dis i n _ _ p e en rfl rfl (z ▸ ex) es)
        exact ⟨q, ws, rfl, by rw [upd_ne nq]; exact a1, a2, a3, fun z => a4 (inM_ins z)⟩
      | od t kvs =>
        obtain ⟨q, rfl, a1, a2, a3⟩ := hb
        have nq : q ≠ p := fun z => hi (r.rep.dis i n _ _ p e en rfl rfl (z ▸ ex) es)
        exact ⟨q, rfl, a1, fun z => a2 (inM_ins z), a3.step (upd_ne nq) (fun _ _ e => e) fun _ e => e⟩
      | os m fs =>
        obtain ⟨q, dy, ws, rfl, sq, a1, a2, a3, a4⟩ := hb
        have nq : q ≠ p := fun z => hi (r.rep.dis i n _ _ p e en rfl rfl (z ▸ ex) es)
        exact ⟨q, dy, ws, rfl, sq, by rw [upd_ne nq]; exact a1, a2, a3, fun z => a4 (inM_ins z)⟩
  · obtain ⟨b', e1', o1'⟩ := f i b e1 o1
    obtain ⟨c', e2', o2'⟩ := f j c e2 o2
    exact r.rep.dis i j b' c' q e1' e2' o1' o2' s1 s2
  · obtain ⟨b', e', o'⟩ := f i b e o
    exact r.new i b' q e' o' sq
theorem zip_snoc {f : Str} {v : V} : ∀ {ns : List Str} {vs : List V}, ns.length = vs.length → (ns ++ [f]).zip (vs ++ [v]) = ns.zip vs ++ [(f, v)] := fun {ns vs} h => List.zip_append h
theorem zip_names : ∀ {ns : List Str} {vs : List V}, ns.length = vs.length → (ns.zip vs).map (·.1) = ns := fun {ns} => by
  induction ns with
  | nil => intro vs _; rfl
  | cons n ns ih =>
    intro vs h
    cases vs with
    | nil => simp at h
    | cons v vs => rw [List.zip_cons_cons, List.map_cons, ih (by simpa using h)]
/-- self.f = e, self at slot n -/
def sSelf (ok : Nat → Bool) (n : Nat) (f : Str) (i : IE) : IS := fun Γ => (i Γ).bind fun d => match Γ[n]? with
  | some (some (.os c fs)) => if ok c = true ∧ f ∉ fs.map (·.1) ∧ fs.length < 1000 then .ret (.nx (Γ.set n (some (.os c (fs ++ [(f, d)]))))) else .stuck
  | _ => .stuck
theorem putF_new {f : Str} {v : V} : ∀ {fs : List (Str × V)}, f ∉ fs.map (·.1) → putF f v fs = fs ++ [(f, v)] := fun {fs} => by
  induction fs with
  | nil => intro _; rfl
  | cons q fs ih =>
    obtain ⟨n, y⟩ := q
    intro h
    rw [List.map_cons, List.mem_cons, not_or] at h
    unfold putF
    rw [if_neg (fun z => h.1 z.symm), ih h.2]
    rfl
theorem ds_self {ok : Nat → Bool} {n : Nat} {f sn : Str} {sp p1 : Pos} {i : IE} {e : Expr} (hK : X.K = L.K) (hx : ∀ c, ok c = true → Cls L.K (L.cA c) ∧ NoAttr L.K (L.cA c) f) (hv : PE X (.Name sn sp) (tVar n)) (h : DE L X i e)
    (hs : swapsWith e (some (.Attribute (.Name sn sp) f p1)) pos.line X.env = pure false := by rfl) : DS L X (sSelf ok n f i) (.Assign [.Attribute (.Name sn sp) f p1] e pos) := fun W g0 H0 tk => by
  refine PS.imp (ps_fld hv (h W tk) hs) fun Dn σ H ⟨Γ, g, r, w⟩ => Rd1.goS r w fun v H1 d g1 r1 s t w => ?_
  split at w
  · rename_i c fs en
    split at w
    · rename_i hc
      obtain ⟨x, es, p, dx, vs, e2, sq, h1, hd, h3, h4⟩ := r1.rep.loc _ _ en
      subst e2
      obtain ⟨k1, k2⟩ := hx c hc.1
      have hl : (fs.map (·.1)).length = vs.length := by rw [hd.length, List.length_map, List.length_map]
      have ep : putF f v ((fs.map (·.1)).zip vs) = ((fs ++ [(f, d)]).map (·.1)).zip (vs ++ [v]) := by
        rw [putF_new (by rw [zip_names hl]; exact hc.2.1), List.map_append, List.map_cons, List.map_nil, zip_snoc hl]
      refine ⟨.ref p, es, p, L.cA c, dx, _, rfl, h1, hK ▸ k1, hK ▸ k2, ?_, ?_⟩
      · rw [List.length_zip, ← hl, Nat.min_self, List.length_map]
        exact hc.2.2
      · rw [ep]
        exact w g1 σ _ (r1.updI en sq es h1 h3 h4 (by rw [List.map_append]; exact hd.append (.cons t .nil))) s.fle rfl
    · exact w.elim
  · exact w.elim
end
end DL
/-! An __init__, a class called. -/
namespace DL
open PySem PySem.Spec L2
/-- an __init__'s run: what stands in self behind it -/
def runIn (n : Nat) (body : IS) (c : Nat) (ds : List D) : M (List (Str × D)) := (body (some (.os c []) :: env0 (n - 1) ds)).bind fun (fl : Fl) => match fl with
  | .nx Γ => match (Γ[0]? : Option (Option B)) with
    | some (some (.os c' fs)) => if c' = c then .ret fs else .stuck
    | _ => .stuck
  | _ => .stuck
def Lx.ms (L : Lx) (a : Addr) : Lx := { L with sf := some a }
section
variable {L : Lx} {g : Gh} {H : Hp} {σ : L2.St} {a : Addr}
mutual
theorem Den.toMk : ∀ {v : V} {d : D}, Den L g v d → Den (L.ms a) g v d
  | _, _, .non => .non
  | _, _, .bl b => .bl b
  | _, _, .int i => .int i
  | _, _, .str s => .str s
  | _, _, .tup e l => .tup e (DenL.toMk l)
  | _, _, .lst e l => .lst e (DenL.toMk l)
  | _, _, .dK e z l => .dK e z (DenL.toMk l)
  | _, _, .dT e z l => .dT e z (DenL.toMk l)
  | _, _, .ins (c := c) (n := n) e z l => .ins (L := L.ms a) (c := c) (n := n) e z (DenL.toMk l)
  | _, _, .exc (n := n) p q r l => .exc (L := L.ms a) (n := n) p q r (Den.toMk l)
  | _, _, .err (n := n) p l => .err (L := L.ms a) (n := n) p (Den.toMk l)
  | _, _, .ty n => .ty n
  | _, _, .clo n => .clo (L := L.ms a) n
  | _, _, .rnd e => .rnd e
  | _, _, .scr e => .scr e
  | _, _, .pr e l => .pr e (DenL.toMk l)
theorem DenL.toMk : ∀ {vs : List V} {ds : List D}, DenL L g vs ds → DenL (L.ms a) g vs ds
  | _, _, .nil => .nil
  | _, _, .cons p l => .cons (Den.toMk p) (DenL.toMk l)
end
mutual
theorem Den.ofMk : ∀ {v : V} {d : D}, Den (L.ms a) g v d → Den L g v d
  | _, _, .non => .non
  | _, _, .bl b => .bl b
  | _, _, .int i => .int i
  | _, _, .str s => .str s
  | _, _, .tup e l => .tup e (DenL.ofMk l)
  | _, _, .lst e l => .lst e (DenL.ofMk l)
  | _, _, .dK e z l => .dK e z (DenL.ofMk l)
  | _, _, .dT e z l => .dT e z (DenL.ofMk l)
  | _, _, .ins (c := c) (n := n) e z l => .ins (L := L) (c := c) (n := n) e z (DenL.ofMk l)
  | _, _, .exc (n := n) p q r l => .exc (L := L) (n := n) p q r (Den.ofMk l)
  | _, _, .err (n := n) p l => .err (L := L) (n := n) p (Den.ofMk l)
  | _, _, .ty n => .ty n
  | _, _, .clo n => .clo (L := L) n
  | _, _, .rnd e => .rnd e
  | _, _, .scr e => .scr e
  | _, _, .pr e l => .pr e (DenL.ofMk l)
theorem DenL.ofMk : ∀ {vs : List V} {ds : List D}, DenL (L.ms a) g vs ds → DenL L g vs ds
  | _, _, .nil => .nil
  | _, _, .cons p l => .cons (Den.ofMk p) (DenL.ofMk l)
end
theorem Stp.toMk {g' : Gh} {H' : Hp} (s : Stp L g H g' H') : Stp (L.ms a) g H g' H' := ⟨s.le, s.mu, s.sub, s.keep, s.nf, s.nm, s.rnd, s.bud, s.tab⟩
theorem Stp.ofMk {g' : Gh} {H' : Hp} (s : Stp (L.ms a) g H g' H') : Stp L g H g' H' := ⟨s.le, s.mu, s.sub, s.keep, s.nf, s.nm, s.rnd, s.bud, s.tab⟩
end
section
variable {L : Lx} {X : Cx} {gB g g' : Gh} {HB H H' : Hp} {σ : L2.St} {Γ : Env} {W : WX} {pos : Pos}
/-- a run begins where nothing is known of the slots -/
theorem Rep.bare (r : Rep L Γ g σ H) : Rep L [] g [] H := ⟨r.sub, r.rnd, r.tab, fun i b e => (by simp at e), fun i j b c p e => (by simp at e), r.nF, rfl⟩
/-- an own instance of class c at a, with the fields fs, new since (gB, HB) -/
structure Own (L : Lx) (gB : Gh) (HB : Hp) (g : Gh) (H : Hp) (a : Addr) (c : Nat) (fs : List (Str × D)) : Prop where
  st : Stp L gB HB g H
  new : HB a = none
  ins : ∃ dx vs, H a = some (.ins (L.cA c) dx ((fs.map (·.1)).zip vs)) ∧ DenL L g vs (fs.map (·.2))
  nF : g.F a = none
  nM : ¬ InM g.mu H a
def SpI (L : Lx) (c : Nat) (m : List D → M (List (Str × D))) (vs : List V) (H : Hp) (Q : VK) (E : XK) : Prop := ∃ gB HB Γ g σ ds a vs', vs = V.ref a :: vs' ∧ Rep L Γ g σ H ∧ Own L gB HB g H a c [] ∧ DenL L g vs' ds ∧
  (m ds).wpB g.bud (fun fs b => ∀ g' H', g'.bud = b → Own L gB HB g' H' a c fs → Q .non H') (XF L E gB HB)
structure FGI (L : Lx) (P : Program) (w : World) (mg : Str → Option Value) (base : Heap) (k : Nat) (f : Addr) (fd : FuncData) (ps : List Str) (c : Nat) (m : List D → M (List (Str × D))) : Prop where
  go : ∀ (A : Around) (outer : List PySem.Env) (s : Shared) (H : Hp) (args : Args) (us : List Value) (vs : List V) (Q : VK) (E : XK), Room k A → A.guards = some [] → Env0 P w L.K mg base A outer s H → BindsTo s fd args (ps.zip us) → Vals vs us → us.length = ps.length → SpI L c m vs H Q E →
    codeAny (model P w) A (.call (.ref f) args) (CR (L2.CX P w) outer P w H s Q E) s
theorem own_start {N : List Str} {ds : List D} {vs : List V} {a : Addr} {c : Nat} (r : Rep L Γ g σ H) (o : Own L gB HB g H a c []) (l : DenL L g vs ds) (hn : vs.length + 1 ≤ N.length) :
    RepS (L.ms a) gB HB (some (.os c []) :: env0 (N.length - 1) ds) g (L2.start N (.ref a :: vs)) H := by
  have at_ : ∀ (i : Nat) (b : B), (some (.os c []) :: env0 (N.length - 1) ds)[i]? = some (some b) → (i = 0 ∧ b = .os c []) ∨ ∃ j d, i = j + 1 ∧ ds[j]? = some d ∧ b = .fz d := fun i b e => by
    cases i with
    | zero => cases e; exact .inl ⟨rfl, rfl⟩
    | succ i =>
      rw [List.getElem?_cons_succ] at e
      unfold env0 at e
      by_cases h : i < ds.length
      · rw [List.getElem?_append_left (by simpa using h), List.getElem?_map] at e
        cases q : ds[i]? with
        | none => rw [q] at e; cases e
        | some d => rw [q] at e; cases e; exact .inr ⟨i, d, rfl, q, rfl⟩
      · rw [List.getElem?_append_right (by simpa using h), List.getElem?_replicate] at e
        split at e <;> cases e
  obtain ⟨dx, ws, h1, h2⟩ := o.ins
  refine ⟨⟨r.sub, r.rnd, r.tab, fun i b e => ?_, fun i j b c p e1 e2 o1 o2 s1 s2 => ?_, r.nF, ?_⟩, o.st.toMk, fun i b p e ob s => ?_⟩
  · rcases at_ i b e with ⟨rfl, rfl⟩ | ⟨j, d, rfl, hd, rfl⟩
    · exact ⟨some (.ref a), rfl, a, dx, ws, rfl, fun _ e => Option.some.inj e, h1, h2.toMk, o.nF, o.nM⟩
    · obtain ⟨v, hv, t⟩ := l.get hd
      refine ⟨some v, ?_, v, rfl, t.toMk⟩
      unfold L2.start
      rw [List.getElem?_append_left (by rw [List.length_map, List.length_cons]; exact Nat.succ_lt_succ (List.getElem?_eq_some_iff.mp hv).1), List.getElem?_map, List.getElem?_cons_succ, hv]
      rfl
  · rcases at_ i b e1 with ⟨rfl, rfl⟩ | ⟨_, _, _, _, rfl⟩
    · rcases at_ j c e2 with ⟨rfl, rfl⟩ | ⟨_, _, _, _, rfl⟩
      · rfl
      · cases o2
    · cases o1
  · unfold env0 L2.start
    rw [List.length_cons, List.length_append, List.length_append, List.length_map, List.length_map, List.length_replicate, List.length_replicate, List.length_cons, l.length]
    have := l.length
    omega
  · rcases at_ i b e with ⟨rfl, rfl⟩ | ⟨_, _, _, _, rfl⟩
    · cases s
      exact o.new
    · cases ob
theorem fgi_of {P : Program} {w : World} {mg : Str → Option Value} {base : Heap} {x qual : Str} {st : Stmt} {f : Addr} {fd : FuncData} {N ps : List Str} {k c : Nat} {body : IS} (F : Fun L.K x qual st f fd) (S : FnScope N ps (defScope st))
    (hb : ∀ (a : Addr) (cdv : Value) (A : Around) (outer : List PySem.Env) (s : Shared) (H : Hp) (E : XK), Room k (A.deeper (PyProof.Rows.envOfC qual (defScope st) s.heap.objs.size f cdv)) → A.guards = some [] →
      DSs (L.ms a) (cxOf (L2.CX P w) P w L.K mg base N qual (defScope st) f cdv A outer s H E) body (defBody st)) : FGI L P w mg base (k + 1) f fd ps c (runIn N.length body c) := by
  refine ⟨fun A outer s H args us vs Q E hr hg e0 bt r hl ⟨gB, HB, Γ, g, σ, ds, a, vs', ev, rp, o, l, w⟩ => ?_⟩
  obtain ⟨oc, od, kV, doc, pm, an, cdv, ct, osl, rfl, lk, hcd⟩ := F.ex
  refine LamX.run_ofS lk hcd S hr e0 bt r (r.length.trans hl) fun hr' => ⟨_, hb a cdv A outer s H E hr' hg (fun cls d _ H => E cls d H) gB HB (takes_of rfl rfl rfl rfl), ?_⟩
  have hpl : ps.length ≤ N.length := by have := congrArg List.length S.pre; rw [List.length_take] at this; omega
  subst ev
  have hn : vs'.length + 1 ≤ N.length := by
    have := r.length.trans hl
    rw [List.length_cons] at this
    omega
  refine ⟨_, g, own_start rp o l hn, M.wpB_mono (fun fl b k => ?_) (fun x _ z => fun cls d g σ H s e ⟨q, da, f, v, e1, e2, e3, e4⟩ => z cls d g H s.ofMk e ⟨q, da, f, v, e1, e2, e3, e4.ofMk⟩) _ _ ((M.wpB_bind _ _).mp w)⟩
  cases fl with
  | nx Γ' =>
    intro g' σ' H' r' _ e
    simp only at k
    split at k
    · rename_i c' fs en
      split at k
      · rename_i hc
        subst hc
        obtain ⟨x, es, p, dx, ws, e2, ep, h1, h2, h3, h4⟩ := r'.rep.loc _ _ en
        have ep := ep a rfl
        subst ep
        exact k g' H' e ⟨r'.base.ofMk, o.new, ⟨dx, ws, h1, h2.ofMk⟩, h3, h4⟩
      · exact k.elim
    · exact k.elim
  | rt d => exact k.elim
  | bk Γ' => exact k.elim
  | ct Γ' => exact k.elim
end
end DL
/-! A class called. -/
namespace DL
open PySem PySem.Spec L2
section
variable {L : Lx} {X : Cx} {gB g g' : Gh} {HB H H' : Hp} {σ : L2.St} {Γ : Env} {W : WX} {pos : Pos}
/-- the made instance is frozen -/
theorem Own.frz {a : Addr} {c : Nat} {fs : List (Str × D)} (o : Own L gB HB g H a c fs) (hn : fs.map (·.1) = L.cF c) : ∃ g2, Stp L gB HB g2 H ∧ g2.bud = g.bud ∧ Den L g2 (.ref a) (.ins c (fs.map (·.2))) := by
  obtain ⟨dx, vs, h1, h2⟩ := o.ins
  have s := o.st
  have le : ∀ b u, g.F b = some u → (g.put a (.ins (L.cA c) dx ((fs.map (·.1)).zip vs))).F b = some u := fun b u e => upd_keep o.nF e
  have hF : ∀ b u, (g.put a (.ins (L.cA c) dx ((fs.map (·.1)).zip vs))).F b = some u → (b = a ∧ u = .ins (L.cA c) dx ((fs.map (·.1)).zip vs)) ∨ g.F b = some u := fun b u e => by
    by_cases h : b = a
    · subst h
      have e' : upd g.F b (.ins (L.cA c) dx ((fs.map (·.1)).zip vs)) b = some u := e
      rw [upd_same] at e'
      exact .inl ⟨rfl, (Option.some.inj e').symm⟩
    · have e' : upd g.F a (.ins (L.cA c) dx ((fs.map (·.1)).zip vs)) b = some u := e
      rw [upd_ne h] at e'
      exact .inr e'
  refine ⟨g.put a (.ins (L.cA c) dx ((fs.map (·.1)).zip vs)), ⟨fun b u e => le b u (s.le b u e), s.mu, fun b u e => ?_, s.keep, fun b n => ⟨(s.nf b n).1, fun e => ?_⟩, fun b u e => ?_, s.rnd, s.bud, s.tab⟩, rfl, ?_⟩
  · rcases hF b u e with ⟨rfl, rfl⟩ | e
    · exact h1
    · exact s.sub _ _ e
  · have q : b ≠ a := fun z => n (by rw [z]; exact o.new)
    exact ((s.nf b n).2 e).imp (upd_ne q).trans id
  · rcases hF b u e with ⟨rfl, rfl⟩ | e
    · exact o.nM
    · exact s.nm _ _ e
  · exact .ins (c := 0) (by rw [← hn]; exact put_F) (by rw [← hn, List.length_map, h2.length, List.length_map]) (h2.mono le fun _ e => e)
/-- the new instance, nothing in it yet -/
theorem own_new {a dx : Addr} {c : Nat} (r : Rep L Γ g σ H) (na : H a = none) (nd : H dx = none) (ne : dx ≠ a) : Rep L Γ g σ (upd (upd H dx (.own a)) a (.ins (L.cA c) dx [])) ∧ Own L g H g (upd (upd H dx (.own a)) a (.ins (L.cA c) dx [])) a c [] := by
  have s1 : Stp L g H g (upd H dx (.own a)) := stp_new (o := .own a) r nd false
  have r1 := r.step s1
  have na2 : upd H dx (.own a) a = none := by rw [upd_ne (Ne.symm ne)]; exact na
  have s2 : Stp L g (upd H dx (.own a)) g (upd (upd H dx (.own a)) a (.ins (L.cA c) dx [])) := stp_new (o := .ins (L.cA c) dx []) r1 na2 false
  refine ⟨r1.step s2, s1.trans s2, na, ⟨dx, [], upd_same, .nil⟩, nF_of r na, fun i => ?_⟩
  exact (InM.there r1.rnd.ok (i.new na2 r1.rnd.ok)) na2
theorem run_mkI {pins : List (Addr × Obj)} {s : Shared} {Q : VK} {us : List Value} {vs : List V} {C f : Addr} {fd : FuncData} {ps : List Str} {k c : Nat} {m : List D → M (List (Str × D))} {ds : List D} {Γ : Env} (M : Mk X.K C f) (F : FGI L X.prog X.w X.mg X.base k f fd ps c m) (hK : X.K = L.K) (hC : L.cA c = C)
    (hr : Room (k + 1) X.A) (hgd : X.A.guards = some []) (hb : Binds X.K fd ps []) (tk : Takes X W) (I : Inv X pins σ H s) (r : Vals vs us) (hl : us.length + 1 = ps.length) (rp : Rep L Γ g σ H) (l : DenL L g vs ds)
    (h : (m ds).wpB g.bud (fun fs b => ∀ a g' H', g'.bud = b → Own L g H g' H' a c fs → Q (.ref a) H') (XW L W g σ H)) : wpAny (model X.prog X.w) X.A (call (.ref C) us) (EP X pins σ Q) X.xe s := by
  have na := I.hok.fresh (Nat.le_succ s.heap.objs.size)
  have nd := I.hok.fresh (Nat.le_refl s.heap.objs.size)
  have ne : s.heap.objs.size ≠ s.heap.objs.size + 1 := Nat.ne_of_lt (Nat.lt_succ_self _)
  obtain ⟨rp2, ow⟩ := own_new (c := c) rp na nd ne
  rw [hC] at rp2
  have I2 := Inv.made (C := C) I
  have r2 : Vals (V.ref (s.heap.objs.size + 1) :: vs) (Value.ref (s.heap.objs.size + 1) :: us) := .cons rfl r
  have hl2 : (Value.ref (s.heap.objs.size + 1) :: us).length = ps.length := hl
  have sp : SpI L c m (V.ref (s.heap.objs.size + 1) :: vs) (upd (upd H s.heap.objs.size (.own (s.heap.objs.size + 1))) (s.heap.objs.size + 1) (.ins C s.heap.objs.size [])) (fun v H3 => v = .non ∧ Q (.ref (s.heap.objs.size + 1)) H3) (WE W σ) :=
    ⟨g, H, Γ, g, σ, ds, _, vs, rfl, rp2, hC ▸ ow, l.mono (fun _ _ e => e) (fun _ e => e), DL.M.wpB_mono (fun fs b q g' H' e o => ⟨rfl, q _ g' H' e o⟩) (fun _ _ x => x) _ _ h⟩
  have b := hb { s with heap := (s.heap.push PySem.W.emptyDict).push (PySem.W.instObj C s.heap.objs.size) } (Value.ref (s.heap.objs.size + 1) :: us) I2.kIn (by rw [List.append_nil]; exact hl2)
  rw [List.append_nil] at b
  refine wpAny_call (make_map (f := f) I.kIn M.makes M.init (beq_iff_eq.mp M.fn) (codeAny_mono (F.go _ X.stack _ _ ⟨Value.ref (s.heap.objs.size + 1) :: us, []⟩ (Value.ref (s.heap.objs.size + 1) :: us) _ _ (WE W σ) (hr.make C us []) hgd
    (hK ▸ I2.env0.make C us []) b r2 hl2 sp) fun r s' hq' => ?_))
  cases r with
  | error e => exact passAt tk σ pins _ _ e s' I2 hq'
  | ok fl =>
    cases fl with
    | ret u =>
      obtain ⟨v, H', I3, rv, ev, q3⟩ := I2.after hq'
      subst ev
      exact ⟨rv, ⟨V.ref (s.heap.objs.size + 1), H', I3, rfl, q3⟩⟩
    | next => exact False.elim hq'
    | brk => exact False.elim hq'
    | cont => exact False.elim hq'
end
end DL
/-! Things that are called: defs, classes; by position and by keywords. -/
namespace DL
open PySem PySem.Spec L2
section
variable {L : Lx} {X : Cx} {g g' : Gh} {H H' : Hp} {σ : L2.St} {Γ : Env} {W : WX} {pos p : Pos}
/-- the value u, called with n values and keywords ks, does what m says of all of them, one behind another -/
def CalG (L : Lx) (X : Cx) (u : Value) (n : Nat) (ks : List Str) (m : List D → M D) : Prop :=
  ∀ (W : WX) (pins : List (Addr × Obj)) (s : Shared) (σ : L2.St) (H : Hp) (Γ : Env) (g : Gh) (us ws : List Value) (vs zs : List V) (ds es : List D) (Q : VK), Takes X W → Inv X pins σ H s → Vals vs us → Vals zs ws → us.length = n → ws.length = ks.length →
    Rep L Γ g σ H → DenL L g vs ds → DenL L g zs es → (m (ds ++ es)).wpB g.bud (Wn L DenT g H Q) (XW L W g σ H) → wpAny (model X.prog X.w) X.A (call u us (ks.zip ws)) (EP X pins σ Q) X.xe s
/-- how values come to parameters: by the def's binding, and of data -/
structure KD (L : Lx) (fd : FuncData) (ps : List Str) (n : Nat) (ks : List Str) (gD : List D → List D → List D) : Prop where
  ex : ∃ (g : List Value → List Value → List Value) (gV : List V → List V → List V), KBn L.K fd ps n ks g gV ∧ (∀ (gh : Gh) {vs zs : List V} {ds es : List D}, DenL L gh vs ds → DenL L gh zs es → DenL L gh (gV vs zs) (gD ds es)) ∧ ∀ us ws, us.length = n → ws.length = ks.length → (g us ws).length = ps.length
def mKD (n : Nat) (gD : List D → List D → List D) (m : List D → M D) : List D → M D := fun ds => m (gD (ds.take n) (ds.drop n))
theorem cal_fg {k n : Nat} {f : Addr} {fd : FuncData} {ps ks : List Str} {m : List D → M D} {gD : List D → List D → List D} (F : FG L X.prog X.w X.mg X.base k f fd ps m) (hK : X.K = L.K) (hr : Room k X.A) (hgd : X.A.guards = some []) (kd : KD L fd ps n ks gD) : CalG L X (.ref f) n ks (mKD n gD m) := by
  intro W pins s σ H Γ g us ws vs zs ds es Q tk I r rz l1 l2 rp l lz w
  obtain ⟨gg, gV, hb, hd, hl⟩ := kd.ex
  have e1 : ds.length = n := l.length.symm.trans (r.length.trans l1)
  have w' : (m (gD ds es)).wpB g.bud (Wn L DenT g H Q) (XW L W g σ H) := by
    unfold mKD at w
    rw [List.take_left' e1, List.drop_left' e1] at w
    exact w
  refine wpAny_call (codeAny_mono (F.go X.A X.stack s H ⟨us, ks.zip ws⟩ (gg us ws) (gV vs zs) Q (WE W σ) hr hgd (hK ▸ I.env0) (hb.to s us ws (hK ▸ I.kIn) l1 l2) (hb.rel r rz) (hl _ _ l1 l2) (spd_of rp (hd g l lz) w')) fun r s' hq => ?_)
  cases r with
  | error e => exact passAt tk σ pins H s e s' I hq
  | ok fl =>
    cases fl with
    | ret u => exact I.after hq
    | next => exact hq
    | brk => exact hq
    | cont => exact hq
/-- all values by position -/
theorem kd_all {fd : FuncData} {ps : List Str} (b : Binds L.K fd ps []) : KD L fd ps ps.length [] (fun ds _ => ds) := by
  refine ⟨fun us _ => us, fun vs _ => vs, ⟨fun s us ws X l1 l2 => ?_, fun r _ => r⟩, fun _ {vs zs ds es} l _ => l, fun _ _ h _ => h⟩
  obtain rfl : ws = [] := List.length_eq_zero_iff.mp l2
  have := b s us X (by rw [List.append_nil]; exact l1)
  rw [List.append_nil] at this
  exact this
end
end DL
/-! Classes called, calls by name and by method as expressions. -/
namespace DL
open PySem PySem.Spec L2
section
variable {L : Lx} {X : Cx} {g g' : Gh} {H H' : Hp} {σ : L2.St} {Γ : Env} {W : WX} {pos p apos : Pos}
/-- what a class's call gives, by its __init__'s run -/
def mInit (c : Nat) (fs : List Str) (m : List D → M (List (Str × D))) : List D → M D := fun ds => (m ds).bind fun q => if q.map (·.1) = fs then .ret (.ins c (q.map (·.2))) else .stuck
theorem cal_cls {C f : Addr} {fd : FuncData} {ps : List Str} {k c : Nat} {m : List D → M (List (Str × D))} (M : Mk X.K C f) (F : FGI L X.prog X.w X.mg X.base k f fd ps c m) (hK : X.K = L.K) (hC : L.cA c = C) (hr : Room (k + 1) X.A) (hgd : X.A.guards = some []) (hb : Binds X.K fd ps [])
    (hn : n + 1 = ps.length) : CalG L X (.ref C) n [] (mInit c (L.cF c) m) := by
  intro W pins s σ H Γ g us ws vs zs ds es Q tk I r rz l1 l2 rp l lz w
  obtain rfl : ws = [] := List.length_eq_zero_iff.mp l2
  cases rz
  cases lz
  rw [List.append_nil] at w
  refine run_mkI M F hK hC hr hgd hb tk I r (by omega) rp l (DL.M.wpB_mono (fun fs b q a g' H' e o => ?_) (fun _ _ x => x) _ _ ((DL.M.wpB_bind _ _).mp w))
  split at q
  · rename_i hf
    obtain ⟨g2, s2, e2, t2⟩ := o.frz hf
    exact q _ g2 H' s2 (e2.trans e) t2
  · exact q.elim
/-- the values of a call -/
def RdA2 (L : Lx) (W : WX) (is js : List IE) (R : List V → List V → Hp → Prop) (E : Env → Gh → Prop) : Prop := True
def iCal (m : List D → M D) (is : List IE) : IE := fun Γ => (evs is Γ).bind m
theorem evs_app {is js : List IE} : evs (is ++ js) Γ = (evs is Γ).bind fun ds => (evs js Γ).bind fun es => .ret (ds ++ es) := by
  induction is with
  | nil =>
    show evs js Γ = (evs js Γ).bind fun es => .ret es
    generalize evs js Γ = m
    induction m with
    | ret a => rfl
    | exc x => rfl
    | stuck => rfl
    | choose n k ih => exact congrArg (M.choose n) (funext fun i => ih i)
    | begun k ih => exact congrArg M.begun ih
  | cons i is ih =>
    have as : ∀ {α β γ : Type} (m : M α) (f : α → M β) (h : β → M γ), (m.bind f).bind h = m.bind fun x => (f x).bind h := fun m f h => by
      induction m with
      | ret a => rfl
      | exc x => rfl
      | stuck => rfl
      | choose n k ih => exact congrArg (M.choose n) (funext fun i => ih i)
      | begun k ih => exact congrArg M.begun ih
    show ((i Γ).bind fun d => (evs (is ++ js) Γ).bind fun ds => .ret (d :: ds)) = ((i Γ).bind fun d => (evs is Γ).bind fun ds => .ret (d :: ds)).bind _
    rw [as]
    congr 1
    funext d
    rw [ih, as, as]
    congr 1
    funext ds
    rw [as]
    rfl
variable {x : Str} {e o : Expr} {es : List Expr} {is js : List IE} {m : List D → M D} {u : Value} {n : Nat} {ks : List Str} {kws : List Keyword}
/-- f(e, ..), C(e, ..) -/
theorem de_cal (c : CalG L X u is.length [] m) (kp : PySem.W.keepIn X.K u = true) (gl : Gl X x) (mf : X.mg x = some u) (ha : DA L X is (e :: es)) (nd : (x == ("__debug__" : Str)) = false := by decide)
    (h1 : starEach (e :: es) X.env = (false, eval e X.env) :: starEach es X.env := by rfl) (h2 : (backTo pos (starEach es X.env)).any (·.1) = false := by rfl) :
    DE L X (iCal m is) (.Call (.Name x p) (e :: es) [] pos) := fun W tk => by
  refine ⟨fun pins s σ H Q I ⟨Γ, g, rp, w⟩ => ?_⟩
  have w := evs_len is g.bud ((M.wpB_bind _ _).mp w)
  refine wpAny_Call_Name_kw (ld_glob I gl mf ?_ nd)
  refine PySem.W.callWith_K (h₀ := X.base) I.ok.mod.kin kp (thn ((ha W tk).run pos pins s σ H (fun vs H1 => ∃ ds g1, Rep L Γ g1 σ H1 ∧ Stp L g H g1 H1 ∧ DenL L g1 vs ds ∧ ds.length = is.length ∧ (m ds).wpB g1.bud (Wn L DenT g H Q) (XW L W g σ H)) I
    ⟨Γ, g, rp, M.wpB_mono (fun ds b h vs g' H' s' e t => ⟨ds, g', rp.step s', s', t, h.1, by rw [e]; exact h.2⟩) (fun _ _ x => x) _ _ w⟩) fun us s1 ⟨vs, H1, I1, r, ds, g1, r1, s', t, hl, w1⟩ => ⟨I1.kIn, ?_⟩) h1 h2
  have hl2 : us.length = is.length := r.length.symm.trans (t.length.trans hl)
  have := c W pins s1 σ H1 Γ g1 us [] vs [] ds [] Q tk I1 r .nil hl2 rfl r1 t .nil (by
    rw [List.append_nil]
    exact M.wpB_mono (fun d b k v g2 H2 s2 e t => k v g2 H2 (s'.trans s2) e t) (fun _ _ x => x.of s') _ _ w1)
  exact this
end
end DL
/-! Calls with keywords; methods. -/
namespace DL
open PySem PySem.Spec L2
section
variable {L : Lx} {X : Cx} {g g' : Gh} {H H' : Hp} {σ : L2.St} {Γ : Env} {W : WX} {pos p apos kpos : Pos}
variable {x nm : Str} {e o : Expr} {es : List Expr} {i : IE} {is js : List IE} {m : List D → M D} {u : Value} {n c : Nat} {ks : List Str} {kws : List Keyword}
def DK (L : Lx) (X : Cx) (is : List IE) (kws : List Keyword) : Prop := ∀ W, Takes X W → PK X kws (RdA L W is)
theorem PK.imp {t t' : TA} (h : PK X kws t) (k : ∀ σ H Q, t' σ H Q → t σ H Q) : PK X kws t' := ⟨fun pos pins s σ H Q I r => h.run pos pins s σ H Q I (k _ _ _ r)⟩
theorem dk_nil : DK L X [] [] := fun W _ => PK.imp pk_nil fun σ H Q ⟨Γ, g, rp, w⟩ => w [] g H (Stp.refl rp) rfl .nil
theorem dk_cons {on : Option Str} (h : DE L X i e) (hr : DK L X is kws) : DK L X (i :: is) (⟨on, e, kpos⟩ :: kws) := fun W tk => by
  refine PK.imp (pk_cons (h W tk) (hr W tk)) fun σ H Q ⟨Γ, g, rp, w⟩ => ?_
  refine ⟨Γ, g, rp, M.wpB_mono (fun d b h v g1 H1 s e t => ?_) (fun _ _ x => x) _ _ ((M.wpB_bind _ _).mp w)⟩
  subst e
  refine ⟨Γ, g1, rp.step s, M.wpB_mono (fun ds b h vs g2 H2 s2 e2 t2 => ?_) (fun _ _ x => x.of s) _ _ ((M.wpB_bind _ _).mp h)⟩
  exact h (v :: vs) g2 H2 (s.trans s2) e2 (.cons (t.mono s2.le s2.mu) t2)
/-- what is known behind some values of a call -/
def Got (L : Lx) (W : WX) (Γ : Env) (g : Gh) (σ : L2.St) (H : Hp) (n : Nat) (f : List D → M D) (Q : VK) : List V → Hp → Prop := fun vs H1 => ∃ ds g1, Rep L Γ g1 σ H1 ∧ Stp L g H g1 H1 ∧ DenL L g1 vs ds ∧ ds.length = n ∧ (f ds).wpB g1.bud (Wn L DenT g1 H1 Q) (XW L W g1 σ H1)
theorem got_of {f : List D → M D} {Q : VK} (rp : Rep L Γ g σ H) (w : ((evs is Γ).bind f).wpB g.bud (Wn L DenT g H Q) (XW L W g σ H)) : RdA L W is σ H (Got L W Γ g σ H is.length f Q) :=
  ⟨Γ, g, rp, M.wpB_mono (fun ds b h vs g' H' s' e t => ⟨ds, g', rp.step s', s', t, h.1, by rw [e]; exact M.wpB_mono (fun d b k v g2 H2 s2 e t => k v g2 H2 (s'.trans s2) e t) (fun _ _ x => x.of s') _ _ h.2⟩) (fun _ _ x => x) _ _ (evs_len is g.bud ((M.wpB_bind _ _).mp w))⟩
theorem Got.den {v : V} {d : D} {f : List D → M D} {Q : VK} {vs : List V} {H1 : Hp} (h : Got L W Γ g σ H n f Q vs H1) (t : Den L g v d) : ∃ ds g1, Rep L Γ g1 σ H1 ∧ Den L g1 v d ∧ DenL L g1 vs ds ∧ ds.length = n ∧ (f ds).wpB g1.bud (Wn L DenT g1 H1 Q) (XW L W g1 σ H1) :=
  let ⟨ds, g1, r, s, l, hl, w⟩ := h; ⟨ds, g1, r, t.mono s.le s.mu, l, hl, w⟩
theorem evs_two {f : List D → M D} {Q : VK} (w : ((evs (is ++ js) Γ).bind f).wpB g.bud (Wn L DenT g H Q) (XW L W g σ H)) : ((evs is Γ).bind fun ds => (evs js Γ).bind fun es => f (ds ++ es)).wpB g.bud (Wn L DenT g H Q) (XW L W g σ H) := by
  rw [evs_app] at w
  refine (M.wpB_bind _ _).mpr (M.wpB_mono (fun ds b k => ?_) (fun _ _ x => x) _ _ ((M.wpB_bind _ _).mp ((M.wpB_bind _ _).mp w)))
  have k2 := (M.wpB_bind (f := fun es => M.ret (ds ++ es)) (evs js Γ) b).mp k
  exact (M.wpB_bind (evs js Γ) b).mpr k2
/-- f(e, .., k = v, ..) -/
theorem de_calK (c : CalG L X u is.length ks m) (kp : PySem.W.keepIn X.K u = true) (gl : Gl X x) (mf : X.mg x = some u) (ha : DA L X is (e :: es)) (hk : DK L X js kws) (hj : js.length = ks.length := by rfl)
    (hall : (backToKw pos (keywordEach kws X.env)).all (·.1.isSome) = true := by rfl) (hks : (backToKw pos (keywordEach kws X.env)).filterMap (·.1) = ks := by rfl) (nd : (x == ("__debug__" : Str)) = false := by decide)
    (h1 : starEach (e :: es) X.env = (false, eval e X.env) :: starEach es X.env := by rfl) (h2 : ((backTo pos (starEach (e :: es) X.env)).any (·.1) || (backToKw pos (keywordEach kws X.env)).any (·.1.isNone)) = false := by rfl) :
    DE L X (iCal m (is ++ js)) (.Call (.Name x p) (e :: es) kws pos) := fun W tk => by
  refine ⟨fun pins s σ H Q I ⟨Γ, g, rp, w⟩ => ?_⟩
  refine wpAny_Call_Name_kw (ld_glob I gl mf ?_ nd)
  refine PySem.W.callWith_KW (h₀ := X.base) I.ok.mod.kin kp hall (thn ((ha W tk).run pos pins s σ H _ I (got_of rp (evs_two w))) fun us s1 ⟨vs, H1, I1, r, ds, g1, r1, s', t, hl, w1⟩ => ?_) h2 h1
  refine thn ((hk W tk).run pos pins s1 σ H1 _ I1 (got_of r1 w1)) fun ws s2 ⟨zs, H2, I2, rz, es', g2, r2, s2', tz, hz, w2⟩ => ⟨I2.kIn, ?_⟩
  rw [hks]
  exact c W pins s2 σ H2 Γ g2 us ws vs zs ds es' Q tk I2 r rz (r.length.symm.trans (t.length.trans hl)) (rz.length.symm.trans (tz.length.trans (hz.trans hj))) r2 (t.mono s2'.le s2'.mu) tz w2
/-- f(k = v, ..) -/
theorem de_calK0 (c : CalG L X u 0 ks m) (kp : PySem.W.keepIn X.K u = true) (gl : Gl X x) (mf : X.mg x = some u) (hk : DK L X js kws) (hj : js.length = ks.length := by rfl)
    (hall : (backToKw pos (keywordEach kws X.env)).all (·.1.isSome) = true := by rfl) (hks : (backToKw pos (keywordEach kws X.env)).filterMap (·.1) = ks := by rfl) (nd : (x == ("__debug__" : Str)) = false := by decide)
    (h2 : ((backTo pos (starEach [] X.env)).any (·.1) || (backToKw pos (keywordEach kws X.env)).any (·.1.isNone)) = false := by rfl) :
    DE L X (iCal m js) (.Call (.Name x p) [] kws pos) := fun W tk => by
  refine ⟨fun pins s σ H Q I ⟨Γ, g, rp, w⟩ => ?_⟩
  refine wpAny_Call_Name_kw (ld_glob I gl mf ?_ nd)
  refine PySem.W.callWith_KW0 (h₀ := X.base) I.ok.mod.kin kp hall ?_ h2
  refine thn ((hk W tk).run pos pins s σ H _ I (got_of rp w)) fun ws s2 ⟨zs, H2, I2, rz, es', g2, r2, s2', tz, hz, w2⟩ => ⟨I2.kIn, ?_⟩
  rw [hks]
  exact c W pins s2 σ H2 Γ g2 [] ws [] zs [] es' Q tk I2 .nil rz rfl (rz.length.symm.trans (tz.length.trans (hz.trans hj))) r2 .nil tz w2
/-- f() -/
theorem de_cal0 (c : CalG L X u 0 [] m) (kp : PySem.W.keepIn X.K u = true) (gl : Gl X x) (mf : X.mg x = some u) (nd : (x == ("__debug__" : Str)) = false := by decide) :
    DE L X (iCal m []) (.Call (.Name x p) [] [] pos) := fun W tk => by
  refine ⟨fun pins s σ H Q I ⟨Γ, g, rp, w⟩ => ?_⟩
  refine wpAny_Call_Name_kw (ld_glob I gl mf ?_ nd)
  exact PySem.W.callWith_K0 (first := []) I.kIn kp (c W pins s σ H Γ g [] [] [] [] [] [] Q tk I .nil .nil rfl rfl rp .nil .nil w)

/-! o.m(..) -/
def iMth (c : Nat) (m : List D → M D) (i : IE) (is : List IE) : IE := fun Γ => (i Γ).bind fun d => match d with
  | .ins c' ds => if c' = c then (evs is Γ).bind fun es => m (.ins c' ds :: es) else .stuck
  | _ => .stuck
structure MthOk (L : Lx) (c : Nat) (nm : Str) (f : Addr) : Prop where
  cl : Cls L.K (L.cA c)
  me : Meth L.K (L.cA c) nm f
  no : nm ∉ L.cF c
theorem lookup_no {nm : Str} : ∀ {ns : List Str} {vs : List V}, nm ∉ ns → (ns.zip vs).lookup nm = none := fun {ns} => by
  induction ns with
  | nil => intro vs _; rfl
  | cons n ns ih =>
    intro vs h
    cases vs with
    | nil => rfl
    | cons v vs =>
      rw [List.mem_cons, not_or] at h
      rw [List.zip_cons_cons, List.lookup_cons, beq_eq_false_iff_ne.mpr h.1]
      exact ih h.2
/-- the receiver, then on -/
theorem meth_go {f : Addr} {Q : VK} {pl : Sem Bool} {args : List Expr} {pins : List (Addr × Obj)} {s : Shared} (ok : MthOk L c nm f) (hK : X.K = L.K) (ho : DE L X i o) (tk : Takes X W) (I : Inv X pins σ H s) (rp : Rep L Γ g σ H)
    (w : (iMth c m i is Γ).wpB g.bud (Wn L DenT g H Q) (XW L W g σ H))
    (k : ∀ (s1 : Shared) (H1 : Hp) (g1 : Gh) (a : Addr) (fs : List D), Inv X pins σ H1 s1 → Rep L Γ g1 σ H1 → Den L g1 (.ref a) (.ins c fs) → ((evs is Γ).bind fun es => m (.ins c fs :: es)).wpB g1.bud (Wn L DenT g1 H1 Q) (XW L W g1 σ H1) →
      wpAny (model X.prog X.w) X.A (callWith pos (.ref f) [.ref a] (backTo pos (starEach args X.env)) (backToKw pos (keywordEach kws X.env))) (EP X pins σ Q) X.xe s1)
    (ht : eval (.Call (.Attribute o nm apos) args kws pos) X.env = (do
      let ov ← eval o X.env
      standAt apos.atName
      let (f, first) ← holding [ov] (getMethod ov nm pl)
      callWith pos f first (backTo pos (starEach args X.env)) (backToKw pos (keywordEach kws X.env)))) :
    wpAny (model X.prog X.w) X.A (eval (.Call (.Attribute o nm apos) args kws pos) X.env) (EP X pins σ Q) X.xe s := by
  refine PySem.W.methodCall_KW (pl := pl) (thn ((ho W tk).run pins s σ H (fun v H1 => ∃ (g1 : Gh) (a : Addr) (fs : List D) (dx : Addr) (vs : List V), v = .ref a ∧ H1 a = some (.ins (L.cA c) dx ((L.cF c).zip vs)) ∧ Rep L Γ g1 σ H1 ∧ Den L g1 (.ref a) (.ins c fs) ∧ ((evs is Γ).bind fun es => m (.ins c fs :: es)).wpB g1.bud (Wn L DenT g1 H1 Q) (XW L W g1 σ H1)) I
    ⟨Γ, g, rp, M.wpB_mono (fun d b h v g1 H1 s1 e t => ?_) (fun _ _ x => x) _ _ ((M.wpB_bind _ _).mp w)⟩) fun u s1 ⟨v, H1, I1, rv, g1, a, fs, dx, vs, ev, hH, r1, t, w1⟩ => ?_) ht
  · subst e
    split at h
    · rename_i c' ds
      split at h
      · rename_i hc
        subst hc
        have t' := t
        cases t with
        | ins e1 e2 l =>
          exact ⟨g1, _, ds, _, _, rfl, s1.sub _ _ e1, rp.step s1, t', M.wpB_mono (fun d b k v g2 H2 s2 e t => k v g2 H2 (s1.trans s2) e t) (fun _ _ x => x.of s1) _ _ h⟩
      · exact h.elim
    · exact h.elim
  · subst ev
    obtain rfl : u = Value.ref a := rv
    exact getmeth_ok I1 hH (hK ▸ ok.cl) (hK ▸ ok.me) (lookup_no ok.no) (k s1 H1 g1 a fs I1 r1 t w1)
theorem de_meth {f : Addr} {pl : Sem Bool} (cg : CalG L X (.ref f) (is.length + 1) [] m) (ok : MthOk L c nm f) (hK : X.K = L.K) (ho : DE L X i o) (ha : DA L X is (e :: es))
    (h1 : starEach (e :: es) X.env = (false, eval e X.env) :: starEach es X.env := by rfl) (h2 : (backTo pos (starEach es X.env)).any (·.1) = false := by rfl)
    (ht : eval (.Call (.Attribute o nm apos) (e :: es) [] pos) X.env = (do
      let ov ← eval o X.env
      standAt apos.atName
      let (f, first) ← holding [ov] (getMethod ov nm pl)
      callWith pos f first (backTo pos (starEach (e :: es) X.env)) (backToKw pos (keywordEach [] X.env))) := by rfl) : DE L X (iMth c m i is) (.Call (.Attribute o nm apos) (e :: es) [] pos) := fun W tk => by
  refine ⟨fun pins s σ H Q I ⟨Γ, g, rp, w⟩ => ?_⟩
  refine meth_go (kws := []) ok hK ho tk I rp w (fun s1 H1 g1 a fs I1 r1 t w1 => ?_) ht
  refine PySem.W.callWith_K (first := [.ref a]) (h₀ := X.base) I.ok.mod.kin (hK ▸ ok.me.kp) (thn ((ha W tk).run pos pins s1 σ H1 _ I1 (got_of r1 w1)) fun us s2 ⟨vs, H2, I2, r, ds, g2, r2, s', l, hl, w2⟩ => ⟨I2.kIn, ?_⟩) h1 h2
  exact cg W pins s2 σ H2 Γ g2 (.ref a :: us) [] (.ref a :: vs) [] (.ins c fs :: ds) [] Q tk I2 (.cons rfl r) .nil (by rw [List.length_cons, ← r.length, l.length, hl]) rfl r2 (.cons (t.mono s'.le s'.mu) l) .nil (by rw [List.append_nil]; exact w2)
theorem de_meth0 {f : Addr} {pl : Sem Bool} (cg : CalG L X (.ref f) 1 [] m) (ok : MthOk L c nm f) (hK : X.K = L.K) (ho : DE L X i o)
    (ht : eval (.Call (.Attribute o nm apos) [] [] pos) X.env = (do
      let ov ← eval o X.env
      standAt apos.atName
      let (f, first) ← holding [ov] (getMethod ov nm pl)
      callWith pos f first (backTo pos (starEach [] X.env)) (backToKw pos (keywordEach [] X.env))) := by rfl) : DE L X (iMth c m i []) (.Call (.Attribute o nm apos) [] [] pos) := fun W tk => by
  refine ⟨fun pins s σ H Q I ⟨Γ, g, rp, w⟩ => ?_⟩
  refine meth_go (kws := []) ok hK ho tk I rp w (fun s1 H1 g1 a fs I1 r1 t w1 => ?_) ht
  exact PySem.W.callWith_K0 (first := [.ref a]) I1.kIn (hK ▸ ok.me.kp) (cg W pins s1 σ H1 Γ g1 [.ref a] [] [.ref a] [] [.ins c fs] [] Q tk I1 (.cons rfl .nil) .nil rfl rfl r1 (.cons t .nil) .nil w1)
theorem de_methK0 {f : Addr} {pl : Sem Bool} (cg : CalG L X (.ref f) 1 ks m) (ok : MthOk L c nm f) (hK : X.K = L.K) (ho : DE L X i o) (hk : DK L X js kws) (hj : js.length = ks.length := by rfl)
    (hall : (backToKw pos (keywordEach kws X.env)).all (·.1.isSome) = true := by rfl) (hks : (backToKw pos (keywordEach kws X.env)).filterMap (·.1) = ks := by rfl)
    (h2 : ((backTo pos (starEach [] X.env)).any (·.1) || (backToKw pos (keywordEach kws X.env)).any (·.1.isNone)) = false := by rfl)
    (ht : eval (.Call (.Attribute o nm apos) [] kws pos) X.env = (do
      let ov ← eval o X.env
      standAt apos.atName
      let (f, first) ← holding [ov] (getMethod ov nm pl)
      callWith pos f first (backTo pos (starEach [] X.env)) (backToKw pos (keywordEach kws X.env))) := by rfl) : DE L X (iMth c m i js) (.Call (.Attribute o nm apos) [] kws pos) := fun W tk => by
  refine ⟨fun pins s σ H Q I ⟨Γ, g, rp, w⟩ => ?_⟩
  refine meth_go ok hK ho tk I rp w (fun s1 H1 g1 a fs I1 r1 t w1 => ?_) ht
  refine PySem.W.callWith_KW0 (first := [.ref a]) (h₀ := X.base) I.ok.mod.kin (hK ▸ ok.me.kp) hall ?_ h2
  refine thn ((hk W tk).run pos pins s1 σ H1 _ I1 (got_of r1 w1)) fun ws s2 ⟨zs, H2, I2, rz, es', g2, r2, s', tz, hz, w2⟩ => ⟨I2.kIn, ?_⟩
  rw [hks]
  exact cg W pins s2 σ H2 Γ g2 [.ref a] ws [.ref a] zs [.ins c fs] es' Q tk I2 (.cons rfl .nil) rz rfl (rz.length.symm.trans (tz.length.trans (hz.trans hj))) r2 (.cons (t.mono s'.le s'.mu) .nil) tz w2
theorem de_methK {f : Addr} {pl : Sem Bool} (cg : CalG L X (.ref f) (is.length + 1) ks m) (ok : MthOk L c nm f) (hK : X.K = L.K) (ho : DE L X i o) (ha : DA L X is (e :: es)) (hk : DK L X js kws) (hj : js.length = ks.length := by rfl)
    (hall : (backToKw pos (keywordEach kws X.env)).all (·.1.isSome) = true := by rfl) (hks : (backToKw pos (keywordEach kws X.env)).filterMap (·.1) = ks := by rfl)
    (h1 : starEach (e :: es) X.env = (false, eval e X.env) :: starEach es X.env := by rfl) (h2 : ((backTo pos (starEach (e :: es) X.env)).any (·.1) || (backToKw pos (keywordEach kws X.env)).any (·.1.isNone)) = false := by rfl)
    (ht : eval (.Call (.Attribute o nm apos) (e :: es) kws pos) X.env = (do
      let ov ← eval o X.env
      standAt apos.atName
      let (f, first) ← holding [ov] (getMethod ov nm pl)
      callWith pos f first (backTo pos (starEach (e :: es) X.env)) (backToKw pos (keywordEach kws X.env))) := by rfl) : DE L X (iMth c m i (is ++ js)) (.Call (.Attribute o nm apos) (e :: es) kws pos) := fun W tk => by
  refine ⟨fun pins s σ H Q I ⟨Γ, g, rp, w⟩ => ?_⟩
  refine meth_go ok hK ho tk I rp w (fun s1 H1 g1 a fs I1 r1 t w1 => ?_) ht
  refine PySem.W.callWith_KW (first := [.ref a]) (h₀ := X.base) I.ok.mod.kin (hK ▸ ok.me.kp) hall (thn ((ha W tk).run pos pins s1 σ H1 _ I1 (got_of r1 (evs_two w1))) fun us s2 ⟨vs, H2, I2, r, ds, g2, r2, s', l, hl, w2⟩ => ?_) h2 h1
  refine thn ((hk W tk).run pos pins s2 σ H2 _ I2 (got_of r2 w2)) fun ws s3 ⟨zs, H3, I3, rz, es', g3, r3, s3', tz, hz, w3⟩ => ⟨I3.kIn, ?_⟩
  rw [hks]
  exact cg W pins s3 σ H3 Γ g3 (.ref a :: us) ws (.ref a :: vs) zs (.ins c fs :: ds) es' Q tk I3 (.cons rfl r) rz (by rw [List.length_cons, ← r.length, l.length, hl]) (rz.length.symm.trans (tz.length.trans (hz.trans hj))) r3 (.cons ((t.mono s'.le s'.mu).mono s3'.le s3'.mu) (l.mono s3'.le s3'.mu)) tz w3
end
end DL
/-! Order of data, chains of comparisons, is of truth values, texts and tuples many times over. -/
namespace DL
open PySem PySem.Spec L2
section
variable {L : Lx} {X : Cx} {g g' : Gh} {H H' : Hp} {σ : L2.St} {Γ : Env} {W : WX} {pos p : Pos} {i j k : IE} {a b c : Expr}
/-! order -/
def D.isNon : D → Bool
  | .non => true
  | _ => false
def okLt (x y : D) : Bool := x.pl && (y.pl && (PySem.W.alike x.py y.py && (!x.isNon && decide (min x.dep y.dep ≤ 60))))
def dLt (x y : D) : Bool := PySem.W.dataLt x.py y.py
def fLtD (x y : D) : Option D := if okLt x y then some (.bl (dLt x y)) else none
def fLeD (x y : D) : Option D := if okLt x y then some (.bl (!dLt y x)) else none
def fGtD (x y : D) : Option D := if okLt x y then some (.bl (dLt y x)) else none
def fGeD (x y : D) : Option D := if okLt x y then some (.bl (!dLt x y)) else none
theorem py_non {x : D} (p : x.pl = true) (h : (!x.isNon) = true) : x.py ≠ .none := by
  cases x <;> simp [D.pl, D.isNon, D.py] at p h ⊢
theorem ord_of {op : CmpOp} {f : D → D → Option D} {r : D → D → Bool} (hf : ∀ x y d, f x y = some d → okLt x y = true ∧ d = .bl (r x y)) (hK : X.K = L.K) (hu : X.A.units + 64 < cLine)
    (h : ∀ {s : Shared} {u v : Value} {x y : D} {as bs : List Addr} {Q : Value → Shared → Prop}, Reads s.heap u x.py as → Reads s.heap v y.py bs → PySem.W.alike x.py y.py = true → x.py ≠ .none → X.A.units + min x.py.depth y.py.depth < cLine → Q (.bool (r x y)) s → wpAny (model X.prog X.w) X.A (compareOp op u v) Q X.xe s) : OpD L X (compareOp op) f := by
  intro pins st σ H x y v u Q I rx ry ⟨Γ, g, σ', dx, dy, d, rp, vx, vy, e, w⟩
  obtain ⟨z, rfl⟩ := hf _ _ _ e
  unfold okLt at z
  simp only [Bool.and_eq_true, decide_eq_true_eq] at z
  obtain ⟨z1, z2, z3, z4, z5⟩ := z
  obtain ⟨as, r1⟩ := Dp.reads I dx.py x v (hK ▸ vx.dp rp.sub z1) rx
  obtain ⟨bs, r2⟩ := Dp.reads I dy.py y u (hK ▸ vy.dp rp.sub z2) ry
  exact h r1 r2 z3 (py_non z1 z4) (by rw [D.depth_py, D.depth_py]; omega) ⟨.bl _, H, I, rfl, w _ g H (Stp.refl rp) rfl (.bl _)⟩
theorem od_ltD (hK : X.K = L.K) (hu : X.A.units + 64 < cLine) : OpD L X (compareOp .Lt) fLtD := ord_of (r := dLt) (fun x y d e => by unfold fLtD at e; split at e <;> cases e; exact ⟨by assumption, rfl⟩) hK hu fun r1 r2 h3 h4 h5 q => PySem.W.lt_data r1 r2 h3 h4 h5 q
theorem od_gtD (hK : X.K = L.K) (hu : X.A.units + 64 < cLine) : OpD L X (compareOp .Gt) fGtD := ord_of (r := fun x y => dLt y x) (fun x y d e => by unfold fGtD at e; split at e <;> cases e; exact ⟨by assumption, rfl⟩) hK hu fun r1 r2 h3 h4 h5 q => PySem.W.gt_data r1 r2 h3 h4 h5 q
theorem od_leD (hK : X.K = L.K) (hu : X.A.units + 64 < cLine) : OpD L X (compareOp .LtE) fLeD := ord_of (r := fun x y => !dLt y x) (fun x y d e => by unfold fLeD at e; split at e <;> cases e; exact ⟨by assumption, rfl⟩) hK hu fun r1 r2 h3 h4 h5 q => PySem.W.le_data r1 r2 h3 h4 h5 q
theorem od_geD (hK : X.K = L.K) (hu : X.A.units + 64 < cLine) : OpD L X (compareOp .GtE) fGeD := ord_of (r := fun x y => !dLt x y) (fun x y d e => by unfold fGeD at e; split at e <;> cases e; exact ⟨by assumption, rfl⟩) hK hu fun r1 r2 h3 h4 h5 q => PySem.W.ge_data r1 r2 h3 h4 h5 q
/-- with ints told plainly -/
def fLt := orD fLtI fLtD
def fLe := orD fLeI fLeD
def fGt := orD fGtI fGtD
def fGe := orD fGeI fGeD
theorem od_lt (hK : X.K = L.K) (hu : X.A.units + 64 < cLine) : OpD L X (compareOp .Lt) fLt := od_ltI.or (od_ltD hK hu)
theorem od_le (hK : X.K = L.K) (hu : X.A.units + 64 < cLine) : OpD L X (compareOp .LtE) fLe := od_leI.or (od_leD hK hu)
theorem od_gt (hK : X.K = L.K) (hu : X.A.units + 64 < cLine) : OpD L X (compareOp .Gt) fGt := od_gtI.or (od_gtD hK hu)
theorem od_ge (hK : X.K = L.K) (hu : X.A.units + 64 < cLine) : OpD L X (compareOp .GtE) fGe := od_geI.or (od_geD hK hu)
/-! a < b <= c -/
def iChain (f f' : D → D → Option D) (i j k : IE) : IE := fun Γ => (i Γ).bind fun x => (j Γ).bind fun y => match f x y with
  | some (.bl t) => if t = true then (k Γ).bind fun z => (match f' y z with
    | some d => .ret d
    | none => .stuck) else .ret (.bl false)
  | _ => .stuck
theorem rd_chain {f f' : D → D → Option D} {Q : VK} (h : Rd1 L DenT W (iChain f f' i j k) σ H Q) : tChain (RdO L f) (RdO L f') (Rd1 L VwT W i) (Rd1 L VwT W j) (Rd1 L VwT W k) σ H Q := by
  obtain ⟨Γ, g, rp, w⟩ := h
  refine Rd1.go rp w fun x H1 dx g1 r1 s1 t1 w => Rd1.go r1 w fun y H2 dy g2 r2 s2 t2 w => ?_
  split at w
  · rename_i t e
    refine ⟨Γ, g2, σ, dx, dy, .bl t, r2, t1.step s2, t2, e, fun v g3 H3 s3 eb t3 => ?_⟩
    cases t3
    refine ⟨t, rfl, ?_⟩
    cases t with
    | false => exact iteF (w _ g3 H3 (s1.trans (s2.trans s3)) eb (.bl _))
    | true =>
      rw [← eb] at w
      refine iteT (Rd1.go (r2.step s3) (M.wpB_mono (fun _ _ x => x) (fun _ _ x => x.of s3) _ _ w) fun z H4 dz g4 r4 s4 t4 w => ?_)
      split at w
      · rename_i d e2
        exact ⟨Γ, g4, σ, dy, dz, d, r4, (t2.step s3).step s4, t4, e2, fun v g5 H5 s5 eb t5 => w v g5 H5 (s1.trans (s2.trans (s3.trans (s4.trans s5)))) eb t5⟩
      · exact w.elim
  · exact w.elim
theorem de_chain {o o' : CmpOp} {f f' : D → D → Option D} (ho : OpD L X (compareOp o) f) (ho' : OpD L X (compareOp o') f') (ha : DV L X i a) (hb : DV L X j b) (hc : DV L X k c) (hm : lastMarks [o, o'] [b, c] = false := by with_unfolding_all rfl) :
    DE L X (iChain f f' i j k) (.Compare a [o, o'] [b, c] pos) := fun W tk => PE.imp (pe_chain ho ho' (ha W tk) (hb W tk) (hc W tk) hm) fun σ H Q h => rd_chain h
theorem dt_chain {o o' : CmpOp} {f f' : D → D → Option D} (ho : OpD L X (compareOp o) f) (ho' : OpD L X (compareOp o') f') (ha : DV L X i a) (hb : DV L X j b) (hc : DV L X k c) (hm : lastMarks [o, o'] [b, c] = false := by with_unfolding_all rfl) :
    DT L X (asB (iChain f f' i j k)) (.Compare a [o, o'] [b, c] pos) := fun W tk => PT.imp (pt_chain ho ho' (ha W tk) (hb W tk) (hc W tk) hm) fun σ H Q ⟨Γ, g, r, w⟩ => by
  refine rd_chain (Q := fun x H' => ∃ k, x = .bl k ∧ Q k H') ⟨Γ, g, r, M.wpB_mono (fun d b k v g' H' s e t => ?_) (fun _ _ x => x) _ _ ((M.wpB_bind _ _).mp w)⟩
  cases d with
  | bl c => cases t; exact ⟨c, rfl, k g' H' s e⟩
  | _ => exact k.elim
/-! is True, is not True -/
def fIsB (neg : Bool) : D → D → Option D
  | .bl x, .bl y => some (.bl (if neg then !decide (x = y) else decide (x = y)))
  | _, _ => none
theorem od_isB : OpD L X (compareOp .Is) (fIsB false) := by
  intro pins st σ H x y v u Q I rx ry ⟨Γ, g, σ', dx, dy, d, rp, vx, vy, e, w⟩
  cases dx <;> cases dy <;> simp only [fIsB, reduceCtorEq, Option.some.injEq] at e
  subst e
  cases vx.bl
  cases vy.bl
  exact op_isBl pins st σ H _ _ v u Q I rx ry ⟨_, _, rfl, rfl, w _ g H (Stp.refl rp) rfl (.bl _)⟩
theorem od_notB : OpD L X (compareOp .IsNot) (fIsB true) := by
  intro pins st σ H x y v u Q I rx ry ⟨Γ, g, σ', dx, dy, d, rp, vx, vy, e, w⟩
  cases dx <;> cases dy <;> simp only [fIsB, reduceCtorEq, Option.some.injEq] at e
  subst e
  cases vx.bl
  cases vy.bl
  exact op_notBl pins st σ H _ _ v u Q I rx ry ⟨_, _, rfl, rfl, w _ g H (Stp.refl rp) rfl (.bl _)⟩
end
end DL
/-! A tuple read backwards; texts and tuples many times over. -/
namespace PySem.DLR
open PySem PySem.Spec HT PyProof.Rows SeqAt
section
variable {prog : Program} {w : World} {A : Around} {E : Value → Shared → Prop} {s : Shared}
theorem adjust_back (n : Nat) : Builtin.Slice.sliceAdjust none none (-1) (n : Int) = ((n : Int) - 1, -1) := by
  unfold Builtin.Slice.sliceAdjust
  have h : (-1 : Int) < 0 := by decide
  simp only [h, if_true]
theorem places_back (n : Nat) : Builtin.Slice.slicePlaces ((n : Int) - 1) (-1) (-1) = n := by
  unfold Builtin.Slice.slicePlaces
  have h : ¬ ((-1 : Int) > 0) := by decide
  simp only [h, if_false]
  by_cases q : (n : Int) - 1 > -1
  · rw [if_pos q]
    have e : (n : Int) - 1 - -1 - 1 = (n : Int) - 1 := by omega
    rw [e, show (- (-1 : Int)) = 1 from rfl, Int.ediv_one]
    omega
  · rw [if_neg q]
    omega
theorem pick_back (xs : Array Value) : ((List.range xs.size).filterMap fun (k : Nat) => xs[((xs.size : Int) - 1 + (k : Int) * (-1)).toNat]?) = xs.toList.reverse := by
  have e : ∀ l : List Nat, (∀ k ∈ l, k < xs.size) → (l.filterMap fun (k : Nat) => xs[((xs.size : Int) - 1 + (k : Int) * (-1)).toNat]?) = (l.map fun k => xs.size - 1 - k).filterMap (xs[·]?) := fun l => by
    induction l with
    | nil => intro _; rfl
    | cons k l ih =>
      intro h
      have hk := h k List.mem_cons_self
      have e1 : ((xs.size : Int) - 1 + (k : Int) * (-1)).toNat = xs.size - 1 - k := by omega
      rw [List.map_cons, List.filterMap_cons, List.filterMap_cons, e1, ih fun m hm => h m (List.mem_cons_of_mem _ hm)]
  rw [e _ fun k hk => List.mem_range.mp hk, PySem.W.krv_range, List.filterMap_reverse, PySem.W.krv_all]
theorem getItem_tuple_back {t sl : Addr} {items : Array Value} {vs : Value} {Q : Value → Shared → Prop} (ht : IsTup s.heap t items) (hs : s.heap.IsSliceOf sl .none .none vs) (ps : IsPart vs (some (-1)))
    (h : Q (.ref s.heap.objs.size) { s with heap := s.heap.push { cls := .type "tuple", data := .seq items.toList.reverse.toArray } }) (hsz : items.size ≤ sizeLine) : wpAny (model prog w) A (getItem (.ref t) (.ref sl)) Q E s := by
  have fit : sizeOk (.seq items.toList.reverse.toArray) := by
    show items.toList.reverse.toArray.size ≤ sizeLine
    rw [List.size_toArray, List.length_reverse, Array.length_toList]
    exact hsz
  obtain ⟨os, hos, hcs, hds⟩ := id hs
  have hT : s.TypeIs (.ref sl) "slice" := ⟨os, hos, hcs⟩
  unfold getItem
  try with_reducible refine wpAny_holding ?_
  first | refine wpAny_bind (wpAny_pure ?_) | skip
  refine wpAny_bind (wpAny_sequenceKey ht.typeIs (by decide) (wpAny_bind (wpAny_callSpecial?_slot (name := Str.ofString "__getitem__") ht.typeIs slot_tuple_getitem (wpAny_call_entry slot_tuple_getitem ht.typeIs entry_tuple_getitem ?_ (args_tuple_getitem _ _)))))
  show wpAny _ _ (Builtin.Tuple.tupleItemsOf (.ref t) >>= _) _ _ s
  refine wpAny_bind (tupleItemsOf_ ht (wpAny_bind (wpAny_typeOf hT ?_)))
  rw [if_pos (by decide)]
  refine wpAny_bind (m := Builtin.Slice.sliceApplied (.ref sl) (pure (items.size : Int))) ?_
  unfold Builtin.Slice.sliceApplied Builtin.Slice.sliceFields
  refine wpAny_bind (wpAny_bind (wpAny_field hos hds (x := .none) rfl (wpAny_bind (wpAny_field hos hds (x := .none) rfl (wpAny_bind (wpAny_field hos hds (x := vs) rfl (wpAny_pure ?_)))))))
  refine wpAny_bind (slicePart_ ps ?_)
  show wpAny _ _ (if ((-1 : Int) == 0) = true then _ else _) _ _ s
  rw [if_neg (by decide)]
  refine wpAny_bind (slicePart_none (wpAny_bind (slicePart_none (wpAny_bind (wpAny_pure ?_)))))
  show wpAny _ _ (match Builtin.Slice.sliceAdjust none none (-1) (items.size : Int) with | (lo, hi) => pure (lo, (-1 : Int), Builtin.Slice.slicePlaces lo hi (-1))) _ _ s
  rw [adjust_back]
  show wpAny _ _ (pure ((items.size : Int) - 1, (-1 : Int), Builtin.Slice.slicePlaces ((items.size : Int) - 1) (-1) (-1))) _ _ s
  rw [places_back]
  refine wpAny_pure ?_
  show wpAny _ _ (if (((items.size : Int) - 1 == 0 && (-1 : Int) == 1 && items.size == items.size) = true) then _ else _) _ _ s
  have no : ¬ (((items.size : Int) - 1 == 0 && (-1 : Int) == 1 && items.size == items.size) = true) := by
    rw [show ((-1 : Int) == 1) = false from by decide, Bool.and_false, Bool.false_and]
    exact Bool.false_ne_true
  rw [if_neg no, pick_back]
  first
    | exact wpAny_bind (m := Builtin.Tuple.tupleExact _) (wpAny_newObj_type (wpAny_pure ⟨_, rfl, wpAny_pure h⟩) fit)
    | exact wpAny_bind (m := Builtin.Tuple.tupleExact _) (wpAny_newObj_type (wpAny_bind (wpAny_pure (wpAny_pure ⟨_, rfl, wpAny_pure h⟩))) fit)
    | exact wpAny_bind (wpAny_bind (m := Builtin.Tuple.tupleExact _) (wpAny_newObj_type (wpAny_pure (wpAny_pure ⟨_, rfl, wpAny_pure h⟩)) fit))
    | exact wpAny_bind (wpAny_bind (m := Builtin.Tuple.tupleExact _) (wpAny_newObj_type (wpAny_pure ⟨_, rfl, wpAny_pure h⟩) fit))
end
end PySem.DLR
namespace DL
open PySem PySem.Spec L2
section
variable {L : Lx} {X : Cx} {g g' : Gh} {H H' : Hp} {σ : L2.St} {Γ : Env} {W : WX} {pos p : Pos} {i j k : IE} {a b c e : Expr}
def tRevA (fz : Bool) (K : PySem.W.Frag) (te : TE) : TE := fun σ H Q => te σ H fun x H1 => ∃ a xs, x = .ref a ∧ ((SqL K H1 a xs ∧ ∀ p, H1 p = none → Q (.ref p) (L2.upd H1 p (.lst xs.reverse))) ∨ (SqT K H1 a xs ∧ ∀ p o, H1 p = none → o.cls = .type "tuple" → o.dict = none → Q (.ref p) (L2.upd H1 p (newT fz o xs.reverse))))
theorem pe_revA {fz : Bool} {te : TE} {n : Nat} {p1 p2 p3 : Pos} (he : PE X e te) : PE X (.Subscript e (.Slice none none (some (.UnaryOp .USub (.Constant (.int 1) n p1) p2)) p3) pos) (tRevA fz X.K te) := by
  refine ⟨fun pins s σ H Q I h => PyProof.Rows.Subscript_ (thn (he.run pins s σ H _ I h) fun v s1 ⟨x, H1, I1, r1, a, xs, ex, q⟩ => ?_)⟩
  subst ex
  cases r1
  have part : PO X (some (.UnaryOp .USub (.Constant (.int 1) n p1) p2)) (tPart (tUn (rU fun i => .int (-i)) (tC (.int 1)))) := po_some (pe_un un_neg pe_int)
  refine wpAny_Slice (thn (po_none.run pins s1 σ H1 (fun o H2 => o = none ∧ H2 = H1) I1 ⟨rfl, rfl⟩) fun vl s2 ⟨l, H2, I2, pl, el, e2⟩ => ?_)
  subst el e2
  refine thn (po_none.run pins s2 σ H2 (fun o H3 => o = none ∧ H3 = H2) I2 ⟨rfl, rfl⟩) fun vu s3 ⟨u, H3, I3, pu, eu, e3⟩ => ?_
  subst eu e3
  refine thn (part.run pins s3 σ H3 (fun o H4 => o = some (-1) ∧ H4 = H3) I3 ⟨1, rfl, -1, rfl, rfl, rfl⟩) fun vs s4 ⟨o, H4, I4, ps, eo, e4⟩ => ?_
  subst eo e4
  have I5 : Inv X pins σ H4 { s4 with heap := s4.heap.push { cls := .type "slice", data := .fields #[vl, vu, vs] } } := I4.kept (t' := s4.toks) fun b ob q => Heap.get?_push_of_some _ q
  show wpAny (model X.prog X.w) X.A (PyProof.Rows.subscriptTail e (.Slice none none (some (.UnaryOp .USub (.Constant (.int 1) n p1) p2)) p3) (.ref a) (.ref s4.heap.objs.size)) (EP X pins σ Q) X.xe { s4 with heap := s4.heap.push { cls := .type "slice", data := .fields #[vl, vu, vs] } }
  rcases q with ⟨hx, q⟩ | ⟨hx, q⟩
  · obtain ⟨its, r, ht, hz⟩ := I5.list hx
    have hlen := r.length
    refine PyProof.Rows.tail_any (ops := [.ref a, .ref s4.heap.objs.size]) ht.isList.typeIs (PySem.slot_list_getitem.lookup) (wpAny_getItem_list_slice ht.isList (Heap.IsSliceOf.new _ vl vu vs) pl pu ps (by decide) ?_ (by rw [List.size_toArray]; omega)) (by with_unfolding_all rfl)
    rw [PySem.W.krv_pick]
    exact ⟨.ref _, _, I5.laid (t' := s4.toks) (o := .lst xs.reverse) (fun b ob q => Heap.get?_push_of_some _ q) (Nat.le_refl _) ⟨by rw [List.length_reverse]; exact hz, _, 0, r.reverse, Heap.get?_push_size _ rfl⟩, rfl, q _ (I5.hok.fresh (Nat.le_refl _))⟩
  · cases pl
    cases pu
    obtain ⟨its, r, ht, hz⟩ := I5.tuple hx
    have hlen := r.length
    refine PyProof.Rows.tail_any (ops := [.ref a, .ref s4.heap.objs.size]) ht.typeIs PyProof.Rows.slot_tuple_getitem.lookup (PySem.DLR.getItem_tuple_back ht (Heap.IsSliceOf.new _ .none .none vs) ps ?_ (by rw [List.size_toArray]; omega)) (by with_unfolding_all rfl)
    refine ⟨.ref _, _, I5.laid (t' := s4.toks) (o := newT fz { cls := .type "tuple", data := .seq its.toArray.toList.reverse.toArray } xs.reverse) (fun b ob q => Heap.get?_push_of_some _ q) (Nat.le_refl _) ?_, rfl, q _ _ (I5.hok.fresh (Nat.le_refl _)) rfl rfl⟩
    unfold newT
    split
    · exact ⟨Heap.get?_push_size _ rfl, by rw [List.length_reverse]; exact hz, its.reverse, r.reverse, _, Heap.get?_push_size _ rfl, rfl, 0, by simp⟩
    · exact ⟨by rw [List.length_reverse]; exact hz, its.reverse, r.reverse, _, Heap.get?_push_size _ rfl, rfl, 0, by simp⟩
def iRev (i : IE) : IE := fun Γ => (i Γ).bind fun d => match d with
  | .lst ds => .ret (.lst ds.reverse)
  | .tup ds => .ret (.tup ds.reverse)
  | _ => .stuck
theorem de_rev {n : Nat} {p1 p2 p3 : Pos} (hK : X.K = L.K) (h : DV L X i e) : DE L X (iRev i) (.Subscript e (.Slice none none (some (.UnaryOp .USub (.Constant (.int 1) n p1) p2)) p3) pos) := fun W tk => PE.imp (pe_revA (fz := L.fz) (h W tk)) fun σ H Q ⟨Γ, g, rp, w⟩ => by
  refine Rd1.go rp w fun v H1 d g1 r1 s t w => ?_
  split at w
  · rename_i ds
    obtain ⟨a, vs, rfl, h1, l1⟩ := t.lst r1.sub
    refine ⟨a, vs, rfl, .inl ⟨SqL.of h1, fun p n => ?_⟩⟩
    have s2 := stp_put (o := .lst vs.reverse) r1 n
    exact w _ _ _ (s.trans s2) rfl (.lst put_F (l1.reverse.mono s2.le s2.mu))
  · rename_i ds
    obtain ⟨a, vs, rfl, h1, l1, _⟩ := t.tup r1.sub
    refine ⟨a, vs, rfl, .inr ⟨hK ▸ h1, fun p o n hc hd => ?_⟩⟩
    have s2 := stp_put (o := newT L.fz o vs.reverse) r1 n newT_nt
    exact w _ _ _ (s.trans s2) rfl (.tup (newT_sq put_F hc hd) (l1.reverse.mono s2.le s2.mu))
  · exact w.elim
/-! many times over -/
def fMulS : D → D → Option D
  | .str x, .int n => if 0 ≤ n ∧ n ≤ 1000 ∧ x.length ≤ 1000 then some (.str (Txt.mul x n)) else none
  | _, _ => none
theorem od_mulS : OpD L X (binaryOp .Mult) fMulS := by
  intro pins st σ H x y v u Q I rx ry ⟨Γ, g, σ', dx, dy, d, rp, vx, vy, e, w⟩
  unfold fMulS at e
  split at e
  · rename_i z n
    split at e
    · rename_i hc
      cases e
      cases vx.str
      cases vy.int
      obtain ⟨t, rfl⟩ := rx
      obtain ⟨t', rfl⟩ := ry
      refine PySem.SB.mul ⟨by simp; omega, fun h1 h2 => ?_, fun h1 h2 => ?_⟩ fun t2 k => ⟨.str _, H, I.tok _, ⟨t2, rfl⟩, w _ g H (Stp.refl rp) rfl (.str _)⟩
      · have q : (1000 : Int) ≤ (2 ^ 63 - 1) / n := by
          refine (Int.le_ediv_iff_mul_le (by omega)).mpr ?_
          have : (1000 : Int) * n ≤ 1000 * 1000 := Int.mul_le_mul_of_nonneg_left hc.2.1 (by decide)
          omega
        omega
      · have q : z.length * n.toNat ≤ 1000 * 1000 := Nat.mul_le_mul hc.2.2 (by omega)
        show decide (z.length * n.toNat > sizeLine) = false
        refine decide_eq_false (Nat.not_lt.mpr (Nat.le_trans q ?_))
        rw [sizeLine_eq]
        decide
    · cases e
  · cases e
end
end DL
/-! sorted of data; a tuple == (); walks over zip and texts. -/
namespace DL
open PySem PySem.Spec L2
/-! a stable sort that the kernel can follow -/
def ins1 {α : Type} (le : α → α → Bool) (x : α) : List α → List α
  | [] => [x]
  | y :: ys => if le x y = true then x :: y :: ys else y :: ins1 le x ys
def isort {α : Type} (le : α → α → Bool) : List α → List α
  | [] => []
  | x :: xs => ins1 le x (isort le xs)
section
variable {α : Type} {le : α → α → Bool}
theorem mem_ins1 {x y : α} : ∀ {l : List α}, y ∈ ins1 le x l → y = x ∨ y ∈ l
  | [], h => .inl (by simpa [ins1] using h)
  | z :: l, h => by
    unfold ins1 at h
    split at h
    · simpa using h
    · rcases List.mem_cons.mp h with h | h
      · exact .inr (by rw [h]; exact List.mem_cons_self)
      · rcases mem_ins1 h with h | h
        · exact .inl h
        · exact .inr (List.mem_cons_of_mem _ h)
theorem ins1_pair (h : PySem.W.TotalLe le) (x : α) : ∀ {l : List α}, l.Pairwise (fun a b => le a b = true) → (ins1 le x l).Pairwise (fun a b => le a b = true)
  | [], _ => List.pairwise_singleton _ _
  | y :: l, p => by
    unfold ins1
    split
    · rename_i q
      refine List.pairwise_cons.mpr ⟨fun z hz => ?_, p⟩
      rcases List.mem_cons.mp hz with rfl | hz
      · exact q
      · exact h.trans _ _ _ q ((List.pairwise_cons.mp p).1 z hz)
    · rename_i q
      obtain ⟨p1, p2⟩ := List.pairwise_cons.mp p
      refine List.pairwise_cons.mpr ⟨fun z hz => ?_, ins1_pair h x p2⟩
      rcases mem_ins1 hz with rfl | hz
      · exact (h.total z y).resolve_left (by simpa using q)
      · exact p1 z hz
theorem ins1_filter (h : PySem.W.TotalLe le) (c x : α) : ∀ {l : List α}, l.Pairwise (fun a b => le a b = true) → (ins1 le x l).filter (PySem.W.sameRank le c) = (x :: l).filter (PySem.W.sameRank le c)
  | [], _ => rfl
  | y :: l, p => by
    unfold ins1
    split
    · rfl
    · rename_i q
      obtain ⟨p1, p2⟩ := List.pairwise_cons.mp p
      have ih := ins1_filter h c x p2
      rw [List.filter_cons, ih]
      simp only [List.filter_cons]
      by_cases hx : PySem.W.sameRank le c x = true
      · by_cases hy : PySem.W.sameRank le c y = true
        · exfalso
          unfold PySem.W.sameRank at hx hy
          rw [Bool.and_eq_true] at hx hy
          exact q (h.trans _ _ _ hx.2 hy.1)
        · simp only [if_pos hx, if_neg hy]
      · simp only [if_neg hx]
theorem isort_pair (h : PySem.W.TotalLe le) : ∀ l : List α, (isort le l).Pairwise (fun a b => le a b = true)
  | [] => List.Pairwise.nil
  | x :: l => ins1_pair h x (isort_pair h l)
theorem isort_filter (h : PySem.W.TotalLe le) (c : α) : ∀ l : List α, (isort le l).filter (PySem.W.sameRank le c) = l.filter (PySem.W.sameRank le c)
  | [] => rfl
  | x :: l => by
    show (ins1 le x (isort le l)).filter _ = _
    rw [ins1_filter h c x (isort_pair h l), List.filter_cons, List.filter_cons, isort_filter h c l]
theorem isort_eq (h : PySem.W.TotalLe le) (l : List α) : isort le l = l.mergeSort le := PySem.W.sort_unique h (isort_pair h l) fun c => isort_filter h c l
end
def dLe (x y : D) : Bool := !PySem.W.dataLt y.py x.py
theorem dLe_eq : PySem.W.dataLe false D.py = dLe := rfl
theorem dLe_total : PySem.W.TotalLe dLe := PySem.W.sortLe_total (PyProof.Rows.listOrd PyProof.Rows.itemOrd) false fun b : D => PySem.W.keyToks b.py
def isTupNe : D → Bool
  | .tup (_ :: _) => true
  | _ => false
def isTupNon : D → Bool
  | .tup _ | .non => true
  | _ => false
def okSort (ds : List D) : Bool := D.plL ds && (ds.all fun x => ds.all fun y => PySem.W.alike x.py y.py) && (ds.all isTupNe || ds.all fun x => !isTupNon x) && ds.all fun x => decide (x.dep ≤ 60)
def sortD (ds : List D) : List D := isort dLe ds
section
variable {L : Lx} {X : Cx} {g g' : Gh} {H H' : Hp} {σ : L2.St} {Γ : Env} {W : WX} {pos p : Pos} {i j k : IE} {a b c e : Expr}
theorem plL_all : ∀ {ds : List D}, D.plL ds = true → ∀ d ∈ ds, d.pl = true
  | [], _, d, h => by cases h
  | x :: r, hp, d, h => by
    simp only [D.plL, Bool.and_eq_true] at hp
    rcases List.mem_cons.mp h with rfl | h
    · exact hp.1
    · exact plL_all hp.2 d h
theorem each_of {vs : List V} {ds : List D} {us : List Value} {R : Value → D → Prop} (hR : ∀ v d u, RelV v u → Den L g v d → d ∈ ds → R u d) (r : Vals vs us) (l : DenL L g vs ds) : PySem.W.EachIs R us ds := by
  have gen : ∀ (vs : List V) (us : List Value) (es : List D), (∀ d ∈ es, d ∈ ds) → Vals vs us → DenL L g vs es → PySem.W.EachIs R us es := fun vs => by
    induction vs with
    | nil => intro us es _ r l; cases r; cases l; exact .nil
    | cons v vs ih =>
      intro us es hs r l
      cases r with
      | cons r1 r2 =>
        cases l with
        | cons l1 l2 => exact .cons (hR _ _ _ r1 l1 (hs _ List.mem_cons_self)) (ih _ _ (fun d hd => hs d (List.mem_cons_of_mem _ hd)) r2 l2)
  exact gen vs us ds (fun _ h => h) r l
theorem of_each {us : List Value} {ds : List D} (h : PySem.W.EachIs (fun u d => ∃ v, RelV v u ∧ Den L g v d) us ds) : ∃ vs, Vals vs us ∧ DenL L g vs ds := by
  induction h with
  | nil => exact ⟨[], .nil, .nil⟩
  | cons h _ ih =>
    obtain ⟨v, r, t⟩ := h
    obtain ⟨vs, rs, ts⟩ := ih
    exact ⟨v :: vs, .cons r rs, .cons t ts⟩
/-- sorted(xs) of a list of data -/
def fSorted : List D → Option D
  | [.lst ds] => if okSort ds = true then some (.lst (sortD ds)) else none
  | _ => none
theorem ca_sorted (hK : X.K = L.K) (hu : X.A.units + 66 < cLine) : CaD L X FrT (.builtin "sorted") fSorted := by
  intro pins st σ H xs us Q I r ⟨Γ, g, σ', ds, d, rp, vs, e, w⟩
  unfold fSorted at e
  split at e
  · rename_i ds
    split at e
    · rename_i hs
      cases e
      unfold okSort at hs
      simp only [Bool.and_eq_true, Bool.or_eq_true, List.all_eq_true, decide_eq_true_eq] at hs
      obtain ⟨⟨⟨h1, h2⟩, h3⟩, h4⟩ := hs
      obtain ⟨v, rfl, a⟩ := vs.one
      obtain ⟨q, ws, rfl, e1, l1⟩ := a.lst rp.sub
      cases r with
      | cons r0 rn =>
        cases rn
        cases r0
        obtain ⟨its, rv, pl, hz⟩ := I.list (.inl (.inl e1))
        have hpl := plL_all h1
        have hal : PySem.W.AllAlike (ds.map D.py) := fun x hx y hy => by
          obtain ⟨x', hx', rfl⟩ := List.mem_map.mp hx
          obtain ⟨y', hy', rfl⟩ := List.mem_map.mp hy
          exact h2 x' hx' y' hy'
        have hk : PySem.W.Sortable (ds.map D.py) := by
          rcases h3 with h3 | h3
          · refine .inl fun x hx => ?_
            obtain ⟨x', hx', rfl⟩ := List.mem_map.mp hx
            have t := h3 x' hx'
            cases x' with
            | tup l => cases l with
              | nil => cases t
              | cons y l => exact ⟨y.py, D.pyL l, by simp only [D.py, D.pyL]⟩
            | _ => cases t
          · refine .inr fun x hx => ?_
            obtain ⟨x', hx', rfl⟩ := List.mem_map.mp hx
            have t := h3 x' hx'
            have t2 := hpl x' hx'
            cases x' <;> simp [isTupNon, D.pl, D.py] at t t2 ⊢
        have hlen : ds.length = its.length := l1.length.symm.trans rv.length
        refine PySem.W.sorted_data (R := fun u d => ∃ v, RelV v u ∧ Den L g v d) (enc := D.py) (bs := ds) pl.isList (each_of (fun v d u r t _ => ⟨v, r, t⟩) rv l1)
          (each_of (fun v d u r t hd => Dp.reads I d.py v u (hK ▸ t.dp rp.sub (hpl d hd)) r) rv l1) hal hk (by have := rv.length; have := l1.length; omega) (fun d hd => by rw [D.depth_py]; have := h4 d hd; omega) fun out ho eo => ?_
        rw [dLe_eq, ← isort_eq dLe_total] at eo
        obtain ⟨vs', r2, l2⟩ := of_each eo
        obtain ⟨n, hn⟩ := PyProof.Rows.sortedAll_at st.heap its out.toArray
        have nn := I.hok.fresh (a := st.heap.objs.size + 1) (Nat.le_succ _)
        have hl2 := r2.length
        have J := I.laid (t' := st.toks) (h' := PyProof.Rows.sortedAll st.heap its out.toArray) (o := .lst vs') (fun b o q => PyProof.Rows.sortedAll_old q) (Nat.le_succ _) ⟨by have := l1.length; have := rv.length; omega, out, n, r2, hn⟩
        exact ⟨.ref _, _, J, rfl, w _ g _ (stp_new (o := .lst vs') rp nn false) rfl (FrT.new rp (Stp.refl rp) nn l2)⟩
    · cases e
  · cases e
/-! (..) == () -/
def fEq0 (neg : Bool) : D → D → Option D
  | .tup xs, .tup [] => some (.bl (if neg then !xs.isEmpty else xs.isEmpty))
  | _, _ => none
def fEq := orD fEqD (fEq0 false)
def fNe := orD fNeD (fEq0 true)
theorem od_eq0 (hK : X.K = L.K) (hu : X.A.units + 1 < cLine) : OpD L X (compareOp .Eq) (fEq0 false) := by
  intro pins st σ H x y v u Q I rx ry ⟨Γ, g, σ', dx, dy, d, rp, vx, vy, e, w⟩
  unfold fEq0 at e
  split at e
  · rename_i ds
    cases e
    obtain ⟨a, vs, rfl, h1, l1, _⟩ := vx.tup rp.sub
    obtain ⟨b, ws, rfl, h2, l2, _⟩ := vy.tup rp.sub
    cases rx
    cases ry
    obtain ⟨its, rv, p1, _⟩ := I.tuple (hK ▸ h1)
    obtain ⟨its2, rv2, p2, _⟩ := I.tuple (hK ▸ h2)
    cases l2
    cases rv2
    refine PySem.W.eq_tuplesT (n := 0) (e := fun _ => true) p1 p2 (fun j h1 h2 => absurd h2 (by simp)) (by omega) ⟨.bl _, H, I, rfl, ?_⟩
    have e : ((List.range (min its.toArray.size ([] : List Value).toArray.size)).all (fun _ => true) && its.toArray.size == ([] : List Value).toArray.size) = ds.isEmpty := by
      have q : its.length = ds.length := rv.length.symm.trans l1.length
      cases its <;> cases ds <;> simp at q ⊢
    rw [e]
    exact w _ g H (Stp.refl rp) rfl (.bl _)
  · cases e
theorem od_eq (hK : X.K = L.K) (hu : X.A.units + 64 < cLine) : OpD L X (compareOp .Eq) fEq := (od_eqD hK hu).or (od_eq0 hK (by omega))
end
end DL
/-! Walks over zip, texts; while; three at once. -/
namespace DL
open PySem PySem.Spec L2
section
variable {L : Lx} {X : Cx} {g g' : Gh} {H H' : Hp} {σ : L2.St} {Γ : Env} {W : WX} {pos p tpos : Pos} {i j k : IE} {a b c e : Expr}
def zipD : List D → List D → List D
  | x :: xs, y :: ys => .pr [x, y] :: zipD xs ys
  | _, _ => []
theorem zipD_at : ∀ {xs ys : List D} {n : Nat} {d : D}, (zipD xs ys)[n]? = some d → ∃ x y, xs[n]? = some x ∧ ys[n]? = some y ∧ d = .pr [x, y]
  | [], _, _, _, h => by simp [zipD] at h
  | _ :: _, [], _, _, h => by simp [zipD] at h
  | x :: xs, y :: ys, 0, d, h => ⟨x, y, rfl, rfl, by simpa [zipD] using h.symm⟩
  | x :: xs, y :: ys, n + 1, d, h => by
    obtain ⟨u, v, h1, h2, h3⟩ := zipD_at (xs := xs) (ys := ys) (n := n) (d := d) (by simpa [zipD] using h)
    exact ⟨u, v, by simpa using h1, by simpa using h2, h3⟩
theorem zipD_len : ∀ {xs ys : List D}, xs.length ≤ (zipD xs ys).length ∨ ys.length ≤ (zipD xs ys).length
  | [], _ => .inl (Nat.zero_le _)
  | _ :: _, [] => .inr (Nat.zero_le _)
  | x :: xs, y :: ys => by
    rcases zipD_len (xs := xs) (ys := ys) with h | h
    · exact .inl (Nat.succ_le_succ h)
    · exact .inr (Nat.succ_le_succ h)
def itZ : List D → M (List D)
  | [.lst xs, .lst ys] => .ret (zipD xs ys)
  | [.tup xs, .tup ys] => .ret (zipD xs ys)
  | _ => .stuck
def iiZ (i j : IE) : II := fun Γ => (evs [i, j] Γ).bind itZ
/-- one turn of a zip, by what the two hold -/
theorem wk_zip {J : It} {a b : Addr} {us vs : List V} {xs ys : List D} (S : Hp → Addr → List V → Prop) (keep : ∀ {g' : Gh} {Γ : Env} {σ : L2.St} {H : Hp}, Rep L Γ g' σ H → FLe g g' → S H a us ∧ S H b vs) (l1 : DenL L g us xs) (l2 : DenL L g vs ys)
    (go : ∀ n H x y, S H a us → S H b vs → us[n]? = some x → vs[n]? = some y → J.go n H) (yld : ∀ n H v H', S H a us → S H b vs → J.yld n H v H' → ∃ T x y, v = .ref T ∧ H T = none ∧ H' = L2.upd H T (.tup [x, y]) ∧ us[n]? = some x ∧ vs[n]? = some y)
    (stop : ∀ n H, S H a us → S H b vs → us.length ≤ n ∨ vs.length ≤ n → J.stop n H) : Wk L J g (zipD xs ys) where
  step := fun n d Γ g' σ H e r f => by
    obtain ⟨x, y, h1, h2, rfl⟩ := zipD_at e
    obtain ⟨u, hu, tu⟩ := (l1.mono f.F f.mu).get h1
    obtain ⟨v, hv, tv⟩ := (l2.mono f.F f.mu).get h2
    obtain ⟨s1, s2⟩ := keep r f
    refine ⟨go n H u v s1 s2 hu hv, fun z H' hy => ?_⟩
    obtain ⟨T, u', v', rfl, nT, rfl, hu', hv'⟩ := yld n H z H' s1 s2 hy
    rw [hu] at hu'
    rw [hv] at hv'
    cases hu'
    cases hv'
    have s := stp_put (o := .tup [u, v]) r nT
    exact ⟨g'.put T (.tup [u, v]), s, rfl, .pr put_F (.cons (tu.mono s.le s.mu) (.cons (tv.mono s.le s.mu) .nil))⟩
  stop := fun Γ g' σ H r f => by
    obtain ⟨s1, s2⟩ := keep r f
    refine stop _ H s1 s2 ?_
    rw [l1.length, l2.length]
    exact zipD_len
theorem di_zip (hK : X.K = L.K) {elts : List Expr} {kk : Nat} (hg : Gl X "zip") (hm : X.mg "zip" = none) (ha : DA L X [i, j] [a, b])
    (hs : starEach [a, b] X.env = (false, eval a X.env) :: starEach [b] X.env := by rfl) (hpl : (backTo pos (starEach [b] X.env)).any (·.1) = false := by rfl) :
    DI L X (iiZ i j) (.Tuple elts kk tpos) (.Call (.Name "zip" p) [a, b] [] pos) := fun W tk => by
  refine PI.imp (RZ.pi_zipA hg hm (ha W tk) hs hpl) fun σ H R ⟨Γ, g, r, w⟩ => RdA.go r w fun vs H1 ds g1 r1 s t w => ?_
  unfold itZ at w
  split at w
  · rename_i xs ys
    cases t with
    | cons t1 t2 =>
      cases t2 with
      | cons t2 t3 =>
        cases t3
        cases t1 with
        | @lst a us _ e1 l1 =>
          cases t2 with
          | @lst b ws _ e2 l2 =>
            refine ⟨a, b, us, ws, rfl, .inl ⟨.inl (.inl (r1.sub _ _ e1)), .inl (.inl (r1.sub _ _ e2)), w g1 H1 _ s rfl ?_⟩⟩
            refine wk_zip (a := a) (b := b) (us := us) (vs := ws) (fun H q vs => H q = some (.lst vs)) (fun r f => ⟨r.sub _ _ (f.F _ _ e1), r.sub _ _ (f.F _ _ e2)⟩) l1 l2 (fun n H x y s1 s2 h1 h2 => ⟨us, ws, x, y, .inl (.inl s1), .inl (.inl s2), h1, h2⟩)
              (fun n H v H' s1 s2 ⟨T, x, y, e1, e2, e3, f1, f2⟩ => ⟨T, x, y, e1, e2, e3, f1 us (.inl (.inl s1)), f2 ws (.inl (.inl s2))⟩) (fun n H s1 s2 h => ⟨us, ws, .inl (.inl s1), .inl (.inl s2), h⟩)
  · rename_i xs ys
    cases t with
    | cons t1 t2 =>
      cases t2 with
      | cons t2 t3 =>
        cases t3
        cases t1 with
        | @tup a us _ e1 l1 =>
          cases t2 with
          | @tup b ws _ e2 l2 =>
            refine ⟨a, b, us, ws, rfl, .inr ⟨hK ▸ sqT_mono r1.sub e1.sq, hK ▸ sqT_mono r1.sub e2.sq, w g1 H1 _ s rfl ?_⟩⟩
            refine wk_zip (a := a) (b := b) (us := us) (vs := ws) (fun H q vs => SqT X.K H q vs) (fun r f => ⟨hK ▸ sqT_mono r.sub (sqT_mono f.F e1.sq), hK ▸ sqT_mono r.sub (sqT_mono f.F e2.sq)⟩) l1 l2 (fun n H x y s1 s2 h1 h2 => ⟨us, ws, x, y, s1, s2, h1, h2⟩)
              (fun n H v H' s1 s2 ⟨T, x, y, e1, e2, e3, f1, f2⟩ => ⟨T, x, y, e1, e2, e3, f1 us s1, f2 ws s2⟩) (fun n H s1 s2 h => ⟨us, ws, s1, s2, h⟩)
  · exact w.elim
/-! the signs of a text -/
def signs (z : Str) : List D := z.cps.toList.map fun c => .str ⟨#[c]⟩
def itS (d : D) : M (List D) := match d with
  | .str z => .ret (signs z)
  | _ => .stuck
def iiS (i : IE) : II := fun Γ => (i Γ).bind itS
theorem di_str {tg : Expr} (h : DE L X i e) : DI L X (iiS i) tg e := fun W tk => by
  refine PI.imp (pi_str (h W tk)) fun σ H R ⟨Γ, g, r, w⟩ => RdI.go (T := DenT) r w fun v H1 d g1 r1 s t w => ?_
  cases d with
  | str z =>
    cases t
    refine ⟨z, rfl, w g1 H1 _ (Stp.refl r1) rfl ⟨fun n d Γ g' σ H e r f => ?_, fun Γ g' σ H r f => ?_⟩⟩
    · unfold signs at e
      rw [List.getElem?_map] at e
      obtain ⟨c, hc, rfl⟩ := Option.map_eq_some_iff.mp e
      rw [Array.getElem?_toList] at hc
      refine ⟨(Array.getElem?_eq_some_iff.mp hc).1, fun x H' ⟨e1, c', hc', ev⟩ => ?_⟩
      subst e1 ev
      rw [hc] at hc'
      cases hc'
      exact ⟨g', Stp.refl r, rfl, .str _⟩
    · show z.cps.size ≤ (signs z).length
      unfold signs
      rw [List.length_map, Array.length_toList]
      exact Nat.le_refl _
  | _ => exact w.elim
/-! while -/
def sWhile : Nat → IT → IS → IS
  | 0, _, _ => fun _ => .stuck
  | n + 1, c, s => fun Γ => (c Γ).bind fun t => if t = true then (s Γ).bind fun fl => (match fl with
    | .nx Γ' => sWhile n c s Γ'
    | .ct Γ' => sWhile n c s Γ'
    | .bk Γ' => .ret (.nx Γ')
    | .rt d => .ret (.rt d)) else .ret (.nx Γ)
theorem ds_while {c : IT} {s : IS} {ce : Expr} {body : List Stmt} (n : Nat) (hp : PassesOwn (model X.prog X.w) X.A X.env X.xe) (hc : DT L X c ce) (hb : DSs L X s body) : DS L X (sWhile n c s) (.While ce body [] pos) := fun W g0 H0 tk => by
  refine PS.imp (ps_while hp (hc W tk) (hb W g0 H0 tk)) fun Dn σ H ⟨Γ, g, r, w⟩ => ?_
  refine ⟨fun m σ H => ∃ Γ g2, RepS L g0 H0 Γ g2 σ H ∧ FLe g g2 ∧ (sWhile m c s Γ).wpB g2.bud (FlT L g0 H0 g Dn) (XS L W g0 H0), ⟨n, Γ, g, r, FLe.refl g, w⟩, fun m σ H ⟨Γ, g2, r2, f2, w2⟩ => ?_⟩
  cases m with
  | zero => exact w2.elim
  | succ m =>
    refine ⟨Γ, g2, r2.rep, M.wpB_mono (fun t b k g3 H3 s3 e3 => ?_) (fun _ _ x => x.xw r2.base) _ _ ((M.wpB_bind _ _).mp w2)⟩
    subst e3
    have r3 := r2.step s3
    have f3 := f2.trans s3.fle
    cases t with
    | true =>
      refine ⟨fun σ' H' => ∃ Γ g4, RepS L g0 H0 Γ g4 σ' H' ∧ FLe g g4 ∧ (sWhile m c s Γ).wpB g4.bud (FlT L g0 H0 g Dn) (XS L W g0 H0), fun σ' H' h => ⟨m, Nat.lt_succ_self m, h⟩, ?_⟩
      refine ⟨Γ, g3, r3, M.wpB_mono (fun fl b k => ?_) (fun _ _ x => x) _ _ ((M.wpB_bind _ _).mp (show ((s Γ).bind _).wpB g3.bud _ _ from k))⟩
      cases fl with
      | nx Γ5 => exact fun g5 σ5 H5 r5 f5 e5 => ⟨Γ5, g5, r5, f3.trans f5, by subst e5; exact k⟩
      | ct Γ5 => exact fun g5 σ5 H5 r5 f5 e5 => ⟨Γ5, g5, r5, f3.trans f5, by subst e5; exact k⟩
      | bk Γ5 => exact fun g5 σ5 H5 r5 f5 e5 => k g5 σ5 H5 r5 (f3.trans f5) e5
      | rt d => exact k
    | false => exact k g3 σ H3 r3 f3 rfl
end
end DL
/-! len(set(t)), t a tuple of texts. -/
namespace PySem.DLS
open PySem PySem.Spec PyProof.Rows
/-- the texts met, each once -/
def met : List Str → List Str := fun xs => xs.foldl (fun q x => if q.any (· == x) then q else q ++ [x]) []
theorem met_snoc (xs : List Str) (x : Str) : met (xs ++ [x]) = if (met xs).any (· == x) then met xs else met xs ++ [x] := by
  unfold met
  rw [List.foldl_append]
  rfl
theorem met_len : ∀ (n : Nat) (xs : List Str), xs.length = n → (met xs).length ≤ n := fun n => by
  induction n with
  | zero => intro xs h; rw [List.length_eq_zero_iff.mp h]; exact Nat.le_refl _
  | succ n ih =>
    intro xs h
    have h0 : xs ≠ [] := fun e => by rw [e] at h; cases h
    have h2 := ih xs.dropLast (by rw [List.length_dropLast, h]; rfl)
    rw [← List.dropLast_concat_getLast h0, met_snoc]
    split
    · omega
    · rw [List.length_append, List.length_singleton]; omega
section
variable {prog : Program} {w : World} {A : Around} {R : Result → Shared → Prop} {I : Addr} {fp wr : List Addr} {G : Array GenState → Array GenState → Prop} {n : Nat} {P : Nat → Value → Prop} {St : Nat → Shared → Prop}
theorem fill (W : WalksS prog w A.in1 I fp wr G n P St) (S : Addr) (hS : S ∉ fp) (xs : List Str) (hz : xs.length = n) (hb : n + 1 < scanBound) (hv : ∀ i v, P i v → ∃ t, v = .str (xs.getD i Str.empty) t) :
    ∀ (k i : Nat) (s : Shared), n - i = k → i ≤ n → St i s → s.heap.SetOf (PySem.strKind prog w) S (fun z => (met (xs.take i)).any (· == z)) (met (xs.take i)).length →
      (∀ s', Moved (S :: wr) G s s' → s'.heap.SetOf (PySem.strKind prog w) S (fun z => (met xs).any (· == z)) (met xs).length → R (.ok (.ret .none)) s') → codeAny (model prog w) A (.builtin "set.update.loop" ⟨[.ref S, .ref I], []⟩) R s := by
  have out : S ∉ wr := fun h => hS (W.sub _ h)
  have up : ∀ b ∈ wr, b ∈ S :: wr := fun b h => .tail _ h
  intro k
  induction k with
  | zero =>
    intro i s hk hi st so fin
    obtain rfl : i = n := by omega
    rw [List.take_of_length_le (Nat.le_of_eq hz)] at so
    refine codeAny_builtin PyProof.Rows.F.entry_set_update_loop ?_; rw [Around.under_plainId PyProof.Rows.F.plain_set_update_loop _]
    show wpAny _ A.in1 (pyNext (.ref I) >>= _) _ _ s
    refine wpAny_bind (W.done s _ _ st fun s' mv => wpAny_pure (fin s' (mv.mono up) ?_))
    obtain ⟨o, es, ep, t, ho, more⟩ := so
    exact ⟨o, es, ep, t, mv.heap S _ out ho, more⟩
  | succ k ih =>
    intro i s hk hi st so fin
    have lt : i < n := by omega
    refine codeAny_builtin PyProof.Rows.F.entry_set_update_loop ?_; rw [Around.under_plainId PyProof.Rows.F.plain_set_update_loop _]
    show wpAny _ A.in1 (pyNext (.ref I) >>= _) _ _ s
    refine wpAny_bind (W.item i s _ _ lt st fun v s' hP st' mv => ?_)
    obtain ⟨t, rfl⟩ := hv i v hP
    have so' : s'.heap.SetOf (PySem.strKind prog w) S (fun z => (met (xs.take i)).any (· == z)) (met (xs.take i)).length := let ⟨o, es, ep, tb, ho, more⟩ := so; ⟨o, es, ep, tb, mv.heap S _ out ho, more⟩
    show wpAny _ A.in1 (holding [Value.str (xs.getD i Str.empty) t] (setAdd S (.str (xs.getD i Str.empty) t)) >>= _) _ _ s'
    refine wpAny_bind (wpAny_holding ?_); unfold setAdd; refine wpAny_holding (wpAny_bind ((PySem.strKind prog w).pyHash (k := xs.getD i Str.empty) (strKind_is _ _ _ _) ?_))
    have hm : (met (xs.take i)).length ≤ i := met_len i _ (by rw [List.length_take]; omega)
    refine wpAny_setAddHashed_of (knd := PySem.strKind prog w) (s := { s' with toks := s'.toks + 1 }) (strKind_is _ _ _ _) rfl so' (by omega) fun h' sb so2 => ?_
    have tk : xs.take (i + 1) = xs.take i ++ [xs.getD i Str.empty] := by
      have hlt : i < xs.length := by omega
      rw [List.take_add_one, List.getD_eq_getElem?_getD, List.getElem?_eq_getElem hlt]; rfl
    have so3 : h'.SetOf (PySem.strKind prog w) S (fun z => (met (xs.take (i + 1))).any (· == z)) (met (xs.take (i + 1))).length := by
      refine SetOf_congr so2 (fun z => ?_) ?_
      · show ((met (xs.take i)).any (· == z) || decide (z = xs.getD i Str.empty)) = _
        rw [tk, met_snoc]
        split
        · rename_i q
          by_cases e : z = xs.getD i Str.empty
          · rw [e, q]; rfl
          · rw [decide_eq_false e, Bool.or_false]
        · rw [List.any_append]
          congr 1
          by_cases e : z = xs.getD i Str.empty
          · rw [e]; simp
          · rw [decide_eq_false e]; simpa using fun q => e q.symm
      · show (if (met (xs.take i)).any (· == xs.getD i Str.empty) = true then _ else _) = _
        rw [tk, met_snoc]
        split
        · rfl
        · rw [List.length_append]; rfl
    refine wpAny_pure ⟨plainId_quiet PyProof.Rows.F.plain_set_update_loop _, ih (i + 1) _ (by omega) lt (W.frame _ s' _ _ st' (Nat.le_succ _) fun b hb o e => by rw [sb.2 b (fun q : b = S => hS (q ▸ hb))]; exact e) so3 fun s'' mv2 so4 => ?_⟩
    exact fin s'' (Moved.trans W.gtrans ((mv.mono up).then_heap (Nat.le_succ _) fun b o hb e => by rw [sb.2 b (fun q : b = S => hb (by rw [q]; exact .head _))]; exact e) mv2) so4
end
section
variable {prog : Program} {w : World} {A : Around} {E : Value → Shared → Prop} {s : Shared}
abbrev emptySet (led : Bool) : Obj := { cls := .type "set", dict := none, data := .set #[] 0 (.fresh 0 0 led) }
theorem set_of_tuple {l : Addr} {items : Array Value} {xs : List Str} {Q : Value → Shared → Prop} (hh : A.handled = none) (hl : s.heap.IsTuple l items) (hi : StrsAre items.toList xs) (hb : xs.length + 1 < scanBound)
    (q : ∀ (h' : Heap) (tk : Nat), h'.SetOf (PySem.strKind prog w) s.heap.objs.size (fun z => (met xs).any (· == z)) (met xs).length → (∀ b o, b < s.heap.objs.size → s.heap.get? b = some o → h'.get? b = some o) → Q (.ref s.heap.objs.size) { s with heap := h', toks := tk }) :
    wpAny (model prog w) A (call (.type "set") [.ref l]) Q E s := by
  obtain ⟨c, tl, hmro⟩ := PySem.F.called_set.mro
  have made := PySem.F.called_set.made; have sub := PySem.F.called_set.sub
  refine wpAny_call (codeAny_of_tree ?_)
  show wpAny _ _ (callAny (.type "set") _) _ _ _
  refine wpAny_pure ⟨Code.quiet_builtin _ (by decide +kernel), codeAny_builtin PySem.F.entry_type_call ?_⟩
  rw [Around.under_plain (weight_type_call_type "set" [.ref l] []) rfl]
  have n1 := PySem.F.called_set.notType; have n2 := PySem.F.called_set.canCreate; have n3 := PySem.F.typeCall_set_1 (.ref l)
  repeat (any_goals (first | assumption | wp_step))
  refine codeAny_mono (code_set_new_1 (.ref l) (E := E) (Q₁ := fun ob s₁ => ∃ led : Bool, ob = .ref s.heap.objs.size ∧ s₁ = { s with heap := s.heap.push (emptySet led) }) fun led => ⟨led, rfl, rfl⟩) fun r s₁ hr => ?_
  cases r with
  | error e => exact hr
  | ok fl =>
    cases fl with
    | next => exact hr.elim
    | brk => exact hr.elim
    | cont => exact hr.elim
    | ret ob =>
      obtain ⟨led, rfl, rfl⟩ := hr
      have at_ : (s.heap.push (emptySet led)).get? s.heap.objs.size = some (emptySet led) := Heap.get?_push_size _ rfl
      have ty : Shared.TypeIs { s with heap := s.heap.push (emptySet led) } (.ref s.heap.objs.size) "set" := ⟨_, at_, rfl⟩
      have li := PySem.F.called_set.init.lookup; have bi := PySem.F.called_set.init.bind (.ref s.heap.objs.size)
      repeat (any_goals (first | assumption | wp_step))
      refine codeAny_mono (codeAny_call_builtin (R := wants (fun r s₂ => r = .none ∧ ∃ h' tk, s₂ = { s with heap := h', toks := tk } ∧ h'.SetOf (PySem.strKind prog w) s.heap.objs.size (fun z => (met xs).any (· == z)) (met xs).length ∧
        (∀ b o, b < s.heap.objs.size → s.heap.get? b = some o → h'.get? b = some o)) E) PySem.F.called_set.init.plain PySem.F.entry_set_init (check_set_init_1 ty ?_)) fun r₂ s₂ hr₂ => ?_
      · obtain ⟨⟨oc, od, odt, os⟩, hol, hcl, nl, hdl⟩ := hl
        simp only at hcl hdl; subst hcl hdl
        have hol' : (s.heap.push (emptySet led)).get? l = some { cls := .type "tuple", dict := od, data := .seq items nl, slots := os } := Heap.get?_push_of_some _ hol
        have e1 := PySem.F.sub_tuple_set; have e2 := PySem.F.sub_tuple_frozenset
        have e3 : (Value.type "tuple" == Value.type "dict") = false := by decide
        have tp : (s.heap.push (emptySet led)).IsTuple l items := ⟨_, hol', rfl, nl, rfl⟩
        unfold Builtin.«set.__init__» noKeywords Builtin.Frozenset.updateFrom
        generalize hPI : pyIter = PI
        wp_walk
        subst hPI
        refine wpAny_pyIter_tuple tp (wpAny_bind (wpAny_runValue ?_))
        have ll : l < s.heap.objs.size := Heap.lt_size hol
        have sz : (s.heap.push (emptySet led)).objs.size = s.heap.objs.size + 1 := Heap.size_push _ _
        have nI : l ≠ (s.heap.push (emptySet led)).objs.size := by rw [sz]; exact Nat.ne_of_lt (Nat.lt_succ_of_lt ll)
        have nS : s.heap.objs.size ∉ [(s.heap.push (emptySet led)).objs.size, l] := by rw [sz, List.mem_cons, List.mem_singleton]; exact fun z => z.elim (fun z => absurd z (Nat.ne_of_lt (Nat.lt_succ_self _))) (fun z => absurd z (Nat.ne_of_gt ll))
        have len : xs.length = items.size := by rw [← StrsAre.len_eq hi, Array.length_toList]
        refine fill ((Walks.tuple (A := A.in1.in1.in1) (by simp [hh]) _ l nI items).toS) s.heap.objs.size nS xs len (by omega) (fun i v hv => SS.strs_at hi i v (by rw [Array.getElem?_toList]; exact hv)) (items.size - 0) 0 _ (by omega) (Nat.zero_le _) ⟨⟨_, Heap.get?_push_size _ rfl, rfl, rfl⟩, tp.push _⟩ ?hA ?hB
        case hA => exact SetOf_congr ((setObjOf_fresh (knd := PySem.strKind prog w) led).setOf (Heap.get?_push_of_some _ at_) (by unfold scanBound; omega)) (fun _ => rfl) rfl
        case hB =>
          intro s' mv so
          obtain ⟨h', g', d', tk', os'⟩ := s'
          obtain rfl : g' = s.gens := mv.gens
          obtain rfl : d' = s.drawn := mv.drawn
          obtain rfl : os' = s.os := mv.os
          show wpAny _ _ _ _ _ _
          refine wpAny_pure (wpAny_pure ⟨rfl, h', tk', rfl, so, fun b o hb e => ?_⟩)
          exact mv.heap b o (by rw [sz, List.mem_cons, List.mem_singleton]; exact fun z => z.elim (fun z => absurd z (Nat.ne_of_lt hb)) (fun z => absurd z (Nat.ne_of_lt (Nat.lt_succ_of_lt hb)))) (Heap.get?_push_of_some _ (Heap.get?_push_of_some _ e))
      · cases r₂ with
        | error e => exact hr₂
        | ok f₂ =>
          cases f₂ with
          | ret r =>
            obtain ⟨rfl, h', tk, rfl, so, kp⟩ := hr₂
            repeat (any_goals (first | assumption | wp_step))
            exact q _ _ so kp
          | next => exact hr₂.elim
          | brk => exact hr₂.elim
          | cont => exact hr₂.elim
end
end PySem.DLS
/-! len(set(t)); three targets at once; fields of a class's instance. -/
namespace DL
open PySem PySem.Spec L2
section
variable {L : Lx} {X : Cx} {g g' : Gh} {H H' : Hp} {σ : L2.St} {Γ : Env} {W : WX} {pos p p2 q : Pos} {i j k : IE} {a b c e : Expr}
def tLenT (K : PySem.W.Frag) (ta : TE) : TE := fun σ H Q => ta σ H fun x H1 => ∃ l, ∃ xs : List Str, x = .ref l ∧ SqT K H1 l (xs.map V.str) ∧ xs.length + 1 < scanBound ∧ Q (.int (PySem.DLS.met xs).length) H1
theorem pe_lenT {ta : TE} (hc : X.calm = true) (hg : Gl X "len") (hm : X.mg "len" = none) (hg2 : Gl X "set") (hm2 : X.mg "set" = none) (ha : PE X a ta) (na : starEach [a] X.env = (false, eval a X.env) :: starEach [] X.env := by rfl) :
    PE X (.Call (.Name "len" p) [.Call (.Name "set" p2) [a] [] q] [] pos) (tLenT X.K ta) := by
  refine ⟨fun pins s σ H Q I h => PyProof.Rows.Call_ (ld_blt I hg hm PySem.boot_len (PyProof.Rows.callWith_builtin1 (PyProof.Rows.args_cons (PyProof.Rows.Call_ (ld_blt I hg2 hm2 PyProof.Rows.boot_set (PyProof.Rows.callWith_type1 (PyProof.Rows.args_cons (thn (ha.run pins s σ H _ I h) fun v s1 ⟨x, H1, I1, r1, l, xs, ex, hq, hl, w⟩ => PyProof.Rows.args_nil ?_) na) na rfl))) rfl) rfl rfl))⟩
  subst ex
  cases r1
  obtain ⟨its, r, pl, hz⟩ := I1.tuple hq
  refine PySem.DLS.set_of_tuple (I1.ok.hd hc) pl (by simpa using strsAre_of r) hl fun h' tk ⟨o, es, ep, t, ho, hex, hd, _, _, _, hf, hn⟩ kp => PyProof.Rows.args_nil ?_
  have I2 : Inv X pins σ H1 { s1 with heap := h', toks := tk } := I1.kept fun b o e => kp b o (Heap.lt_size e) e
  have hm : (PySem.DLS.met xs).length ≤ xs.length := PySem.DLS.met_len _ xs rfl
  exact PySem.call_len_set ho hex hd hf (by rw [hn]; unfold scanBound at hl; omega) ⟨.int (PySem.DLS.met xs).length, H1, I2.tok _, ⟨_, by rw [hn]⟩, w⟩
def strsD : List D → Option (List Str)
  | [] => some []
  | .str z :: r => (strsD r).map (z :: ·)
  | _ => none
theorem DenL.strs : ∀ {vs : List V} {ds : List D} {zs : List Str}, DenL L g vs ds → strsD ds = some zs → vs = zs.map V.str
  | _, _, zs, .nil, e => by cases e; rfl
  | _, _, zs, .cons (d := d) a l, e => by
    cases a with
    | str z =>
      unfold strsD at e
      cases q : strsD _ with
      | none => rw [q] at e; cases e
      | some cs =>
        rw [q] at e
        cases e
        rw [l.strs q]
        rfl
    | _ => cases e
def fLenT : D → Option D
  | .tup ds => (strsD ds).bind fun zs => if zs.length ≤ 1000 then some (.int (PySem.DLS.met zs).length) else none
  | _ => none
def iLenT (i : IE) : IE := fun Γ => (i Γ).bind fun d => match fLenT d with
  | some d => .ret d
  | none => .stuck
theorem de_lenT (hK : X.K = L.K) (hc : X.calm = true) (hg : Gl X "len") (hm : X.mg "len" = none) (hg2 : Gl X "set") (hm2 : X.mg "set" = none) (h : DE L X i a) (na : starEach [a] X.env = (false, eval a X.env) :: starEach [] X.env := by rfl) :
    DE L X (iLenT i) (.Call (.Name "len" p) [.Call (.Name "set" p2) [a] [] q] [] pos) := fun W tk => PE.imp (pe_lenT hc hg hm hg2 hm2 (h W tk) na) fun σ H Q ⟨Γ, g, rp, w⟩ => by
  refine Rd1.go rp w fun v H1 d g1 r1 s t w => ?_
  split at w
  · rename_i d' e
    unfold fLenT at e
    split at e
    · rename_i ds
      obtain ⟨zs, hz, e⟩ := Option.bind_eq_some_iff.mp e
      split at e
      · rename_i hl
        cases e
        cases t with
        | @tup a vs _ e1 l1 => exact ⟨a, zs, rfl, hK ▸ (l1.strs hz) ▸ sqT_mono r1.sub e1.sq, by unfold scanBound; omega, w _ g1 H1 s rfl (.int _)⟩
      · cases e
    · cases e
  · exact w.elim
/-- a, b, c = x, y, z -/
def sPar3 (n m l : Nat) (i j k : IE) : IS := fun Γ => (evs [i, j, k] Γ).bind fun ds => match ds with
  | [d, e, f] => .ret (.nx (((Γ.set n (some (.fz d))).set m (some (.fz e))).set l (some (.fz f))))
  | _ => .stuck
theorem ds_par3 {n m l : Nat} {x y z : Str} {px py pz pt : Pos} {kt k2 pt2} (hc : X.calm = true) (hN : X.N.Nodup) (hi : X.N[n]? = some x) (hj : X.N[m]? = some y) (hl : X.N[l]? = some z) (h1 : n ≠ m) (h2 : n ≠ l) (h3 : m ≠ l)
    (hx : X.env.scope.names.lookup x = some .local) (hy : X.env.scope.names.lookup y = some .local) (hz : X.env.scope.names.lookup z = some .local) (ha : DA L X [i, j, k] [a, b, c])
    (hw : swappedStores [.Tuple [.Name x px, .Name y py, .Name z pz] kt pt] (.Tuple [a, b, c] k2 pt2) X.env = pure (some [x, y, z]))
    (hs : swapsWithSole [.Tuple [.Name x px, .Name y py, .Name z pz] kt pt] (.Tuple [a, b, c] k2 pt2) pos.line X.env = pure false := by rfl) :
    DS L X (sPar3 n m l i j k) (.Assign [.Tuple [.Name x px, .Name y py, .Name z pz] kt pt] (.Tuple [a, b, c] k2 pt2) pos) := fun W g0 H0 tk => by
  refine PS.imp (ps_par3 hc hN hi hj hl h1 h2 h3 hx hy hz (ha W tk) hw hs) fun Dn σ H ⟨Γ, g, r, w⟩ => ?_
  refine ⟨Γ, g, r.rep, M.wpB_mono (fun ds b k vs g1 H1 s e t => ?_) (fun _ _ x => x.xw r.base) _ _ ((M.wpB_bind _ _).mp w)⟩
  subst e
  cases t with
  | nil => exact k.elim
  | cons t1 t =>
    cases t with
    | nil => exact k.elim
    | cons t2 t =>
      cases t with
      | nil => exact k.elim
      | cons t3 t =>
        cases t with
        | nil => exact ⟨_, _, _, rfl, k g1 _ H1 ((((r.step s).set t1).set t2).set t3) s.fle rfl⟩
        | cons _ _ => exact k.elim
end
end DL
/-! What a generator of derivations writes: operators on all kinds of data, constants of modules, walks over any sequence, repr. -/
namespace DL
open PySem PySem.Spec L2
section
variable {L : Lx} {X : Cx} {g g' : Gh} {H H' : Hp} {σ : L2.St} {Γ : Env} {W : WX} {pos p p2 q : Pos} {i j k : IE} {a b c e : Expr}
/-! repr of tuples that hold {} -/
mutual
def D.sw : D → PyData
  | .tup xs => .tuple (D.swL xs)
  | .lst xs => .list (D.swL xs)
  | .dct _ _ => .dict []
  | .non => .none
  | .bl b => .bool b
  | .int i => .int i
  | .str s => .str s
  | .ins _ _ | .exc _ _ | .err _ _ | .ty _ | .clo _ | .rnd | .scr _ | .pr _ => .none
def D.swL : List D → List PyData
  | [] => []
  | x :: r => D.sw x :: D.swL r
end
mutual
def D.okw : D → Bool
  | .tup xs | .lst xs => D.okwL xs
  | .dct _ kvs => kvs.isEmpty
  | .non | .bl _ | .int _ | .str _ => true
  | .ins _ _ | .exc _ _ | .err _ _ | .ty _ | .clo _ | .rnd | .scr _ | .pr _ => false
def D.okwL : List D → Bool
  | [] => true
  | x :: r => D.okw x && D.okwL r
end
theorem zip_nil {α β : Type} {ks : List α} {ws : List β} {ds : List D} {f : α → D} (h1 : ks.length = ws.length) (h2 : ws.length = ds.length) (h3 : ((ks.map f).zip ds).isEmpty = true) : ks = [] ∧ ws = [] := by
  cases ks with
  | nil => exact ⟨rfl, List.eq_nil_of_length_eq_zero h1.symm⟩
  | cons k ks =>
    cases ds with
    | nil => rw [h2] at h1; simp at h1
    | cons d ds => simp at h3
/-! how data stands in the heap; its dicts hold nothing, and none of them is the table of modules -/
mutual
inductive Rs (h : Heap) : Value → PyData → Prop
  | nn : Rs h .none .none
  | bb (b : Bool) : Rs h (.bool b) (.bool b)
  | ii (i : Int) (t : Tok) : Rs h (.int i t) (.int i)
  | ss (x : Str) (t : Tok) : Rs h (.str x t) (.str x)
  | ls {p : Addr} {o : Obj} {us : Array Value} {n : Nat} {ys : List PyData} : h.get? p = some o → o.cls = .type "list" → o.data = .seq us n → RsL h us.toList ys → Rs h (.ref p) (.list ys)
  | tp {p : Addr} {o : Obj} {us : Array Value} {n : Nat} {ys : List PyData} : h.get? p = some o → o.cls = .type "tuple" → o.data = .seq us n → RsL h us.toList ys → Rs h (.ref p) (.tuple ys)
  | dc {p : Addr} {o : Obj} {n : Nat} : h.get? p = some o → o.cls = .type "dict" → o.data = .dict #[] n → (p == sysModules) = false → Rs h (.ref p) (.dict [])
inductive RsL (h : Heap) : List Value → List PyData → Prop
  | nil : RsL h [] []
  | cons {u : Value} {us : List Value} {y : PyData} {ys : List PyData} : Rs h u y → RsL h us ys → RsL h (u :: us) (y :: ys)
end
mutual
theorem Rs.reads {h : Heap} : ∀ {u : Value} {y : PyData}, Rs h u y → ∃ as, Reads h u y as
  | _, _, .nn => ⟨_, .none⟩
  | _, _, .bb b => ⟨_, .bool b⟩
  | _, _, .ii i t => ⟨_, .int i t⟩
  | _, _, .ss x t => ⟨_, .str x t⟩
  | _, _, .ls g1 g2 g3 g4 => let ⟨_, r⟩ := RsL.reads g4; ⟨_, .list g1 g2 g3 r⟩
  | _, _, .tp g1 g2 g3 g4 => let ⟨_, r⟩ := RsL.reads g4; ⟨_, .tuple g1 g2 g3 r⟩
  | _, _, .dc g1 g2 g3 _ => ⟨_, .dict g1 g2 g3 .nil .nil⟩
theorem RsL.reads {h : Heap} : ∀ {us : List Value} {ys : List PyData}, RsL h us ys → ∃ as, ReadsAll h us ys as
  | _, _, .nil => ⟨_, .nil⟩
  | _, _, .cons a l => let ⟨_, r⟩ := Rs.reads a; let ⟨_, q⟩ := RsL.reads l; ⟨_, .cons r q⟩
end
theorem noneAt {h : Heap} {n : Nat} : ReadAtMost h n [] := fun _ z => nomatch z
mutual
theorem Rs.rk {P : Program} {w : World} {h : Heap} : ∀ {u : Value} {y : PyData}, Rs h u y → y.showable = true → y.shown.length ≤ sizeLine → ∃ cs, ReadAtMost h y.depth cs ∧ ReprK P w cs h y.depth u y.shown
  | _, _, .nn, _, _ => ⟨[], noneAt, by rw [PyData.shown]; exact .of_is ReprIs.none _ _ _⟩
  | _, _, .bb b, _, _ => ⟨[], noneAt, by rw [PyData.shown]; exact .of_is (ReprIs.bool b) _ _ _⟩
  | _, _, .ii i t, sh, _ => ⟨[], noneAt, by rw [PyData.shown]; exact .of_is (ReprIs.int t (by simpa [PyData.showable] using sh)) _ _ _⟩
  | _, _, .ss x t, _, fit => ⟨[], noneAt, by rw [PyData.shown]; exact .of_is (ReprIs.str x t (by simpa only [PyData.shown] using fit)) _ _ _⟩
  | _, _, .ls (p := p) (us := us) (ys := ys) g1 g2 g3 g4, sh, fit => by
    have fit1 : (listText (PyData.shownAll ys)).length ≤ sizeLine := by simpa only [PyData.shown] using fit
    obtain ⟨cs, low, all⟩ := RsL.rk (P := P) (w := w) g4 (by simpa [PyData.showable] using sh) fun t ht => Nat.le_trans (listText_mem_le ht) fit1
    obtain ⟨as, r4⟩ := RsL.reads g4
    have r : Reads h (.ref p) (.list ys) (p :: as) := .list g1 g2 g3 r4
    have out : p ∉ cs := not_mem_of_deeper r (by simp only [PyData.depth]; omega) low
    refine ⟨p :: cs, ReadAtMost.cons r (by simp only [PyData.depth]; omega) low, ?_⟩
    simp only [PyData.shown, PyData.depth]
    obtain ⟨l⟩ := us
    cases l with
    | nil =>
      cases (show RsL h [] ys from g4)
      simp only [listText_nil, PyData.shownAll]
      exact ReprK.listEmpty g1 g2 g3
    | cons x l => exact ReprK.list g1 g2 g3 out (by simpa using all.length_eq) fun i y e => all.item i y (by simpa using e)
  | _, _, .tp (p := p) (ys := ys) g1 g2 g3 g4, sh, fit => by
    have fit1 : (tupleText (PyData.shownAll ys)).length ≤ sizeLine := by simpa only [PyData.shown] using fit
    obtain ⟨cs, low, all⟩ := RsL.rk (P := P) (w := w) g4 (by simpa [PyData.showable] using sh) fun t ht => Nat.le_trans (tupleText_mem_le ht) fit1
    obtain ⟨as, r4⟩ := RsL.reads g4
    have r : Reads h (.ref p) (.tuple ys) as := .tuple g1 g2 g3 r4
    have out : p ∉ cs := not_mem_of_deeper r (by simp only [PyData.depth]; omega) low
    refine ⟨p :: cs, ReadAtMost.cons r (by simp only [PyData.depth]; omega) low, ?_⟩
    simp only [PyData.shown, PyData.depth]
    exact ReprK.tuple g1 g2 g3 out all
  | _, _, .dc (p := p) g1 g2 g3 g4, _, _ => by
    refine ⟨[p], ReadAtMost.cons (n := 0) (.dict g1 g2 g3 .nil .nil) (Nat.zero_le _) noneAt, ?_⟩
    simp only [PyData.shown, PyData.depth, PyData.shownKv_eq]
    exact ReprK.dict g1 g2 g3 g4 (fun z => nomatch z) (ReprEntriesK.of_two [] _ _ .nil .nil)
theorem RsL.rk {P : Program} {w : World} {h : Heap} : ∀ {us : List Value} {ys : List PyData}, RsL h us ys → PyData.showableAll ys = true → (∀ t ∈ PyData.shownAll ys, t.length ≤ sizeLine) →
    ∃ cs, ReadAtMost h (PyData.depthAll ys) cs ∧ ReprAllK P w cs h (PyData.depthAll ys) us (PyData.shownAll ys)
  | _, _, .nil, _, _ => ⟨[], noneAt, by rw [PyData.shownAll]; exact .nil⟩
  | _, _, .cons (y := y) (ys := ys) a l, sh, fit => by
    obtain ⟨s1, s2⟩ : y.showable = true ∧ PyData.showableAll ys = true := by simpa [PyData.showableAll] using sh
    simp only [PyData.shownAll] at fit
    obtain ⟨c1, low1, k1⟩ := Rs.rk (P := P) (w := w) a s1 (fit _ List.mem_cons_self)
    obtain ⟨c2, low2, k2⟩ := RsL.rk (P := P) (w := w) l s2 fun t ht => fit t (List.mem_cons_of_mem _ ht)
    refine ⟨c1 ++ c2, fun b hb => ?_, ?_⟩
    · rw [PyData.depthAll]
      rcases List.mem_append.mp hb with hb | hb
      · exact let ⟨x, as, r, z⟩ := low1 b hb; ⟨x, as, r, Nat.le_trans z (Nat.le_max_left _ _)⟩
      · exact let ⟨x, as, r, z⟩ := low2 b hb; ⟨x, as, r, Nat.le_trans z (Nat.le_max_right _ _)⟩
    · rw [PyData.depthAll, PyData.shownAll]
      exact .cons ((k1.more fun b z => List.mem_append_left _ z).level_le (Nat.le_max_left _ _)) (k2.more_le (fun b z => List.mem_append_right _ z) (Nat.le_max_right _ _))
end
theorem Rs.call {P : Program} {w : World} {A : Around} {E : Value → Shared → Prop} {s : Shared} {Q : Value → Shared → Prop} {u : Value} {y : PyData} (r : Rs s.heap u y) (sh : y.showable = true) (fit : y.shown.length ≤ sizeLine) (dp : y.depth ≤ 20) (hg : A.guards = some []) (hu : A.units + 64 < cLine)
    (k : ∀ h' u' tk, (∀ b o, s.heap.get? b = some o → h'.get? b = some o) → Q (.str y.shown u') { s with heap := h', toks := tk }) : wpAny (model P w) A (call (.builtin "repr") [u]) Q E s := by
  cases r with
  | nn => exact PySem.P.repr_of_none (k _ _ _ fun b o e => e)
  | bb b => exact PySem.P.repr_of_bool (k _ _ _ fun b o e => e)
  | ii i t => exact PySem.P.repr_of_int (of_decide_eq_true sh) (k _ _ _ fun b o e => e)
  | ss x t => exact PySem.P.repr_of_str (k _ _ _ fun b o e => e) fit
  | @ls p o us n ys g1 g2 g3 g4 =>
    have fit1 : (listText (PyData.shownAll ys)).length ≤ sizeLine := by simpa only [PyData.shown] using fit
    obtain ⟨cs, low, all⟩ := RsL.rk (P := P) (w := w) g4 (by simpa [PyData.showable] using sh) fun t ht => Nat.le_trans (listText_mem_le ht) fit1
    obtain ⟨as, r4⟩ := RsL.reads g4
    have out : p ∉ cs := not_mem_of_deeper (.list g1 g2 g3 r4) (by simp only [PyData.depth]; omega) low
    simp only [PyData.shown] at k
    simp only [PyData.depth] at dp
    refine call_repr_slot (by omega) ⟨o, g1, g2⟩ PySem.F.slot_list_repr.toG ?_
    obtain ⟨l⟩ := us
    cases l with
    | nil =>
      cases (show RsL s.heap [] ys from g4)
      simp only [listText_nil, PyData.shownAll] at k
      exact call_list_repr_empty ⟨o, g1, g2⟩ g1 g3 ⟨_, _, rfl, k s.heap _ _ fun _ _ e => e⟩
    | cons x l => exact call_list_reprK g1 g2 g3 out (by simpa using all.length_eq) (fun i y e => all.item i y (by simpa using e)) hg (fun b _ => Clear.nil b) (by show A.units + 1 + _ < cLine; omega) (fun _ _ e => e) (fun h' u tk z => ⟨_, _, rfl, k h' u tk z⟩) fit1
  | @tp p o us n ys g1 g2 g3 g4 =>
    have fit1 : (tupleText (PyData.shownAll ys)).length ≤ sizeLine := by simpa only [PyData.shown] using fit
    obtain ⟨cs, low, all⟩ := RsL.rk (P := P) (w := w) g4 (by simpa [PyData.showable] using sh) fun t ht => Nat.le_trans (tupleText_mem_le ht) fit1
    obtain ⟨as, r4⟩ := RsL.reads g4
    have out : p ∉ cs := not_mem_of_deeper (.tuple g1 g2 g3 r4) (by simp only [PyData.depth]; omega) low
    simp only [PyData.shown] at k
    simp only [PyData.depth] at dp
    exact call_repr_slot (by omega) ⟨o, g1, g2⟩ PySem.F.slot_tuple_repr (call_tuple_reprK g1 g2 g3 out all hg (fun b _ => Clear.nil b) (by show A.units + 1 + _ < cLine; omega) (fun _ _ e => e) (fun h' u tk z => ⟨_, _, rfl, k h' u tk z⟩) fit1)
  | @dc p o n g1 g2 g3 g4 =>
    simp only [PyData.shown, PyData.shownKv_eq] at k
    simp only [PyData.depth] at dp
    exact call_repr_slot (by omega) ⟨o, g1, g2⟩ PySem.F.slot_dict_repr (call_dict_reprK g1 g2 g3 g4 (as := []) (fun z => nomatch z) (ReprEntriesK.of_two (d := 0) [] _ _ .nil .nil) hg (fun b _ => Clear.nil b) (by show A.units + 1 + _ < cLine; omega) (fun _ _ e => e) (fun h' u tk z => ⟨_, _, rfl, k h' u tk z⟩) (by rw [PyData.shown, PyData.shownKv_eq] at fit; exact fit))
theorem dct_rs {pins : List (Addr × Obj)} {s : Shared} {σ2 : L2.St} (I : Inv X pins σ2 H s) {p : Addr} (h : Rd H p (.dK []) ∨ Rd H p (.dT [])) : Rs s.heap (.ref p) (.dict []) := by
  rcases h with h | h
  · obtain ⟨_, hd, vs, r0, dd⟩ := dk_rd I.hok h
    cases r0
    obtain ⟨o, es, ep, ho, hx, hdat, _, hp, _⟩ := dd
    obtain ⟨es⟩ := es
    cases hp
    exact .dc ho hx.1 hdat hd
  · obtain ⟨_, hd, xs, r0, o, es, ep, ho, hx, hdat, hp, _⟩ := dt_rd I.hok h
    cases r0
    obtain ⟨es⟩ := es
    cases (show es = [] from hp)
    exact .dc ho hx.1 hdat hd
mutual
theorem Den.rs (hK : X.K = L.K) {pins : List (Addr × Obj)} {s : Shared} {σ2 : L2.St} (sub : ∀ a o, g.F a = some o → H a = some o) (I : Inv X pins σ2 H s) : ∀ {v : V} {d : D} {u : Value}, Den L g v d → d.okw = true → RelV v u → Rs s.heap u d.sw
  | _, _, u, .non, _, r => by cases (show u = Value.none from r); rw [D.sw]; exact .nn
  | _, _, u, .bl b, _, r => by cases (show u = Value.bool b from r); rw [D.sw]; exact .bb b
  | _, _, u, .int i, _, r => by obtain ⟨t, rfl⟩ := (show ∃ t, u = Value.int i t from r); rw [D.sw]; exact .ii i t
  | _, _, u, .str z, _, r => by obtain ⟨t, rfl⟩ := (show ∃ t, u = Value.str z t from r); rw [D.sw]; exact .ss z t
  | _, _, u, .tup e l, h, r => by
    cases (show u = Value.ref _ from r)
    obtain ⟨its, rv, ⟨o, ho, hc, n, hd⟩, hz⟩ := I.tuple (hK ▸ sqT_mono sub e.sq)
    have q := DenL.rs hK sub I l (by simpa only [D.okw] using h) rv
    rw [D.sw]
    exact .tp ho hc hd (by simpa using q)
  | _, _, u, .lst e l, h, r => by
    cases (show u = Value.ref _ from r)
    obtain ⟨its, rv, p, hz⟩ := I.list (.inl (.inl (sub _ _ e)))
    obtain ⟨o, ho, hc, n, hd⟩ := p.isList
    have q := DenL.rs hK sub I l (by simpa only [D.okw] using h) rv
    rw [D.sw]
    exact .ls ho hc hd (by simpa using q)
  | _, _, u, .dK e1 e2 e3, h, r => by
    obtain ⟨rfl, rfl⟩ := zip_nil e2 e3.length (by simpa only [D.okw] using h)
    cases (show u = Value.ref _ from r)
    rw [D.sw]
    exact dct_rs I (.inl (.inr ⟨_, sub _ _ e1⟩))
  | _, _, u, .dT e1 e2 e3, h, r => by
    obtain ⟨rfl, rfl⟩ := zip_nil e2 e3.length (by simpa only [D.okw] using h)
    cases (show u = Value.ref _ from r)
    rw [D.sw]
    exact dct_rs I (.inr (.inr ⟨_, sub _ _ e1⟩))
  | _, _, _, .ins _ _ _, h, _ => by simp only [D.okw] at h; cases h
  | _, _, _, .exc _ _ _ _, h, _ => by simp only [D.okw] at h; cases h
  | _, _, _, .err _ _, h, _ => by simp only [D.okw] at h; cases h
  | _, _, _, .ty _, h, _ => by simp only [D.okw] at h; cases h
  | _, _, _, .clo _, h, _ => by simp only [D.okw] at h; cases h
  | _, _, _, .rnd _, h, _ => by simp only [D.okw] at h; cases h
  | _, _, _, .scr _, h, _ => by simp only [D.okw] at h; cases h
  | _, _, _, .pr _ _, h, _ => by simp only [D.okw] at h; cases h
theorem DenL.rs (hK : X.K = L.K) {pins : List (Addr × Obj)} {s : Shared} {σ2 : L2.St} (sub : ∀ a o, g.F a = some o → H a = some o) (I : Inv X pins σ2 H s) : ∀ {vs : List V} {ds : List D} {us : List Value}, DenL L g vs ds → D.okwL ds = true → Vals vs us → RsL s.heap us (D.swL ds)
  | _, _, us, .nil, _, r => by cases r; rw [D.swL]; exact .nil
  | _, _, us, .cons t l, h, r => by
    simp only [D.okwL, Bool.and_eq_true] at h
    cases r with
    | cons r1 r2 =>
      rw [D.swL]
      exact .cons (Den.rs hK sub I t h.1 r1) (DenL.rs hK sub I l h.2 r2)
end
def fReprW : List D → Option D
  | [d] => if d.okw = true ∧ d.sw.showable = true ∧ d.sw.depth ≤ 20 ∧ d.sw.shown.length ≤ sizeLine then some (.str d.sw.shown) else none
  | _ => none
theorem ca_reprW (hK : X.K = L.K) (hgd : X.A.guards = some []) (hu : X.A.units + 64 < cLine) : CaD L X DenT (.builtin "repr") fReprW := by
  intro pins st σ H xs us Q I r ⟨Γ, g, σ', ds, d, rp, vs, e, w⟩
  unfold fReprW at e
  split at e
  · rename_i d'
    split at e
    · rename_i hs
      cases e
      obtain ⟨h0, h1, h2, h3⟩ := hs
      obtain ⟨v, rfl, a⟩ := vs.one
      obtain ⟨u, rfl, rv⟩ := vals1 r
      have q : Rs st.heap u d'.sw := by
        rcases a with a | ⟨q, ws, es, rfl, rfl, e1, e2, _⟩ | ⟨q, t, kvs, rfl, rfl, hm, hd⟩
        · exact Den.rs hK rp.sub I a h0 rv
        · cases (show u = Value.ref q from rv)
          obtain ⟨its, rv2, p, hz⟩ := I.list (.inl (.inl e1))
          obtain ⟨o, ho, hc, n, hd⟩ := p.isList
          have q := DenL.rs hK rp.sub I e2 (by simpa only [D.okw] using h0) rv2
          rw [D.sw]
          exact .ls ho hc hd (by simpa using q)
        · cases (show u = Value.ref q from rv)
          rw [D.sw]
          rcases hd with ⟨ks, ws, es, e1, e2, e3, rfl, _⟩ | ⟨ks, ws, es, e1, e2, e3, rfl, _⟩
          · obtain ⟨rfl, rfl⟩ := zip_nil e2 e3.length (by simpa only [D.okw] using h0)
            exact dct_rs I (.inl (.inl e1))
          · obtain ⟨rfl, rfl⟩ := zip_nil e2 e3.length (by simpa only [D.okw] using h0)
            exact dct_rs I (.inr (.inl e1))
      exact q.call h1 h3 h2 hgd hu fun h' t tk hk => ⟨.str d'.sw.shown, H, I.kept (t' := tk) hk, ⟨t, rfl⟩, w _ g H (Stp.refl rp) rfl (.str _)⟩
    · cases e
  · cases e
def fRp := orC fRepr fReprW
theorem ca_rp (hK : X.K = L.K) (hgd : X.A.guards = some []) (hu : X.A.units + 64 < cLine) : CaD L X DenT (.builtin "repr") fRp := (ca_repr hK hgd hu).or (ca_reprW hK hgd hu)
end
end DL
/-! Short words for the generated derivations. -/
namespace DL
open PySem PySem.Spec L2
section
variable {L : Lx} {X : Cx} {g g' : Gh} {H H' : Hp} {σ : L2.St} {Γ : Env} {W : WX} {pos p p2 q : Pos} {i j k : IE} {a b c e : Expr}
theorem dvar (n : Nat) {x : Str} (hN : X.N[n]? = some x := by rfl) (hv : Vis X.env.scope x := by first | exact Or.inl rfl | exact Or.inr (Or.inl rfl) | exact Or.inr (Or.inr rfl)) (hd : (x == ("__debug__" : Str)) = false := by decide)
    (hcd : (x == ("__classdict__" : Str)) = false := by decide) : DE L X (iVar n) (.Name x pos) := fun W tk => by
  refine PE.imp (pe_var hN hv hd hcd) fun σ H Q r => ?_
  obtain ⟨Γ, g, rp, w⟩ := r
  unfold iVar at w
  split at w
  · rename_i d e
    obtain ⟨x, e1, v, e2, h⟩ := rp.loc _ _ e
    subst e2
    exact ⟨v, e1, w v g H (Stp.refl rp) rfl h⟩
  · exact w.elim
theorem duse (n : Nat) {x : Str} (hN : X.N[n]? = some x := by rfl) (hv : Vis X.env.scope x := by first | exact Or.inl rfl | exact Or.inr (Or.inl rfl) | exact Or.inr (Or.inr rfl)) (hd : (x == ("__debug__" : Str)) = false := by decide)
    (hcd : (x == ("__classdict__" : Str)) = false := by decide) : DV L X (iUse n) (.Name x pos) := dv_use (pe_var hN hv hd hcd)
theorem dint {i j} : DE L X (iLit (.int i)) (.Constant (.int i) j pos) := de_c pe_int fun _ => .int i
theorem dstr {i : Str} {j} : DE L X (iLit (.str i)) (.Constant (.str i) j pos) := de_c pe_str fun _ => .str _
theorem dnon {j} : DE L X (iLit .non) (.Constant .none j pos) := de_c pe_non fun _ => .non
theorem dbool {b j} : DE L X (iLit (.bl b)) (.Constant (.bool b) j pos) := de_c pe_bl fun _ => .bl b
/-- a module's whole number -/
theorem dgint {x : Str} {n : Int} (hg : Gl X x) (h : ∃ t, X.mg x = some (.int n t)) (hd : (x == ("__debug__" : Str)) = false := by decide) : DE L X (iLit (.int n)) (.Name x pos) := by
  obtain ⟨t, h⟩ := h
  exact de_c (pe_glob (v := .int n) hg h ⟨t, rfl⟩ hd) fun _ => .int n
def fAdd := orD fAddI (orD fAddS (orD fAddL fAddT))
theorem od_add (hK : X.K = L.K) : OpD L X (binaryOp .Add) fAdd := od_addI.or (od_addS.or (od_addL.or (od_addT hK)))
def fMulT : D → D → Option D
  | .tup xs, .int n => if 2 ≤ n ∧ n ≤ 1000 ∧ xs.length ≤ 1000 ∧ xs.isEmpty = false then some (.tup (List.replicate n.toNat xs).flatten) else none
  | _, _ => none
theorem DenL.rep {vs : List V} {ds : List D} (l : DenL L g vs ds) : ∀ n : Nat, DenL L g (List.replicate n vs).flatten (List.replicate n ds).flatten
  | 0 => .nil
  | n + 1 => by
    rw [List.replicate_succ, List.replicate_succ, List.flatten_cons, List.flatten_cons]
    exact l.append (DenL.rep l n)
theorem rep_raw {K : PySem.W.Frag} {fz : Bool} (hK : X.K = K) : OpR X (binaryOp .Mult) (fun x y H Q => ∃ a n us, x = .ref a ∧ y = .int n ∧ SqT K H a us ∧ us.isEmpty = false ∧ (2 ≤ n ∧ n ≤ 1000) ∧ us.length ≤ 1000 ∧
    ∀ p o, H p = none → o.cls = .type "tuple" → o.dict = none → Q (.ref p) (L2.upd H p (newT fz o (List.replicate n.toNat us).flatten))) := by
  intro pp m τ G x1 y1 v1 v2 R J ra rb hh
  obtain ⟨a, n, us, ex, ey, sq, ne, ⟨lo, hi⟩, small, go⟩ := hh
  subst ex ey hK
  cases ra
  obtain ⟨tk, rfl⟩ := rb
  obtain ⟨ws, rv, ⟨⟨c0, d0, da, sl0⟩, got, e1, k0, e2⟩, _⟩ := J.tuple sq
  change c0 = _ at e1
  change da = _ at e2
  subst e1 e2
  have lw : ws.length = us.length := rv.length.symm
  have nw : ws ≠ [] := by
    rintro rfl
    cases us with
    | nil => cases ne
    | cons _ _ => cases lw
  have emp : ws.toArray.isEmpty = false := by
    cases ws with
    | nil => exact absurd rfl nw
    | cons _ _ => rfl
  have ws_size : ws.toArray.size = us.length := by rw [List.size_toArray, lw]
  have room : ((ws.toArray.size : Nat) : Int) * n ≤ 1000000 := by
    rw [ws_size]
    have : ((us.length : Nat) : Int) * n ≤ 1000 * n := Int.mul_le_mul_of_nonneg_right (by omega) (by omega)
    omega
  have all_len : (List.replicate n.toNat ws).flatten.length ≤ sizeLine := by
    rw [PyProof.Rows.lm_len_rep_flat, lw, sizeLine_eq]
    have : n.toNat * us.length ≤ 1000 * 1000 := Nat.mul_le_mul (by omega) small
    omega
  have in_word : (decide (n < -(2 ^ 63)) || decide (n ≥ 2 ^ 63)) = false := by
    rw [decide_eq_false (show ¬ n < -(2 ^ 63) by omega), decide_eq_false (show ¬ n ≥ 2 ^ 63 by omega)]
    rfl
  have not_same : (ws.toArray.isEmpty || n == 1) = false := by
    rw [emp, Bool.false_or]
    exact beq_eq_false_iff_ne.mpr fun z => by omega
  have not_void : (decide (n ≤ 0) || ws.toArray.isEmpty) = false := by
    rw [emp, Bool.or_false]
    exact decide_eq_false (by omega)
  have not_long : Builtin.Tuple.tupleTooMany (((ws.toArray.size : Nat) : Int) * n) = false := by
    simp only [Builtin.Tuple.tupleTooMany, sizeLine_eq]
    exact decide_eq_false (by omega)
  have inner := tuple_mulW a ws.toArray k0 d0 sl0 n tk in_word not_same not_void (by omega) not_long (by rw [size_rep, List.size_toArray]; exact all_len)
  refine wpAny_binaryOp_repeat_ref (T := "tuple") (U := "int") (by decide) ⟨_, got, rfl⟩ (fun m' => typeIs_int m' n tk) noFill_tuple_mul F.fills_int_mul F.slot_int_rmul repeat_tuple F.slot_int_index.lookup ?_
  refine call_meets F.slot_int_rmul (typeIs_int m n tk) F.entry_int_rmul (F.args_int_rmul_2 _ _) (int_rmul_tuple n tk a ws.toArray k0 d0 sl0) ⟨got, rfl, ⟨_, got, rfl⟩, ?_⟩
  refine call_meets F.slot_tuple_mul ⟨_, got, rfl⟩ F.entry_tuple_mul (F.args_tuple_mul_2 _ _) inner ⟨got, ?_⟩
  rw [size_rep]
  have fits : (List.replicate n.toNat us).flatten.length ≤ sizeLine := by
    rw [PyProof.Rows.lm_len_rep_flat, sizeLine_eq]
    have : n.toNat * us.length ≤ 1000 * 1000 := Nat.mul_le_mul (by omega) small
    omega
  have kk : ∀ G', ObjOk X.prog X.w G' (m.heap.push { cls := .type "tuple", data := .seq (List.replicate n.toNat ws).flatten.toArray }) m.heap.objs.size (.tup (List.replicate n.toNat us).flatten) := fun _ => ⟨fits, _, rv.rep n.toNat, PyProof.Rows.IsTup.new _ _⟩
  refine ⟨.ref m.heap.objs.size, _, J.laid (t' := m.toks) (o := newT fz { cls := .type "tuple", data := .seq (List.replicate n.toNat ws).flatten.toArray } (List.replicate n.toNat us).flatten) (fun _ _ z => Heap.get?_push_of_some _ z) (Nat.le_refl _) ?_, rfl, go _ _ (J.hok.fresh (Nat.le_refl _)) rfl rfl⟩
  unfold newT
  split
  · exact ⟨Heap.get?_push_size _ rfl, kk _⟩
  · exact kk _
theorem od_mulT (hK : X.K = L.K) : OpD L X (binaryOp .Mult) fMulT := by
  intro pins st σ H x y v u Q I rx ry ⟨Γ, g, σ', dx, dy, d, rp, vx, vy, e, w⟩
  unfold fMulT at e
  split at e
  · rename_i xs n
    split at e
    · rename_i hc
      cases e
      obtain ⟨a, vs, rfl, h1, l1, _⟩ := vx.tup rp.sub
      cases vy.int
      have hl := l1.length
      refine rep_raw (fz := L.fz) hK pins st σ H _ _ v u Q I rx ry ⟨a, n, vs, rfl, rfl, h1, ?_, ⟨hc.1, hc.2.1⟩, by omega, fun p o np hcl hd => ?_⟩
      · cases l1 with
        | nil => have := hc.2.2.2; simp at this
        | cons _ _ => rfl
      · have s := stp_put (o := newT L.fz o (List.replicate n.toNat vs).flatten) rp np newT_nt
        exact w _ _ _ s rfl (.tup (newT_sq put_F hcl hd) ((l1.rep n.toNat).mono s.le s.mu))
    · cases e
  · cases e
def fMul := orD fMulI (orD fMulS fMulT)
theorem od_mul (hK : X.K = L.K) : OpD L X (binaryOp .Mult) fMul := od_mulI.or (od_mulS.or (od_mulT hK))
def fIx := orD fIxT (orD fIxL fIxS)
theorem ixd (hK : X.K = L.K) : IxD L X fIx := (ixd_tup hK).or (ixd_list.or ixd_str)
def fSl := orSl fSlT (orSl fSlL fSlS)
theorem sld (hK : X.K = L.K) : SlD L X DenT fSl := (sld_tup hK).or ((sld_list.frz).or sld_str)
def fInA := orD (fIn false) (fInS false)
def fNotIn := orD (fIn true) (fInS true)
theorem od_inA (hK : X.K = L.K) (hu : X.A.units + 65 < cLine) : OpD L X (compareOp .In) fInA := (od_in hK hu).or od_inS
theorem od_notInA (hK : X.K = L.K) (hu : X.A.units + 65 < cLine) : OpD L X (compareOp .NotIn) fNotIn := (od_notIn hK hu).or od_notInS
def fIs := orD (fIsN false) (fIsB false)
def fIsNot := orD (fIsN true) (fIsB true)
theorem od_is : OpD L X (compareOp .Is) fIs := od_isN.or od_isB
theorem od_isNot : OpD L X (compareOp .IsNot) fIsNot := od_notN.or od_notB
theorem od_ne0 (hK : X.K = L.K) (hu : X.A.units + 64 < cLine) : OpD L X (compareOp .NotEq) fNeD := od_neD hK hu
/-! a walk over a list, a tuple, a text -/
def iSeqA (K : PySem.W.Frag) (te : TE) : TI := fun σ H R => te σ H fun x H1 => (∃ a, x = .ref a ∧ (∃ xs, SqL K H1 a xs) ∧ R (Itl K a) H1) ∨ (∃ a, x = .ref a ∧ (∃ xs, SqT K H1 a xs) ∧ R (Itt K a) H1) ∨ ∃ z, x = .str z ∧ R (Its z) H1
theorem pi_seqA {tg : Expr} {te : TE} (he : PE X e te) : PI X tg e (iSeqA X.K te) := by
  refine ⟨fun pins s σ H R I h => thn (he.run pins s σ H _ I h) fun v s1 ⟨x, H1, I1, r1, q⟩ => ?_⟩
  have own : ∀ b ∈ [s1.heap.objs.size], FpOk X pins H1 b := fun b hb => by
    rw [List.mem_singleton.mp hb]
    exact I1.fpOk (Nat.le_refl _) (I1.hok.fresh (Nat.le_refl _))
  rcases q with ⟨a, ex, ⟨xs, hq⟩, q⟩ | ⟨a, ex, ⟨xs, hq⟩, q⟩ | ⟨z, ex, q⟩
  · subst ex
    cases r1
    obtain ⟨its, rv, p, hz⟩ := I1.list hq
    exact wpAny_pyIter_list p.isList ⟨s1.heap.objs.size, [s1.heap.objs.size], _, _, H1, rfl, I1.kept (t' := s1.toks) fun b o e => Heap.get?_push_of_some _ e, turn_list a _, ⟨_, Heap.get?_push_size _ rfl, rfl, rfl⟩, own, q⟩
  · subst ex
    cases r1
    obtain ⟨its, rv, p, hz⟩ := I1.tuple hq
    exact wpAny_pyIter_tuple (show s1.heap.IsTuple a its.toArray from p) ⟨s1.heap.objs.size, [s1.heap.objs.size], _, _, H1, rfl, I1.kept (t' := s1.toks) fun b o e => Heap.get?_push_of_some _ e, turn_tuple a _, ⟨_, Heap.get?_push_size _ rfl, rfl, rfl⟩, own, q⟩
  · subst ex
    obtain ⟨t, rfl⟩ := r1
    cases ha : z.cps.all (· < 128)
    · exact wpAny_pyIter_wide ha (pi_one (tk := s1.toks) I1 _ (turn_str _ z t "str_iterator" (.inr rfl)) ⟨_, Heap.get?_push_size _ rfl, rfl, rfl⟩ q)
    · exact wpAny_pyIter_ascii ha (pi_one (tk := s1.toks) I1 _ (turn_str _ z t "str_ascii_iterator" (.inl rfl)) ⟨_, Heap.get?_push_size _ rfl, rfl, rfl⟩ q)
def itA (d : D) : M (List D) := match d with
  | .lst ds => .ret ds
  | .tup ds => .ret ds
  | .str z => .ret (signs z)
  | _ => .stuck
def iiA (i : IE) : II := fun Γ => (i Γ).bind itA
theorem wk_str {z : Str} : Wk L (Its z) g (signs z) where
  step := fun n d Γ g' σ H e r f => by
    unfold signs at e
    rw [List.getElem?_map] at e
    obtain ⟨c, hc, rfl⟩ := Option.map_eq_some_iff.mp e
    rw [Array.getElem?_toList] at hc
    refine ⟨(Array.getElem?_eq_some_iff.mp hc).1, fun x H' ⟨e1, c', hc', ev⟩ => ?_⟩
    subst e1 ev
    rw [hc] at hc'
    cases hc'
    exact ⟨g', Stp.refl r, rfl, .str _⟩
  stop := fun Γ g' σ H r f => by
    show z.cps.size ≤ (signs z).length
    unfold signs
    rw [List.length_map, Array.length_toList]
    exact Nat.le_refl _
theorem di_any (hK : X.K = L.K) {tg : Expr} (h : DE L X i e) : DI L X (iiA i) tg e := fun W tk => by
  refine PI.imp (pi_seqA (h W tk)) fun σ H R ⟨Γ, g, r, w⟩ => RdI.go (T := DenT) r w fun v H1 d g1 r1 s t w => ?_
  cases d with
  | lst ds =>
    cases id t with
    | lst e l => exact .inl ⟨_, rfl, ⟨_, .inl (.inl (r1.sub _ _ e))⟩, w g1 H1 _ (Stp.refl r1) rfl (hK ▸ wk_list e l)⟩
  | tup ds =>
    cases id t with
    | tup e l => exact .inr (.inl ⟨_, rfl, ⟨_, hK ▸ sqT_mono r1.sub e.sq⟩, w g1 H1 _ (Stp.refl r1) rfl (hK ▸ wk_tup e.sq l)⟩)
  | str z =>
    cases t
    exact .inr (.inr ⟨z, rfl, w g1 H1 _ (Stp.refl r1) rfl wk_str⟩)
  | _ => exact w.elim

/-- a comprehension's test -/
theorem pts_of {ct : IT} {ifs : Expr} (h : DT L X ct ifs) : PTs X [ifs] (RdT L (fun _ _ _ _ => False) ct) := pts_one (h _ LamX.takes0)
end
end DL
/-! Words for the generated derivations, chains of three comparisons, a module's empty tuple. -/
namespace DL
open PySem PySem.Spec L2
theorem u65 {k : Nat} {A : Around} (hr : Room k A) : A.units + 65 < cLine := by have := hr.un; omega
theorem u66 {k : Nat} {A : Around} (hr : Room k A) : A.units + 66 < cLine := by have := hr.un; omega
theorem dep1 {k : Nat} {A : Around} (hr : Room k A) : A.depth + 1 < recursionLimit := by have := hr.dp; omega
theorem xfC_of {K : PySem.W.Frag} {C fI : Addr} {f qn : Str} {B n1 n2 : String} {bm : List Value} (T : PySem.DLX.ExT K C fI f qn B n1 n2 bm) : XfC K C := ⟨T.ga, T.gg, T.exC, T.hdC⟩
/-- which class is caught by which, by a table -/
def subOf (t : List (Nat × Nat × Bool)) (n k : Nat) : Option Bool := (t.find? fun e => e.1 == n && e.2.1 == k).map (·.2.2)
theorem sub_ok {L : Lx} {t : List (Nat × Nat × Bool)} (h : ∀ e ∈ t, PySem.W.exmOne L.K (.ref (L.cA e.1)) (.ref (L.cA e.2.1)) = some e.2.2) : ∀ n k b, subOf t n k = some b → PySem.W.exmOne L.K (.ref (L.cA n)) (.ref (L.cA k)) = some b := by
  intro n k b e
  unfold subOf at e
  obtain ⟨x, h1, h2⟩ := Option.map_eq_some_iff.mp e
  have h3 := List.find?_some h1
  simp only [Bool.and_eq_true, beq_iff_eq] at h3
  obtain ⟨rfl, rfl⟩ := h3
  rw [← h2]
  exact h x (List.mem_of_find?_eq_some h1)
section
variable {L : Lx} {X : Cx} {g g' : Gh} {H H' : Hp} {σ : L2.St} {Γ : Env} {W : WX} {pos p : Pos} {i j k l : IE} {a b c d : Expr}
theorem fg_none {P : Program} {w : World} {mg : Str → Option Value} {base : Heap} {n : Nat} {f : Addr} {fd : FuncData} {ps : List Str} : FG L P w mg base n f fd ps fun _ => .stuck :=
  ⟨fun A outer s H args us vs Q E hr hg e0 bt r hl ⟨Γ, g, σ, ds, rp, l, w⟩ => w.elim⟩
/-! a < b < c <= d -/
def tChain3 (r1 r2 r3 : R2) (ta tb tc td : TE) : TE := fun σ H Q => ta σ H fun x H1 => tb σ H1 fun y H2 => r1 x y H2 fun z H3 => ∃ k, z = .bl k ∧
  (if k = true then tc σ H3 fun u H4 => r2 y u H4 fun z H5 => ∃ k, z = .bl k ∧ (if k = true then td σ H5 fun v H6 => r3 u v H6 Q else Q (.bl false) H5) else Q (.bl false) H3)
theorem pe_chain3 {o1 o2 o3 : CmpOp} {r1 r2 r3 : R2} {ta tb tc td : TE} (h1 : OpR X (compareOp o1) r1) (h2 : OpR X (compareOp o2) r2) (h3 : OpR X (compareOp o3) r3) (ha : PE X a ta) (hb : PE X b tb) (hc : PE X c tc) (hd : PE X d td)
    (hm : lastMarks [o1, o2, o3] [b, c, d] = false := by with_unfolding_all rfl) : PE X (.Compare a [o1, o2, o3] [b, c, d] pos) (tChain3 r1 r2 r3 ta tb tc td) := by
  refine ⟨fun pins s σ H Q I h => ?_⟩
  refine PyProof.Rows.Compare_chain (thn (ha.run pins s σ H _ I h) fun v s1 ⟨x, H1, I1, q1, h⟩ => PyProof.Rows.chain_link (thn (hb.run pins s1 σ H1 _ I1 h) fun u s2 ⟨y, H2, I2, q2, h⟩ =>
    thn (h1 pins s2 σ H2 x y v u _ I2 q1 q2 h) fun e s3 ⟨z, H3, I3, q3, k, ez, h⟩ => ?_)) hm
  subst ez
  cases q3
  refine wpAny_truthy_bool ?_
  cases k with
  | false => exact iteF ⟨.bl false, H3, I3, rfl, h⟩
  | true =>
    refine iteT (PyProof.Rows.chain_link (thn (hc.run pins s3 σ H3 _ I3 h) fun w' s4 ⟨z', H4, I4, q4, h⟩ => thn (h2 pins s4 σ H4 y z' u w' _ I4 q2 q4 h) fun e s5 ⟨z, H5, I5, q5, k, ez, h⟩ => ?_))
    subst ez
    cases q5
    refine wpAny_truthy_bool ?_
    cases k with
    | false => exact iteF ⟨.bl false, H5, I5, rfl, h⟩
    | true => exact iteT (PyProof.Rows.chain_last (thn (hd.run pins s5 σ H5 _ I5 h) fun w2 s6 ⟨z2, H6, I6, q6, h⟩ => h3 pins s6 σ H6 z' z2 w' w2 Q I6 q4 q6 h))
def iChain3 (f1 f2 f3 : D → D → Option D) (i j k l : IE) : IE := fun Γ => (i Γ).bind fun x => (j Γ).bind fun y => match f1 x y with
  | some (.bl t) => if t = true then (k Γ).bind fun z => (match f2 y z with
    | some (.bl t) => if t = true then (l Γ).bind fun u => (match f3 z u with
      | some d => .ret d
      | none => .stuck) else .ret (.bl false)
    | _ => .stuck) else .ret (.bl false)
  | _ => .stuck
theorem rd_chain3 {f1 f2 f3 : D → D → Option D} {Q : VK} (h : Rd1 L DenT W (iChain3 f1 f2 f3 i j k l) σ H Q) : tChain3 (RdO L f1) (RdO L f2) (RdO L f3) (Rd1 L VwT W i) (Rd1 L VwT W j) (Rd1 L VwT W k) (Rd1 L VwT W l) σ H Q := by
  obtain ⟨Γ, g, rp, w⟩ := h
  refine Rd1.go rp w fun x H1 dx g1 r1 s1 t1 w => Rd1.go r1 w fun y H2 dy g2 r2 s2 t2 w => ?_
  split at w
  · rename_i t e
    refine ⟨Γ, g2, σ, dx, dy, .bl t, r2, t1.step s2, t2, e, fun v g3 H3 s3 eb t3 => ?_⟩
    cases t3
    refine ⟨t, rfl, ?_⟩
    cases t with
    | false => exact iteF (w _ g3 H3 (s1.trans (s2.trans s3)) eb (.bl _))
    | true =>
      rw [← eb] at w
      refine iteT (Rd1.go (r2.step s3) (M.wpB_mono (fun _ _ x => x) (fun _ _ x => x.of s3) _ _ w) fun z H4 dz g4 r4 s4 t4 w => ?_)
      split at w
      · rename_i t e2
        refine ⟨Γ, g4, σ, dy, dz, .bl t, r4, (t2.step s3).step s4, t4, e2, fun v g5 H5 s5 eb5 t5 => ?_⟩
        cases t5
        refine ⟨t, rfl, ?_⟩
        cases t with
        | false => exact iteF (w _ g5 H5 (s1.trans (s2.trans (s3.trans (s4.trans s5)))) eb5 (.bl _))
        | true =>
          rw [← eb5] at w
          refine iteT (Rd1.go (r4.step s5) (M.wpB_mono (fun _ _ x => x) (fun _ _ x => x.of s5) _ _ w) fun u H6 du g6 r6 s6 t6 w => ?_)
          split at w
          · rename_i d e3
            exact ⟨Γ, g6, σ, dz, du, d, r6, (t4.step s5).step s6, t6, e3, fun v g7 H7 s7 eb7 t7 => w v g7 H7 (s1.trans (s2.trans (s3.trans (s4.trans (s5.trans (s6.trans s7)))))) eb7 t7⟩
          · exact w.elim
      · exact w.elim
  · exact w.elim
theorem de_chain3 {o1 o2 o3 : CmpOp} {f1 f2 f3 : D → D → Option D} (h1 : OpD L X (compareOp o1) f1) (h2 : OpD L X (compareOp o2) f2) (h3 : OpD L X (compareOp o3) f3) (ha : DV L X i a) (hb : DV L X j b) (hc : DV L X k c) (hd : DV L X l d) (hm : lastMarks [o1, o2, o3] [b, c, d] = false := by with_unfolding_all rfl) :
    DE L X (iChain3 f1 f2 f3 i j k l) (.Compare a [o1, o2, o3] [b, c, d] pos) := fun W tk => PE.imp (pe_chain3 h1 h2 h3 (ha W tk) (hb W tk) (hc W tk) (hd W tk) hm) fun σ H Q h => rd_chain3 h
/-! a module's empty tuple -/
theorem de_gtup0 {x : Str} {a : Addr} (hg : Gl X x) (h : X.mg x = some (.ref a)) (hs : ∀ F, SqD L.fz L.gt L.K F a []) (hk : PySem.W.keepIn X.K (.ref a) = true) (hd : (x == ("__debug__" : Str)) = false := by decide) : DE L X (iLit (.tup [])) (.Name x pos) :=
  de_c (pe_glob (v := .ref a) hg h rfl hd) fun g => .tup (hs g.F) .nil
end
end DL
/-! Dicts that are looked at. -/
namespace DL
open PySem PySem.Spec L2
/-! keys as data -/
def kOf : D → Option Key
  | .int i => some (.inl i)
  | .str s => some (.inr s)
  | _ => none
def kOfL : List D → Option (List Key)
  | [] => some []
  | d :: r => match kOf d with
    | some k => (kOfL r).map (k :: ·)
    | none => none
theorem kOf_eq {d : D} {k : Key} (h : kOf d = some k) : d = keyD k := by
  cases d <;> simp only [kOf, Option.some.injEq, reduceCtorEq] at h <;> subst h <;> rfl
theorem kOfL_eq : ∀ {ds : List D} {ks : List Key}, kOfL ds = some ks → ds = ks.map keyD
  | [], ks, h => by cases h; rfl
  | d :: r, ks, h => by
    simp only [kOfL] at h
    split at h
    · rename_i k hk
      obtain ⟨l, hl, rfl⟩ := Option.map_eq_some_iff.mp h
      rw [List.map_cons, ← kOf_eq hk, ← kOfL_eq hl]
    · cases h
def kEq1 : D → D → Bool
  | .int i, .int j => decide (i = j)
  | .str a, .str b => decide (a = b)
  | _, _ => false
def kEqL : List D → List D → Bool
  | [], [] => true
  | x :: r, y :: t => kEq1 x y && kEqL r t
  | _, _ => false
def kEq : D → D → Bool
  | .tup xs, .tup ys => kEqL xs ys
  | x, y => kEq1 x y
theorem kEq1_key (a b : Key) : kEq1 (keyD a) (keyD b) = decide (a = b) := by
  cases a <;> cases b <;> simp [kEq1, keyD]
theorem kEq_key (a b : Key) : kEq (keyD a) (keyD b) = decide (a = b) := by
  rw [← kEq1_key]
  cases a <;> cases b <;> rfl
theorem kEqL_key : ∀ a b : List Key, kEqL (a.map keyD) (b.map keyD) = decide (a = b)
  | [], [] => rfl
  | [], _ :: _ => rfl
  | _ :: _, [] => rfl
  | x :: r, y :: t => by
    show (kEq1 (keyD x) (keyD y) && kEqL (r.map keyD) (t.map keyD)) = _
    rw [kEq1_key, kEqL_key r t, ← Bool.decide_and]
    exact decide_eq_decide.mpr (by simp)
theorem kEq_tup (a b : List Key) : kEq (.tup (a.map keyD)) (.tup (b.map keyD)) = decide (a = b) := kEqL_key a b
def valD (kvs : List (D × D)) (y : D) : Option D := (kvs.find? fun kv => kEq kv.1 y).map (·.2)
/-- what may be asked of a dict -/
def keyOk : Bool → D → Bool
  | false, y => (kOf y).isSome
  | true, .tup ds => match kOfL ds with
    | some ks => ks.any fun k => k.isRight
    | none => false
  | true, _ => false
section
variable {L : Lx} {X : Cx} {g g' : Gh} {H H' : Hp} {σ : L2.St} {Γ : Env} {W : WX} {pos p : Pos} {i j k : IE} {a b c : Expr}
/-- what is told of a look-up -/
def RelD (L : Lx) (g : Gh) (o : Option V) (r : Option D) : Prop := (∃ v d, o = some v ∧ r = some d ∧ Den L g v d) ∨ (o = none ∧ r = none)
theorem val_den {κ : Type} [DecidableEq κ] {f : κ → D} (hf : ∀ a b, kEq (f a) (f b) = decide (a = b)) (k : κ) : ∀ {ks : List κ} {vs : List V} {ds : List D}, ks.length = vs.length → DenL L g vs ds →
    RelD L g (valV (ks.zip vs) k) (valD ((ks.map f).zip ds) (f k)) := by
  intro ks
  induction ks with
  | nil => intro vs ds _ _; exact .inr ⟨by simp [valV], by simp [valD]⟩
  | cons x ks ih =>
    intro vs ds h l
    cases l with
    | nil => simp at h
    | @cons v vs d ds t l =>
      have ih := ih (vs := vs) (ds := ds) (by simpa using h) l
      show RelD L g (valV ((x, v) :: ks.zip vs) k) (valD ((f x, d) :: (ks.map f).zip ds) (f k))
      by_cases e : x = k
      · refine .inl ⟨v, d, valV_pos e, ?_, t⟩
        unfold valD
        rw [List.find?_cons_of_pos (by show kEq (f x) (f k) = true; rw [hf]; exact decide_eq_true e)]
        rfl
      · have e2 : valD ((f x, d) :: (ks.map f).zip ds) (f k) = valD ((ks.map f).zip ds) (f k) := by
          unfold valD
          rw [List.find?_cons_of_neg (by show ¬ kEq (f x) (f k) = true; rw [hf]; simpa using e)]
        rw [valV_neg e, e2]
        exact ih
theorem mem_of_lookup {α β : Type} [BEq α] [LawfulBEq α] {a : α} {b : β} : ∀ {l : List (α × β)}, l.lookup a = some b → (a, b) ∈ l
  | [], h => by simp at h
  | (x, y) :: r, h => by
    rw [List.lookup_cons] at h
    split at h
    · rename_i e
      cases h
      rw [eq_of_beq e]
      exact List.mem_cons_self
    · exact List.mem_cons_of_mem _ (mem_of_lookup h)
theorem vals_str {ks : List Key} : ∀ {us : List Value}, Vals (ks.map kV) us → ks.any (fun k => k.isRight) = true → ∃ x t, Value.str x t ∈ us := by
  induction ks with
  | nil => intro us _ h; simp at h
  | cons k ks ih =>
    intro us r h
    cases r with
    | cons rv rr =>
      rw [List.any_cons, Bool.or_eq_true] at h
      rcases h with h | h
      · cases k with
        | inl i => simp at h
        | inr x =>
          obtain ⟨t, rfl⟩ := rv
          exact ⟨x, t, List.mem_cons_self⟩
      · obtain ⟨x, t, m⟩ := ih rr h
        exact ⟨x, t, List.mem_cons_of_mem _ m⟩
theorem SqD.own {fz : Bool} {gt : List Addr} {K : PySem.W.Frag} {F : Hp} {a : Addr} {ks : List Key} (hk : gt = []) (hz : fz = false) (h : SqD fz gt K F a (ks.map kV)) (hs : ks.any (fun k => k.isRight) = true) : F a = some (.tup (ks.map kV)) := by
  rcases h with h | ⟨o, its, n, h1, h2, h3, _, h4, h5⟩ | ⟨o, _, _, _, h5⟩
  · exact h.2
  · rw [hk] at h4
    cases h4.2
  · subst hz
    rw [Bool.false_or, List.any_eq_true] at h5
    obtain ⟨x, hx, e⟩ := h5
    obtain ⟨k, _, rfl⟩ := List.mem_map.mp hx
    cases k <;> cases e
theorem den_keys : ∀ {ks : List Key} {vs : List V}, DenL L g vs (ks.map keyD) → vs = ks.map kV
  | [], _, .nil => rfl
  | .inl i :: ks, _, .cons t l => by cases t; rw [den_keys l]; rfl
  | .inr s :: ks, _, .cons t l => by cases t; rw [den_keys l]; rfl
/-- a dict at a, locked or not, as data -/
def DctR (L : Lx) (g : Gh) (H : Hp) (p : Addr) (t : Bool) (kvs : List (D × D)) : Prop :=
  (∃ (ks : List Key) (vs : List V) (ds : List D), Rd H p (.dK (ks.zip vs)) ∧ ks.length = vs.length ∧ DenL L g vs ds ∧ kvs = (ks.map keyD).zip ds ∧ t = false) ∨
  (∃ (ks : List (List Key)) (vs : List V) (ds : List D), Rd H p (.dT (ks.zip vs)) ∧ ks.length = vs.length ∧ DenL L g vs ds ∧ kvs = (ks.map fun k => D.tup (k.map keyD)).zip ds ∧ t = true)
theorem DctAt.r {p : Addr} {t : Bool} {kvs : List (D × D)} (h : DctAt L g H p t kvs) : DctR L g H p t kvs := by
  rcases h with ⟨ks, vs, ds, h1, h2⟩ | ⟨ks, vs, ds, h1, h2⟩
  · exact .inl ⟨ks, vs, ds, .inl h1, h2⟩
  · exact .inr ⟨ks, vs, ds, .inl h1, h2⟩
theorem Vw.dct {x : V} {t : Bool} {kvs : List (D × D)} (sub : ∀ a o, g.F a = some o → H a = some o) (h : Vw L g H x (.dct t kvs)) : ∃ a, x = .ref a ∧ DctR L g H a t kvs := by
  rcases h with h | ⟨_, _, _, _, e, _⟩ | ⟨q, t', kvs', rfl, e, _, hd⟩
  · generalize hz : D.dct t kvs = d at h
    cases h with
    | dK e1 e2 e3 =>
      obtain ⟨rfl, rfl⟩ := D.dct.inj hz
      exact ⟨_, rfl, .inl ⟨_, _, _, .inr ⟨_, sub _ _ e1⟩, e2, e3, rfl, rfl⟩⟩
    | dT e1 e2 e3 =>
      obtain ⟨rfl, rfl⟩ := D.dct.inj hz
      exact ⟨_, rfl, .inr ⟨_, _, _, .inr ⟨_, sub _ _ e1⟩, e2, e3, rfl, rfl⟩⟩
    | _ => cases hz
  · cases e
  · cases e
    exact ⟨q, rfl, hd.r⟩
/-- the key y in the dict at a -/
theorem key_at {ad : Addr} {y : V} {dy : D} {t : Bool} {kvs : List (D × D)} (hk : L.gt = [] ∧ L.fz = false) (sub : ∀ a o, g.F a = some o → H a = some o) (hd : DctR L g H ad t kvs) (vy : Vw L g H y dy) (ok : keyOk t dy = true) :
    ∃ o, DGet H ad y o ∧ RelD L g o (valD kvs dy) := by
  rcases hd with ⟨ks, vs, ds, h1, h2, h3, rfl, rfl⟩ | ⟨ks, vs, ds, h1, h2, h3, rfl, rfl⟩
  · obtain ⟨k, e⟩ := Option.isSome_iff_exists.mp (show (kOf dy).isSome = true from ok)
    have ed := kOf_eq e
    subst ed
    have ey : y = kV k := by
      cases k with
      | inl i => exact vy.int
      | inr s => exact vy.str
    subst ey
    exact ⟨valV _ k, (show DGet H ad (kV k) _ from .inl ⟨_, k, h1, rfl, rfl⟩), val_den kEq_key k h2 h3⟩
  · cases dy with
    | tup es =>
      simp only [keyOk] at ok
      split at ok
      · rename_i k e
        have ed := kOfL_eq e
        subst ed
        obtain ⟨b, us, ey, es⟩ : ∃ b us, y = .ref b ∧ SqD L.fz L.gt L.K H b us ∧ DenL L g us (k.map keyD) := by
          rcases vy with h | ⟨_, _, _, _, e, _⟩ | ⟨_, _, _, _, e, _⟩
          · cases h with
            | tup e l => exact ⟨_, _, rfl, e.mono sub, l⟩
          · cases e
          · cases e
        subst ey
        have eu := den_keys es.2
        subst eu
        exact ⟨valV _ k, (show DGet H ad (.ref b) _ from .inr ⟨_, k, b, h1, rfl, es.1.own hk.1 hk.2 ok, rfl⟩), val_den (f := fun k => D.tup (k.map keyD)) kEq_tup k h2 h3⟩
      · cases ok
    | _ => cases ok
/-! d[k] -/
theorem ix_dict (hu : X.A.units + 1 < cLine) : IxR X (fun x y H Q => ∃ a v, x = .ref a ∧ DGet H a y (some v) ∧ Q v H) := by
  intro value slice pins s σ H x y v u Q I rx ry ⟨a, z, ex, gt, q⟩ hs
  subst ex
  obtain rfl : v = Value.ref a := rx
  have hT := dict_typeIs I gt
  unfold PyProof.Rows.subscriptTail
  refine wpAny_bind ?_
  rw [getitemInPython_of_ne hT.not_modules]
  refine wpAny_bind (wpAny_specialOf hT PySem.F.slot_dict_getitem.lookup ?_)
  have fin : wpAny (model X.prog X.w) X.A (subscripted slice false (.ref a) u) (fun r s₃ => wpAny (model X.prog X.w) X.A (letTemporaryGo value (.ref a) r >>= fun _ => pure r) (EP X pins σ Q) X.xe s₃) X.xe s := by
    rw [hs]
    exact wpAny_operating (wpAny_mono (d_getItem (Q := EP X pins σ Q) hu I gt ry fun w' s' I' rw' => ⟨z, H, I', rw', q⟩) (fun r s₃ h₃ => wpAny_bind (wpAny_letTemporaryGo (wpAny_pure h₃))) fun _ _ x => x)
  first
    | exact wpAny_pure (wpAny_bind fin)
    | exact wpAny_bind (wpAny_pure (wpAny_bind fin))
    | exact wpAny_bind fin
def fIxK : D → D → Option D
  | .dct t kvs, y => if keyOk t y then valD kvs y else none
  | _, _ => none
theorem ixd_dict (hk : L.gt = [] ∧ L.fz = false) (hu : X.A.units + 1 < cLine) : IxD L X fIxK := by
  intro va sl pins st σ H x y v u Q I rx ry ⟨Γ, g, σ', dx, dy, d, rp, vx, vy, e, w⟩ hs
  unfold fIxK at e
  split at e
  · split at e
    · rename_i ok
      obtain ⟨ad, rfl, hd⟩ := vx.dct rp.sub
      obtain ⟨o, hg, r⟩ := key_at hk rp.sub hd vy ok
      rcases r with ⟨z, d', rfl, e2, t⟩ | ⟨_, e2⟩
      · rw [e] at e2
        cases e2
        exact ix_dict hu va sl pins st σ H _ y v u Q I rx ry ⟨ad, z, rfl, hg, w _ g H (Stp.refl rp) rfl t⟩ hs
      · rw [e] at e2
        cases e2
    · cases e
  · cases e
/-! k in d -/
def fInK (neg : Bool) : D → D → Option D
  | y, .dct t kvs => if keyOk t y then some (.bl (if neg then !(valD kvs y).isSome else (valD kvs y).isSome)) else none
  | _, _ => none
theorem RelD.some {o : Option V} {r : Option D} (h : RelD L g o r) : o.isSome = r.isSome := by
  rcases h with ⟨_, _, rfl, rfl, _⟩ | ⟨rfl, rfl⟩ <;> rfl
theorem od_inK (hk : L.gt = [] ∧ L.fz = false) (hu : X.A.units + 1 < cLine) : OpD L X (compareOp .In) (fInK false) := by
  intro pins st σ H x y v u Q I rx ry ⟨Γ, g, σ', dx, dy, d, rp, vx, vy, e, w⟩
  unfold fInK at e
  split at e
  · split at e
    · rename_i ok
      cases e
      obtain ⟨ad, rfl, hd⟩ := vy.dct rp.sub
      obtain ⟨o, hg, r⟩ := key_at hk rp.sub hd vx ok
      obtain rfl : u = Value.ref ad := ry
      exact d_in hu I hg rx fun s3 I3 => ⟨.bl o.isSome, H, I3, rfl, w _ g H (Stp.refl rp) rfl (by rw [r.some]; exact .bl _)⟩
    · cases e
  · cases e
theorem od_notInK (hk : L.gt = [] ∧ L.fz = false) (hu : X.A.units + 1 < cLine) : OpD L X (compareOp .NotIn) (fInK true) := by
  intro pins st σ H x y v u Q I rx ry ⟨Γ, g, σ', dx, dy, d, rp, vx, vy, e, w⟩
  unfold fInK at e
  split at e
  · split at e
    · rename_i ok
      cases e
      obtain ⟨ad, rfl, hd⟩ := vy.dct rp.sub
      obtain ⟨o, hg, r⟩ := key_at hk rp.sub hd vx ok
      obtain rfl : u = Value.ref ad := ry
      exact d_notIn hu I hg rx fun s3 I3 => ⟨.bl (!o.isSome), H, I3, rfl, w _ g H (Stp.refl rp) rfl (by rw [r.some]; exact .bl _)⟩
    · cases e
  · cases e
/-! d.get(k, x) -/
def iGet (i j k : IE) : IE := fun Γ => (i Γ).bind fun x => match x with
  | .dct t kvs => (j Γ).bind fun y => (k Γ).bind fun z => if keyOk t y then .ret ((valD kvs y).getD z) else .stuck
  | _ => .stuck
theorem de_get {apos : Pos} (hk : L.gt = [] ∧ L.fz = false) (hu : X.A.units + 1 < cLine) (ha : DV L X i a) (hb : DE L X j b) (hc : DE L X k c) (m : M2 X a "get" apos b c pos) : DE L X (iGet i j k) (.Call (.Attribute a "get" apos) [b, c] [] pos) := fun W tk => by
  refine PE.imp (pe_dget2 hu (ha W tk) (hb W tk) (hc W tk) m) fun σ H Q ⟨Γ, g, r, w⟩ => Rd1.go r w fun x H1 dx g1 r1 s1 t1 w => ?_
  cases dx with
  | dct t kvs =>
    obtain ⟨ad, rfl, hd⟩ := Vw.dct r1.sub t1
    have isd : IsD H1 ad := by
      rcases hd with ⟨_, _, _, h1, _⟩ | ⟨_, _, _, h1, _⟩
      · exact .inl ⟨_, h1⟩
      · exact .inr ⟨_, h1⟩
    refine ⟨ad, rfl, isd, Rd1.go r1 w fun y H2 dy g2 r2 s2 t2 w => Rd1.go r2 w fun z H3 dz g3 r3 s3 t3 w => ?_⟩
    split at w
    · rename_i ok
      obtain ⟨ad', e', hd3⟩ := Vw.dct r3.sub ((t1.step s2).step s3)
      cases e'
      obtain ⟨o, hg, rl⟩ := key_at hk r3.sub hd3 (.inl (t2.mono s3.le s3.mu)) ok
      refine ⟨o, hg, w _ g3 H3 (s1.trans (s2.trans s3)) rfl ?_⟩
      rcases rl with ⟨v, d, rfl, e, t⟩ | ⟨rfl, e⟩
      · rw [e]; exact t
      · rw [e]; exact t3
    · exact w.elim
  | _ => exact w.elim
end
end DL
/-! Dicts of one's own, changed in place. -/
namespace DL
open PySem PySem.Spec L2
section
variable {L : Lx} {X : Cx} {g0 g g' : Gh} {H0 H H' : Hp} {σ σ' : L2.St} {Γ Γ' : Env} {W : WX} {pos : Pos}
/-- a dict's object, whatever its keys are -/
def IsDO : HO → Prop
  | .dK _ => True
  | .dT _ => True
  | _ => False
theorem stp_updD {gs : Gh} {Hs : Hp} {p : Addr} {o o' : HO} (s : Stp L gs Hs g H) (n : Hs p = none) (h1 : H p = some o) (ho : IsDO o) (h3 : g.F p = none) (h4 : ¬ InM g.mu H p) : Stp L gs Hs g (upd H p o') := by
  have im : ∀ a, InM g.mu (upd H p o') a → InM g.mu H a := fun a ⟨m, e, h⟩ => by
    refine ⟨m, e, ?_⟩
    rcases h with h | ⟨kvs, k, e4, hm⟩
    · exact .inl h
    · have q : m ≠ p := fun z => h4 ⟨m, e, .inl z.symm⟩
      rw [upd_ne q] at e4
      exact .inr ⟨kvs, k, e4, hm⟩
  have ne : ∀ a, Hs a ≠ none → a ≠ p := fun a h z => h (by rw [z]; exact n)
  refine ⟨s.le, s.mu, fun a o e => ?_, fun a o e nt nm => ?_, fun a h => ?_, fun a o e i => s.nm a o e (im a i), ⟨s.rnd.1, fun m e => ?_⟩, s.bud, ⟨fun q hq => ?_, fun ea en ed eu he => ?_⟩⟩
  · have q : a ≠ p := fun z => by rw [z, h3] at e; cases e
    rw [upd_ne q]; exact s.sub a o e
  · obtain ⟨e1, m1⟩ := s.keep a o e nt nm
    rw [upd_ne (ne a (by rw [e]; simp))]
    exact ⟨e1, fun i => m1 (im a i)⟩
  · unfold Tp; rw [upd_ne (ne a h)]; exact s.nf a h
  · obtain ⟨c, l, cs, ls, at_, e1, e2, e3, r⟩ := s.rnd.2 m e
    have q : ∀ a, InM g.mu H a → a ≠ p := fun a i z => h4 (z ▸ i)
    have em : upd H p o' m = H m := upd_ne (q m ⟨m, e, .inl rfl⟩)
    have ec : upd H p o' c = H c := upd_ne (q c ⟨m, e, .inr ⟨_, Sum.inr "cells", e1, by simp⟩⟩)
    have el : upd H p o' l = H l := upd_ne (q l ⟨m, e, .inr ⟨_, Sum.inr "left", e1, by simp⟩⟩)
    exact ⟨c, l, cs, ls, at_, em.trans e1, ec.trans e2, el.trans e3, r⟩
  · obtain ⟨ps, e1, e2, e3⟩ := s.tab.1 q hq
    have n1 : q.1 ≠ p := fun z => by rw [z, h1] at e1; cases e1; exact ho
    refine ⟨ps, by rw [upd_ne n1]; exact e1, e2, fun pos cv hc => ?_⟩
    obtain ⟨c, z1, z2⟩ := e3 pos cv hc
    have n2 : c ≠ p := fun z => by rw [z, h1] at z2; unfold LamX.CodeO at z2; cases z2; exact ho
    exact ⟨c, z1, by rw [upd_ne n2]; exact z2⟩
  · obtain ⟨f, e1, e2⟩ := s.tab.2 ea en ed eu he
    have n1 : ed ≠ p := fun z => by rw [z, h1] at e2; cases e2; exact ho
    exact ⟨f, e1, by rw [upd_ne n1]; exact e2⟩
theorem inM_updD {mu : Option Addr} {p : Addr} {o : HO} {a : Addr} (n : ¬ InM mu H p) (h : InM mu (upd H p o) a) : InM mu H a := by
  obtain ⟨m, e, h⟩ := h
  refine ⟨m, e, ?_⟩
  rcases h with h | ⟨kvs, k, e4, hm⟩
  · exact .inl h
  · have q : m ≠ p := fun z => n ⟨m, e, .inl z.symm⟩
    rw [upd_ne q] at e4
    exact .inr ⟨kvs, k, e4, hm⟩
theorem RepS.updD {n : Nat} {p : Addr} {t : Bool} {ds ds' : List (D × D)} {o o' : HO} (r : RepS L g0 H0 Γ g σ H) (en : Γ[n]? = some (some (.od t ds))) (es : σ[n]? = some (some (.ref p))) (h1 : H p = some o) (ho : IsDO o) (h3 : g.F p = none) (h4 : ¬ InM g.mu H p)
    (l : DctAt L g (L2.upd H p o') p t ds') : RepS L g0 H0 (Γ.set n (some (.od t ds'))) g σ (L2.upd H p o') := by
  have n0 : H0 p = none := r.new n _ p en rfl es
  have hl : n < Γ.length := (List.getElem?_eq_some_iff.mp en).1
  have s := stp_updD (o' := o') r.base n0 h1 ho h3 h4
  have at_ : ∀ (i : Nat) (b : B), (Γ.set n (some (.od t ds')))[i]? = some (some b) → (i = n ∧ b = .od t ds') ∨ (i ≠ n ∧ Γ[i]? = some (some b)) := fun i b e => by
    by_cases h : i = n
    · subst h
      rw [List.getElem?_set_self hl] at e
      cases e
      exact .inl ⟨rfl, rfl⟩
    · rw [List.getElem?_set_ne (Ne.symm h)] at e
      exact .inr ⟨h, e⟩
  refine ⟨⟨s.sub, s.rnd, s.tab, fun i b e => ?_, fun i j b c q e1 e2 o1 o2 s1 s2 => ?_, s.nm, by rw [List.length_set]; exact r.rep.len⟩, s, fun i b q e o sq => ?_⟩
  · rcases at_ i b e with ⟨rfl, rfl⟩ | ⟨hi, e⟩
    · exact ⟨_, es, p, rfl, h3, fun z => h4 (inM_updD h4 z), l⟩
    · obtain ⟨x, ex, hb⟩ := r.rep.loc i b e
      refine ⟨x, ex, ?_⟩
      cases b with
      | fz d => exact hb
      | ol es' =>
        obtain ⟨q, ws, rfl, a1, a2, a3, a4⟩ := hb
        have nq : q ≠ p := fun z => hi (r.rep.dis i n _ _ p e en rfl rfl (z ▸ ex) es)
        exact ⟨q, ws, rfl, by rw [upd_ne nq]; exact a1, a2, a3, fun z => a4 (inM_updD h4 z)⟩
      | od t kvs =>
        obtain ⟨q, rfl, a1, a2, a3⟩ := hb
        have nq : q ≠ p := fun z => hi (r.rep.dis i n _ _ p e en rfl rfl (z ▸ ex) es)
        exact ⟨q, rfl, a1, fun z => a2 (inM_updD h4 z), a3.step (upd_ne nq) (fun _ _ e => e) fun _ e => e⟩
      | os m fs =>
        obtain ⟨q, dx, ws, rfl, sq, a1, a2, a3, a4⟩ := hb
        have nq : q ≠ p := fun z => hi (r.rep.dis i n _ _ p e en rfl rfl (z ▸ ex) es)
        exact ⟨q, dx, ws, rfl, sq, by rw [upd_ne nq]; exact a1, a2, a3, fun z => a4 (inM_updD h4 z)⟩
  · have f : ∀ (i : Nat) (b : B), (Γ.set n (some (.od t ds')))[i]? = some (some b) → b.own = true → ∃ b', Γ[i]? = some (some b') ∧ b'.own = true := fun i b e o => by
      rcases at_ i b e with ⟨rfl, rfl⟩ | ⟨_, e⟩
      · exact ⟨_, en, rfl⟩
      · exact ⟨b, e, o⟩
    obtain ⟨b', e1', o1'⟩ := f i b e1 o1
    obtain ⟨c', e2', o2'⟩ := f j c e2 o2
    exact r.rep.dis i j b' c' q e1' e2' o1' o2' s1 s2
  · rcases at_ i b e with ⟨rfl, rfl⟩ | ⟨_, e⟩
    · rw [es] at sq
      cases sq
      exact n0
    · exact r.new i b q e o sq
/-- a new dict of one's own -/
def FrTD : TT1 := fun L H₀ g H v d => ∃ p t kvs, v = .ref p ∧ d = .dct t kvs ∧ DctAt L g H p t kvs ∧ g.F p = none ∧ ¬ InM g.mu H p ∧ H₀ p = none
def DFD (L : Lx) (X : Cx) (i : IE) (e : Expr) : Prop := ∀ W, Takes X W → PE X e (Rd1 L FrTD W i)
/-- a slot is given a new dict of one's own -/
theorem RepS.setOwnD {n : Nat} {v : V} {t : Bool} {ds : List (D × D)} {g1 : Gh} {H1 : Hp} (r0 : RepS L g0 H0 Γ g σ H) (s : Stp L g H g1 H1) (h : FrTD L H g1 H1 v (.dct t ds)) : RepS L g0 H0 (Γ.set n (some (.od t ds))) g1 (σ.set n (some v)) H1 := by
  obtain ⟨p, t', ds', rfl, e, h1, h3, h4, h5⟩ := h
  cases e
  have r := r0.step s
  have at_ : ∀ (i : Nat) (b : B), (Γ.set n (some (.od t ds)))[i]? = some (some b) → (i = n ∧ b = .od t ds ∧ (σ.set n (some (.ref p)))[i]? = some (some (.ref p))) ∨ (i ≠ n ∧ Γ[i]? = some (some b) ∧ (σ.set n (some (.ref p)))[i]? = σ[i]?) := fun i b e => by
    by_cases h : i = n
    · subst h
      by_cases hl : i < Γ.length
      · rw [List.getElem?_set_self hl] at e
        cases e
        exact .inl ⟨rfl, rfl, List.getElem?_set_self (by rw [← r.rep.len]; exact hl)⟩
      · rw [List.getElem?_eq_none (by simpa using hl)] at e; cases e
    · rw [List.getElem?_set_ne (Ne.symm h)] at e
      exact .inr ⟨h, e, List.getElem?_set_ne (Ne.symm h)⟩
  have old : ∀ (i : Nat) (b : B) (q : Addr), Γ[i]? = some (some b) → b.own = true → σ[i]? = some (some (.ref q)) → q ≠ p := fun i b q e o sq z => by
    subst z
    obtain ⟨x, ex, hb⟩ := r0.rep.loc i b e
    rw [sq] at ex
    cases ex
    cases b with
    | fz d => cases o
    | ol es' => obtain ⟨q, ws, e1, a1, _⟩ := hb; cases e1; rw [h5] at a1; cases a1
    | od t kvs => obtain ⟨q, e1, _, _, a3⟩ := hb; cases e1; rcases a3 with ⟨_, _, _, a, _⟩ | ⟨_, _, _, a, _⟩ <;> rw [h5] at a <;> cases a
    | os m fs => obtain ⟨q, dx, ws, e1, _, a1, _⟩ := hb; cases e1; rw [h5] at a1; cases a1
  refine ⟨⟨r.rep.sub, r.rep.rnd, r.rep.tab, fun i b e => ?_, fun i j b c q e1 e2 o1 o2 s1 s2 => ?_, r.rep.nF, by rw [List.length_set, List.length_set]; exact r.rep.len⟩, r.base, fun i b q e o sq => ?_⟩
  · rcases at_ i b e with ⟨rfl, rfl, t⟩ | ⟨_, e, t⟩
    · exact ⟨_, t, p, rfl, h3, h4, h1⟩
    · rw [t]; exact r.rep.loc i b e
  · rcases at_ i b e1 with ⟨i1, b1, t1⟩ | ⟨n1, f1, t1⟩
    · rcases at_ j c e2 with ⟨j1, c1, t2⟩ | ⟨n2, f2, t2⟩
      · exact i1.trans j1.symm
      · rw [t1] at s1
        cases s1
        rw [t2] at s2
        exact absurd rfl (old j c p f2 o2 s2)
    · rw [t1] at s1
      rcases at_ j c e2 with ⟨j1, c1, t2⟩ | ⟨n2, f2, t2⟩
      · rw [t2] at s2
        cases s2
        exact absurd rfl (old i b p f1 o1 s1)
      · rw [t2] at s2
        exact r.rep.dis i j b c q f1 f2 o1 o2 s1 s2
  · rcases at_ i b e with ⟨rfl, rfl, t⟩ | ⟨_, e, t⟩
    · rw [t] at sq
      cases sq
      exact none_back r0.base h5
    · exact r.new i b q e o (t ▸ sq)
variable {e a b : Expr} {i j : IE}
/-- x = a new dict -/
def sOwnD (n : Nat) (i : IE) : IS := fun Γ => (i Γ).bind fun d => match d with
  | .dct t ds => .ret (.nx (Γ.set n (some (.od t ds))))
  | _ => .stuck
theorem ds_ownD {n : Nat} {x : Str} {pos' : Pos} (hN : X.N.Nodup) (hi : X.N[n]? = some x) (hx : Loc X.env.scope x) (h : DFD L X i e) (hs : swapsWith e (some (.Name x pos')) pos.line X.env = pure false := by rfl)
    (hf : X.fn x = true ∨ X.env.scope.names.lookup x = some .local := by first | exact .inl rfl | exact .inr rfl) : DS L X (sOwnD n i) (.Assign [.Name x pos'] e pos) := fun W g0 H0 tk => by
  refine PS.imp (ps_set hN hi hx (h W tk) hs hf) fun Dn σ H ⟨Γ, g, r, w⟩ => Rd1.goS r w fun v H1 d g1 r1 s t w => ?_
  cases d with
  | dct t ds => exact w g1 _ H1 (r.setOwnD s t) s.fle rfl
  | _ => exact w.elim
/-- {}, its keys numbers and texts, or tuples -/
theorem dfd_newK : DFD L X (iLit (.dct false [])) (.Dict [] [] pos) := fun W tk => PE.imp pe_dnewK fun σ H Q ⟨Γ, g, rp, w⟩ => fun p n => by
  have s := stp_new (o := .dK []) rp n false
  exact w (.ref p) _ _ s rfl ⟨p, false, [], rfl, rfl, .inl ⟨[], [], [], upd_same, rfl, .nil, rfl, rfl⟩, nF_of rp n, fun i => (InM.there rp.rnd.ok (i.new n rp.rnd.ok)) n, n⟩
theorem dfd_newT : DFD L X (iLit (.dct true [])) (.Dict [] [] pos) := fun W tk => PE.imp pe_dnewT fun σ H Q ⟨Γ, g, rp, w⟩ => fun p n => by
  have s := stp_new (o := .dT []) rp n false
  exact w (.ref p) _ _ s rfl ⟨p, true, [], rfl, rfl, .inr ⟨[], [], [], upd_same, rfl, .nil, rfl, rfl⟩, nF_of rp n, fun i => (InM.there rp.rnd.ok (i.new n rp.rnd.ok)) n, n⟩
end
end DL
/-! d[k] = v on a dict of one's own. -/
namespace DL
open PySem PySem.Spec L2
def putD (kvs : List (D × D)) (y d : D) : List (D × D) :=
  if (kvs.any fun kv => kEq kv.1 y) = true then kvs.map (fun kv => if kEq kv.1 y = true then (kv.1, d) else kv) else kvs ++ [(y, d)]
section
variable {L : Lx} {X : Cx} {g0 g g' : Gh} {H0 H H' : Hp} {σ σ' : L2.St} {Γ Γ' : Env} {W : WX} {pos : Pos}
theorem any_key {κ : Type} [DecidableEq κ] {f : κ → D} (hf : ∀ a b, kEq (f a) (f b) = decide (a = b)) (k : κ) : ∀ {ks : List κ} {vs : List V} {ds : List D}, ks.length = vs.length → vs.length = ds.length →
    ((ks.zip vs).any fun kv => decide (kv.1 = k)) = ((ks.map f).zip ds).any fun kv => kEq kv.1 (f k) := by
  intro ks
  induction ks with
  | nil => intro vs ds _ _; simp
  | cons x ks ih =>
    intro vs ds h1 h2
    cases vs with
    | nil => simp at h1
    | cons v vs =>
      cases ds with
      | nil => simp at h2
      | cons d ds =>
        have ih := ih (vs := vs) (ds := ds) (by simpa using h1) (by simpa using h2)
        show (decide (x = k) || (ks.zip vs).any fun kv => decide (kv.1 = k)) = (kEq (f x) (f k) || ((ks.map f).zip ds).any fun kv => kEq kv.1 (f k))
        rw [ih, hf]
theorem map_key {κ : Type} [DecidableEq κ] {f : κ → D} (hf : ∀ a b, kEq (f a) (f b) = decide (a = b)) (k : κ) {v : V} {d : D} (t : Den L g v d) : ∀ {ks : List κ} {vs : List V} {ds : List D}, ks.length = vs.length → DenL L g vs ds →
    ∃ vs' ds', (ks.zip vs).map (fun kv => if kv.1 = k then (kv.1, v) else kv) = ks.zip vs' ∧ ks.length = vs'.length ∧ DenL L g vs' ds' ∧ ((ks.map f).zip ds).map (fun kv => if kEq kv.1 (f k) = true then (kv.1, d) else kv) = (ks.map f).zip ds' := by
  intro ks
  induction ks with
  | nil =>
    intro vs ds h l
    cases l with
    | nil => exact ⟨[], [], rfl, rfl, .nil, rfl⟩
    | cons _ _ => simp at h
  | cons x ks ih =>
    intro vs ds h l
    cases l with
    | nil => simp at h
    | @cons u vs e ds tu l =>
      obtain ⟨vs', ds', e1, e2, e3, e4⟩ := ih (vs := vs) (ds := ds) (by simpa using h) l
      by_cases q : x = k
      · refine ⟨v :: vs', d :: ds', ?_, by simp [e2], .cons t e3, ?_⟩
        · show (if x = k then (x, v) else (x, u)) :: (ks.zip vs).map (fun kv => if kv.1 = k then (kv.1, v) else kv) = (x, v) :: ks.zip vs'
          rw [if_pos q, e1]
        · show (if kEq (f x) (f k) = true then (f x, d) else (f x, e)) :: ((ks.map f).zip ds).map (fun kv => if kEq kv.1 (f k) = true then (kv.1, d) else kv) = (f x, d) :: (ks.map f).zip ds'
          rw [if_pos (by rw [hf]; exact decide_eq_true q), e4]
      · refine ⟨u :: vs', e :: ds', ?_, by simp [e2], .cons tu e3, ?_⟩
        · show (if x = k then (x, v) else (x, u)) :: (ks.zip vs).map (fun kv => if kv.1 = k then (kv.1, v) else kv) = (x, u) :: ks.zip vs'
          rw [if_neg q, e1]
        · show (if kEq (f x) (f k) = true then (f x, d) else (f x, e)) :: ((ks.map f).zip ds).map (fun kv => if kEq kv.1 (f k) = true then (kv.1, d) else kv) = (f x, e) :: (ks.map f).zip ds'
          rw [if_neg (by rw [hf]; simpa using q), e4]
theorem put_den {κ : Type} [DecidableEq κ] {f : κ → D} (hf : ∀ a b, kEq (f a) (f b) = decide (a = b)) (k : κ) {v : V} {d : D} (t : Den L g v d) {ks : List κ} {vs : List V} {ds : List D} (h : ks.length = vs.length) (l : DenL L g vs ds) :
    ∃ (ks' : List κ) (vs' : List V) (ds' : List D), putK (ks.zip vs) k v = ks'.zip vs' ∧ ks'.length = vs'.length ∧ DenL L g vs' ds' ∧ putD ((ks.map f).zip ds) (f k) d = (ks'.map f).zip ds' := by
  have a := any_key hf k h l.length
  by_cases q : ((ks.zip vs).any fun kv => decide (kv.1 = k)) = true
  · obtain ⟨vs', ds', e1, e2, e3, e4⟩ := map_key hf k t h l
    refine ⟨ks, vs', ds', ?_, e2, e3, ?_⟩
    · unfold putK; rw [if_pos q, e1]
    · unfold putD; rw [if_pos (a ▸ q), e4]
  · refine ⟨ks ++ [k], vs ++ [v], ds ++ [d], ?_, by simp [h], l.append (.cons t .nil), ?_⟩
    · unfold putK; rw [if_neg q, List.zip_append h]; rfl
    · unfold putD
      rw [if_neg (a ▸ q), List.map_append, List.zip_append (by rw [List.length_map, h, l.length])]
      rfl
theorem DctAt.isDO {p : Addr} {t : Bool} {kvs : List (D × D)} (h : DctAt L g H p t kvs) : ∃ o, H p = some o ∧ IsDO o := by
  rcases h with ⟨_, _, _, h1, _⟩ | ⟨_, _, _, h1, _⟩
  · exact ⟨_, h1, trivial⟩
  · exact ⟨_, h1, trivial⟩
theorem DctAt.size {p : Addr} {t : Bool} {kvs : List (D × D)} (h : DctAt L g H p t kvs) {n : Nat} (hn : kvs.length < n) : (∀ kvs', H p = some (.dK kvs') → kvs'.length < n) ∧ ∀ kvs', H p = some (.dT kvs') → kvs'.length < n := by
  rcases h with ⟨ks, vs, ds, h1, h2, h3, rfl, _⟩ | ⟨ks, vs, ds, h1, h2, h3, rfl, _⟩
  · refine ⟨fun kvs' e => ?_, fun kvs' e => (by rw [h1] at e; cases e)⟩
    rw [h1] at e; cases e
    have := h3.length
    simp only [List.length_zip, List.length_map] at hn ⊢
    omega
  · refine ⟨fun kvs' e => (by rw [h1] at e; cases e), fun kvs' e => ?_⟩
    rw [h1] at e; cases e
    have := h3.length
    simp only [List.length_zip, List.length_map] at hn ⊢
    omega
/-- the key y of the dict at p gets v -/
theorem put_at {p : Addr} {y v : V} {dy d : D} {t : Bool} {kvs : List (D × D)} (hk : L.gt = [] ∧ L.fz = false) (sub : ∀ a o, g.F a = some o → H a = some o) (hd : DctAt L g H p t kvs) (vy : Den L g y dy) (tv : Den L g v d) (ok : keyOk t dy = true) (hn : kvs.length < sizeLine) :
    ∃ o, DPut H p y v (L2.upd H p o) ∧ DctAt L g (L2.upd H p o) p t (putD kvs dy d) := by
  have sz := hd.size hn
  rcases hd with ⟨ks, vs, ds, h1, h2, h3, rfl, rfl⟩ | ⟨ks, vs, ds, h1, h2, h3, rfl, rfl⟩
  · obtain ⟨k, e⟩ := Option.isSome_iff_exists.mp (show (kOf dy).isSome = true from ok)
    have ed := kOf_eq e
    subst ed
    have ey : y = kV k := by
      cases k with
      | inl i => exact Vw.int (.inl vy : Vw L g H y (.int i))
      | inr s => exact Vw.str (.inl vy : Vw L g H y (.str s))
    subst ey
    obtain ⟨ks', vs', ds', e1, e2, e3, e4⟩ := put_den kEq_key k tv h2 h3
    exact ⟨_, DPut.k h1 (sz.1 _ h1), .inl ⟨ks', vs', ds', by rw [upd_same, e1], e2, e3, e4, rfl⟩⟩
  · cases dy with
    | tup es =>
      simp only [keyOk] at ok
      split at ok
      · rename_i k e
        have ed := kOfL_eq e
        subst ed
        cases vy with
        | tup eb el =>
          have eu := den_keys el
          subst eu
          obtain ⟨ks', vs', ds', e1, e2, e3, e4⟩ := put_den (f := fun k => D.tup (k.map keyD)) kEq_tup k tv h2 h3
          exact ⟨_, DPut.t h1 ((eb.mono sub).own hk.1 hk.2 ok) (sz.2 _ h1), .inr ⟨ks', vs', ds', by rw [upd_same, e1], e2, e3, e4, rfl⟩⟩
      · cases ok
    | _ => cases ok
variable {e a b : Expr} {i j : IE}
/-- x[k] = v, x a dict of one's own -/
def sPut (n : Nat) (i j : IE) : IS := fun Γ => match Γ[n]? with
  | some (some (.od t kvs)) => (j Γ).bind fun d => (i Γ).bind fun y => if keyOk t y = true ∧ kvs.length < sizeLine then .ret (.nx (Γ.set n (some (.od t (putD kvs y d))))) else .stuck
  | _ => .stuck
theorem ds_put {n : Nat} {x : Str} {p1 p2 : Pos} (hk : L.gt = [] ∧ L.fz = false) (hu : X.A.units + 1 < cLine) (hx : PE X (.Name x p1) (tVar n)) (hi : DE L X i a) (hv : DE L X j b)
    (hs : swapsWith b (some (.Subscript (.Name x p1) a p2)) pos.line X.env = pure false := by rfl) : DS L X (sPut n i j) (.Assign [.Subscript (.Name x p1) a p2] b pos) := fun W g0 H0 tk => by
  refine PS.imp (ps_dput hu hx (hi W tk) (hv W tk) hs) fun Dn σ H ⟨Γ, g, r, w⟩ => ?_
  unfold sPut at w
  split at w
  · rename_i t kvs en
    refine Rd1.goS r w fun v H1 d g1 r1 s1 t1 w => ?_
    obtain ⟨xv, es, p, e2, h1, h2, h3⟩ := r1.rep.loc _ _ en
    subst e2
    refine ⟨.ref p, es, Rd1.goS r1 w fun y H2 dy g2 r2 s2 t2 w => ?_⟩
    split at w
    · rename_i ok
      obtain ⟨xv, es', p', e2, f1, f2, f3⟩ := r2.rep.loc _ _ en
      rw [es] at es'
      cases es'
      cases e2
      obtain ⟨o, hp, hd'⟩ := put_at hk r2.rep.sub f3 t2 (t1.mono s2.le s2.mu) ok.1 ok.2
      obtain ⟨o1, ho1, ho2⟩ := f3.isDO
      exact ⟨p, _, rfl, hp, w g2 σ _ (r2.updD en es ho1 ho2 f1 f2 hd') (s1.trans s2).fle rfl⟩
    · exact w.elim
  · exact w.elim
end
end DL
/-! A module's tuple of texts. -/
namespace DL
open PySem PySem.Spec L2
section
variable {L : Lx} {X : Cx} {pos : Pos}
theorem denL_strs {g : Gh} : ∀ ss : List Str, DenL L g (ss.map V.str) (ss.map D.str)
  | [] => .nil
  | s :: r => .cons (.str s) (denL_strs r)
/-- a tuple of texts that the top has written -/
def GtS (gt : List Addr) (K : PySem.W.Frag) (o : Option Value) (ss : List Str) : Prop := ∃ a, o = some (.ref a) ∧ ∀ fz F, SqD fz gt K F a (ss.map V.str)
theorem de_gtupS {x : Str} {ss : List Str} (hg : Gl X x) (h : GtS L.gt L.K (X.mg x) ss) (hd : (x == ("__debug__" : Str)) = false := by decide) : DE L X (iLit (.tup (ss.map D.str))) (.Name x pos) := by
  obtain ⟨a, e, hs⟩ := h
  exact de_c (pe_glob (v := .ref a) hg e rfl hd) fun g => .tup (hs _ g.F) (denL_strs ss)
end
/-- it stands so in what the top has written -/
def strsOf : List Value → List Str → Bool
  | [], [] => true
  | .str x _ :: r, y :: t => decide (x = y) && strsOf r t
  | _, _ => false
theorem strsOf_ok : ∀ {us : List Value} {ss : List Str}, strsOf us ss = true → Vals (ss.map V.str) us
  | [], [], _ => .nil
  | .str x t :: r, y :: z, h => by
    unfold strsOf at h
    obtain ⟨h1, h2⟩ := Bool.and_eq_true_iff.mp h
    exact .cons ⟨t, by rw [of_decide_eq_true h1]⟩ (strsOf_ok h2)
def gtB (K : PySem.W.Frag) (a : Addr) (ss : List Str) : Bool := match K.lookup a with
  | some ⟨.type "tuple", none, .seq its _, _⟩ => decide (its.size ≤ sizeLine) && strsOf its.toList ss
  | _ => false
theorem gtB_ok {K : PySem.W.Frag} {gt : List Addr} {a : Addr} {ss : List Str} (h : gtB K a ss = true) (hm : a ∈ gt) {o : Option Value} (e : o = some (.ref a)) : GtS gt K o ss := by
  unfold gtB at h
  split at h
  · rename_i its n x hl
    obtain ⟨h1, h2⟩ := Bool.and_eq_true_iff.mp h
    exact ⟨a, e, fun fz F => .inr (.inl ⟨_, its, n, hl, rfl, rfl, of_decide_eq_true h1, ⟨rfl, hm⟩, strsOf_ok h2⟩)⟩
  · cases h
end DL
/-! A lambda without parameters handed to a def that calls it once, in a try. -/
namespace DL
open PySem PySem.Spec PyProof.Rows L2 LamX
section
variable {X : Cx} {pins : List (Addr × Obj)} {σ : L2.St} {H : Hp} {s : Shared}
/-- x() in the def that got the lambda; what flies out is told of that def's own slots -/
theorem pe_actW {Cg : CXT} {Eg : XK} {Ng : List Str} {qg : Str} {sg : Scope} {g fl cl : Addr} {cdg pm ctv : Value} {ps : Arguments} {bd : Expr} {sc : Scope} {k i : Nat} {a : Str} {pn : List (Addr × Obj)} {xe : Value → Shared → Prop} {W : WX} {t : XK → TE} {p1 p2 : Pos}
    (I : Inv X pins σ H s) (LS : LamS X.env.scope sc) (ho : s.heap.get? fl = some (PySem.W.kla_obj "<lambda>" (X.env.qual ++ "<lambda>") ps bd sc (cloFrom X.env.cells sc.names []) pm cl ctv)) (hn : H fl = none) (hfr : fl ∉ frs X.stack)
    (hb : bindArgs (PySem.W.kla_fn "<lambda>" (X.env.qual ++ "<lambda>") ps bd sc (cloFrom X.env.cells sc.names []) pm (.ref cl) ctv) ⟨[], []⟩ = pure [])
    (tk : Takes ((cxOf Cg X.prog X.w X.K X.mg X.base Ng qg sg g cdg X.A X.stack s H Eg).tr pn xe) W) (hr : Room (k + 1) (X.A.deeper (envOfC qg sg s.heap.objs.size g cdg))) (hgd : X.A.guards = some [])
    (hB : ∀ (A : Around) (outer : List PySem.Env) (s : Shared) (H : Hp) (E : XK), Room k (A.deeper (lamEnv X sc s.heap.objs.size fl cl)) → A.guards = some [] → PE (lamCx X A outer s H E sc fl cl) bd (t E))
    (hN : Ng[i]? = some a) (hv : Vis sg a) (hd : (a == ("__debug__" : Str)) = false := by decide) (hcd : (a == ("__classdict__" : Str)) = false := by decide) :
    PE ((cxOf Cg X.prog X.w X.K X.mg X.base Ng qg sg g cdg X.A X.stack s H Eg).tr pn xe) (.Call (.Name a p1) [] [] p2)
      (fun τ HZ Q => τ[i]? = some (some (.ref fl)) ∧ HZ cl = some (CodeO cl (X.env.qual ++ "<lambda>")) ∧ t (WE W τ) σ HZ Q) := by
  constructor
  rintro pz sz τ HZ Q IZ ⟨hs, hc, ht⟩
  have pv1 := (pe_var (X := (cxOf Cg X.prog X.w X.K X.mg X.base Ng qg sg g cdg X.A X.stack s H Eg).tr pn xe) (pos := p1) (i := i) hN hv hd hcd).run pz sz τ HZ (fun v H1 => v = .ref fl ∧ H1 = HZ) IZ ⟨.ref fl, hs, rfl, rfl⟩
  refine wpAny_Call_Name_kw (thn pv1 ?_)
  rintro u s1 ⟨v, H1, J1, rv, rfl, rfl⟩
  have eu : u = Value.ref fl := rv
  subst eu
  have nofl : fl ∉ ([] : List Addr) := by simp
  have g1 := J1.base.keep fl _ ho hn hfr nofl
  refine PySem.W.callWith_F0 ⟨_, _, _, _, g1⟩ ?_
  have un : Un (frs X.stack) [] H H1 s.heap s1.heap := J1.base
  have cdo := J1.hok cl _ hc
  obtain ⟨⟨oc, vs, tq, hoc, hdc, hvc⟩, -, -⟩ := cdo
  refine wpAny_call (codeAny_mono (R := CR (L2.CX X.prog X.w) (envOfC qg sg s.heap.objs.size g cdg :: X.stack) X.prog X.w H1 s1 Q (WE W τ)) ?_ ?_)
  · refine PySem.W.kla_callFunE hr.depth g1 rfl LS.co LS.gen rfl ⟨cl, oc, vs, tq, rfl, hoc, hdc, hvc⟩ ?_
    rw [List.append_nil, hb]
    have noV : ∀ y ∈ ([] : List (Str × Value)), sc.names.lookup y.1 = some .local := fun y hy => absurd hy (by simp)
    refine wpAny_pure (wpAny_newFunctionEnv (fun y hy => (LS.own y hy).2) noV (fun h₁ hns hsb => ⟨J1.nolimit.fresh _ hsb, ?_⟩) LS.kind)
    have kp : ∀ b o, s1.heap.get? b = some o → h₁.get? b = some o := by
      intro b o e
      exact hsb.extBut b o (Nat.ne_of_lt (Heap.lt_size e)) (Heap.get?_push_of_some _ e)
    have J := lam_start2 (tk := s1.toks + ([] : List (Str × Value)).length) (E := WE W τ) (f := fl) (c' := cl) I LS J1.env0 hr.hd un hns kp
    refine PySem.W.kla_codeExpr (wpAny_mono ((hB _ _ s1 H1 (WE W τ) (hr.deeper _) hgd).run [] _ _ H1 Q J ht) ?_ fun e s' hq => hq)
    rintro v s' ⟨w', H', J', rv, q⟩
    exact ⟨w', H', J'.os, J'.bare, J'.base, J'.hok, rv, q⟩
  · intro r s' hq
    cases r with
    | error e => exact passAt tk τ pz H1 s1 e s' J1 hq
    | ok fo =>
      cases fo with
      | ret u => exact J1.after hq
      | next => exact False.elim hq
      | brk => exact False.elim hq
      | cont => exact False.elim hq
end
/-- what the called lambda does, from (g0, H0) on, in the def that got it -/
def TeT (L : Lx) (g0 : Gh) (H0 : Hp) (fl cl : Addr) (q : Str) (th : M D) (W : WX) : TE := fun τ HZ Q => τ[0]? = some (some (.ref fl)) ∧ HZ cl = some (CodeO cl q) ∧ ∃ g1, Stp L g0 H0 g1 HZ ∧ th.wpB g1.bud (fun d b => ∀ v g' H', Stp L g1 HZ g' H' → g'.bud = b → Den L g' v d → Q v H') (XW L W g1 τ HZ)
/-- an expression over the call -/
def Act (L : Lx) (X : Cx) (g0 : Gh) (H0 : Hp) (fl cl : Addr) (q : Str) (th : M D) (e : Expr) : Prop := ∀ (W : WX) (pn : List (Addr × Obj)) (xe : Value → Shared → Prop), Takes (X.tr pn xe) W → PE (X.tr pn xe) e (TeT L g0 H0 fl cl q th W)
abbrev toldCx (P : Program) (w : World) (K : PySem.W.Frag) (mg : Str → Option Value) (base : Heap) (Ng : List Str) (x : Str) (st : Stmt) (g : Addr) (cdg : Value) (A : Around) (outer : List PySem.Env) (s : Shared) (H : Hp) : Cx := cxOf C8.CX0 P w K mg base Ng x (defScope st) g cdg A outer s H C8.E0
/-- the def x calls what it got once, and makes mt of it -/
structure Told (L : Lx) (P : Program) (w : World) (mg : Str → Option Value) (base : Heap) (k : Nat) (g : Addr) (x : Str) (Ng : List Str) (st : Stmt) (a : Str) (mt : M D → M D) : Prop where
  go : ∀ (cdg : Value) (A : Around) (outer : List PySem.Env) (s : Shared) (H : Hp) (fl cl : Addr) (q : Str) (Q : VK) (th : M D) (Γ : Env) (g0 : Gh) (σ : L2.St), Room k (A.deeper (envOfC x (defScope st) s.heap.objs.size g cdg)) → A.guards = some [] → Rep L Γ g0 σ H → H cl = some (CodeO cl q) →
    (∀ p1 p2, Act L (toldCx P w L.K mg base Ng x st g cdg A outer s H) g0 H fl cl q th (.Call (.Name a p1) [] [] p2)) → (mt th).wpB g0.bud (Wn L DenT g0 H Q) (fun _ _ => False) →
    ∃ t, PSs (toldCx P w L.K mg base Ng x st g cdg A outer s H).nox (defBody st) t ∧ t { nx := fun _ H' => Q .non H', rt := Q } (L2.start Ng [.ref fl]) H
end DL
/-! Defs that call what they got in a try. -/
namespace DL
open PySem PySem.Spec PyProof.Rows L2 LamX
/-- the body of a def whose one parameter is told of by th -/
def tBody (N : Nat) (s : IS) : M D := ((s (List.replicate N none)).noX).bind fun fl => match fl with
  | .rt d => .ret d
  | .nx _ => .ret .non
  | _ => .stuck
section
variable {L : Lx} {P : Program} {w : World} {mg : Str → Option Value} {base : Heap} {Γ : Env} {g0 g : Gh} {σ : L2.St} {H : Hp}
theorem rep_none {Ng : List Str} {v : V} (r : Rep L Γ g σ H) (hn : 1 ≤ Ng.length) : RepS L g H (List.replicate Ng.length none) g (L2.start Ng [v]) H := by
  have no : ∀ (i : Nat) (b : B), (List.replicate Ng.length (none : Option B))[i]? = some (some b) → False := fun i b e => by
    rw [List.getElem?_replicate] at e
    split at e <;> cases e
  refine ⟨⟨r.sub, r.rnd, r.tab, fun i b e => (no i b e).elim, fun i j b c p e1 => (no i b e1).elim, r.nF, ?_⟩, Stp.refl r, fun i b p e => (no i b e).elim⟩
  unfold L2.start
  rw [List.length_append, List.length_map, List.length_replicate, List.length_replicate, List.length_singleton]
  omega
/-- from the def's promise to its statements -/
theorem tb_body {N : Nat} {s : IS} {Q : VK} {E : Ex → Nat → Prop} (h : (tBody N s).wpB g0.bud (Wn L DenT g0 H Q) (fun _ _ => False)) : (s (List.replicate N none)).wpB g0.bud (FlT L g0 H g0 { nx := fun _ H' => Q .non H', rt := Q }) E := by
  refine M.wpB_mono (fun fl b k => ?_) (fun _ _ x => x) _ _ (M.wpB_noX (E' := E) _ _ ((M.wpB_bind _ _).mp h))
  cases fl with
  | nx Γ' => exact fun g σ H' r _ e => k .non g H' r.base e .non
  | rt d => exact fun g v H' s' e t => k v g H' s' e t
  | bk Γ' => exact k.elim
  | ct Γ' => exact k.elim
/-- .. of two statements -/
theorem tb_seq {N : Nat} {s t : IS} {Q : VK} {W : WX} (h : (tBody N (sSeq s t)).wpB g0.bud (Wn L DenT g0 H Q) (fun _ _ => False)) :
    (s (List.replicate N none)).wpB g0.bud (FlT L g0 H g0 { nx := RdS L W g0 H t { nx := fun _ H' => Q .non H', rt := Q }, rt := Q }) (XS L W g0 H) := by
  refine M.wpB_mono (fun fl b k => ?_) (fun _ _ x => x) _ _ ((M.wpB_bind _ _).mp (tb_body (E := XS L W g0 H) h))
  cases fl with
  | nx Γ' =>
    intro g' σ' H' r' f e
    subst e
    exact ⟨Γ', g', r', M.wpB_mono (fun _ _ z => z.of f) (fun _ _ x => x) _ _ k⟩
  | bk Γ' => exact k
  | ct Γ' => exact k
  | rt d => exact k
/-- what the def makes of the call, before it keeps or returns it -/
abbrev ActF (L : Lx) (a : Str) (ft : M D → M D) (e : Expr) : Prop := ∀ (cx : Cx) (g0 : Gh) (H : Hp) (fl cl : Addr) (q : Str) (th : M D) (Γ : Env) (σ : L2.St), Rep L Γ g0 σ H → (∀ p1 p2, Act L cx g0 H fl cl q th (.Call (.Name a p1) [] [] p2)) → Act L cx g0 H fl cl q (ft th) e
theorem act_call {a : Str} {p1 p2 : Pos} : ActF L a id (.Call (.Name a p1) [] [] p2) := fun _ _ _ _ _ _ _ _ _ _ h => h p1 p2
theorem act_lst {a : Str} {p1 p2 pos : Pos} : ActF L a (fun th => th.bind fun d => .ret (.lst [d])) (.List [.Call (.Name a p1) [] [] p2] pos) := fun cx g0 H fl cl q th Γ σ rp h W pn xe tk => by
  refine PE.imp (pe_lst (pa_cons (h p1 p2 W pn xe tk) pa_nil)) fun τ HZ Q ⟨h1, h2, g1, s1, w⟩ => ?_
  refine ⟨h1, h2, g1, s1, M.wpB_mono (fun d b k v g' H' s e t => ?_) (fun _ _ x => x) _ _ ((M.wpB_bind _ _).mp w)⟩
  subst e
  refine ⟨show 1 ≤ sizeLine by decide, fun p n => ?_⟩
  have r' := (rp.step s1).step s
  have sp : Stp L g' H' (g'.put p (.lst [v])) (upd H' p (.lst [v])) := stp_put r' n
  exact k _ _ _ (s.trans sp) rfl (.lst put_F (.cons (t.mono sp.le sp.mu) .nil))
variable {g : Addr} {x a : Str} {Ng : List Str} {st : Stmt} {sub : Nat → Nat → Option Bool} {cl : List Cl} {h₀ : ExceptHandler} {hds : List ExceptHandler} {rest : List Stmt} {t : IS} {ft : M D → M D} {e : Expr} {k : Nat}
/-- try: y = call() / except .. ; and on -/
theorem told_set {n : Nat} {y : Str} {px ps pos : Pos} (h0 : L.er = none) (hl : 1 ≤ Ng.length) (hbd : defBody st = .Try [.Assign [.Name y px] e ps] (h₀ :: hds) [] [] pos :: rest) (hN : Ng.Nodup) (hi : Ng[n]? = some y) (hy : (defScope st).names.lookup y = some .local)
    (hsub : ∀ n k b, sub n k = some b → PySem.W.exmOne L.K (.ref (L.cA n)) (.ref (L.cA k)) = some b) (ae : ActF L a ft e) (hsw : ∀ cx : Cx, swapsWith e (some (.Name y px)) ps.line cx.env = pure false)
    (hh : ∀ (cdg : Value) (A : Around) (outer : List PySem.Env) (s : Shared) (H : Hp), Room k (A.deeper (envOfC x (defScope st) s.heap.objs.size g cdg)) → A.guards = some [] → HdE (toldCx P w L.K mg base Ng x st g cdg A outer s H).nox (h₀ :: hds) (cl.map (Cl.su L)))
    (ht : ∀ (cdg : Value) (A : Around) (outer : List PySem.Env) (s : Shared) (H : Hp), Room k (A.deeper (envOfC x (defScope st) s.heap.objs.size g cdg)) → A.guards = some [] → DSs L (toldCx P w L.K mg base Ng x st g cdg A outer s H).nox t rest) :
    Told L P w mg base k g x Ng st a fun th => tBody Ng.length (sSeq (sTrySet sub n (fun _ => ft th) cl) t) := by
  refine ⟨fun cdg A outer s H fl c q Q th Γ g0 σ hr hg rp hc act hm => ?_⟩
  have actE := ae _ g0 H fl c q th Γ σ rp act
  have p1 := ps_tryE (pos := pos) (X := (toldCx P w L.K mg base Ng x st g cdg A outer s H).nox) (tb := fun W => tAsg (TeT L g0 H fl c q (ft th) W) (gName n)) (Wout := fun _ _ _ _ => False) rfl rfl hN L2.takes0
    (fun W' pn xe tk' pa => pss_one (ps_set (X := (toldCx P w L.K mg base Ng x st g cdg A outer s H).nox.tr pn xe) hN hi (.inl hy) (actE W' pn xe tk') (hsw _) (.inr hy))) (hh cdg A outer s H hr hg)
  rw [hbd]
  refine ⟨_, pss_cons p1 (ht cdg A outer s H hr hg (fun _ _ _ _ => False) g0 H L2.takes0), ?_⟩
  have w1 := tb_seq (W := fun _ _ _ _ => False) hm
  have r0 := rep_none (Ng := Ng) (v := .ref fl) rp hl
  have st0 : (L2.start Ng [V.ref fl])[0]? = some (some (V.ref fl)) := by
    unfold L2.start
    rfl
  refine ⟨st0, hc, g0, Stp.refl rp, M.wpB_mono (fun d b k v g' H' s eb t => ?_) (fun x b k => cl_wish hsub h0 r0 cl k) _ _ ((M.wpB_try _ _).mp w1)⟩
  exact k g' _ H' ((r0.step s).set t) s.fle eb
/-- try: return call() / except .. -/
theorem told_ret {ps pos : Pos} (h0 : L.er = none) (hl : 1 ≤ Ng.length) (hbd : defBody st = [.Try [.Return (some e) ps] (h₀ :: hds) [] [] pos]) (hN : Ng.Nodup)
    (hsub : ∀ n k b, sub n k = some b → PySem.W.exmOne L.K (.ref (L.cA n)) (.ref (L.cA k)) = some b) (ae : ActF L a ft e)
    (hh : ∀ (cdg : Value) (A : Around) (outer : List PySem.Env) (s : Shared) (H : Hp), Room k (A.deeper (envOfC x (defScope st) s.heap.objs.size g cdg)) → A.guards = some [] → HdE (toldCx P w L.K mg base Ng x st g cdg A outer s H).nox (h₀ :: hds) (cl.map (Cl.su L))) :
    Told L P w mg base k g x Ng st a fun th => tBody Ng.length (sTryRet sub (fun _ => ft th) cl) := by
  refine ⟨fun cdg A outer s H fl c q Q th Γ g0 σ hr hg rp hc act hm => ?_⟩
  have actE := ae _ g0 H fl c q th Γ σ rp act
  have p1 := ps_tryE (body := [.Return (some e) ps]) (pos := pos) (X := (toldCx P w L.K mg base Ng x st g cdg A outer s H).nox) (tb := fun W => tRet (TeT L g0 H fl c q (ft th) W)) (Wout := fun _ _ _ _ => False) rfl rfl hN L2.takes0
    (fun W' pn xe tk' pa => pss_one (ps_ret (X := (toldCx P w L.K mg base Ng x st g cdg A outer s H).nox.tr pn xe) (actE W' pn xe tk'))) (hh cdg A outer s H hr hg)
  rw [hbd]
  refine ⟨_, pss_one p1, ?_⟩
  have w1 := tb_body (E := XS L (fun _ _ _ _ => False) g0 H) hm
  have r0 := rep_none (Ng := Ng) (v := .ref fl) rp hl
  have st0 : (L2.start Ng [V.ref fl])[0]? = some (some (V.ref fl)) := by
    unfold L2.start
    rfl
  refine ⟨st0, hc, g0, Stp.refl rp, M.wpB_mono (fun d b k v g' H' s eb t => ?_) (fun x b k => cl_wish hsub h0 r0 cl k) _ _ ((M.wpB_try _ _).mp w1)⟩
  exact k g' v H' s eb t
end
section
variable {X : Cx} {pins : List (Addr × Obj)} {σ : L2.St} {H : Hp} {s : Shared}
/-- a lambda is made: nothing is lost -/
theorem lam_makeN {T : List (Addr × Str)} {co tb : Addr} {ps : Arguments} {bd : Expr} {sc : Scope} {pos : Pos} {E Q : Value → Shared → Prop} (I : Inv X pins σ H s) (B : TabB X.base X.mg co tb) (ec : X.env.code = .ref co)
    (mT : (tb, X.env.qual ++ "<lambda>") ∈ T) (uT : ∀ p ∈ T, p.1 = tb → p.2 = X.env.qual ++ "<lambda>") (hT : Tabs T H) (nd : defaultsOf ps X.env = ([], [])) (fr : ∀ y ∈ sc.names, y.2 = .free → ∃ c, X.env.cells.lookup y.1 = some c)
    (go : ∀ (fl cl : Addr) (pm ctv : Value) (H1 : Hp) (s' : Shared), Inv X pins σ H1 s' → ExtN H H1 → (∀ b, H b ≠ none → H1 b ≠ none) → Tabs T H1 →
      s'.heap.get? fl = some (PySem.W.kla_obj "<lambda>" (X.env.qual ++ "<lambda>") ps bd sc (cloFrom X.env.cells sc.names []) pm cl ctv) → H1 fl = none → fl ∉ frs X.stack → H1 cl = some (CodeO cl (X.env.qual ++ "<lambda>")) → Q (.ref fl) s') :
    wpAny (model X.prog X.w) X.A (eval (.Lambda ps bd sc pos) X.env) Q E s := by
  obtain ⟨tab, atP, okT, amongT⟩ := hT _ mT
  have bk : s.heap.BuiltinsAt X.mg tb := B.bm.keeps I.bk
  have hpO := I.hok tb _ atP
  have away : ∀ y, s.heap.objs.size ≤ y → y ∉ frs X.stack := by
    intro y hy z
    rcases List.mem_cons.mp (I.stkSub _ z) with e | e
    · have q := I.lt
      rw [← e] at q
      exact absurd (Nat.lt_of_lt_of_le q hy) (Nat.lt_irrefl _)
    · exact I.nofs hy e
  refine PySem.W.kla_eval nd ?_
  cases q : codeAmong pos tab.toList with
  | some cv =>
    obtain ⟨cl, rfl, hcl⟩ := amongT pos cv q
    refine PySem.W.kla_makeFunctionHit (mg := X.mg) (c := co) (P := tb) (ps := tab) (closure_ok fr) I.ok.glob (I.mod.glob.keeps I.bk) ec (B.code.keeps I.bk) hpO okT q bk ?_
    intro ctv h' tk keep sz
    have J : Inv X pins σ H { s with heap := h'.push (PySem.W.kla_obj "<lambda>" (X.env.qual ++ "<lambda>") ps bd sc (cloFrom X.env.cells sc.names []) ((X.mg "__name__").getD .none) cl ctv), toks := tk } :=
      I.kept fun b o e => Heap.get?_push_of_some _ (keep b o e)
    exact go _ cl _ ctv H _ J (ExtN.refl H) (fun _ n => n) hT (Heap.get?_push_size _ rfl) (I.hok.fresh sz) (away _ sz) hcl
  | none =>
    refine PySem.W.kla_makeFunction (mg := X.mg) (c := co) (P := tb) (ps := tab) (closure_ok fr) I.ok.glob (I.mod.glob.keeps I.bk) ec (B.code.keeps I.bk) hpO okT q B.gP bk ?_
    intro cl ctv h' tk ext le lt rec inT
    obtain ⟨c2, oc, vs, t, e2, hoc, hd, hv⟩ := rec
    cases e2
    have sz : s.heap.objs.size ≤ h'.objs.size := Nat.le_trans le (Nat.le_of_lt lt)
    have nC : H cl = none := I.hok.fresh le
    have J := inv_table (t' := tk) (more := #[rawInt pos.line, rawInt pos.col, .ref cl]) (h' := h'.push (PySem.W.kla_obj "<lambda>" (X.env.qual ++ "<lambda>") ps bd sc (cloFrom X.env.cells sc.names []) ((X.mg "__name__").getD .none) cl ctv)) I atP
      (fun b o n e => Heap.get?_push_of_some _ (ext b o n e)) (Heap.get?_push_of_some _ inT) le ⟨oc, vs, t, Heap.get?_push_of_some _ hoc, hd, hv⟩
    have key : ∀ b, b ≠ cl → b ≠ tb → (upd (upd H tb (.tbl (tab ++ #[rawInt pos.line, rawInt pos.col, .ref cl]))) cl (CodeO cl (X.env.qual ++ "<lambda>"))) b = H b := fun b n1 n2 => by rw [upd_ne n1, upd_ne n2]
    have EN : ExtN H (upd (upd H tb (.tbl (tab ++ #[rawInt pos.line, rawInt pos.col, .ref cl]))) cl (CodeO cl (X.env.qual ++ "<lambda>"))) := fun b o e nt => by
      rw [key b (ne_of_none e nC) fun z => nt tab (by rw [z, atP] at e; exact (Option.some.inj e).symm)]
      exact e
    have TT : Tabs T (upd (upd H tb (.tbl (tab ++ #[rawInt pos.line, rawInt pos.col, .ref cl]))) cl (CodeO cl (X.env.qual ++ "<lambda>"))) := fun p hp => by
      by_cases hb : p.1 = tb
      · rw [uT p hp hb, hb]
        have l3 : (tab ++ #[rawInt pos.line, rawInt pos.col, .ref cl]).toList = tab.toList ++ [rawInt pos.line, rawInt pos.col, .ref cl] := by simp
        refine ⟨_, by rw [upd_ne (ne_of_none atP nC), upd_same], by rw [l3]; exact PySem.TriplesOk_snoc _ _ _ _ okT, ?_⟩
        intro p' cv hcv
        rw [l3] at hcv
        rcases among_app _ okT hcv with z | z
        · obtain ⟨c0, e1, e2⟩ := amongT p' cv z
          exact ⟨c0, e1, EN _ _ e2 codeO_ne⟩
        · exact ⟨cl, z, upd_same⟩
      · obtain ⟨tab', a1, a2, a3⟩ := hT p hp
        refine ⟨tab', by rw [key _ (ne_of_none a1 nC) hb]; exact a1, a2, fun p' cv hcv => ?_⟩
        obtain ⟨c0, e1, e2⟩ := a3 p' cv hcv
        exact ⟨c0, e1, EN _ _ e2 codeO_ne⟩
    refine go _ cl _ ctv _ _ J EN (fun b n => ?_) TT (Heap.get?_push_size _ rfl) ?_ (away _ sz) upd_same
    · by_cases z1 : b = cl
      · rw [z1, upd_same]; simp
      · by_cases z2 : b = tb
        · rw [upd_ne z1, z2, upd_same]; simp
        · rw [key b z1 z2]; exact n
    · rw [key _ (Nat.ne_of_gt lt) (Nat.ne_of_gt (Nat.lt_of_lt_of_le (Heap.lt_size hpO) sz))]
      exact I.hok.fresh sz
end
section
variable {L : Lx} {X : Cx} {g0 g : Gh} {σ : L2.St} {H H' : Hp} {Γ : Env}
/-- an object that is neither a dict nor a list stands outside m -/
theorem not_inM {a : Addr} {o : HO} (r : RndOk g H) (e : H a = some o) (h1 : ∀ k, o ≠ .dK k) (h2 : ∀ l, o ≠ .lst l) : ¬ InM g.mu H a := by
  rintro ⟨m, em, h⟩
  obtain ⟨c, l, cs, ls, at_, e1, e2, e3, _⟩ := r.2 m em
  rcases h with rfl | ⟨kvs, k, e4, hm⟩
  · rw [e1] at e
    exact h1 _ (Option.some.inj e).symm
  · rw [e1] at e4
    cases e4
    simp only [List.mem_cons, Prod.mk.injEq, V.ref.injEq, List.not_mem_nil, or_false] at hm
    rcases hm with ⟨_, rfl⟩ | ⟨_, rfl⟩ | ⟨_, h⟩
    · rw [e2] at e
      exact h2 _ (Option.some.inj e).symm
    · rw [e3] at e
      exact h2 _ (Option.some.inj e).symm
    · cases h
theorem Rep.ext (r : Rep L Γ g σ H) (en : ExtN H H') (nf : ∀ b, H b ≠ none → H' b ≠ none) (hT : Tabs L.T H') (hn : ∀ a ps, g.F a ≠ some (.tbl ps)) : Stp L g H g H' := by
  have kp : ∀ (a : Addr) (o : HO), H a = some o → (∀ ps, o ≠ .tbl ps) → H' a = some o := fun a o e n => en a o e n
  have inm : ∀ a, InM g.mu H' a → InM g.mu H a := by
    rintro a ⟨m, em, h⟩
    obtain ⟨c, l, cs, ls, at_, e1, _⟩ := r.rnd.2 m em
    refine ⟨m, em, ?_⟩
    rcases h with h | ⟨kvs, k, e4, hm⟩
    · exact .inl h
    · rw [kp m _ e1 fun _ z => nomatch z] at e4
      exact .inr ⟨kvs, k, by rw [e1]; exact e4, hm⟩
  refine ⟨fun _ _ e => e, fun _ e => e, fun a o e => kp a o (r.sub a o e) fun ps z => hn a ps (z ▸ e), fun a o e n nm => ⟨kp a o e n, fun i => nm (inm a i)⟩, fun a h => ⟨nf a h, .inl⟩, fun a o e i => r.nF a o e (inm a i), ⟨r.rnd.1, fun m em => ?_⟩, Nat.le_refl _, hT, fun ea en' ed eu he => ?_⟩
  · obtain ⟨c, l, cs, ls, at_, e1, e2, e3, q⟩ := r.rnd.2 m em
    exact ⟨c, l, cs, ls, at_, kp _ _ e1 fun _ z => (nomatch z), kp _ _ e2 fun _ z => (nomatch z), kp _ _ e3 fun _ z => (nomatch z), q⟩
  · obtain ⟨f, e1, e2⟩ := r.tab.2 ea en' ed eu he
    exact ⟨f, e1, kp _ _ e2 fun _ z => nomatch z⟩
end
end DL
/-! x(lambda: e). -/
namespace DL
open PySem PySem.Spec PyProof.Rows L2 LamX
theorem M.noX_any {α : Type} {Q : α → Nat → Prop} {E E' : Ex → Nat → Prop} {m : M α} {b : Nat} (h : m.noX.wpB b Q E) : m.wpB b Q E' := M.wpB_noX m b h
/-- what the told def makes of e -/
def iTold (mt : M D → M D) (i : IE) : IE := fun Γ => (mt (i Γ)).noX
section
variable {L : Lx} {X : Cx}
theorem takes_lam {A : Around} {outer : List PySem.Env} {s : Shared} {H : Hp} {E : XK} {sc : Scope} {fl cl : Addr} : Takes (lamCx X A outer s H E sc fl cl) (fun cls d _ H => E cls d H) := takes_of rfl rfl rfl rfl
theorem de_lamcall {mt : M D → M D} {x a : Str} {g co tb : Addr} {fd : FuncData} {k : Nat} {Ng : List Str} {st : Stmt} {ps : Arguments} {bd : Expr} {sc : Scope} {i : IE} {p lpos pos : Pos} (T : Told L X.prog X.w X.mg X.base (k + 1) g x Ng st a mt) (F : Fun L.K x x st g fd) (S : FnScope Ng [a] (defScope st)) (hK : X.K = L.K)
    (gl : Gl X x) (hm : X.mg x = some (.ref g)) (kp : PySem.W.keepIn X.K (.ref g) = true) (bi : L2.Binds X.K fd [a] []) (h0 : Ng[0]? = some a) (va : Vis (defScope st) a) (B : TabB X.base X.mg co tb) (ec : X.env.code = .ref co) (mT : (tb, X.env.qual ++ "<lambda>") ∈ L.T) (uT : ∀ p ∈ L.T, p.1 = tb → p.2 = X.env.qual ++ "<lambda>")
    (hr : Room (k + 2) X.A) (hgd : X.A.guards = some []) (LS : LamS X.env.scope sc) (nd : defaultsOf ps X.env = ([], []))
    (hbind : ∀ (q : Str) (cl : List (Str × Addr)) (pm cv ctv : Value), bindArgs (PySem.W.kla_fn "<lambda>" q ps bd sc cl pm cv ctv) ⟨[], []⟩ = pure [])
    (hB : ∀ (A : Around) (outer : List PySem.Env) (s : Shared) (H : Hp) (E : XK) (fl cl : Addr), Room k (A.deeper (lamEnv X sc s.heap.objs.size fl cl)) → A.guards = some [] → DE L (lamCx X A outer s H E sc fl cl) i bd)
    (hdb : (x == ("__debug__" : Str)) = false := by decide) (hd : (a == ("__debug__" : Str)) = false := by decide) (hcd : (a == ("__classdict__" : Str)) = false := by decide) :
    DE L X (iTold mt i) (.Call (.Name x p) [.Lambda ps bd sc lpos] [] pos) := fun W tk => by
  constructor
  rintro pins s σ H Q I ⟨Γ, g0, rp, w⟩
  obtain ⟨oc, od, kV, doc, pm, an, cdv, ct, osl, rfl, lk, hcg⟩ := F.ex
  refine wpAny_Call_Name_kw (ld_glob I gl hm (PySem.W.callWith_K (h₀ := X.base) I.ok.mod.kin kp ?_ (by rfl) (by rfl)) hdb)
  refine Calls.spliced_cons (lam_makeN I B ec mT uT rp.tab.1 nd (LS.has I.ok) ?_)
  intro fl cl pm' ctv H1 s' J en nf T1 ho hn hfr hco
  refine Calls.spliced_nil ⟨J.kIn, ?_⟩
  have st1 : Stp L g0 H g0 H1 := rp.ext en nf T1 g0.nt
  have rp1 := rp.step st1
  have w1 : (mt (i Γ)).wpB g0.bud (Wn L DenT g0 H1 Q) (fun _ _ => False) := M.wpB_mono (fun d b k v g' H' s2 e t => k v g' H' (st1.trans s2) e t) (fun _ _ x => x) _ _ (M.noX_any w)
  refine wpAny_call (codeAny_mono (R := CR C8.CX0 X.stack X.prog X.w H1 s' Q C8.E0) ?_ ?_)
  · refine run_ofS (N := Ng) (ps := [a]) (us := [.ref fl]) (vs := [.ref fl]) (hK ▸ lk) (hK ▸ hcg) S hr J.env0 (bi s' [.ref fl] J.kIn rfl) (.cons rfl .nil) rfl fun hr' => ?_
    have act : ∀ p1 p2, Act L (toldCx X.prog X.w L.K X.mg X.base Ng x st g cdv X.A X.stack s' H1) g0 H1 fl cl (X.env.qual ++ "<lambda>") (i Γ) (.Call (.Name a p1) [] [] p2) := by
      intro p1 p2 W' pn xe tk'
      rw [← hK] at tk' ⊢
      refine PE.imp (pe_actW (k := k) (t := fun E => Rd1 L DenT (fun cls d _ H => E cls d H) i) (i := 0) J LS ho hn hfr (hbind _ _ _ _ _) tk' hr' hgd (fun A outer s H E hr2 hg2 => hB A outer s H E fl cl hr2 hg2 _ takes_lam) h0 va hd hcd) ?_
      rintro τ HZ Q' ⟨h1, h2, g1, s1, w2⟩
      exact ⟨h1, h2, Γ, g1, rp1.step s1, w2⟩
    obtain ⟨t, ht, hq⟩ := T.go cdv X.A X.stack s' H1 fl cl _ Q (i Γ) Γ g0 σ hr' hgd rp1 hco act w1
    rw [← hK] at ht
    exact ⟨t, ht.nox, hq⟩
  · intro r s2 hq
    cases r with
    | error e => exact (show False from hq).elim
    | ok fo =>
      cases fo with
      | ret u => exact J.after hq
      | next => exact False.elim hq
      | brk => exact False.elim hq
      | cont => exact False.elim hq
end
end DL
/-! The end with tables of code objects. -/
namespace DL
open PySem PySem.Spec PyProof.Rows L2
/-- a def whose code object is known -/
theorem fg_ofC {L : Lx} {P : Program} {w : World} {mg : Str → Option Value} {base : Heap} {x qual : Str} {st : Stmt} {f co : Addr} {fd : FuncData} {N ps : List Str} {k : Nat} {body : IS} (F : Fun L.K x qual st f fd) (S : FnScope N ps (defScope st)) (hc : fd.code = .ref co)
    (hb : ∀ (A : Around) (outer : List PySem.Env) (s : Shared) (H : Hp) (E : XK), Room k (A.deeper (PyProof.Rows.envOfC qual (defScope st) s.heap.objs.size f (.ref co))) → A.guards = some [] →
      DSs L (cxOf (L2.CX P w) P w L.K mg base N qual (defScope st) f (.ref co) A outer s H E) body (defBody st)) : FG L P w mg base (k + 1) f fd ps (runFn N.length body) := by
  obtain ⟨oc, od, kV, doc, pm, an, cdv, ct, osl, rfl, lk, hcd⟩ := F.ex
  have e : cdv = .ref co := hc
  subst e
  refine ⟨fun A outer s H args us vs Q E hr hg e0 bt r hl ⟨Γ, g, σ, ds, rp, l, w⟩ => ?_⟩
  refine LamX.run_ofS lk hcd S hr e0 bt r (r.length.trans hl) fun hr' => ⟨_, hb A outer s H E hr' hg (fun cls d _ H => E cls d H) g H (takes_of rfl rfl rfl rfl), ?_⟩
  have hpl : ps.length ≤ N.length := by have := congrArg List.length S.pre; rw [List.length_take] at this; omega
  refine ⟨env0 N.length ds, g, rep_start rp l (by rw [r.length, hl]; exact hpl), M.wpB_mono (fun fl b k => ?_) (fun _ _ x => fun cls d g σ H s e a => x cls d g H s e a) _ _ ((M.wpB_bind _ _).mp w)⟩
  cases fl with
  | nx Γ' => exact fun g' σ' H' r' _ e => k .non g' H' r'.base e .non
  | rt d => exact fun g' v H' s' e t => k v g' H' s' e t
  | bk Γ' => exact k.elim
  | ct Γ' => exact k.elim
/-- the promise of a law's def at the entry, with tables -/
theorem spd_lawT {L : Lx} {m : List D → M D} {H F : Hp} {a : Addr} {ns : List Int} (hT : LamX.Tabs L.T H) (hE : L.er = none) (hF : ∀ b o, F b = some o → H b = some o) (nt : ∀ b ps, F b ≠ some (.tbl ps)) (hS : SqL L.K F a (ns.map V.int)) (hm : (m [.scr ns]).wpB (lim + 1) (fun d _ => d = .bl true) (fun _ _ => False)) :
    SpD L m [.ref a] H (fun v _ => v = .bl true) fun _ _ _ => False := by
  refine ⟨[], ⟨F, none, lim + 1, nt⟩, [], [.scr ns], ⟨hF, ⟨fun _ => rfl, fun m e => (by cases e)⟩, ⟨hT, fun _ _ _ _ h => (by rw [hE] at h; cases h)⟩, fun i b e => (by simp at e), fun i j b c p e => (by simp at e), fun b o e i => ?_, rfl⟩, .cons (.scr hS) .nil, ?_⟩
  · obtain ⟨m, e, _⟩ := i
    cases e
  · refine M.wpB_mono (fun d b e v g' H' s eb t => ?_) (fun _ _ f => f.elim) _ _ hm
    subst e
    cases t
    rfl
theorem law_callGT {L : Lx} {P : Program} {w : World} {mg mb : Str → Option Value} {k : Nat} {fa a : Addr} {fd : FuncData} {x : Str} {m : List D → M D} {s₁ : Shared} {vs : List Value} {ns : List Int} {cs : List (Addr × Addr)} (hE : L.er = none) (lT : ∀ q ∈ L.T, q.1 ∈ cs.map (·.2))
    (KX : L.K.In s₁.heap) (hns : s₁.heap.Ns mainGlobals mg) (hb : s₁.heap.Ns builtinsNs mb) (hbb : ∀ x : Str, x ≠ "__name__" → mb x = bootBuiltins x) (hlim : s₁.heap.NoLimit) (hg : s₁.gens = #[])
    (eT : ∀ p ∈ cs, s₁.heap.get? p.2 = some { cls := .none, data := .fields #[] }) (oT : ∀ p ∈ cs, L.K.lookup p.2 = none) (cT : ∀ p ∈ cs, PySem.W.CodeHd s₁.heap p.1 p.2)
    (bm : ∃ (bm : Addr) (ob : Obj), mg "__builtins__" = some (.ref bm) ∧ bm ≠ builtinsNs ∧ s₁.heap.get? bm = some ob ∧ ob.cls = .type "module" ∧ ob.dict = some builtinsNs ∧ ob.data = .plain)
    (ha : s₁.heap.get? a = some { cls := .type "list", data := .seq vs.toArray }) (hi : IntsAre vs ns) (hl : ns.length ≤ sizeLine) (hr : Room k callerA)
    (F : ∀ base : Heap, L.K.In base → base.Ns mainGlobals mg → (∀ p ∈ cs, LamX.TabB base mg p.1 p.2) → FG L P w mg base k fa fd [x] m) (hbind : ∀ (s : Shared) (u : Value), BindsTo s fd ⟨[u], []⟩ [(x, u)])
    (hm : (m [.scr ns]).wpB (lim + 1) (fun d _ => d = .bl true) (fun _ _ => False)) :
    codeAny (model P w) callerA (.call (.ref fa) ⟨[.ref a], []⟩) (fun r s' => r = .ok (.ret (.bool true)) ∧ OldK s₁.heap s'.heap ∧ s'.os = s₁.os ∧ AllBare s'.gens) s₁ := by
  have rv := vals_ints hi
  have tabO : ∀ b, b ∈ cs.map (·.2) → s₁.heap.get? b = some { cls := .none, data := .fields #[] } := fun b hb => by
    obtain ⟨p, hp, rfl⟩ := List.mem_map.mp hb
    exact eT p hp
  have na : a ∉ cs.map (·.2) := fun z => by
    have q := (tabO a z).symm.trans ha
    cases q
  have dec : ∀ b, b ∈ cs.map (·.2) ∨ b ∉ cs.map (·.2) := fun b => Classical.em _
  have core : ∀ H : Hp, (∀ b, b ∈ cs.map (·.2) → H b = some (.tbl #[])) → (∀ b, b ∉ cs.map (·.2) → H b = none ∨ ∃ ob xs, H b = some (.frz ob (.lst xs))) → SqL L.K H a (ns.map V.int) → HOk P w H s₁.heap → (∀ b, H b ≠ none → b = a ∨ b ∈ cs.map (·.2)) → (H a ≠ none → L.K.lookup a = none) →
      codeAny (model P w) callerA (.call (.ref fa) ⟨[.ref a], []⟩) (fun r s' => r = .ok (.ret (.bool true)) ∧ OldK s₁.heap s'.heap ∧ s'.os = s₁.os ∧ AllBare s'.gens) s₁ := by
    intro H hH hO hS hok hA hK
    -- what is neither a list nor an empty table is not tracked
    have off : ∀ {b : Addr} {o : Obj}, s₁.heap.get? b = some o → (∀ vs n, o.data ≠ .seq vs n) → o.data ≠ .fields #[] → H b = none := fun {b o} e h1 h2 => by
      by_cases q : H b = none
      · exact q
      · rcases hA b q with z | z
        · subst z
          rw [ha] at e
          cases e
          exact absurd rfl (h1 _ _)
        · rw [tabO b z] at e
          cases e
          exact absurd rfl h2
    have dic : ∀ {b : Addr} {o : Obj} {es : Array DictEntry} {ep : Nat}, s₁.heap.get? b = some o → o.data = .dict es ep → H b = none := fun {b o es ep} e d => off e (fun vs n z => by rw [d] at z; cases z) (fun z => by rw [d] at z; cases z)
    have nsK : ∀ {b : Addr} {m : Str → Option Value}, s₁.heap.Ns b m → (hidT s₁.heap H).Ns b m := fun {b m} ⟨o, es, ep, e, d, r⟩ => ⟨o, es, ep, hidT_get e (dic e d), d, r⟩
    have inK : L.K.In (hidT s₁.heap H) := fun b o e => hidT_get (KX b o e) (by
      by_cases q : H b = none
      · exact q
      · rcases hA b q with z | z
        · subst z
          rw [hK q] at e
          cases e
        · obtain ⟨p, hp, rfl⟩ := List.mem_map.mp z
          rw [oT p hp] at e
          cases e)
    have hM : Mod L.K mg (hidT s₁.heap H) := ⟨inK, nsK hns, ⟨mb, nsK hb, hbb⟩, let ⟨mc, h1, h2⟩ := hlim; ⟨mc, nsK h1, h2⟩⟩
    have tb : ∀ p ∈ cs, LamX.TabB (hidT s₁.heap H) mg p.1 p.2 := fun p hp => by
      have atP := eT p hp
      constructor
      · obtain ⟨o, us, file, tf, fl, tg, inF, tx, tt, e1, r1, r2, r3, rr⟩ := cT p hp
        exact ⟨o, us, file, tf, fl, tg, inF, tx, tt, hidT_get e1 (off e1 (fun vs n z => by rw [r2] at z; cases z) (fun z => by rw [r2] at z; cases z; simp at r3)), r1, r2, r3, rr⟩
      · obtain ⟨c, ob, b1, b2, b3, b4, b5, b6⟩ := bm
        refine ⟨c, ob, b1, b2, fun q => ?_, fun q => ?_, hidT_get b3 (off b3 (fun vs n z => by rw [b6] at z; cases z) (fun z => by rw [b6] at z; cases z)), b4, b5, b6⟩
        · obtain ⟨o, es, ep, e, hd, _⟩ := hns
          rw [q] at b3
          have z := b3.symm.trans e
          cases z
          rw [hd] at b6
          cases b6
        · rw [q] at b3
          have z := b3.symm.trans atP
          cases z
          cases b6
      · intro z
        obtain ⟨o, es, ep, e, hd, _⟩ := hns
        rw [z] at e
        have z2 := e.symm.trans atP
        cases z2
        cases hd
    have e0 : Env0 P w L.K mg (hidT s₁.heap H) callerA [] s₁ H :=
      ⟨rfl, hM, fun b o e => of_hidT e, Nat.le_of_eq (hidT_size _ _), trivial, fun b hb => absurd (show b ∈ ([] : List Addr) from hb) (by simp), hok, .of_eq hg⟩
    have tabs : LamX.Tabs L.T H := fun q hq => LamX.TabS.nil (hH _ (lT q hq))
    have sp : SpD L m [.ref a] H (fun v _ => v = .bl true) fun _ _ _ => False := by
      classical
      refine spd_lawT (F := fun b => if b ∈ cs.map (·.2) then none else H b) tabs hE (fun b o e => ?_) (fun b ps e => ?_) ?_ hm
      · by_cases q : b ∈ cs.map (·.2)
        · rw [if_pos q] at e; cases e
        · rw [if_neg q] at e; exact e
      · by_cases q : b ∈ cs.map (·.2)
        · rw [if_pos q] at e; cases e
        · rw [if_neg q] at e
          rcases hO b q with z | ⟨ob, xs, z⟩
          · rw [z] at e; cases e
          · rw [z] at e; cases e
      · have ea : (if a ∈ cs.map (·.2) then none else H a) = H a := if_neg na
        rcases hS with (z | ⟨ob, z⟩) | z
        · exact .inl (.inl (ea.trans z))
        · exact .inl (.inr ⟨ob, ea.trans z⟩)
        · exact .inr z
    refine codeAny_mono ((F _ inK (nsK hns) tb).go callerA [] s₁ H ⟨[.ref a], []⟩ [.ref a] [.ref a] _ _ hr rfl e0 (hbind s₁ (.ref a)) (.cons rfl .nil) rfl sp) fun r s' h => ?_
    cases r with
    | error e =>
      obtain ⟨_, _, _, _, _, _, _, _, _, _, _, _, z⟩ := h
      exact z.elim
    | ok fl =>
      cases fl with
      | next => exact False.elim h
      | brk => exact False.elim h
      | cont => exact False.elim h
      | ret u =>
        obtain ⟨v, H', os, bare, un, hok', r', q⟩ := h
        have q' : v = .bl true := q
        subst q'
        obtain rfl : u = Value.bool true := r'
        have kept : ∀ b o, b ∉ cs.map (·.2) → s₁.heap.get? b = some o → s'.heap.get? b = some o := by
          intro b o nb e
          cases q : H b with
          | none => exact un.keep b o e q (fun z => absurd (show b ∈ ([] : List Addr) from z) (by simp)) (by simp)
          | some u =>
            rcases hO b nb with z | ⟨ob, xs, z⟩
            · rw [q] at z; cases z
            · obtain ⟨e1, _⟩ := hok b _ z
              obtain ⟨e2, _⟩ := hok' b _ (un.frzs b ob _ z)
              exact e ▸ e1 ▸ e2
        have more : ∀ b, b ∈ cs.map (·.2) → ∃ ps : Array Value, s'.heap.get? b = some { cls := .none, data := .fields ps } := by
          intro b hb
          obtain ⟨m, z⟩ := un.tbls b #[] (hH b hb)
          exact ⟨_, hok' b _ z⟩
        refine ⟨rfl, ⟨fun b o e => ?_, fun b o e => ?_⟩, os, bare⟩
        · rcases dec b with hb | hb
          · obtain ⟨ps, z⟩ := more b hb
            have e2 := e.symm.trans (tabO b hb)
            cases e2
            obtain ⟨p, hp, rfl⟩ := List.mem_map.mp hb
            exact .inr (.inl ⟨((cT p hp).tab (eT p hp)).isCodeTable, rfl, #[], ps, rfl, by rw [Array.empty_append]; exact z⟩)
          · exact .inl (kept b o hb e)
        · rcases dec b with hb | hb
          · obtain ⟨ps, z⟩ := more b hb
            exact ⟨_, z⟩
          · exact ⟨o, kept b o hb e⟩
  have fits : vs.toArray.size ≤ sizeLine := by
    rw [List.size_toArray, hi.length]
    exact hl
  classical
  cases hk : L.K.lookup a with
  | some o =>
    have e := KX a o hk
    have e2 := e.symm.trans ha
    cases e2
    have at1 : ∀ b, b ∈ cs.map (·.2) → (if b ∈ cs.map (·.2) then some (HO.tbl #[]) else none) = some (.tbl #[]) := fun b h => if_pos h
    have at0 : ∀ b, b ∉ cs.map (·.2) → (if b ∈ cs.map (·.2) then some (HO.tbl #[]) else none) = none := fun b h => if_neg h
    refine core (fun b => if b ∈ cs.map (·.2) then some (.tbl #[]) else none) at1 (fun b h => .inl (at0 b h)) (.inr ⟨_, vs.toArray, _, hk, rfl, rfl, rfl, fits, by simpa using rv⟩) (fun b u z => ?_) (fun b z => ?_) fun z => absurd (at0 a na) z
    · rcases dec b with h | h
      · have z' := (at1 b h).symm.trans z
        cases z'
        exact tabO b h
      · have z' := (at0 b h).symm.trans z
        cases z'
    · rcases dec b with h | h
      · exact .inr h
      · exact absurd (at0 b h) z
  | none =>
    have atA : (if a = a then some (HO.frz { cls := .type "list", data := .seq vs.toArray } (.lst (ns.map V.int))) else if a ∈ cs.map (·.2) then some (.tbl #[]) else none) = some (HO.frz { cls := .type "list", data := .seq vs.toArray } (.lst (ns.map V.int))) := if_pos rfl
    have at1 : ∀ b, b ∈ cs.map (·.2) → (if b = a then some (HO.frz { cls := .type "list", data := .seq vs.toArray } (.lst (ns.map V.int))) else if b ∈ cs.map (·.2) then some (.tbl #[]) else none) = some (.tbl #[]) := fun b h => by
      have nb : b ≠ a := fun z => na (by rw [← z]; exact h)
      rw [if_neg nb, if_pos h]
    have at0 : ∀ b, b ≠ a → b ∉ cs.map (·.2) → (if b = a then some (HO.frz { cls := .type "list", data := .seq vs.toArray } (.lst (ns.map V.int))) else if b ∈ cs.map (·.2) then some (.tbl #[]) else none) = none := fun b h1 h => by
      rw [if_neg h1, if_neg h]
    refine core (fun b => if b = a then some (.frz { cls := .type "list", data := .seq vs.toArray } (.lst (ns.map V.int))) else if b ∈ cs.map (·.2) then some (.tbl #[]) else none) at1 (fun b h => ?_) (.inl (.inr ⟨{ cls := .type "list", data := .seq vs.toArray }, atA⟩)) (fun b u z => ?_) (fun b z => ?_) fun _ => hk
    · by_cases h1 : b = a
      · subst h1
        exact .inr ⟨_, _, atA⟩
      · exact .inl (at0 b h1 h)
    · by_cases h1 : b = a
      · subst h1
        have z' := atA.symm.trans z
        cases z'
        exact ⟨ha, by rw [List.length_map]; exact hl, vs, _, rv, ha⟩
      · rcases dec b with h | h
        · have z' := (at1 b h).symm.trans z
          cases z'
          exact tabO b h
        · have z' := (at0 b h1 h).symm.trans z
          cases z'
    · by_cases h1 : b = a
      · exact .inl h1
      · rcases dec b with h | h
        · exact .inr h
        · exact absurd (at0 b h1 h) z
end DL
/-! Comprehensions of two fors. -/
namespace DL
open PySem PySem.Spec L2
section
variable {L : Lx} {X : Cx} {g0 g g' : Gh} {H0 H H' : Hp} {σ σ' : L2.St} {Γ Γ' : Env} {W : WX} {pos : Pos}
def lcRun2 (t : IG) (it1 : II) (t1 : IG) (c1 : IT) (i : IE) (own vs1 : List Nat) (Γ : Env) : List D → List D → M (List D)
  | acc, [] => .ret acc
  | acc, d :: r => (t d (wipeE Γ own)).bind fun Γ1 => (it1 Γ1).bind fun ds1 => (lcRun t1 c1 i vs1 Γ1 acc ds1).bind fun acc' => lcRun2 t it1 t1 c1 i own vs1 Γ acc' r
def iLc2 (t : IG) (it : II) (it1 : II) (t1 : IG) (c1 : IT) (i : IE) (own vs1 : List Nat) : IE := fun Γ => (it Γ).bind fun ds => (lcRun2 t it1 t1 c1 i own vs1 Γ [] ds).noX.bind fun acc => .ret (.lst acc)
/-- a target of plain names: what the block keeps, later too -/
def GKs (L : Lx) (gt : TG) (t : IG) (own : List Nat) : Prop := ∀ (v : V) (d : D) (Γ : Env) (g : Gh) (σ : L2.St) (H : Hp) (Q : L2.St → Hp → Prop) (E : Ex → Nat → Prop) (b : Nat), Rep L (wipeE Γ own) g (wipe σ own) H → Den L g v d →
  (t d (wipeE Γ own)).wpB b (fun Γ1 c => c = b → ∀ σ1, Rep L Γ1 g σ1 H → wipe σ1 own = wipe σ own → (∀ g' H', Rep L (wipeE Γ own) g' (wipe σ own) H' → FLe g g' → Rep L Γ1 g' σ1 H') → Q σ1 H) E → gt v (wipe σ own) H Q
theorem gks_name {n : Nat} {own : List Nat} (h : n ∈ own) : GKs L (gName n) (gN n) own := fun v d Γ g σ H Q E b r t w =>
  w rfl _ (r.set t) (by rw [wipe_set h, wipe_wipe]) fun g' H' r' f => r'.set (t.mono f.F f.mu)
theorem yes_of {Q : Bool → Hp → Prop} (h : Q true H) : tYes σ H Q := h
theorem iteTT {A B : Prop} (a : A) : if true = true then A else B := by rw [if_pos rfl]; exact a
theorem lc2_read {t t1 : IG} {it it1 : II} {c1 : IT} {i : IE} {own vs1 : List Nat} {gt gt1 : TG} {tt1 : TT} {Q : VK} (gk : GKs L gt t own) (gk1 : GK L gt1 t1 vs1) (tk1 : TK L tt1 c1) (r : Rep L Γ g σ H)
    (w : (iLc2 t it it1 t1 c1 i own vs1 Γ).wpB g.bud (Wn L FrT g H Q) (XW L W g σ H)) : tLc2 (RdI L W it) gt tYes (RdI L (fun _ _ _ _ => False) it1) gt1 tt1 (Rd1 L DenT (fun _ _ _ _ => False) i) own vs1 σ H Q := by
  refine ⟨Γ, g, r, M.wpB_mono (fun ds b k g1 H1 J sp e wk => ?_) (fun _ _ x => x) _ _ ((M.wpB_bind _ _).mp w)⟩
  subst e
  intro Dd nD
  replace k : ((lcRun2 t it1 t1 c1 i own vs1 Γ [] ds).bind fun acc => M.ret (D.lst acc)).wpB g1.bud (Wn L FrT g H Q) (XW L (fun _ _ _ _ => False) g σ H) := (M.wpB_bind _ _).mpr (M.wpB_noX (Q := fun acc c => Wn L FrT g H Q (.lst acc) c) _ _ ((M.wpB_bind _ _).mp k))
  have r1 := r.step sp
  have s2 : Stp L g1 H1 g1 (upd H1 Dd (.lst [])) := stp_new (o := .lst []) r1 nD false
  have xw : ∀ {g2 : Gh} {H2 : Hp} {σ2 : L2.St} {x : Ex} {b : Nat}, Stp L g1 H1 g2 H2 → XW L (fun _ _ _ _ => False) g σ H x b → XW L (fun _ _ _ _ => False) g2 σ2 H2 x b := fun s h cls d g' H' s' e a => h cls d g' H' (sp.trans (s.trans s')) e a
  have nM0 : ¬ InM g1.mu H1 Dd := fun i => (InM.there r1.rnd.ok i) nD
  refine ⟨fun j m Hj => j ≤ ds.length ∧ m = ds.length - j ∧ ∃ g2 acc, Stp L g1 H1 g2 Hj ∧ AccAt L g2 Hj Dd acc ∧ ((lcRun2 t it1 t1 c1 i own vs1 Γ acc (ds.drop j)).bind fun acc => M.ret (D.lst acc)).wpB g2.bud (Wn L FrT g H Q) (XW L (fun _ _ _ _ => False) g σ H),
    ⟨ds.length, Nat.zero_le _, by simp, g1, [], s2, ⟨[], upd_same, .nil, nF_of r1 nD, fun i => nM0 (inM_upd i)⟩, k⟩, ?_⟩
  rintro j m Hj ⟨hj, rfl, g2, acc, s, a, w2⟩
  have r2 := r1.step s
  by_cases hlt : j < ds.length
  · have ed : ds.drop j = ds[j] :: ds.drop (j + 1) := List.drop_eq_getElem_cons hlt
    rw [ed] at w2
    obtain ⟨go, yl⟩ := wk.step j ds[j] Γ g2 σ Hj (List.getElem?_eq_getElem hlt) r2 s.fle
    refine .inr ⟨go, fun Hn => ∃ g2 acc, Stp L g1 H1 g2 Hn ∧ AccAt L g2 Hn Dd acc ∧ ((lcRun2 t it1 t1 c1 i own vs1 Γ acc (ds.drop (j + 1))).bind fun acc => M.ret (D.lst acc)).wpB g2.bud (Wn L FrT g H Q) (XW L (fun _ _ _ _ => False) g σ H), fun H' ⟨g', acc', s', a', w'⟩ => ⟨ds.length - (j + 1), by omega, hlt, rfl, g', acc', s', a', w'⟩, fun x H' y => ?_⟩
    obtain ⟨g3, s3, b3, t3⟩ := yl x H' y
    rw [← b3] at w2
    have s13 := s.trans s3
    have w3 := (M.wpB_bind _ _).mp w2
    refine gk x ds[j] Γ g3 σ H' _ (XW L (fun _ _ _ _ => False) g σ H) g3.bud (wipe_rep (r2.step s3)) t3 (M.wpB_mono (fun Γ1 c' k eb σ1 rp1 wi up => ?_) (fun _ _ x => x) _ _ ((M.wpB_bind _ _).mp w3))
    subst eb
    refine ⟨wi, ?_⟩
    refine yes_of ?_
    refine iteTT ?_
    refine ⟨Γ1, g3, rp1, M.wpB_mono (fun ds1 c' k g4 H4 J1 s4 e4 wk1 => ?_) (fun _ _ x => xw s13 x) _ _ ((M.wpB_bind _ _).mp k)⟩
    subst e4
    have s14 := s13.trans s4
    have a4 := (a.step s3).step s4
    have rp4 := rp1.step s4
    -- the inner walk
    refine ⟨fun j1 m1 Hq => j1 ≤ ds1.length ∧ m1 = ds1.length - j1 ∧ ∃ g5 acc, FLe g4 g5 ∧ Stp L g1 H1 g5 Hq ∧ AccAt L g5 Hq Dd acc ∧ ((lcRun t1 c1 i vs1 Γ1 acc (ds1.drop j1)).bind fun acc' => (lcRun2 t it1 t1 c1 i own vs1 Γ acc' (ds.drop (j + 1))).bind fun acc => M.ret (D.lst acc)).wpB g5.bud (Wn L FrT g H Q) (XW L (fun _ _ _ _ => False) g σ H),
      ⟨ds1.length, Nat.zero_le _, by simp, g4, acc, FLe.refl g4, s14, a4, ?_⟩, ?_⟩
    · exact (M.wpB_bind _ _).mpr (M.wpB_mono (fun acc' b k => (M.wpB_bind _ _).mpr k) (fun _ _ x => x) _ _ ((M.wpB_bind _ _).mp k))
    rintro j1 m1 Hq ⟨hj1, rfl, g5, acc5, s45, s15, a5, w5⟩
    have rp5 := up g5 Hq (wipe_rep (r1.step s15)) (s4.fle.trans s45)
    by_cases hl1 : j1 < ds1.length
    · have ed1 : ds1.drop j1 = ds1[j1] :: ds1.drop (j1 + 1) := List.drop_eq_getElem_cons hl1
      rw [ed1] at w5
      obtain ⟨go1, yl1⟩ := wk1.step j1 ds1[j1] Γ1 g5 σ1 Hq (List.getElem?_eq_getElem hl1) rp5 s45
      refine .inr ⟨go1, fun Hn => ∃ g5 acc, FLe g4 g5 ∧ Stp L g1 H1 g5 Hn ∧ AccAt L g5 Hn Dd acc ∧ ((lcRun t1 c1 i vs1 Γ1 acc (ds1.drop (j1 + 1))).bind fun acc' => (lcRun2 t it1 t1 c1 i own vs1 Γ acc' (ds.drop (j + 1))).bind fun acc => M.ret (D.lst acc)).wpB g5.bud (Wn L FrT g H Q) (XW L (fun _ _ _ _ => False) g σ H),
        fun H' ⟨g', acc', z1, z2, z3, z4⟩ => ⟨ds1.length - (j1 + 1), by omega, hl1, rfl, g', acc', z1, z2, z3, z4⟩, fun x1 H6 y1 => ?_⟩
      obtain ⟨g6, s6, b6, t6⟩ := yl1 x1 H6 y1
      rw [← b6] at w5
      have s46 := s45.trans s6.fle
      have s16 := s15.trans s6
      have w6 := (M.wpB_bind _ _).mp w5
      refine gk1 x1 ds1[j1] Γ1 g6 σ1 H6 _ (XW L (fun _ _ _ _ => False) g σ H) g6.bud (wipe_rep (rp5.step s6)) t6 (M.wpB_mono (fun Γ2 c' k eb σ2 rp2 wi2 => ?_) (fun _ _ x => x) _ _ ((M.wpB_bind _ _).mp w6))
      subst eb
      refine ⟨wi2, tk1 σ2 H6 _ ⟨Γ2, g6, rp2, M.wpB_mono (fun b c' k g7 H7 s7 e7 => ?_) (fun _ _ x => xw s16 x) _ _ ((M.wpB_bind _ _).mp k)⟩⟩
      subst e7
      have a7 := (a5.step s6).step s7
      cases b with
      | false => exact iteF ⟨g7, acc5, s46.trans s7.fle, s16.trans s7, a7, (M.wpB_bind _ _).mpr k⟩
      | true =>
        refine iteT ⟨Γ2, g7, rp2.step s7, M.wpB_mono (fun d b k v g8 H8 s8 e8 t8 => ?_) (fun _ _ x => xw (s16.trans s7) x) _ _ ((M.wpB_bind _ _).mp k)⟩
        subst e8
        split at k
        · rename_i z
          obtain ⟨vs, h1, h2, h3, h4⟩ := a7.step s8
          exact ⟨vs, h1, by rw [h2.length]; exact z, g8, acc5 ++ [d], s46.trans (s7.fle.trans s8.fle), stp_upd ((s16.trans s7).trans s8) nD h1 h3 h4, acc_upd h2 h3 h4 t8, (M.wpB_bind _ _).mpr k⟩
        · exact k.elim
    · have e : j1 = ds1.length := by omega
      subst e
      rw [List.drop_length] at w5
      exact .inl ⟨wk1.stop Γ1 g5 σ1 Hq rp5 s45, g5, acc5, s15, a5, w5⟩
  · have e : j = ds.length := by omega
    subst e
    rw [List.drop_length] at w2
    obtain ⟨vs, h1, h2, h3, h4⟩ := a
    exact .inl ⟨wk.stop Γ g2 σ Hj r2 s.fle, w2 (.ref Dd) g2 Hj (sp.trans s) rfl ⟨Dd, vs, acc, rfl, rfl, h1, h2, h3, h4, none_back sp nD⟩⟩
variable {t t1 : IG} {it it1 : II} {c1 : IT} {i : IE} {own : List (Str × Nat)} {vs1 : List Nat} {gt gt1 : TG} {tt1 : TT} {elt tg iter tg1 iter1 : Expr} {ifs1 : List Expr} {scope : Scope}
theorem df_lc2 (hc : X.calm = true) (hN : X.N.Nodup) (hi : DI L X it tg iter) (ok : BlkOk X.N X.env.scope scope own) (hv : ∀ i ∈ vs1, i ∈ own.map (·.2))
    (hg : ∀ (s : Shared) (H : Hp) (C : Addr) (cl : List (Str × Addr)) (fp : List Addr), PG (X.blk s H scope (compEnvC scope cl C X.env) fp) tg gt) (gk : GKs L gt t (own.map (·.2)))
    (hi1 : ∀ (s : Shared) (H : Hp) (C : Addr) (cl : List (Str × Addr)) (fp : List Addr), DI L (X.blk s H scope (compEnvC scope cl C X.env) fp) it1 tg1 iter1)
    (hg1 : ∀ (s : Shared) (H : Hp) (C : Addr) (cl : List (Str × Addr)) (fp : List Addr), PG (X.blk s H scope (compEnvC scope cl C X.env) fp) tg1 gt1) (gk1 : GK L gt1 t1 vs1)
    (ht1 : ∀ (s : Shared) (H : Hp) (C : Addr) (cl : List (Str × Addr)) (fp : List Addr), PTs (X.blk s H scope (compEnvC scope cl C X.env) fp) ifs1 tt1) (tk1 : TK L tt1 c1)
    (he : ∀ (s : Shared) (H : Hp) (C : Addr) (cl : List (Str × Addr)) (fp : List Addr), DE L (X.blk s H scope (compEnvC scope cl C X.env) fp) i elt) (hs : ∀ x, foldedSetIterable iter X.env x = pure x := by intro _; rfl) (hs1 : ∀ env x, foldedSetIterable iter1 env x = pure x := by intro _ _; rfl) :
    DF L X (iLc2 t it it1 t1 c1 i (own.map (·.2)) vs1) (.ListComp elt [⟨tg, iter, [], 0⟩, ⟨tg1, iter1, ifs1, 0⟩] scope pos) := fun W tk' => by
  exact PE.imp (pe_lc2 hc hN (hi W tk') ok hv hg (fun s H C cl fp => pts_nil) (fun s H C cl fp => hi1 s H C cl fp _ LamX.takes0) hg1 ht1 (fun s H C cl fp => he s H C cl fp _ LamX.takes0) hs hs1) fun σ H Q ⟨Γ, g, r, w⟩ => lc2_read gk gk1 tk1 r w
/-- y = [.. for .. for ..], y a plain local -/
theorem ds_setLc2 {n : Nat} {y : Str} {py spos : Pos} (hc : X.calm = true) (hN : X.N.Nodup) (hy : X.N[n]? = some y) (hyl : X.env.scope.names.lookup y = some .local)
    (hsw : swapsWith (.ListComp elt [⟨tg, iter, [], 0⟩, ⟨tg1, iter1, ifs1, 0⟩] scope pos) (some (.Name y py)) spos.line X.env = pure true) (hi : DI L X it tg iter) (ok : BlkOk X.N X.env.scope scope own) (hv : ∀ i ∈ vs1, i ∈ own.map (·.2))
    (hg : ∀ (s : Shared) (H : Hp) (C : Addr) (cl : List (Str × Addr)) (fp : List Addr), PG (X.blk s H scope (compEnvC scope cl C X.env) fp) tg gt) (gk : GKs L gt t (own.map (·.2)))
    (hi1 : ∀ (s : Shared) (H : Hp) (C : Addr) (cl : List (Str × Addr)) (fp : List Addr), DI L (X.blk s H scope (compEnvC scope cl C X.env) fp) it1 tg1 iter1)
    (hg1 : ∀ (s : Shared) (H : Hp) (C : Addr) (cl : List (Str × Addr)) (fp : List Addr), PG (X.blk s H scope (compEnvC scope cl C X.env) fp) tg1 gt1) (gk1 : GK L gt1 t1 vs1)
    (ht1 : ∀ (s : Shared) (H : Hp) (C : Addr) (cl : List (Str × Addr)) (fp : List Addr), PTs (X.blk s H scope (compEnvC scope cl C X.env) fp) ifs1 tt1) (tk1 : TK L tt1 c1)
    (he : ∀ (s : Shared) (H : Hp) (C : Addr) (cl : List (Str × Addr)) (fp : List Addr), DE L (X.blk s H scope (compEnvC scope cl C X.env) fp) i elt) (hs : ∀ x, foldedSetIterable iter X.env x = pure x := by intro _; rfl) (hs1 : ∀ env x, foldedSetIterable iter1 env x = pure x := by intro _ _; rfl) :
    DS L X (sSet n (iLc2 t it it1 t1 c1 i (own.map (·.2)) vs1)) (.Assign [.Name y py] (.ListComp elt [⟨tg, iter, [], 0⟩, ⟨tg1, iter1, ifs1, 0⟩] scope pos) spos) := fun W g0 H0 tk' => by
  refine PS.imp (ps_setLc2 hc hN hy hyl hsw (hi W tk') ok hv hg (fun s H C cl fp => pts_nil) (fun s H C cl fp => hi1 s H C cl fp _ LamX.takes0) hg1 ht1 (fun s H C cl fp => he s H C cl fp _ LamX.takes0) hs hs1) fun Dn σ H ⟨Γ, g, r, w⟩ => ?_
  refine lc2_read (Q := fun x H1 => gName n x σ H1 Dn.nx) gk gk1 tk1 r.rep (M.wpB_mono (fun d b k v g' H' s e fr => ?_) (fun _ _ x => x.xw r.base) _ _ ((M.wpB_bind _ _).mp w))
  obtain ⟨g2, s2, e2, t2⟩ := stp_frz s fr
  exact k g2 _ H' ((r.step s2).set t2) s2.fle (e2.trans e)
end
end DL
/-! A lambda with one parameter that has a default, handed to a def that calls it with nothing. -/
namespace DL
open PySem PySem.Spec PyProof.Rows L2 LamX
/-- the scope of such a lambda: its one own name is y -/
structure LamD (sc scope : Scope) (y : Str) : Prop where
  kind : scope.kind = .function
  co : scope.isCoroutine = false
  gen : scope.isGenerator = false
  own : ∀ z ∈ scope.names, (z.2 = .local → z.1 = y) ∧ z.2 ≠ .cell
  free : ∀ z ∈ scope.names, z.2 = .free → sc.names.lookup z.1 = some .cell ∨ sc.names.lookup z.1 = some .free
  loc : scope.names.lookup y = some .local
def lamDB (sc scope : Scope) (y : Str) : Bool :=
  decide (scope.kind = .function) && (!scope.isCoroutine && (!scope.isGenerator && (decide (scope.names.lookup y = some .local) && scope.names.all fun z => (!decide (z.2 = .local) || decide (z.1 = y)) && (!decide (z.2 = .cell) && (!decide (z.2 = .free) || (decide (sc.names.lookup z.1 = some .cell) || decide (sc.names.lookup z.1 = some .free)))))))
theorem lamD_by {sc scope : Scope} {y : Str} (h : lamDB sc scope y = true) : LamD sc scope y := by
  unfold lamDB at h
  simp only [Bool.and_eq_true, Bool.or_eq_true, Bool.not_eq_true', decide_eq_true_eq, decide_eq_false_iff_not, List.all_eq_true] at h
  obtain ⟨h1, h2, h3, h4, h5⟩ := h
  refine ⟨h1, h2, h3, fun z hz => ⟨fun e => ?_, (h5 z hz).2.1⟩, fun z hz e => ?_, h4⟩
  · rcases (h5 z hz).1 with q | q
    · exact absurd e q
    · exact q
  · rcases (h5 z hz).2.2 with q | q
    · exact absurd e q
    · exact q
theorem LamD.has {X : Cx} {scope : Scope} {y : Str} (D : LamD X.env.scope scope y) (ok : X.Ok) : ∀ z ∈ scope.names, z.2 = .free → ∃ c, X.env.cells.lookup z.1 = some c := by
  intro z hz e
  rcases D.free z hz e with q | q
  · exact ok.has _ (.inl q)
  · exact ok.has _ (.inr q)
section
variable {X : Cx} {pins : List (Addr × Obj)} {σ : L2.St} {H HZ : Hp} {s s1 : Shared}
theorem lam_startD {A : Around} {outer : List PySem.Env} {E : XK} {sc : Scope} {fl cl : Addr} {h₁ : Heap} {tk : Nat} {y : Str} {bs : List (Str × Value)} (I : Inv X pins σ H s) (D : LamD X.env.scope sc y) (ny : y ∉ X.N) (e0 : Env0 X.prog X.w X.K X.mg X.base A outer s1 HZ) (hd : A.handled = none)
    (un : Un (frs X.stack) [] H HZ s.heap s1.heap) (hns : h₁.Ns s1.heap.objs.size fun z => bs.reverse.lookup z) (kp : ∀ b o, s1.heap.get? b = some o → h₁.get? b = some o) :
    Inv (lamCx X A outer s1 HZ E sc fl cl) [] σ HZ { s1 with heap := h₁, toks := tk } := by
  have there := D.has I.ok
  have back : ∀ {z c}, (cloFrom X.env.cells sc.names []).lookup z = some c → X.env.cells.lookup z = some c := by
    intro z c e
    rcases cloFrom_mem (PySem.mem_of_lookup e) with hm | ⟨h1, h2⟩
    · cases hm
    · obtain ⟨c1, hc⟩ := there _ h1 rfl
      have hc' : X.env.cells.lookup z = some c1 := hc
      rw [hc'] at h2
      have e2 : c = c1 := h2
      rw [e2]
      exact hc
  have fwd : ∀ {z}, sc.names.lookup z = some .free → ∃ c, (cloFrom X.env.cells sc.names []).lookup z = some c := by
    intro z hl
    exact mem_lookup (cloFrom_has (cells := X.env.cells) (acc := []) (PySem.mem_of_lookup hl))
  have stays : ∀ {c : Addr} {v : Option Value}, H c = none → s.heap.IsCell c v → h₁.IsCell c v := by
    rintro c v n ⟨o, ho, hd⟩
    obtain ⟨sl, q⟩ := un.any ho n (by simp)
    exact ⟨_, kp _ _ q, hd⟩
  have nil : ∀ b : Addr, b ∉ (lamCx X A outer s1 HZ E sc fl cl).ex := fun b z => absurd (show b ∈ ([] : List Addr) from z) (by simp)
  have okX : (lamCx X A outer s1 HZ E sc fl cl).Ok := by
    refine ⟨e0.mod, D.kind, rfl, rfl, Nat.le_refl _, fun z z' c e1 e2 => I.ok.inj z z' c (back e1) (back e2), fun z hz => ?_, fun z c q _ => ?_, fun _ => hd, Around.frames_deeper e0.frames, .inr ⟨rfl, rfl⟩, fun b z => absurd z (nil b), e0.bs, e0.bsz, fun b _ _ => nil b, fun b z => absurd z (nil b), e0.funs, e0.frf⟩
    · have hz : sc.names.lookup z = some .cell ∨ sc.names.lookup z = some .free := hz
      rcases hz with hz | hz
      · exact absurd rfl (D.own _ (PySem.mem_of_lookup hz)).2
      · exact fwd hz
    · have q : false = true := q
      cases q
  refine ⟨okX, rfl, e0.bare, Un.kept kp, ⟨_, hns, fun i z v e1 e2 e3 => ?_⟩, fun z c e => ?_, e0.hok.fresh (Nat.le_refl _), fun z c e => ?_, fun q hq => absurd (show q ∈ ([] : List (Addr × Obj)) ++ [] from hq) (by simp), e0.hok.kept kp, I.len⟩
  · have e3 : Vis sc z := e3
    rcases e3 with k | k | k
    · have zy := (D.own _ (PySem.mem_of_lookup k)).1 rfl
      have e1 : X.N[i]? = some z := e1
      rw [show z = y from zy] at e1
      exact absurd (List.mem_of_getElem? e1) ny
    · exact absurd rfl (D.own _ (PySem.mem_of_lookup k)).2
    · obtain ⟨m, hn, hl⟩ := I.loc
      have vis : Vis X.env.scope z := (D.free _ (PySem.mem_of_lookup k) rfl).elim (fun q => .inr (.inl q)) (fun q => .inr (.inr q))
      obtain ⟨w', r, q⟩ := hl i z v e1 e2 vis
      obtain ⟨c2, h2⟩ := fwd k
      refine ⟨w', r, .inr ⟨.inr k, c2, h2, ?_⟩⟩
      have c1 := back h2
      rcases q with ⟨k', _⟩ | ⟨_, c3, e', q⟩
      · have k' : X.env.scope.names.lookup z = some .local := k'
        rcases D.free _ (PySem.mem_of_lookup k) rfl with k2 | k2
        · rw [show X.env.scope.names.lookup z = _ from k2] at k'
          cases k'
        · rw [show X.env.scope.names.lookup z = _ from k2] at k'
          cases k'
      · rw [c1] at e'
        cases e'
        exact stays (I.freeC z _ c1) q
  · obtain ⟨w', q⟩ := I.cell z c (back e)
    exact ⟨w', stays (I.freeC z c (back e)) q⟩
  · obtain ⟨v, o, ho, hd⟩ := I.cell z c (back e)
    exact un.free c o ho (I.freeC z c (back e)) (by simp)
end
end DL
/-! x(lambda y=0: e). -/
namespace DL
open PySem PySem.Spec PyProof.Rows L2 LamX
abbrev lamOD (q : Str) (ps : Arguments) (bd : Expr) (sc : Scope) (cs : List (Str × Addr)) (T : Addr) (doc pm : Value) (cl : Addr) (ctv : Value) : Obj := PySem.W.kdv_obj "<lambda>" q ps (.expr bd) sc cs (.ref T) doc pm cl ctv
section
variable {X : Cx} {pins : List (Addr × Obj)} {σ : L2.St} {H : Hp} {s : Shared}
theorem lam_makeD {T : List (Addr × Str)} {co tb : Addr} {ps : Arguments} {bd : Expr} {sc : Scope} {pos : Pos} {n : Int} {j : Nat} {dp : Pos} {E Q : Value → Shared → Prop} (I : Inv X pins σ H s) (B : TabB X.base X.mg co tb) (ec : X.env.code = .ref co)
    (mT : (tb, X.env.qual ++ "<lambda>") ∈ T) (uT : ∀ p ∈ T, p.1 = tb → p.2 = X.env.qual ++ "<lambda>") (hT : Tabs T H) (nd : ps.defaults = [.Constant (.int n) j dp]) (nk : ps.kw_defaults = []) (fr : ∀ y ∈ sc.names, y.2 = .free → ∃ c, X.env.cells.lookup y.1 = some c)
    (go : ∀ (fl cl D0 : Addr) (u pm doc ctv : Value) (H1 : Hp) (s' : Shared), Inv X pins σ H1 s' → ExtN H H1 → (∀ b, H b ≠ none → H1 b ≠ none) → Tabs T H1 →
      s'.heap.get? fl = some (lamOD (X.env.qual ++ "<lambda>") ps bd sc (cloFrom X.env.cells sc.names []) D0 doc pm cl ctv) → H1 fl = none → fl ∉ frs X.stack → s'.heap.get? D0 = some (PySem.W.kdv_tup [u]) → H1 D0 = none → D0 ∉ frs X.stack →
      H1 cl = some (CodeO cl (X.env.qual ++ "<lambda>")) → Q (.ref fl) s') :
    wpAny (model X.prog X.w) X.A (eval (.Lambda ps bd sc pos) X.env) Q E s := by
  refine PySem.W.kdv_lam (by rw [nd]; rfl) nk ?_
  rw [nd]
  refine PySem.W.kdv_all1 ?_
  refine wpAny_Constant_int (PySem.W.kdv_all0 ?_)
  -- the default stands
  have away : ∀ y, s.heap.objs.size ≤ y → y ∉ frs X.stack := by
    intro y hy z
    rcases List.mem_cons.mp (I.stkSub _ z) with e | e
    · have q := I.lt
      rw [← e] at q
      exact absurd (Nat.lt_of_lt_of_le q hy) (Nat.lt_irrefl _)
    · exact I.nofs hy e
  rw [PySem.makeFunction_eq]
  simp only [List.zip_nil_right, List.filterMap_nil, List.isEmpty_nil, if_true, pure_bind, List.isEmpty_cons, Bool.false_eq_true, if_false]
  refine wpAny_bind (wpAny_newTextTuple ?_)
  have J0 : Inv X pins σ H { s with heap := s.heap.push (PySem.W.kdv_tup [.int n s.toks]), toks := s.toks + 1 } := I.kept fun b o e => Heap.get?_push_of_some _ e
  have d0 : (s.heap.push (PySem.W.kdv_tup [.int n s.toks])).get? s.heap.objs.size = some (PySem.W.kdv_tup [.int n s.toks]) := Heap.get?_push_size _ rfl
  have nD : H s.heap.objs.size = none := I.hok.fresh (Nat.le_refl _)
  have sz0 : s.heap.objs.size ≤ (s.heap.push (PySem.W.kdv_tup [.int n s.toks])).objs.size := by
    rw [Heap.size_push]
    exact Nat.le_succ _
  obtain ⟨tab, atP, okT, amongT⟩ := hT _ mT
  have bk : (s.heap.push (PySem.W.kdv_tup [.int n s.toks])).BuiltinsAt X.mg tb := B.bm.keeps J0.bk
  have hpO : (s.heap.push (PySem.W.kdv_tup [.int n s.toks])).get? tb = some { cls := .none, data := .fields tab } := J0.hok tb _ atP
  have neD : s.heap.objs.size ≠ tb := fun z => by rw [← z, nD] at atP; cases atP
  cases q : codeAmong pos tab.toList with
  | some cv =>
    obtain ⟨cl, rfl, hcl⟩ := amongT pos cv q
    refine PySem.W.kdv_makeTailHit (mg := X.mg) (c := co) (P := tb) (ps := tab) (closure_ok fr) J0.ok.glob (J0.mod.glob.keeps J0.bk) ec (B.code.keeps J0.bk) hpO okT q bk ?_
    intro ctv doc h' tk keep sz
    have J : Inv X pins σ H { s with heap := h'.push (lamOD (X.env.qual ++ "<lambda>") ps bd sc (cloFrom X.env.cells sc.names []) s.heap.objs.size doc ((X.mg "__name__").getD .none) cl ctv), toks := tk } :=
      I.kept fun b o e => Heap.get?_push_of_some _ (keep b o (Heap.get?_push_of_some _ e))
    exact go _ cl s.heap.objs.size _ _ doc ctv H _ J (ExtN.refl H) (fun _ n => n) hT (Heap.get?_push_size _ rfl) (I.hok.fresh (Nat.le_trans sz0 sz)) (away _ (Nat.le_trans sz0 sz)) (Heap.get?_push_of_some _ (keep _ _ d0)) nD (away _ (Nat.le_refl _)) hcl
  | none =>
    refine PySem.W.kdv_makeTail (mg := X.mg) (c := co) (P := tb) (ps := tab) (closure_ok fr) J0.ok.glob (J0.mod.glob.keeps J0.bk) ec (B.code.keeps J0.bk) hpO okT q B.gP bk ?_
    intro cl ctv doc h' tk ext le lt rec inT
    have le : (s.heap.push (PySem.W.kdv_tup [.int n s.toks])).objs.size ≤ cl := le
    obtain ⟨c2, oc, vs, t, e2, hoc, hd, hv⟩ := rec
    cases e2
    have sz : s.heap.objs.size ≤ h'.objs.size := Nat.le_trans (Nat.le_trans sz0 le) (Nat.le_of_lt lt)
    have le0 : s.heap.objs.size ≤ cl := Nat.le_trans sz0 le
    have nC : H cl = none := I.hok.fresh le0
    have J := inv_table (t' := tk) (more := #[rawInt pos.line, rawInt pos.col, .ref cl]) (h' := h'.push (lamOD (X.env.qual ++ "<lambda>") ps bd sc (cloFrom X.env.cells sc.names []) s.heap.objs.size doc ((X.mg "__name__").getD .none) cl ctv)) I atP
      (fun b o n e => Heap.get?_push_of_some _ (ext b o n (Heap.get?_push_of_some _ e))) (Heap.get?_push_of_some _ inT) le0 ⟨oc, vs, t, Heap.get?_push_of_some _ hoc, hd, hv⟩
    have key : ∀ b, b ≠ cl → b ≠ tb → (upd (upd H tb (.tbl (tab ++ #[rawInt pos.line, rawInt pos.col, .ref cl]))) cl (CodeO cl (X.env.qual ++ "<lambda>"))) b = H b := fun b n1 n2 => by rw [upd_ne n1, upd_ne n2]
    have EN : ExtN H (upd (upd H tb (.tbl (tab ++ #[rawInt pos.line, rawInt pos.col, .ref cl]))) cl (CodeO cl (X.env.qual ++ "<lambda>"))) := fun b o e nt => by
      rw [key b (ne_of_none e nC) fun z => nt tab (by rw [z, atP] at e; exact (Option.some.inj e).symm)]
      exact e
    have TT : Tabs T (upd (upd H tb (.tbl (tab ++ #[rawInt pos.line, rawInt pos.col, .ref cl]))) cl (CodeO cl (X.env.qual ++ "<lambda>"))) := fun p hp => by
      by_cases hb : p.1 = tb
      · rw [uT p hp hb, hb]
        have l3 : (tab ++ #[rawInt pos.line, rawInt pos.col, .ref cl]).toList = tab.toList ++ [rawInt pos.line, rawInt pos.col, .ref cl] := by simp
        refine ⟨_, by rw [upd_ne (ne_of_none atP nC), upd_same], by rw [l3]; exact PySem.TriplesOk_snoc _ _ _ _ okT, ?_⟩
        intro p' cv hcv
        rw [l3] at hcv
        rcases among_app _ okT hcv with z | z
        · obtain ⟨c0, e1, e2⟩ := amongT p' cv z
          exact ⟨c0, e1, EN _ _ e2 codeO_ne⟩
        · exact ⟨cl, z, upd_same⟩
      · obtain ⟨tab', a1, a2, a3⟩ := hT p hp
        refine ⟨tab', by rw [key _ (ne_of_none a1 nC) hb]; exact a1, a2, fun p' cv hcv => ?_⟩
        obtain ⟨c0, e1, e2⟩ := a3 p' cv hcv
        exact ⟨c0, e1, EN _ _ e2 codeO_ne⟩
    have fresh : ∀ b, s.heap.objs.size ≤ b → b ≠ cl → b ≠ tb → (upd (upd H tb (.tbl (tab ++ #[rawInt pos.line, rawInt pos.col, .ref cl]))) cl (CodeO cl (X.env.qual ++ "<lambda>"))) b = none := fun b hb n1 n2 => by
      rw [key b n1 n2]
      exact I.hok.fresh hb
    have neC : s.heap.objs.size ≠ cl := Nat.ne_of_lt (Nat.lt_of_lt_of_le (by rw [Heap.size_push]; exact Nat.lt_succ_self _) le)
    refine go _ cl s.heap.objs.size _ _ doc ctv _ _ J EN (fun b n => ?_) TT (Heap.get?_push_size _ rfl) ?_ (away _ sz) (Heap.get?_push_of_some _ (ext _ _ neD d0)) (fresh _ (Nat.le_refl _) neC neD) (away _ (Nat.le_refl _)) upd_same
    · by_cases z1 : b = cl
      · rw [z1, upd_same]; simp
      · by_cases z2 : b = tb
        · rw [upd_ne z1, z2, upd_same]; simp
        · rw [key b z1 z2]; exact n
    · exact fresh _ sz (Nat.ne_of_gt lt) (Nat.ne_of_gt (Nat.lt_of_lt_of_le (Heap.lt_size hpO) (Nat.le_trans le (Nat.le_of_lt lt))))
/-- x() in the def that got such a lambda -/
theorem pe_actD {Cg : CXT} {Eg : XK} {Ng : List Str} {qg : Str} {sg : Scope} {g fl cl D0 : Addr} {cdg pm doc ctv u : Value} {ps : Arguments} {bd : Expr} {sc : Scope} {k i : Nat} {a y : Str} {pn : List (Addr × Obj)} {xe : Value → Shared → Prop} {W : WX} {t : XK → TE} {p1 p2 : Pos}
    (I : Inv X pins σ H s) (LS : LamD X.env.scope sc y) (ny : y ∉ X.N) (ho : s.heap.get? fl = some (lamOD (X.env.qual ++ "<lambda>") ps bd sc (cloFrom X.env.cells sc.names []) D0 doc pm cl ctv)) (hn : H fl = none) (hfr : fl ∉ frs X.stack)
    (ho2 : s.heap.get? D0 = some (PySem.W.kdv_tup [u])) (hn2 : H D0 = none) (hfr2 : D0 ∉ frs X.stack)
    (hb : ∀ s' : Shared, s'.heap.get? D0 = some (PySem.W.kdv_tup [u]) → BindsTo s' (PySem.W.kdv_fn "<lambda>" (X.env.qual ++ "<lambda>") ps (.expr bd) sc (cloFrom X.env.cells sc.names []) (.ref D0) doc pm (.ref cl) ctv) ⟨[], []⟩ [(y, u)])
    (tk : Takes ((cxOf Cg X.prog X.w X.K X.mg X.base Ng qg sg g cdg X.A X.stack s H Eg).tr pn xe) W) (hr : Room (k + 1) (X.A.deeper (envOfC qg sg s.heap.objs.size g cdg))) (hgd : X.A.guards = some [])
    (hB : ∀ (A : Around) (outer : List PySem.Env) (s : Shared) (H : Hp) (E : XK), Room k (A.deeper (lamEnv X sc s.heap.objs.size fl cl)) → A.guards = some [] → PE (lamCx X A outer s H E sc fl cl) bd (t E))
    (hN : Ng[i]? = some a) (hv : Vis sg a) (hd : (a == ("__debug__" : Str)) = false := by decide) (hcd : (a == ("__classdict__" : Str)) = false := by decide) :
    PE ((cxOf Cg X.prog X.w X.K X.mg X.base Ng qg sg g cdg X.A X.stack s H Eg).tr pn xe) (.Call (.Name a p1) [] [] p2)
      (fun τ HZ Q => τ[i]? = some (some (.ref fl)) ∧ HZ cl = some (CodeO cl (X.env.qual ++ "<lambda>")) ∧ t (WE W τ) σ HZ Q) := by
  constructor
  rintro pz sz τ HZ Q IZ ⟨hs, hc, ht⟩
  have pv1 := (pe_var (X := (cxOf Cg X.prog X.w X.K X.mg X.base Ng qg sg g cdg X.A X.stack s H Eg).tr pn xe) (pos := p1) (i := i) hN hv hd hcd).run pz sz τ HZ (fun v H1 => v = .ref fl ∧ H1 = HZ) IZ ⟨.ref fl, hs, rfl, rfl⟩
  refine wpAny_Call_Name_kw (thn pv1 ?_)
  rintro u1 s1 ⟨v, H1, J1, rv, rfl, rfl⟩
  have eu : u1 = Value.ref fl := rv
  subst eu
  have nofl : ∀ b : Addr, b ∉ ([] : List Addr) := by simp
  have g1 := J1.base.keep fl _ ho hn hfr (nofl _)
  have g2 := J1.base.keep D0 _ ho2 hn2 hfr2 (nofl _)
  refine PySem.W.callWith_F0 ⟨_, _, _, _, g1⟩ ?_
  have un : Un (frs X.stack) [] H H1 s.heap s1.heap := J1.base
  have cdo := J1.hok cl _ hc
  obtain ⟨⟨oc, vs, tq, hoc, hdc, hvc⟩, -, -⟩ := cdo
  refine wpAny_call (codeAny_mono (R := CR (L2.CX X.prog X.w) (envOfC qg sg s.heap.objs.size g cdg :: X.stack) X.prog X.w H1 s1 Q (WE W τ)) ?_ ?_)
  · refine PySem.W.kla_callFunE hr.depth g1 rfl LS.co LS.gen rfl ⟨cl, oc, vs, tq, rfl, hoc, hdc, hvc⟩ ?_
    rw [List.append_nil]
    refine hb s1 g2 _ _ _ _ ?_
    have lV : ∀ z ∈ ([(y, u)] : List (Str × Value)), sc.names.lookup z.1 = some .local := fun z hz => by
      rw [List.mem_singleton] at hz
      rw [hz]
      exact LS.loc
    refine wpAny_newFunctionEnv (fun z hz => (LS.own z hz).2) lV (fun h₁ hns hsb => ⟨J1.nolimit.fresh _ hsb, ?_⟩) LS.kind
    have kp : ∀ b o, s1.heap.get? b = some o → h₁.get? b = some o := by
      intro b o e
      exact hsb.extBut b o (Nat.ne_of_lt (Heap.lt_size e)) (Heap.get?_push_of_some _ e)
    have J := lam_startD (tk := s1.toks + ([(y, u)] : List (Str × Value)).length) (E := WE W τ) (fl := fl) (cl := cl) I LS ny J1.env0 hr.hd un hns kp
    refine PySem.W.kla_codeExpr (wpAny_mono ((hB _ _ s1 H1 (WE W τ) (hr.deeper _) hgd).run [] _ _ H1 Q J ht) ?_ fun e s' hq => hq)
    rintro v s' ⟨w', H', J', rv, q⟩
    exact ⟨w', H', J'.os, J'.bare, J'.base, J'.hok, rv, q⟩
  · intro r s' hq
    cases r with
    | error e => exact passAt tk τ pz H1 s1 e s' J1 hq
    | ok fo =>
      cases fo with
      | ret u => exact J1.after hq
      | next => exact False.elim hq
      | brk => exact False.elim hq
      | cont => exact False.elim hq
end
section
variable {L : Lx} {X : Cx}
theorem de_lamcallD {mt : M D → M D} {x a y : Str} {g co tb : Addr} {fd : FuncData} {k j : Nat} {n : Int} {dp : Pos} {Ng : List Str} {st : Stmt} {ps : Arguments} {bd : Expr} {sc : Scope} {i : IE} {p lpos pos : Pos} (T : Told L X.prog X.w X.mg X.base (k + 1) g x Ng st a mt) (F : Fun L.K x x st g fd) (S : FnScope Ng [a] (defScope st)) (hK : X.K = L.K)
    (gl : Gl X x) (hm : X.mg x = some (.ref g)) (kp : PySem.W.keepIn X.K (.ref g) = true) (bi : L2.Binds X.K fd [a] []) (h0 : Ng[0]? = some a) (va : Vis (defScope st) a) (B : TabB X.base X.mg co tb) (ec : X.env.code = .ref co) (mT : (tb, X.env.qual ++ "<lambda>") ∈ L.T) (uT : ∀ p ∈ L.T, p.1 = tb → p.2 = X.env.qual ++ "<lambda>")
    (hr : Room (k + 2) X.A) (hgd : X.A.guards = some []) (LS : LamD X.env.scope sc y) (ny : y ∉ X.N) (nd : ps.defaults = [.Constant (.int n) j dp]) (nk : ps.kw_defaults = [])
    (hbind : ∀ (q : Str) (cs : List (Str × Addr)) (D0 : Addr) (u doc pm cv ctv : Value) (s' : Shared), s'.heap.get? D0 = some (PySem.W.kdv_tup [u]) → BindsTo s' (PySem.W.kdv_fn "<lambda>" q ps (.expr bd) sc cs (.ref D0) doc pm cv ctv) ⟨[], []⟩ [(y, u)])
    (hB : ∀ (A : Around) (outer : List PySem.Env) (s : Shared) (H : Hp) (E : XK) (fl cl : Addr), Room k (A.deeper (lamEnv X sc s.heap.objs.size fl cl)) → A.guards = some [] → DE L (lamCx X A outer s H E sc fl cl) i bd)
    (hdb : (x == ("__debug__" : Str)) = false := by decide) (hd : (a == ("__debug__" : Str)) = false := by decide) (hcd : (a == ("__classdict__" : Str)) = false := by decide) :
    DE L X (iTold mt i) (.Call (.Name x p) [.Lambda ps bd sc lpos] [] pos) := fun W tk => by
  constructor
  rintro pins s σ H Q I ⟨Γ, g0, rp, w⟩
  obtain ⟨oc, od, kV, doc, pm, an, cdv, ct, osl, rfl, lk, hcg⟩ := F.ex
  refine wpAny_Call_Name_kw (ld_glob I gl hm (PySem.W.callWith_K (h₀ := X.base) I.ok.mod.kin kp ?_ (by rfl) (by rfl)) hdb)
  refine Calls.spliced_cons (lam_makeD I B ec mT uT rp.tab.1 nd nk (LS.has I.ok) ?_)
  intro fl cl D0 u pm' doc' ctv H1 s' J en nf T1 ho hn hfr ho2 hn2 hfr2 hco
  refine Calls.spliced_nil ⟨J.kIn, ?_⟩
  have st1 : Stp L g0 H g0 H1 := rp.ext en nf T1 g0.nt
  have rp1 := rp.step st1
  have w1 : (mt (i Γ)).wpB g0.bud (Wn L DenT g0 H1 Q) (fun _ _ => False) := M.wpB_mono (fun d b k v g' H' s2 e t => k v g' H' (st1.trans s2) e t) (fun _ _ x => x) _ _ (M.noX_any w)
  refine wpAny_call (codeAny_mono (R := CR C8.CX0 X.stack X.prog X.w H1 s' Q C8.E0) ?_ ?_)
  · refine run_ofS (N := Ng) (ps := [a]) (us := [.ref fl]) (vs := [.ref fl]) (hK ▸ lk) (hK ▸ hcg) S hr J.env0 (bi s' [.ref fl] J.kIn rfl) (.cons rfl .nil) rfl fun hr' => ?_
    have act : ∀ p1 p2, Act L (toldCx X.prog X.w L.K X.mg X.base Ng x st g cdv X.A X.stack s' H1) g0 H1 fl cl (X.env.qual ++ "<lambda>") (i Γ) (.Call (.Name a p1) [] [] p2) := by
      intro p1 p2 W' pn xe tk'
      rw [← hK] at tk' ⊢
      refine PE.imp (pe_actD (k := k) (t := fun E => Rd1 L DenT (fun cls d _ H => E cls d H) i) (i := 0) J LS ny ho hn hfr ho2 hn2 hfr2 (fun s2 e => hbind _ _ _ _ _ _ _ _ s2 e) tk' hr' hgd (fun A outer s H E hr2 hg2 => hB A outer s H E fl cl hr2 hg2 _ takes_lam) h0 va hd hcd) ?_
      rintro τ HZ Q' ⟨h1, h2, g1, s1, w2⟩
      exact ⟨h1, h2, Γ, g1, rp1.step s1, w2⟩
    obtain ⟨t, ht, hq⟩ := T.go cdv X.A X.stack s' H1 fl cl _ Q (i Γ) Γ g0 σ hr' hgd rp1 hco act w1
    rw [← hK] at ht
    exact ⟨t, ht.nox, hq⟩
  · intro r s2 hq
    cases r with
    | error e => exact (show False from hq).elim
    | ok fo =>
      cases fo with
      | ret u => exact J.after hq
      | next => exact False.elim hq
      | brk => exact False.elim hq
      | cont => exact False.elim hq
end
end DL
/-! Methods without keywords; == of own classes. -/
namespace DL
open PySem PySem.Spec PyProof.Rows L2
section
variable {L : Lx} {X : Cx} {g g' : Gh} {H H' : Hp} {σ : L2.St} {Γ : Env} {W : WX} {pos : Pos} {i j : IE} {a b : Expr}
theorem cal_fn {k n : Nat} {f : Addr} {fd : FuncData} {ps : List Str} {m : List D → M D} (F : FG L X.prog X.w X.mg X.base k f fd ps m) (hK : X.K = L.K) (hr : Room k X.A) (hgd : X.A.guards = some []) (bi : L2.Binds X.K fd ps []) (hn : n = ps.length) : CalG L X (.ref f) n [] m := by
  intro W pins s σ H Γ g us ws vs zs ds es Q tk I r rz l1 l2 rp l lz w
  obtain rfl : ws = [] := List.length_eq_zero_iff.mp l2
  cases rz
  cases lz
  rw [List.append_nil] at w
  have hl : us.length = ps.length := l1.trans hn
  have b := bi s us I.kIn (by rw [List.append_nil]; exact hl)
  rw [List.append_nil] at b
  exact call_fg (run_fg F hK hr hgd tk I r b hl (spd_of rp l w)) rfl
theorem rep_any {τ : L2.St} (r : Rep L Γ g τ H) : Rep L (List.replicate σ.length none) g σ H := by
  have no : ∀ (i : Nat) (b : B), (List.replicate σ.length (none : Option B))[i]? = some (some b) → False := fun i b e => by
    rw [List.getElem?_replicate] at e
    split at e <;> cases e
  exact ⟨r.sub, r.rnd, r.tab, fun i b e => (no i b e).elim, fun i j b c p e1 => (no i b e1).elim, r.nF, by rw [List.length_replicate]⟩
/-- what == of an own class is asked with -/
def eqTo (c : Nat) : D → Bool
  | .ins c' _ => decide (c' = c)
  | .tup _ => true
  | _ => false
def eqM (c : Nat) (m : List D → M D) (x y : D) : M D := match x with
  | .ins c' ds => if c' = c ∧ eqTo c y = true then ((m [.ins c' ds, y]).noX).bind fun d => match d with
    | .bl b => .ret (.bl b)
    | _ => .stuck else .stuck
  | _ => .stuck
def iEqM (c : Nat) (m : List D → M D) (i j : IE) : IE := fun Γ => (i Γ).bind fun x => (j Γ).bind fun y => eqM c m x y
def rdM (L : Lx) (c : Nat) (m : List D → M D) : R2 := fun x y H Q => ∃ Γ g σ dx dy, Rep L Γ g σ H ∧ Den L g x dx ∧ Den L g y dy ∧ (eqM c m dx dy).wpB g.bud (Wn L DenT g H Q) (fun _ _ => False)
structure EqOk (L : Lx) (c : Nat) (f : Addr) : Prop where
  fnd : PySem.W.findIn L.K (.ref (L.cA c)) "__eq__" = some (some (.ref f))
  fn : PySem.W.isFn L.K (.ref f) = true
  tup : PySem.W.notFirst L.K (L.cA c) (.type "tuple") = true
theorem op_eqM {c : Nat} {m : List D → M D} {f : Addr} (ok : EqOk L c f) (cg : CalG L X (.ref f) 2 [] m) (hK : X.K = L.K) (hu : X.A.units < cLine) : OpR X (compareOp .Eq) (rdM L c m) := by
  intro pins s σ H x y v u Q I rx ry ⟨Γ, g, σ', dx, dy, rp, tx, ty, w⟩
  show wpAny (model X.prog X.w) X.A (richCompare .Eq v u) (EP X pins σ Q) X.xe s
  unfold eqM at w
  split at w
  · rename_i c' ds
    split at w
    · rename_i hc
      obtain ⟨rfl, hy⟩ := hc
      have tx' := tx
      generalize hd : D.ins c' ds = dd at tx
      cases tx with
      | @ins ad cn dxx n vs ds' e1 e2 e3 =>
        obtain ⟨rfl, rfl⟩ := D.ins.inj hd
        have hA := rp.sub _ _ e1
        have rx' : v = Value.ref ad := rx
        subst rx'
        obtain ⟨mA, J, _⟩ := ins_get I.hok hA
        obtain ⟨od, J, _⟩ := J.look
        obtain ⟨mF, hF⟩ := I.fr
        have lk : ∃ tb, PySem.W.Looks (model X.prog X.w) s.heap (typeOf u) tb ∧ PySem.W.notFirst X.K (L.cA c') tb = true := by
          have ty' := ty
          cases ty with
          | @ins bd cn2 dxy n2 vs2 ds2 f1 f2 f3 =>
            have e : n2 = c' := of_decide_eq_true hy
            subst e
            obtain ⟨mB, J', _⟩ := ins_get I.hok (rp.sub _ _ f1)
            obtain ⟨od', J', _⟩ := J'.look
            have ry' : u = Value.ref bd := ry
            subst ry'
            exact ⟨_, J'.type, by simp [PySem.W.notFirst]⟩
          | @tup bd vs2 ds2 f1 f2 =>
            have ry' : u = Value.ref bd := ry
            subst ry'
            refine ⟨.type "tuple", ?_, hK ▸ ok.tup⟩
            have cls : ∃ o, s.heap.get? bd = some o ∧ o.cls = .type "tuple" := by
              rcases f1 with e | ⟨o, its, n3, k1, k2, k3, _⟩ | ⟨o, e, kc, _⟩
              · obtain ⟨_, its, _, ob, k1, k2, _⟩ := (show ObjOk X.prog X.w H s.heap bd (.tup vs2) from I.hok bd _ (rp.sub _ _ e.2))
                exact ⟨ob, k1, k2⟩
              · exact ⟨o, I.kIn _ _ (hK ▸ k1), k2⟩
              · obtain ⟨k1, _⟩ := (show ObjOk X.prog X.w H s.heap bd (.frz o (.tup vs2)) from I.hok bd _ (rp.sub _ _ e))
                exact ⟨o, k1, kc⟩
            obtain ⟨o, k1, k2⟩ := cls
            exact fun A Q E s k q => wpAny_typeOf_ref (k _ _ k1) (by rw [k2]; exact q)
          | _ => cases hy
        obtain ⟨tb, lk, nf⟩ := lk
        refine PySem.W.cmp_K (op := .Eq) (tb := tb) hu hF I.ok.mod.kin J lk nf (hK ▸ ok.fnd) (hK ▸ ok.fn) ?_
        have run := cg (fun _ _ _ _ => False) pins s σ H (List.replicate σ.length none) g [.ref ad, u] [] [.ref ad, y] [] [.ins c' ds, dy] [] (fun v H' => ∃ b, v = .bl b ∧ Q v H') L2.takes0 I (.cons rfl (.cons ry .nil)) .nil rfl rfl
        have w1 : (m ([.ins c' ds, dy] ++ [])).wpB g.bud (Wn L DenT g H fun v H' => ∃ b, v = .bl b ∧ Q v H') (XW L (fun _ _ _ _ => False) g σ H) := by
          rw [List.append_nil]
          refine M.wpB_mono (fun d b k => ?_) (fun _ _ x => x) _ _ (M.wpB_noX (E' := XW L (fun _ _ _ _ => False) g σ H) _ _ ((M.wpB_bind _ _).mp w))
          cases d with
          | bl bb =>
            intro v2 g2 H2 s2 e t2
            cases t2
            exact ⟨bb, rfl, k _ g2 H2 s2 e (.bl bb)⟩
          | _ => exact k.elim
        refine wpAny_mono (run (rep_any rp) (.cons tx' (.cons ty .nil)) .nil w1) (fun r s2 hq => ?_) fun _ _ z => z
        obtain ⟨v2, H2, I2, r2, bb, ev, q⟩ := hq
        subst ev
        have er : r = Value.bool bb := r2
        subst er
        exact ⟨.bl bb, H2, I2, rfl, q⟩
      | _ => cases hd
    · exact w.elim
  · exact w.elim
theorem noX_false {α : Type} {Q : α → Nat → Prop} {E : Ex → Nat → Prop} : ∀ {m : M α} {b : Nat}, m.noX.wpB b Q E → m.noX.wpB b Q (fun _ _ => False)
  | .ret _, _, h => h
  | .exc _, _, h => h.elim
  | .stuck, _, h => h
  | .choose _ _, 0, h => h.elim
  | .choose _ k, b + 1, h => fun i hi => noX_false (m := k i) (b := b) (h i hi)
  | .begun k, _, h => ⟨h.1, noX_false (m := k) (b := lim) h.2⟩
theorem iEqM_read {c : Nat} {m : List D → M D} {Q : VK} (h : Rd1 L DenT W (iEqM c m i j) σ H Q) : tOp (rdM L c m) (Rd1 L DenT W i) (Rd1 L DenT W j) σ H Q := by
  obtain ⟨Γ, g, rp, w⟩ := h
  refine Rd1.go rp w fun x H1 dx g1 r1 s1 t1 w => Rd1.go r1 w fun y H2 dy g2 r2 s2 t2 w => ?_
  refine ⟨Γ, g2, σ, dx, dy, r2, t1.mono s2.le s2.mu, t2, ?_⟩
  have key : (eqM c m dx dy).wpB g2.bud (fun d b => ∀ v g' H', Stp L g2 H2 g' H' → g'.bud = b → Den L g' v d → Q v H') (fun _ _ => False) := by
    have w2 := M.wpB_mono (Q' := fun d b => ∀ v g' H', Stp L g2 H2 g' H' → g'.bud = b → Den L g' v d → Q v H') (fun d b k v g' H' s e t => k v g' H' (s1.trans (s2.trans s)) e t) (fun _ _ x => x) _ _ w
    cases dx with
    | ins c' ds =>
      unfold eqM at w2 ⊢
      simp only at w2 ⊢
      split
      · rename_i hc
        rw [if_pos hc] at w2
        refine (M.wpB_bind _ _).mpr (M.wpB_mono (fun d b k => ?_) (fun _ _ x => x) _ _ (noX_false ((M.wpB_bind _ _).mp w2)))
        cases d with
        | bl bb => exact k
        | _ => exact k.elim
      · rename_i hc
        rw [if_neg hc] at w2
        exact w2.elim
    | _ => exact w2.elim
  exact key
/-- x == y, x of an own class -/
theorem de_eqM {c : Nat} {m : List D → M D} {f : Addr} (ok : EqOk L c f) (cg : CalG L X (.ref f) 2 [] m) (hK : X.K = L.K) (hu : X.A.units < cLine) (ha : DE L X i a) (hb : DE L X j b) (hm : behindInMarks .Eq b = false) : DE L X (iEqM c m i j) (.Compare a [.Eq] [b] pos) := fun W tk =>
  PE.imp (pe_cmpR (op_eqM ok cg hK hu) (ha W tk) (hb W tk) hm) fun σ H Q h => iEqM_read h
theorem dt_eqM {c : Nat} {m : List D → M D} {f : Addr} (ok : EqOk L c f) (cg : CalG L X (.ref f) 2 [] m) (hK : X.K = L.K) (hu : X.A.units < cLine) (ha : DE L X i a) (hb : DE L X j b) (hm : behindInMarks .Eq b = false) : DT L X (asB (iEqM c m i j)) (.Compare a [.Eq] [b] pos) := fun W tk => by
  refine PT.imp (pt_cmpR (op_eqM ok cg hK hu) (ha W tk) (hb W tk) hm) fun σ H Q ⟨Γ, g, r, w⟩ => iEqM_read ⟨Γ, g, r, M.wpB_mono (fun d b k v g' H' s e t => ?_) (fun _ _ x => x) _ _ ((M.wpB_bind _ _).mp w)⟩
  cases d with
  | bl c =>
    cases t
    exact ⟨c, rfl, k g' H' s e⟩
  | _ => exact k.elim
end
end DL
/-! Words for the generated texts with lambdas. -/
namespace DL
open PySem PySem.Spec PyProof.Rows L2
theorem u0 {k : Nat} {A : Around} (hr : Room k A) : A.units < cLine := by have := hr.un; omega
theorem code_of {K : PySem.W.Frag} {x qual : Str} {ps : Arguments} {body : List Stmt} {sc : Scope} {fd : FuncData} {p : He.Defn} (F : FunD K x qual ps body sc [] [] (He.fAd K p) fd) : fd.code = .ref (He.cT K p).1 := by
  obtain ⟨oc, od, dV, kV, doc, pm, an, cdv, ct, osl, rfl, lk, hcd, _⟩ := F.ex
  obtain ⟨c, rfl⟩ := He.codeIn_ref hcd
  have e : He.codeOf K p = c := He.codeOf_eq lk rfl
  show Value.ref c = .ref (He.codeOf K p)
  rw [e]
/-- the name of a lambda's code in the def x -/
abbrev lamQ (x : Str) : Str := (x ++ ".<locals>.") ++ "<lambda>"
end DL
/-! A text in a tuple of any things; x is True for any x. -/
namespace PySem.SeqAt
open PySem PySem.Spec PyProof.Rows AutoSeq1 MeetsSeq
theorem dict_eq_no_str (l : Addr) (es : Array DictEntry) (n : Nat) (dd : Option Addr) (sl : Array (Option Value)) (b : Str) (u : Tok) :
    Meets (Builtin.«dict.__eq__» ⟨[.ref l, .str b u], []⟩) (fun _ R s => s.heap.get? l = some { cls := .type "dict", dict := dd, data := .dict es n, slots := sl } ∧ R (.ok (.ret .notImplemented)) s) :=
  .of_wp fun prog w A R s h => by
    obtain ⟨hp, g, d, tk, os⟩ := s
    obtain ⟨hl, h⟩ := h
    have f1 := F.sub_str_dict
    wp_walk using wpAny_loadPart' hl
    exact ⟨_, rfl, h⟩
theorem str_eq_no_dict (b : Str) (u : Tok) (l : Addr) (es : Array DictEntry) (n : Nat) (dd : Option Addr) (sl : Array (Option Value)) :
    Meets (Builtin.«str.__eq__» ⟨[.str b u, .ref l], []⟩) (fun _ R s => s.heap.get? l = some { cls := .type "dict", dict := dd, data := .dict es n, slots := sl } ∧ R (.ok (.ret .notImplemented)) s) :=
  .of_wp fun prog w A R s h => by
    obtain ⟨hp, g, d, tk, os⟩ := s
    obtain ⟨hl, h⟩ := h
    wp_walk using wpAny_loadPart' hl, wpAny_load hl
    exact ⟨_, rfl, h⟩
section
variable {A : Around} {s : Shared}
theorem RcAt.dict_str' {l : Addr} {es : Array DictEntry} {n : Nat} {dd : Option Addr} {sl : Array (Option Value)} (b : Str) (u : Tok) (ho : s.heap.get? l = some { cls := .type "dict", dict := dd, data := .dict es n, slots := sl }) (hu : A.units < cLine) : RcAt A s (.ref l) (.str b u) false := by
  intro prog w E Q h
  refine rc_eq_decline_or (k := false) ⟨_, ho, rfl⟩ (typeIs_str s b u) (by decide) F.sub_str_dict F.slot_dict_eq F.slot_str_eq_refl ?_ ?_ ?_ (.inr hu) h
  · exact fun _ hq => call_meets F.slot_dict_eq ⟨_, ho, rfl⟩ F.entry_dict_eq (F.args_dict_eq_2 _ _) (dict_eq_no_str l es n dd sl b u) ⟨ho, hq⟩
  · exact fun _ hq => call_meets F.slot_str_eq_refl (typeIs_str s b u) F.entry_str_eq (F.args_str_eq_2 _ _) (str_eq_no_dict b u l es n dd sl) ⟨ho, hq⟩
  · exact fun _ hq => wpAny_of_eq (rfl : isSame (.ref l) (.str b u) = pure false) hq
theorem EqAt.dict_str' {l : Addr} {es : Array DictEntry} {n : Nat} {dd : Option Addr} {sl : Array (Option Value)} (b : Str) (u : Tok) (ho : s.heap.get? l = some { cls := .type "dict", dict := dd, data := .dict es n, slots := sl }) (hu : A.units < cLine) : EqAt A s (.ref l) (.str b u) false := by
  intro prog w E Q h
  unfold eqBool
  refine wpAny_holding (wpAny_ite_split (fun hab => absurd (eq_of_beq hab) nofun) fun _ => ?_)
  exact wpAny_bind (RcAt.dict_str' b u ho hu prog w E _ (wpAny_truthy_bool h))
end
end PySem.SeqAt
namespace DL
open PySem PySem.Spec PyProof.Rows L2
/-- things that a text is compared with -/
def anyD : D → Bool
  | .non | .bl _ | .int _ | .str _ | .tup _ | .lst _ | .dct _ _ => true
  | _ => false
def isTx (z : Str) : D → Bool
  | .str w => decide (w = z)
  | _ => false
def fInT (neg : Bool) : D → D → Option D
  | .str z, .tup ds => if ds.all anyD then some (.bl (if neg then !ds.any (isTx z) else ds.any (isTx z))) else none
  | _, _ => none
def eTx (z : Str) : Value → Bool
  | .str w _ => decide (w = z)
  | _ => false
section
variable {L : Lx} {X : Cx} {g : Gh} {H : Hp} {σ : L2.St}
theorem eq_any {pins : List (Addr × Obj)} {s : Shared} {A : Around} {v : V} {y : Value} {d : D} {z : Str} {u : Tok} (hK : X.K = L.K) (I : Inv X pins σ H s) (sub : ∀ a o, g.F a = some o → H a = some o) (hu : A.units < cLine) (t : Den L g v d) (r : RelV v y) (ha : anyD d = true) : SeqAt.EqAt A s y (.str z u) (eTx z y) ∧ eTx z y = isTx z d := by
  have key : ∀ {a : Addr} {b : Bool}, y = .ref a → SeqAt.EqAt A s (.ref a) (.str z u) false → isTx z d = false → SeqAt.EqAt A s y (.str z u) (eTx z y) ∧ eTx z y = isTx z d := by
    intro a b e h1 h2
    subst e
    exact ⟨h1, h2.symm⟩
  have td := t
  cases t with
  | non => cases (show y = Value.none from r); exact ⟨SeqAt.EqAt.none_str z u, rfl⟩
  | bl b => cases (show y = Value.bool b from r); exact ⟨SeqAt.EqAt.bool_str b z u, rfl⟩
  | int i => obtain ⟨t, rfl⟩ := r; exact ⟨SeqAt.EqAt.int_str i t z u, rfl⟩
  | str w =>
    obtain ⟨t, rfl⟩ := r
    have e : (w == z) = decide (w = z) := by by_cases h : w = z <;> simp [h]
    refine ⟨?_, rfl⟩
    show SeqAt.EqAt A s (.str w t) (.str z u) (decide (w = z))
    rw [← e]
    exact SeqAt.EqAt.str_str w t z u
  | @tup a vs ds e l =>
    have hq : SqT X.K H a vs := hK ▸ sqT_mono sub e.sq
    obtain ⟨its, _, pl, _⟩ := I.tuple hq
    exact key (b := false) r (SeqAt.EqAt.tuple_str z u pl hu) rfl
  | @lst a vs ds e l =>
    obtain ⟨_, its, n, _, ho⟩ := (show ObjOk X.prog X.w H s.heap a (.lst vs) from I.hok a _ (sub _ _ e))
    exact key (b := false) r (SeqAt.EqAt.list_str (items := its.toArray) z u ⟨_, ho, rfl, n, rfl⟩ hu) rfl
  | @dK a ob ks vs ds e h1 h2 =>
    obtain ⟨_, _, _, kvs, _, o, es, ep, ho, ⟨c1, _, _⟩, hd, _⟩ := (show ObjOk X.prog X.w H s.heap a (.frz ob (.dK (ks.zip vs))) from I.hok a _ (sub _ _ e))
    obtain ⟨cls, dd, dt, sl⟩ := o
    simp only at c1 hd
    subst c1 hd
    exact key (b := false) r (SeqAt.EqAt.dict_str' z u ho hu) rfl
  | @dT a ob ks vs ds e h1 h2 =>
    obtain ⟨_, _, _, kvs, _, o, es, ep, ho, ⟨c1, _, _⟩, hd, _⟩ := (show ObjOk X.prog X.w H s.heap a (.frz ob (.dT (ks.zip vs))) from I.hok a _ (sub _ _ e))
    obtain ⟨cls, dd, dt, sl⟩ := o
    simp only at c1 hd
    subst c1 hd
    exact key (b := false) r (SeqAt.EqAt.dict_str' z u ho hu) rfl
  | _ => cases ha
theorem eq_all {pins : List (Addr × Obj)} {s : Shared} {A : Around} {z : Str} {u : Tok} (hK : X.K = L.K) (I : Inv X pins σ H s) (sub : ∀ a o, g.F a = some o → H a = some o) (hu : A.units < cLine) : ∀ {vs : List V} {its : List Value} {ds : List D}, Vals vs its → DenL L g vs ds → ds.all anyD = true →
    (∀ y ∈ its, SeqAt.EqAt A s y (.str z u) (eTx z y)) ∧ its.any (eTx z) = ds.any (isTx z)
  | _, _, _, .nil, .nil, _ => ⟨fun y h => by simp at h, rfl⟩
  | _, _, _, .cons r rr, .cons t l, h => by
    rw [List.all_cons, Bool.and_eq_true] at h
    obtain ⟨h1, h2⟩ := eq_any (z := z) (u := u) hK I sub hu t r h.1
    obtain ⟨h3, h4⟩ := eq_all (z := z) (u := u) hK I sub hu rr l h.2
    refine ⟨fun y hy => ?_, by rw [List.any_cons, List.any_cons, h2, h4]⟩
    rcases List.mem_cons.mp hy with rfl | hy
    · exact h1
    · exact h3 y hy
theorem od_inT (hK : X.K = L.K) (hu : X.A.units + 1 < cLine) : OpD L X (compareOp .In) (fInT false) ∧ OpD L X (compareOp .NotIn) (fInT true) := by
  constructor
  all_goals
    intro pins st σ H x y v u Q I rx ry ⟨Γ, g, σ', dx, dy, d, rp, vx, vy, e, w⟩
    unfold fInT at e
    split at e
    · rename_i z ds
      split at e
      · rename_i ha
        cases e
        have ex := vx.str
        subst ex
        obtain ⟨t, rfl⟩ := rx
        obtain ⟨a, vs, rfl, h1, l1, _⟩ := vy.tup rp.sub
        cases ry
        obtain ⟨its, r, pl, _⟩ := I.tuple (hK ▸ h1)
        obtain ⟨k1, k2⟩ := eq_all (A := X.A.in1) (z := z) (u := t) hK I rp.sub hu r l1 ha
        have fin : ∀ b : Bool, b = (ds.any (isTx z)) → (∀ k : Bool, Wn L DenT g H Q (.bl k) g.bud → EP X pins σ Q (.bool k) st) := fun b _ k w => ⟨.bl k, H, I, rfl, w _ g H (Stp.refl rp) rfl (.bl k)⟩
        first
          | exact SeqAt.in_tupleAt (eTx z) pl (fun y hy => k1 y (by simpa using hy)) (by rw [show its.toArray.any (eTx z) = ds.any (isTx z) by rw [← k2]; simp]; exact fin _ rfl _ w)
          | exact SeqAt.notIn_tupleAt (eTx z) pl (fun y hy => k1 y (by simpa using hy)) (by rw [show its.toArray.any (eTx z) = ds.any (isTx z) by rw [← k2]; simp]; exact fin _ rfl _ w)
      · cases e
    · cases e
/-- x is True, x of any kind but a truth value -/
def fIsT : D → D → Option D
  | .non, .bl _ | .int _, .bl _ | .str _, .bl _ | .tup _, .bl _ | .lst _, .bl _ | .dct _ _, .bl _ => some (.bl false)
  | _, _ => none
theorem od_isT : OpD L X (compareOp .Is) fIsT := by
  intro pins st σ H x y v u Q I rx ry ⟨Γ, g, σ', dx, dy, d, rp, vx, vy, e, w⟩
  have hy : ∃ b, dy = .bl b ∧ d = .bl false := by
    unfold fIsT at e
    split at e <;> first
      | exact ⟨_, rfl, (Option.some.inj e).symm⟩
      | cases e
  obtain ⟨b, rfl, rfl⟩ := hy
  have ey := vy.bl
  subst ey
  have eu : u = Value.bool b := ry
  subst eu
  have nb : ∀ k, v ≠ Value.bool k := by
    intro k ev
    subst ev
    have hx : x = .bl k := by
      cases x <;> first
        | (cases rx; rfl)
        | (obtain ⟨t, ht⟩ := rx; cases ht)
        | cases rx
    subst hx
    cases dx <;> first
      | (rcases vx with h | ⟨_, _, _, e1, _⟩ | ⟨_, _, _, e1, _⟩ <;> first | (cases h; done) | (cases e1; done))
      | (cases e; done)
  have fin : EP X pins σ Q (.bool false) st := ⟨.bl false, H, I, rfl, w _ g H (Stp.refl rp) rfl (.bl false)⟩
  have pl : plainIs v (.bool b) = true := by
    cases x <;> first
      | (cases rx; rfl)
      | (obtain ⟨t, rfl⟩ := rx; rfl)
  exact wpAny_is_other pl (nb b) fin
def fInX := orD fInA (fInT false)
def fNotInX := orD fNotIn (fInT true)
def fIsX := orD fIs fIsT
theorem od_inX (hK : X.K = L.K) (hu : X.A.units + 65 < cLine) : OpD L X (compareOp .In) fInX := (od_inA hK hu).or (od_inT hK (by omega)).1
theorem od_notInX (hK : X.K = L.K) (hu : X.A.units + 65 < cLine) : OpD L X (compareOp .NotIn) fNotInX := (od_notInA hK hu).or (od_inT hK (by omega)).2
theorem od_isX : OpD L X (compareOp .Is) fIsX := od_is.or od_isT
end
end DL
/-! A thing of any kind in a list or a tuple of texts. -/
namespace PySem.SeqAt
open PySem PySem.Spec PyProof.Rows AutoSeq1 MeetsSeq
section
variable {A : Around} {s : Shared}
theorem RcAt.str_dict' {l : Addr} {es : Array DictEntry} {n : Nat} {dd : Option Addr} {sl : Array (Option Value)} (b : Str) (u : Tok) (ho : s.heap.get? l = some { cls := .type "dict", dict := dd, data := .dict es n, slots := sl }) (hu : A.units < cLine) : RcAt A s (.str b u) (.ref l) false := by
  intro prog w E Q h
  refine rc_eq_decline_or (k := false) (typeIs_str s b u) ⟨_, ho, rfl⟩ (by decide) F.sub_dict_str F.slot_str_eq F.slot_dict_eq_refl ?_ ?_ ?_ (.inr hu) h
  · exact fun _ hq => call_meets F.slot_str_eq (typeIs_str s b u) F.entry_str_eq (F.args_str_eq_2 _ _) (str_eq_no_dict b u l es n dd sl) ⟨ho, hq⟩
  · exact fun _ hq => call_meets F.slot_dict_eq_refl ⟨_, ho, rfl⟩ F.entry_dict_eq (F.args_dict_eq_2 _ _) (dict_eq_no_str l es n dd sl b u) ⟨ho, hq⟩
  · exact fun _ hq => wpAny_of_eq (rfl : isSame (.str b u) (.ref l) = pure false) hq
theorem EqAt.str_dict' {l : Addr} {es : Array DictEntry} {n : Nat} {dd : Option Addr} {sl : Array (Option Value)} (b : Str) (u : Tok) (ho : s.heap.get? l = some { cls := .type "dict", dict := dd, data := .dict es n, slots := sl }) (hu : A.units < cLine) : EqAt A s (.str b u) (.ref l) false := by
  intro prog w E Q h
  unfold eqBool
  refine wpAny_holding (wpAny_ite_split (fun hab => absurd (eq_of_beq hab) nofun) fun _ => ?_)
  exact wpAny_bind (RcAt.str_dict' b u ho hu prog w E _ (wpAny_truthy_bool h))
end
end PySem.SeqAt
namespace DL
open PySem PySem.Spec PyProof.Rows L2
section
variable {L : Lx} {X : Cx} {g : Gh} {H : Hp} {σ : L2.St}
theorem eq_anyR {pins : List (Addr × Obj)} {s : Shared} {A : Around} {v : V} {y : Value} {d : D} {z : Str} {u : Tok} (hK : X.K = L.K) (I : Inv X pins σ H s) (sub : ∀ a o, g.F a = some o → H a = some o) (hu : A.units < cLine) (t : Den L g v d) (r : RelV v y) (ha : anyD d = true) : SeqAt.EqAt A s (.str z u) y (isTx z d) := by
  cases t with
  | non => cases (show y = Value.none from r); exact SeqAt.EqAt.str_none z u
  | bl b => cases (show y = Value.bool b from r); exact SeqAt.EqAt.str_bool z u b
  | int i => obtain ⟨t, rfl⟩ := r; exact SeqAt.EqAt.str_int z u i t
  | str w =>
    obtain ⟨t, rfl⟩ := r
    have e : (z == w) = decide (w = z) := by rw [Bool.eq_iff_iff, beq_iff_eq, decide_eq_true_eq]; exact eq_comm
    show SeqAt.EqAt A s (.str z u) (.str w t) (decide (w = z))
    rw [← e]
    exact SeqAt.EqAt.str_str z u w t
  | @tup a vs ds e l =>
    have hq : SqT X.K H a vs := hK ▸ sqT_mono sub e.sq
    obtain ⟨its, _, pl, _⟩ := I.tuple hq
    cases (show y = Value.ref a from r)
    exact SeqAt.EqAt.str_tuple z u pl hu
  | @lst a vs ds e l =>
    obtain ⟨_, its, n, _, ho⟩ := (show ObjOk X.prog X.w H s.heap a (.lst vs) from I.hok a _ (sub _ _ e))
    cases (show y = Value.ref a from r)
    exact SeqAt.EqAt.str_list (items := its.toArray) z u ⟨_, ho, rfl, n, rfl⟩ hu
  | @dK a ob ks vs ds e h1 h2 =>
    obtain ⟨_, _, _, kvs, _, o, es, ep, ho, ⟨c1, _, _⟩, hd, _⟩ := (show ObjOk X.prog X.w H s.heap a (.frz ob (.dK (ks.zip vs))) from I.hok a _ (sub _ _ e))
    obtain ⟨cls, dd, dt, sl⟩ := o
    simp only at c1 hd
    subst c1 hd
    cases (show y = Value.ref a from r)
    exact SeqAt.EqAt.str_dict' z u ho hu
  | @dT a ob ks vs ds e h1 h2 =>
    obtain ⟨_, _, _, kvs, _, o, es, ep, ho, ⟨c1, _, _⟩, hd, _⟩ := (show ObjOk X.prog X.w H s.heap a (.frz ob (.dT (ks.zip vs))) from I.hok a _ (sub _ _ e))
    obtain ⟨cls, dd, dt, sl⟩ := o
    simp only at c1 hd
    subst c1 hd
    cases (show y = Value.ref a from r)
    exact SeqAt.EqAt.str_dict' z u ho hu
  | _ => cases ha
theorem eq_vwR {pins : List (Addr × Obj)} {s : Shared} {A : Around} {v : V} {y : Value} {d : D} {z : Str} {u : Tok} (hK : X.K = L.K) (I : Inv X pins σ H s) (sub : ∀ a o, g.F a = some o → H a = some o) (hu : A.units < cLine) (t : Vw L g H v d) (r : RelV v y) (ha : anyD d = true) : SeqAt.EqAt A s (.str z u) y (isTx z d) := by
  rcases t with h | ⟨p, vs, ds, rfl, rfl, hp, _, _⟩ | ⟨p, t, kvs, rfl, rfl, _, hd⟩
  · exact eq_anyR hK I sub hu h r ha
  · obtain ⟨_, its, n, _, ho⟩ := (show ObjOk X.prog X.w H s.heap p (.lst vs) from I.hok p _ hp)
    cases (show y = Value.ref p from r)
    exact SeqAt.EqAt.str_list (items := its.toArray) z u ⟨_, ho, rfl, n, rfl⟩ hu
  · cases (show y = Value.ref p from r)
    rcases hd with ⟨ks, vs, ds, hp, _⟩ | ⟨ks, vs, ds, hp, _⟩
    · obtain ⟨_, _, kvs', _, o, es, ep, ho, ⟨c1, _, _⟩, hd, _⟩ := (show ObjOk X.prog X.w H s.heap p (.dK (ks.zip vs)) from I.hok p _ hp)
      obtain ⟨cls, dd, dt, sl⟩ := o
      simp only at c1 hd
      subst c1 hd
      exact SeqAt.EqAt.str_dict' z u ho hu
    · obtain ⟨_, _, kvs', _, o, es, ep, ho, ⟨c1, _, _⟩, hd, _⟩ := (show ObjOk X.prog X.w H s.heap p (.dT (ks.zip vs)) from I.hok p _ hp)
      obtain ⟨cls, dd, dt, sl⟩ := o
      simp only at c1 hd
      subst c1 hd
      exact SeqAt.EqAt.str_dict' z u ho hu
def txOf (x : D) : D → Bool
  | .str z => isTx z x
  | _ => false
def isStr : D → Bool
  | .str _ => true
  | _ => false
def eV (x : D) : Value → Bool
  | .str z _ => isTx z x
  | _ => false
/-- x in xs, x of any kind, xs texts -/
def fInL (neg : Bool) : D → D → Option D
  | x, .lst ds => if (anyD x && ds.all isStr) = true then some (.bl (if neg then !ds.any (txOf x) else ds.any (txOf x))) else none
  | x, .tup ds => if (anyD x && ds.all isStr) = true then some (.bl (if neg then !ds.any (txOf x) else ds.any (txOf x))) else none
  | _, _ => none
theorem texts_at {x : D} : ∀ {vs : List V} {its : List Value} {ds : List D}, Vals vs its → DenL L g vs ds → ds.all isStr = true → (∀ y ∈ its, ∃ z u, y = Value.str z u) ∧ its.any (eV x) = ds.any (txOf x)
  | _, _, _, .nil, .nil, _ => ⟨fun y h => by simp at h, rfl⟩
  | _, _, _, .cons r rr, .cons (d := d) t l, h => by
    rw [List.all_cons, Bool.and_eq_true] at h
    obtain ⟨h3, h4⟩ := texts_at (x := x) rr l h.2
    cases t with
    | str z =>
      obtain ⟨u, rfl⟩ := r
      refine ⟨fun y hy => ?_, by rw [List.any_cons, List.any_cons, h4]; rfl⟩
      rcases List.mem_cons.mp hy with rfl | hy
      · exact ⟨z, u, rfl⟩
      · exact h3 y hy
    | _ => cases h.1
theorem od_inL (hK : X.K = L.K) (hu : X.A.units + 1 < cLine) : OpD L X (compareOp .In) (fInL false) ∧ OpD L X (compareOp .NotIn) (fInL true) := by
  constructor
  all_goals
    intro pins st σ H x y v u Q I rx ry ⟨Γ, g, σ', dx, dy, d, rp, vx, vy, e, w⟩
    have fin : ∀ k : Bool, Wn L DenT g H Q (.bl k) g.bud → EP X pins σ Q (.bool k) st := fun k w => ⟨.bl k, H, I, rfl, w _ g H (Stp.refl rp) rfl (.bl k)⟩
    have eqs : ∀ its : List Value, anyD dx = true → (∀ y ∈ its, ∃ z u, y = Value.str z u) → ∀ y, y ∈ its.toArray → SeqAt.EqAt X.A.in1 st y v (eV dx y) := fun its ha h y hy => by
      obtain ⟨z, t, rfl⟩ := h y (by simpa using hy)
      exact eq_vwR (A := X.A.in1) hK I rp.sub hu vx rx ha
    unfold fInL at e
    split at e
    · split at e
      · rename_i ds hc
        cases e
        rw [Bool.and_eq_true] at hc
        obtain ⟨a, vs, rfl, h1, l1⟩ := vy.lst rp.sub
        obtain ⟨_, its, n, r, ho⟩ := (show ObjOk X.prog X.w H st.heap a (.lst vs) from I.hok a _ h1)
        cases (show u = Value.ref a from ry)
        obtain ⟨k1, k2⟩ := texts_at (x := dx) r l1 hc.2
        have k3 : its.toArray.any (eV dx) = ds.any (txOf dx) := by rw [← k2]; simp
        first
          | exact SeqAt.in_listAt (items := its.toArray) (eV dx) ⟨_, ho, rfl, n, rfl⟩ (eqs its hc.1 k1) (by rw [k3]; exact fin _ w)
          | exact SeqAt.notIn_listAt (items := its.toArray) (eV dx) ⟨_, ho, rfl, n, rfl⟩ (eqs its hc.1 k1) (by rw [k3]; exact fin _ w)
      · cases e
    · split at e
      · rename_i ds hc
        cases e
        rw [Bool.and_eq_true] at hc
        obtain ⟨a, vs, rfl, h1, l1, _⟩ := vy.tup rp.sub
        cases (show u = Value.ref a from ry)
        obtain ⟨its, r, pl, _⟩ := I.tuple (hK ▸ h1)
        obtain ⟨k1, k2⟩ := texts_at (x := dx) r l1 hc.2
        have k3 : its.toArray.any (eV dx) = ds.any (txOf dx) := by rw [← k2]; simp
        first
          | exact SeqAt.in_tupleAt (eV dx) pl (eqs its hc.1 k1) (by rw [k3]; exact fin _ w)
          | exact SeqAt.notIn_tupleAt (eV dx) pl (eqs its hc.1 k1) (by rw [k3]; exact fin _ w)
      · cases e
    · cases e
def fInY := orD fInX (fInL false)
def fNotInY := orD fNotInX (fInL true)
theorem od_inY (hK : X.K = L.K) (hu : X.A.units + 65 < cLine) : OpD L X (compareOp .In) fInY := (od_inX hK hu).or (od_inL hK (by omega)).1
theorem od_notInY (hK : X.K = L.K) (hu : X.A.units + 65 < cLine) : OpD L X (compareOp .NotIn) fNotInY := (od_notInX hK hu).or (od_inL hK (by omega)).2
end
end DL
/-! dict(t) of a tuple of pairs whose keys are tuples. -/
namespace DL
open PySem PySem.Spec PyProof.Rows L2
theorem stored_nodup {K : Type} [DecidableEq K] : ∀ (ps acc : List (K × Addr × Value)), ((acc ++ ps).map (·.1)).Nodup → storedAllH acc ps = acc ++ ps
  | [], acc, _ => by simp [storedAllH]
  | p :: ps, acc, h => by
    have e : storedAllH acc (p :: ps) = storedAllH (storedH acc p.1 p.2.1 p.2.2) ps := rfl
    have hn : atKey acc p.1 = none := atKey_none_of_get fun j z ej => by
      rw [List.map_append, List.nodup_append] at h
      exact h.2.2 _ (List.mem_map.mpr ⟨_, List.mem_of_getElem? ej, rfl⟩) _ (List.mem_map.mpr ⟨p, List.mem_cons_self, rfl⟩) rfl
    rw [e, storedH_new hn, stored_nodup ps _ (by rw [List.append_assoc]; exact h), List.append_assoc]
    rfl
section
variable {X : Cx}
theorem pairsT_of {pins : List (Addr × Obj)} {s : Shared} {σ : L2.St} {H : Hp} (I : Inv X pins σ H s) : ∀ {ps : List Addr} {kvs : List (List Key × V)}, Paired (fun p (kv : List Key × V) => ∃ b, SqT X.K H p [.ref b, kv.2] ∧ H b = some (.tup (kv.1.map kV))) ps kvs →
    ∃ xs : List (List Key × Addr × Value), Paired (fun (p : List Key × V) (q : List Key × Addr × Value) => p.1 = q.1 ∧ H q.2.1 = some (.tup (p.1.map kV)) ∧ RelV p.2 q.2.2) kvs xs ∧ xs.length = ps.length ∧
      ∀ (j : Nat) (q : List Key × Addr × Value), xs[j]? = some q → ∃ p, ps[j]? = some p ∧ s.heap.IsTuple p #[.ref q.2.1, q.2.2]
  | [], [], .nil => ⟨[], .nil, rfl, fun j q e => by simp at e⟩
  | p :: ps, kv :: kvs, .cons ⟨b, hq, hb⟩ t => by
    obtain ⟨xs, h1, h2, h3⟩ := pairsT_of I t
    obtain ⟨its, r, pl, _⟩ := I.tuple hq
    obtain ⟨u1, u2, rfl⟩ : ∃ u1 u2, its = [u1, u2] := by
      have := r.length
      match its, this with
      | [a, b], _ => exact ⟨a, b, rfl⟩
    cases r with
    | cons r1 r =>
      cases r with
      | cons r2 _ =>
        cases (show u1 = Value.ref b from r1)
        refine ⟨(kv.1, b, u2) :: xs, .cons ⟨rfl, hb, r2⟩ h1, by rw [List.length_cons, List.length_cons, h2], fun j q e => ?_⟩
        cases j with
        | zero =>
          obtain rfl : (kv.1, b, u2) = q := by simpa using e
          exact ⟨p, rfl, pl⟩
        | succ j => exact h3 j q (by simpa using e)
/-- dict(x), x a list or a tuple of pairs, all keys different -/
theorem dict_core {pins : List (Addr × Obj)} {s : Shared} {σ : L2.St} {H : Hp} {a : Addr} {T : String} {Q : VK} {ps : List Addr} {kvs : List (List Key × V)} (P : ∀ (items : Array Value) (Ts : Nat → Addr) (l : List (Value × Value)), PairArg X.prog X.w T a (a :: (List.range l.length).map Ts) [] l.length (PairRel l) (fun h => PlainSeq T h a items ∧ PairItems h items Ts l))
    (hcalm : X.calm = true) (hu : X.A.units + 2 < cLine) (I : Inv X pins σ H s) (pl : PlainSeq T s.heap a (ps.map Value.ref).toArray) (hz : ps.length ≤ sizeLine)
    (hp : Paired (fun p (kv : List Key × V) => ∃ b, SqT X.K H p [.ref b, kv.2] ∧ H b = some (.tup (kv.1.map kV))) ps kvs) (hn : (kvs.map (·.1)).Nodup) (q : ∀ p, H p = none → Q (.ref p) (upd H p (.dT kvs))) :
    wpAny (model X.prog X.w) X.A (call (.type "dict") [.ref a]) (EP X pins σ Q) X.xe s := by
  obtain ⟨ys, k1, k2, k3⟩ := pairsT_of I hp
  have ek : ys.map (·.1) = kvs.map (·.1) := by
    have go : ∀ {kvs : List (List Key × V)} {ys : List (List Key × Addr × Value)}, Paired (fun (p : List Key × V) (q : List Key × Addr × Value) => p.1 = q.1 ∧ H q.2.1 = some (.tup (p.1.map kV)) ∧ RelV p.2 q.2.2) kvs ys → ys.map (·.1) = kvs.map (·.1) := by
      intro kvs ys h
      induction h with
      | nil => rfl
      | cons h _ ih => rw [List.map_cons, List.map_cons, ih, h.1]
    exact go k1
  have km : ∀ {kvs : List (List Key × V)} {ys : List (List Key × Addr × Value)}, Paired (fun (p : List Key × V) (q : List Key × Addr × Value) => p.1 = q.1 ∧ H q.2.1 = some (.tup (p.1.map kV)) ∧ RelV p.2 q.2.2) kvs ys → ∀ y ∈ ys, H y.2.1 = some (.tup (y.1.map kV)) := by
    intro kvs ys h
    induction h with
    | nil => exact fun y hy => by simp at hy
    | cons h _ ih =>
      intro y hy
      rcases List.mem_cons.mp hy with rfl | hy
      · rw [← h.1]; exact h.2.1
      · exact ih y hy
  have big : ∀ b ob, s.heap.get? b = some ob → b ≠ s.heap.objs.size := fun b ob e => Nat.ne_of_lt (Heap.lt_size e)
  refine call_dict_pairsH (knd := tupleKind (mixKind X.prog X.w)) (ps := ys) (P (ps.map Value.ref).toArray (fun j => ps.getD j 0) (ys.map fun y => (Value.ref y.2.1, y.2.2))) (I.ok.hd hcalm) (by show X.A.units + 1 + 1 < cLine; omega) ⟨pl, ?_, ?_⟩ ⟨by rw [List.length_map], ?_⟩ ?_ (by rw [List.length_map, k2]; exact hz) ?_
  · simp [k2]
  · intro j k v e
    rw [List.getElem?_map] at e
    obtain ⟨y, ey, e⟩ := Option.map_eq_some_iff.mp e
    cases e
    obtain ⟨p, ep, tp⟩ := k3 j y ey
    refine ⟨?_, .inl ?_⟩
    · simp [ep]
    · show s.heap.IsTuple (ps.getD j 0) _
      rw [show ps.getD j 0 = p by simp [ep]]
      exact tp
  · intro i key v e
    rw [show PairRel (ys.map fun y => (Value.ref y.2.1, y.2.2)) i key v = ((ys.map fun y => (Value.ref y.2.1, y.2.2))[i]? = some (key, v)) from rfl, List.getElem?_map] at e
    obtain ⟨y, ey, e⟩ := Option.map_eq_some_iff.mp e
    cases e
    exact ⟨y.1, y.2.1, ey, rfl⟩
  · intro h' hk y hy
    have I' : Inv X pins σ H { s with heap := h' } := I.kept (t' := s.toks) fun b ob e => hk b ob (big b ob e) (by simp) e
    exact key_of I'.hok (km k1 y hy)
  · intro h' tk hd' k
    rw [stored_nodup ys [] (by rw [List.nil_append, ek]; exact hn), List.nil_append] at hd'
    obtain ⟨od, es, ep, g1, g2, g3, g4, _, g6⟩ := hd'
    have hm : (s.heap.objs.size == sysModules) = false := beq_eq_false_iff_ne.mpr (Nat.ne_of_gt I.big)
    have hf : H s.heap.objs.size = none := I.hok.fresh (Nat.le_refl _)
    have hl : kvs.length ≤ sizeLine := by rw [k1.length, k2]; exact hz
    refine ⟨.ref s.heap.objs.size, upd H s.heap.objs.size (.dT kvs), I.laid (t' := tk) (fun b ob e => k b ob (by simp) e) (Nat.le_refl _) (show ObjOk X.prog X.w _ _ _ (.dT kvs) from ⟨hl, hm, ys, L2.Paired.mapP k1 fun p y hy => ⟨hy.1, ?_, hy.2.2⟩, od, es, ep, g1, g2, g3, g4, g6⟩), rfl, q _ hf⟩
    rw [upd_ne (ne_of_none hy.2.1 hf)]
    exact hy.2.1
end
end DL
/-! t.index(x): a tuple with a known object. -/
namespace DL
open PySem PySem.Spec L2
section
variable {L : Lx} {X : Cx} {pos apos : Pos} {i j : IE} {a b : Expr}
def tyTup (gt : List Addr) (K : PySem.W.Frag) (x : V) (H : Hp) : Prop := ∃ p xs, x = .ref p ∧ SqD true gt K H p xs
theorem ty_tup {gt : List Addr} : TyOk X "tuple" (tyTup gt X.K) := by
  intro pins σ H s x v I r ty
  obtain ⟨p, xs, rfl, h⟩ := ty
  cases r
  rcases h with ⟨z, _⟩ | ⟨o, its, n, h1, h2, h3, h4, h5, h6⟩ | ⟨o, h1, h2, h3, _⟩
  · cases z
  · have g := I.kIn p o h1
    exact ⟨⟨o, g, h2⟩, fun b e => by cases e; exact ⟨o, g, h5.1⟩⟩
  · have g : s.heap.get? p = some o := (show ObjOk X.prog X.w H s.heap p (.frz o (.tup xs)) from I.hok p _ h1).1
    exact ⟨⟨o, g, h2⟩, fun b e => by cases e; exact ⟨o, g, h3⟩⟩
theorem idx_at {zs : List Str} {z : Str} (h : z ∈ zs) : zs[zs.idxOf z]? = some z := by
  have hl : zs.idxOf z < zs.length := List.findIdx_lt_length_of_exists ⟨z, h, beq_self_eq_true z⟩
  have e : (zs[zs.idxOf z] == z) = true := List.findIdx_getElem (w := hl)
  rw [List.getElem?_eq_getElem hl, LawfulBEq.eq_of_beq e]
theorem idx_before {zs : List Str} {z : Str} {m : Nat} (h : m < zs.idxOf z) : zs[m]? ≠ some z := fun e => by
  obtain ⟨hm, e⟩ := List.getElem?_eq_some_iff.mp e
  have q := List.not_of_lt_findIdx (p := fun x => x == z) (xs := zs) h
  rw [e] at q
  simp at q
def fIdx : D → D → Option D
  | .tup ds, .str z => (strsD ds).bind fun zs => if z ∈ zs then some (.int (zs.idxOf z : Nat)) else none
  | _, _ => none
def iIdx (i j : IE) : IE := fun Γ => (i Γ).bind fun x => match x with
  | .tup ds => (j Γ).bind fun y => match fIdx (.tup ds) y with
    | some d => .ret d
    | none => .stuck
  | _ => .stuck
theorem de_index (hK : X.K = L.K) (hf : L.fz = true) (ha : DE L X i a) (hb : DE L X j b)
    (hbase : attributeBase a "index" X.env (eval a X.env) = eval a X.env := by rfl)
    (hfew : ((backTo pos (starEach [b] X.env)).all (fun x => !x.1) && (backToKw pos (keywordEach [] X.env)).all (fun x => x.1.isSome)
      && decide ([b].length + ([] : List Keyword).length + (if ([] : List Keyword).isEmpty then 0 else 1) < 30)) = true := by rfl)
    (hline : (apos.endLine == pos.line) = true := by rfl) (hs : starEach [b] X.env = (false, eval b X.env) :: starEach [] X.env := by rfl) (hplain : (backTo pos (starEach [] X.env)).any (·.1) = false := by rfl) :
    DE L X (iIdx i j) (.Call (.Attribute a "index" apos) [b] [] pos) := fun W tk => by
  refine PE.imp (pe_mG (ty_tup (gt := L.gt)) PySem.F.plainAttrs_tuple PySem.F.slot_tuple_index PySem.F.type_tuple_index mt_tup_index (ha W tk) (pa_cons (hb W tk) pa_nil hs) hbase hfew hline hs hplain) fun σ H Q ⟨Γ, g, rp, w⟩ => ?_
  refine Rd1.go rp w fun x H1 dx g1 r1 s1 t1 w => ?_
  cases dx with
  | tup ds =>
    cases id t1 with
    | @tup p vs _ e l =>
      refine ⟨⟨p, vs, rfl, hK ▸ hf ▸ e.mono r1.sub⟩, Rd1.go r1 w fun y H2 dy g2 r2 s2 t2 w => ?_⟩
      cases dy with
      | str z =>
        cases t2
        have ex : fIdx (.tup ds) (.str z) = (strsD ds).bind fun zs => if z ∈ zs then some (.int (zs.idxOf z : Nat)) else none := rfl
        rw [ex] at w
        cases hz : strsD ds with
        | none => rw [hz] at w; exact w.elim
        | some zs =>
          rw [hz, Option.bind_some] at w
          by_cases hm : z ∈ zs
          · rw [if_pos hm] at w
            have ev := l.strs hz
            refine ⟨p, zs, z, zs.idxOf z, rfl, rfl, hK ▸ ev ▸ sqT_mono r2.sub (e.mono s2.le).sq, ?_, fun m hm2 he => ?_, w _ g2 H2 (s1.trans s2) rfl (.int _)⟩
            · exact idx_at hm
            · exact idx_before hm2 he
          · rw [if_neg hm] at w; exact w.elim
      | _ => exact w.elim
  | _ => exact w.elim
end
end DL
/-! a list or a tuple of any things, compared with an empty one. -/
namespace DL
open PySem PySem.Spec L2
section
variable {L : Lx} {X : Cx}
def fEmp (neg : Bool) : D → D → Option D
  | .tup xs, .tup [] => some (.bl (if neg then !xs.isEmpty else xs.isEmpty))
  | .lst xs, .lst [] => some (.bl (if neg then !xs.isEmpty else xs.isEmpty))
  | _, _ => none
theorem od_emp (hK : X.K = L.K) (hu : X.A.units + 1 < cLine) : OpD L X (compareOp .Eq) (fEmp false) ∧ OpD L X (compareOp .NotEq) (fEmp true) := by
  have sz : ∀ {its : List Value} {vs : List V} {ds : List D} {g : Gh}, Vals vs its → DenL L g vs ds → its.toArray.size = ds.length := fun r l => by
    rw [List.size_toArray, ← r.length, l.length]
  constructor
  all_goals
    intro pins st σ H x y v u Q I rx ry ⟨Γ, g, σ', dx, dy, d, rp, vx, vy, e, w⟩
    have fin : ∀ k : Bool, Wn L DenT g H Q (.bl k) g.bud → EP X pins σ Q (.bool k) st := fun k w => ⟨.bl k, H, I, rfl, w _ g H (Stp.refl rp) rfl (.bl k)⟩
    unfold fEmp at e
    split at e
    · rename_i ds
      cases e
      obtain ⟨a, vs, rfl, h1, l1, _⟩ := vx.tup rp.sub
      obtain ⟨b, ws, rfl, h2, l2, _⟩ := vy.tup rp.sub
      cases rx
      cases ry
      obtain ⟨its, rv, p1, _⟩ := I.tuple (hK ▸ h1)
      obtain ⟨its2, rv2, p2, _⟩ := I.tuple (hK ▸ h2)
      cases l2
      cases rv2
      have hs := sz rv l1
      have q : ((List.range (min its.toArray.size ([] : List Value).toArray.size)).all (fun _ => true) && its.toArray.size == ([] : List Value).toArray.size) = ds.isEmpty := by
        rw [hs]
        cases ds <;> simp
      first
        | exact (q ▸ SeqAt.RcAt.tuples (e := fun _ => true) p1 p2 (by omega) (fun j _ h => absurd h (by simp)) : SeqAt.RcAt X.A st (.ref a) (.ref b) ds.isEmpty) X.prog X.w _ _ (fin _ w)
        | exact (q ▸ SeqAt.RcNeAt.tuples (e := fun _ => true) p1 p2 (by omega) (fun j _ h => absurd h (by simp)) : SeqAt.RcNeAt X.A st (.ref a) (.ref b) (!ds.isEmpty)) X.prog X.w _ _ (fin _ w)
    · rename_i ds
      cases e
      obtain ⟨a, vs, rfl, h1, l1⟩ := vx.lst rp.sub
      obtain ⟨b, ws, rfl, h2, l2⟩ := vy.lst rp.sub
      cases (id rx : v = Value.ref a)
      cases (id ry : u = Value.ref b)
      obtain ⟨its, rv, p1, _⟩ := I.list (.inl (.inl h1))
      obtain ⟨its2, rv2, p2, _⟩ := I.list (.inl (.inl h2))
      cases l2
      cases rv2
      have hs := sz rv l1
      by_cases z : ds = []
      · subst z
        first
          | exact (SeqAt.RcAt.lists (e := fun _ => true) p1.isList p2.isList hs (by omega) (fun j _ h => absurd h (by simp)) : SeqAt.RcAt X.A st (.ref a) (.ref b) ((List.range its.toArray.size).all fun _ => true)) X.prog X.w _ _ (by rw [hs]; exact fin _ w)
          | exact (SeqAt.RcNeAt.lists (e := fun _ => true) p1.isList p2.isList hs (by omega) (fun j _ h => absurd h (by simp)) : SeqAt.RcNeAt X.A st (.ref a) (.ref b) (!(List.range its.toArray.size).all fun _ => true)) X.prog X.w _ _ (by rw [hs]; exact fin _ w)
      · have hne : (its.toArray.size != ([] : List Value).toArray.size) = true := by
          rw [hs]
          cases ds with
          | nil => exact absurd rfl z
          | cons _ _ => rfl
        have ee : ds.isEmpty = false := by cases ds with | nil => exact absurd rfl z | cons _ _ => rfl
        rw [ee] at w
        first
          | exact SeqAt.RcAt.lists_lengths p1.isList p2.isList hne (by omega) X.prog X.w _ _ (fin _ w)
          | exact SeqAt.RcNeAt.lists_lengths p1.isList p2.isList hne (by omega) X.prog X.w _ _ (fin _ w)
    · cases e
def fEqV := orD fEq (fEmp false)
def fNeV := orD fNeD (fEmp true)
theorem od_eqV (hK : X.K = L.K) (hu : X.A.units + 64 < cLine) : OpD L X (compareOp .Eq) fEqV := (od_eq hK hu).or (od_emp hK (by omega)).1
theorem od_neV (hK : X.K = L.K) (hu : X.A.units + 64 < cLine) : OpD L X (compareOp .NotEq) fNeV := (od_ne0 hK hu).or (od_emp hK (by omega)).2
end
end DL
/-! sorted(d.items()): keys that are tuples. -/
namespace DL
open PySem PySem.Spec PyProof.Rows L2
section
variable {L : Lx} {g : Gh} {H H2 : Hp} {Γ : Env} {σ : L2.St}
theorem MOk.ext {b : Nat} {m : Addr} (h : MOk b H m) (ext : ∀ b o, H b = some o → H2 b = some o) : MOk b H2 m := by
  obtain ⟨c, l, cs, ls, at_, e1, e2, e3, r⟩ := h
  exact ⟨c, l, cs, ls, at_, ext _ _ e1, ext _ _ e2, ext _ _ e3, r⟩
theorem inM_ext (r : RndOk g H) (ext : ∀ b o, H b = some o → H2 b = some o) {b : Addr} (h : InM g.mu H2 b) : InM g.mu H b := by
  obtain ⟨m, hm, h⟩ := h
  refine ⟨m, hm, ?_⟩
  obtain ⟨c, l, cs, ls, at_, e1, _⟩ := r.2 m hm
  rcases h with h | ⟨kvs, k, h1, h2⟩
  · exact .inl h
  · rw [ext _ _ e1] at h1
    exact .inr ⟨kvs, k, e1.trans h1, h2⟩
theorem inM_here (r : RndOk g H) {b : Addr} (h : InM g.mu H b) : H b ≠ none := by
  obtain ⟨m, hm, h⟩ := h
  obtain ⟨c, l, cs, ls, at_, e1, e2, e3, _⟩ := r.2 m hm
  rcases h with rfl | ⟨kvs, k, h1, h2⟩
  · rw [e1]; simp
  · rw [e1] at h1
    cases h1
    simp only [List.mem_cons, Prod.mk.injEq, List.not_mem_nil, or_false] at h2
    rcases h2 with ⟨_, z⟩ | ⟨_, z⟩ | ⟨_, z⟩
    · cases z; rw [e2]; simp
    · cases z; rw [e3]; simp
    · cases z
/-- more is laid, and frozen, or tuples that stand are frozen -/
theorem stp_more (r : Rep L Γ g σ H) (ext : ∀ b o, H b = some o → H2 b = some o) (F2 : Hp) (nt : ∀ a ps, F2 a ≠ some (.tbl ps)) (f1 : ∀ b o, g.F b = some o → F2 b = some o) (f2 : ∀ b o, F2 b = some o → H2 b = some o) (f3 : ∀ b o, F2 b = some o → g.F b = some o ∨ H b = none ∨ Tp H b) :
    Stp L g H ⟨F2, g.mu, g.bud, nt⟩ H2 := by
  refine ⟨f1, fun _ e => e, f2, fun a o e _ n => ⟨ext a o e, fun i => n (inM_ext r.rnd ext i)⟩, fun a h => ⟨?_, fun e => ?_⟩, fun a o e i => ?_, ⟨r.rnd.1, fun m e => (r.rnd.2 m e).ext ext⟩, Nat.le_refl _, r.tab.ext ext⟩
  · cases q : H a with
    | none => exact absurd q h
    | some o => rw [ext _ _ q]; simp
  · show F2 a = none ∨ _
    cases q : F2 a with
    | none => exact .inl rfl
    | some o =>
      rcases f3 a o q with z | z | ⟨xs, z⟩
      · rw [e] at z; cases z
      · exact absurd z h
      · exact .inr ⟨xs, ext _ _ z⟩
  · have i := inM_ext r.rnd ext i
    rcases f3 a o e with z | z | ⟨xs, z⟩
    · exact r.nF _ _ z i
    · exact inM_here r.rnd i z
    · exact tup_notM r.rnd z i
end
section
variable {X : Cx} {L : Lx} {g : Gh} {H : Hp} {Γ : Env} {σ' : L2.St} {pins : List (Addr × Obj)} {σ : L2.St} {s : Shared}
/-- tuples that a run has made, tracked with their objects -/
theorem takeF {H0 : Hp} {h' : Heap} {tk : Nat} {P : Addr → Obj → List V → Prop} (I0 : Inv X pins σ H0 s) : ∀ (l : List Addr) (H1 : Hp), Inv X pins σ H1 { s with heap := h', toks := tk } → l.Nodup →
    (∀ a ∈ l, s.heap.objs.size ≤ a ∧ H1 a = none ∧ ∃ o vs, P a o vs ∧ ∀ H2, ObjOk X.prog X.w H2 h' a (.frz o (.tup vs))) →
    ∃ H2, Inv X pins σ H2 { s with heap := h', toks := tk } ∧ (∀ b o, H1 b = some o → H2 b = some o) ∧ (∀ b, b ∉ l → H2 b = H1 b) ∧ ∀ a ∈ l, ∃ o vs, P a o vs ∧ H2 a = some (.frz o (.tup vs))
  | [], H1, I1, _, _ => ⟨H1, I1, fun _ _ e => e, fun _ _ => rfl, fun _ z => nomatch z⟩
  | a :: l, H1, I1, hn, h => by
    obtain ⟨hb, h0, o, vs, hP, ok⟩ := h a List.mem_cons_self
    obtain ⟨n1, n2⟩ := List.nodup_cons.mp hn
    have I2 := I1.take (h' := h') (t' := tk) (o := .frz o (.tup vs)) (fun _ _ _ e => e) (I0.fpOk hb h0) (ok _)
    obtain ⟨H2, I3, k1, k2, k3⟩ := takeF I0 l _ I2 n2 fun c hc => by
      obtain ⟨c1, c2, c3⟩ := h c (List.mem_cons_of_mem _ hc)
      exact ⟨c1, by rw [upd_ne (fun z : c = a => n1 (by rw [← z]; exact hc))]; exact c2, c3⟩
    refine ⟨H2, I3, fun b u e => k1 b u (by rw [upd_ne fun z => by rw [z, h0] at e; cases e]; exact e), fun b hb => ?_, fun c hc => ?_⟩
    · rw [k2 b fun z => hb (List.mem_cons_of_mem _ z), upd_ne (fun z : b = a => hb (by rw [z]; exact List.mem_cons_self))]
    · rcases List.mem_cons.mp hc with rfl | hc
      · exact ⟨o, vs, hP, k1 _ _ upd_same⟩
      · exact k3 c hc
theorem at_pair {α β : Type} {R : α → β → Prop} : ∀ {l : List α} {m : List β}, Paired R l m → ∀ {j : Nat} {x : β}, m[j]? = some x → ∃ y, l[j]? = some y ∧ R y x
  | _, _, .nil, j, x, h => by simp at h
  | _, _, .cons r t, 0, x, h => ⟨_, rfl, (Option.some.inj h) ▸ r⟩
  | _, _, .cons r t, j + 1, x, h => at_pair t (j := j) (by simpa using h)
theorem nodup_at {α : Type} {l : List α} (n : l.Nodup) {i j : Nat} {a : α} (h1 : l[i]? = some a) (h2 : l[j]? = some a) : i = j := by
  obtain ⟨a1, b1⟩ := List.getElem?_eq_some_iff.mp h1
  obtain ⟨a2, b2⟩ := List.getElem?_eq_some_iff.mp h2
  have p := List.pairwise_iff_getElem.mp n
  rcases Nat.lt_trichotomy i j with q | q | q
  · exact absurd (b1.trans b2.symm) (p i j a1 a2 q)
  · exact q
  · exact absurd (b2.trans b1.symm) (p j i a2 a1 q)
def pairD (kd : List Key × D) : D := .tup [.tup (kd.1.map keyD), kd.2]
theorem notKey_kV (ks : List Key) : (ks.map kV).any notKey = false := by
  rw [List.any_map, List.any_eq_false]
  intro k _
  cases k <;> simp [kV, notKey]
/-- the pairs of a dict's items, made just now -/
theorem items_den (hz : L.fz = false) (I : Inv X pins σ H s) (rp : Rep L Γ g σ' H) {ks : List (List Key)} {vs : List V} {ds : List D} (hl : ks.length = vs.length) (l : DenL L g vs ds) {xs : List (List Key × Addr × Value)} (kt : KT H (ks.zip vs) xs) {es : Array DictEntry} (hes : es.toList = xs.map (entryOfKey (tupleKind (mixKind X.prog X.w))))
    {h' : Heap} {tk : Nat} {as : List Addr} (hk : ∀ b o, s.heap.get? b = some o → h'.get? b = some o) (hG : DT.Made es s.heap.objs.size h' as) (hn : as.length = es.size) :
    ∃ H2 g2, Inv X pins σ H2 { s with heap := h', toks := tk } ∧ Stp L g H g2 H2 ∧ g2.bud = g.bud ∧ DenL L g2 (as.map V.ref) ((ks.zip ds).map pairD) := by
  have I1 : Inv X pins σ H { s with heap := h', toks := tk } := I.kept (t' := tk) hk
  have nd : as.Nodup := List.Pairwise.imp (fun h => Nat.ne_of_lt h) hG.rise
  have hxs : xs.length = es.size := by
    have := congrArg List.length hes
    rw [List.length_map, Array.length_toList] at this
    exact this.symm
  have at_ : ∀ (j : Nat) (a : Addr), as[j]? = some a → ∃ (k : List Key) (v : V) (b : Addr) (w : Value), (ks.zip vs)[j]? = some (k, v) ∧ H b = some (.tup (k.map kV)) ∧ RelV v w ∧ h'.get? a = some { cls := .type "tuple", data := .seq #[.ref b, w] } := by
    intro j a hj
    obtain ⟨e, he, hg⟩ := hG.pairs j a hj
    have e2 : es.toList[j]? = some e := by rw [Array.getElem?_toList]; exact he
    rw [hes, List.getElem?_map] at e2
    obtain ⟨x, hx, rfl⟩ := Option.map_eq_some_iff.mp e2
    obtain ⟨p, hp, r1, r2, r3⟩ := at_pair kt hx
    obtain ⟨k, v⟩ := p
    exact ⟨k, v, x.2.1, x.2.2, hp, r2, r3, hg⟩
  obtain ⟨H2, I2, k1, k2, k3⟩ := takeF (P := fun a o ws => ∃ (j : Nat) (k : List Key) (v : V) (b : Addr), as[j]? = some a ∧ (ks.zip vs)[j]? = some (k, v) ∧ H b = some (.tup (k.map kV)) ∧ ws = [.ref b, v] ∧ o.cls = .type "tuple" ∧ o.dict = none) I as H I1 nd fun a ha => by
    obtain ⟨j, hj⟩ := List.mem_iff_getElem?.mp ha
    obtain ⟨k, v, b, w, e1, e2, e3, e4⟩ := at_ j a hj
    exact ⟨Nat.le_of_lt (hG.above a ha), I.hok.fresh (Nat.le_of_lt (hG.above a ha)), _, _, ⟨j, k, v, b, hj, e1, e2, rfl, rfl, rfl⟩, fun H2 => ⟨e4, by show 2 ≤ sizeLine; decide, [.ref b, w], .cons rfl (.cons e3 .nil), ⟨_, e4, rfl, _, rfl⟩⟩⟩
  let inK : Addr → Prop := fun b => ∃ k v, (k, v) ∈ ks.zip vs ∧ H b = some (.tup (k.map kV))
  have dec : ∀ b, Decidable (inK b) := fun b => Classical.propDecidable _
  let F2 : Hp := fun b => if b ∈ as then H2 b else @ite _ (inK b) (dec b) (H b) (g.F b)
  have fA : ∀ b, b ∈ as → F2 b = H2 b := fun b hb => if_pos hb
  have fK : ∀ b, b ∉ as → inK b → F2 b = H b := fun b hb hc => by
    show (if b ∈ as then H2 b else @ite _ (inK b) (dec b) (H b) (g.F b)) = _
    rw [if_neg hb, if_pos hc]
  have fO : ∀ b, b ∉ as → ¬ inK b → F2 b = g.F b := fun b hb hc => by
    show (if b ∈ as then H2 b else @ite _ (inK b) (dec b) (H b) (g.F b)) = _
    rw [if_neg hb, if_neg hc]
  have fresh : ∀ b ∈ as, H b = none := fun b hb => I.hok.fresh (Nat.le_of_lt (hG.above b hb))
  have three : ∀ b o, F2 b = some o → (b ∈ as ∧ H2 b = some o) ∨ (b ∉ as ∧ inK b ∧ H b = some o) ∨ (b ∉ as ∧ g.F b = some o) := fun b o e => by
    by_cases hb : b ∈ as
    · rw [fA b hb] at e; exact .inl ⟨hb, e⟩
    · by_cases hc : inK b
      · rw [fK b hb hc] at e; exact .inr (.inl ⟨hb, hc, e⟩)
      · rw [fO b hb hc] at e; exact .inr (.inr ⟨hb, e⟩)
  have nt : ∀ a ps, F2 a ≠ some (.tbl ps) := fun a ps e => by
    rcases three a _ e with ⟨hb, e⟩ | ⟨_, ⟨k, v, _, e2⟩, e⟩ | ⟨_, e⟩
    · obtain ⟨o, ws, _, e2⟩ := k3 a hb
      rw [e2] at e; cases e
    · rw [e2] at e; cases e
    · exact g.nt a ps e
  have f1 : ∀ b o, g.F b = some o → F2 b = some o := fun b o e => by
    have hH := rp.sub _ _ e
    have hb : b ∉ as := fun z => by rw [fresh b z] at hH; cases hH
    by_cases hc : inK b
    · rw [fK b hb hc]; exact hH
    · rw [fO b hb hc]; exact e
  have S := stp_more rp k1 F2 nt f1 (fun b o e => by
    rcases three b o e with ⟨_, e⟩ | ⟨_, _, e⟩ | ⟨_, e⟩
    · exact e
    · exact k1 _ _ e
    · exact k1 _ _ (rp.sub _ _ e)) fun b o e => by
    rcases three b o e with ⟨hb, _⟩ | ⟨_, ⟨k, v, _, e2⟩, _⟩ | ⟨_, e⟩
    · exact .inr (.inl (fresh b hb))
    · exact .inr (.inr ⟨_, e2⟩)
    · exact .inl e
  refine ⟨H2, ⟨F2, g.mu, g.bud, nt⟩, I2, S, rfl, ?_⟩
  have l2 := l.mono (g' := ⟨F2, g.mu, g.bud, nt⟩) f1 fun _ e => e
  have hlen : as.length = ks.length := by
    rw [hn, ← hxs, ← (Paired.length kt : (ks.zip vs).length = xs.length), List.length_zip, hl]
    omega
  -- place by place
  have one : ∀ (j : Nat) (a : Addr) (k : List Key) (d : D), as[j]? = some a → ks[j]? = some k → ds[j]? = some d → Den L ⟨F2, g.mu, g.bud, nt⟩ (.ref a) (pairD (k, d)) := by
    intro j a k d hj hkj hdj
    have ha : a ∈ as := List.mem_of_getElem? hj
    obtain ⟨o, ws, ⟨i, k', v, b, hi, hz1, hz2, rfl, oc, od⟩, e⟩ := k3 a ha
    have hij : i = j := nodup_at nd hi hj
    subst hij
    obtain ⟨z1, z2⟩ := List.getElem?_zip_eq_some.mp hz1
    rw [hkj] at z1
    have ek : k = k' := Option.some.inj z1
    subst ek
    obtain ⟨d', hd', t⟩ := l2.get' z2
    rw [hdj] at hd'
    cases hd'
    have hb : b ∉ as := fun z => by rw [fresh b z] at hz2; cases hz2
    have fb : F2 b = some (.tup (k.map kV)) := by rw [fK b hb ⟨k, v, List.mem_of_getElem? hz1, hz2⟩]; exact hz2
    have keys : ∀ l : List Key, DenL L ⟨F2, g.mu, g.bud, nt⟩ (l.map kV) (l.map keyD) := fun l => by
      induction l with
      | nil => exact .nil
      | cons x l ih =>
        refine .cons ?_ ih
        cases x with
        | inl i => exact .int i
        | inr s => exact .str s
    refine .tup (.inr (.inr ⟨o, by rw [← e]; exact fA a ha, oc, od, ?_⟩)) (.cons (.tup (.inl ⟨?_, fb⟩) (keys k)) (.cons t .nil))
    · simp [notKey]
    · rw [hz, notKey_kV]; rfl
  have go : ∀ (n : Nat) (as' : List Addr) (ks' : List (List Key)) (ds' : List D), as'.length = ks'.length → ks'.length = ds'.length → (∀ (j : Nat) (a : Addr) (k : List Key) (d : D), as'[j]? = some a → ks'[j]? = some k → ds'[j]? = some d → Den L ⟨F2, g.mu, g.bud, nt⟩ (.ref a) (pairD (k, d))) → as'.length = n →
      DenL L ⟨F2, g.mu, g.bud, nt⟩ (as'.map V.ref) ((ks'.zip ds').map pairD) := by
    intro n
    induction n with
    | zero =>
      intro as' ks' ds' h1 h2 h3 h4
      have : as' = [] := List.length_eq_zero_iff.mp h4
      subst this
      have : ks' = [] := List.length_eq_zero_iff.mp (by simpa using h1.symm)
      subst this
      exact .nil
    | succ n ih =>
      intro as' ks' ds' h1 h2 h3 h4
      cases as' with
      | nil => cases h4
      | cons a as' =>
        cases ks' with
        | nil => cases h1
        | cons k ks' =>
          cases ds' with
          | nil => cases h2
          | cons d ds' =>
            exact .cons (h3 0 a k d rfl rfl rfl) (ih as' ks' ds' (by simpa using h1) (by simpa using h2) (fun j b k' d' e1 e2 e3 => h3 (j + 1) b k' d' (by simpa using e1) (by simpa using e2) (by simpa using e3)) (by simpa using h4))
  exact go _ as ks ds hlen (hl.trans l.length) one rfl
end
end DL
/-! sorted(d.items()): over data. -/
namespace DL
open PySem PySem.Spec PyProof.Rows L2
section
variable {L : Lx} {X : Cx} {g : Gh} {i : IE} {e : Expr} {p apos cpos pos : Pos}
/-- d.m() -/
def tDM (r : V → List V → Hp → VK → Prop) (to : TE) : TE := fun σ H Q => to σ H fun x H1 => (∃ a, x = .ref a ∧ IsD H1 a) ∧ r x [] H1 Q
theorem pe_dm0 {o : Expr} {name : Str} {id : String} {to : TE} {r : V → List V → Hp → VK → Prop} (slot : PySem.Slot "dict" name id) (hty : typeOf (.builtin id) = pure (.type "method_descriptor")) (hm : MtR X id r) (ho : PE X o to)
    (hbase : attributeBase o name X.env (eval o X.env) = eval o X.env := by rfl) (hline : (apos.endLine == cpos.line) = true := by rfl) : PE X (.Call (.Attribute o name apos) [] [] cpos) (tDM r to) := by
  refine ⟨fun pins s σ H Q I h => ?_⟩
  refine wpAny_Call_method0_late hbase hline (thn (ho.run pins s σ H _ I h) fun v s1 ⟨x, H1, I1, r1, ⟨a, ex, ty⟩, q1⟩ => ?_)
  subst ex
  obtain rfl : v = Value.ref a := r1
  obtain ⟨h1, h2, _⟩ := isD_at I1 ty
  exact ⟨"dict", id, PySem.F.plainAttrs_dict, slot, hty, h1, h2, Calls.callWith_builtin rfl (PySem.evalArgs_none (hm pins s1 σ H1 (.ref a) [] _ [] Q I1 (show RelV (.ref a) (.ref a) from rfl) .nil q1))⟩
def rItemsR : V → List V → Hp → VK → Prop := fun x xs H Q => ∃ (a : Addr) (kvs : List (List Key × V)), x = .ref a ∧ xs = [] ∧ Rd H a (.dT kvs) ∧ ∀ p, H p = none → Q (.ref p) (upd H p (L2.DX.itemsO p a))
theorem mt_itemsR : MtR X "dict.items" rItemsR := by
  intro pins s σ H x xs v us Q I rx rxs h
  obtain ⟨a, kvs, rfl, rfl, ha, q⟩ := h
  cases rx
  cases rxs
  obtain ⟨z, hd, xs', rel, o, es, ep, ho, hx, hdat, _⟩ := dt_rd I.hok ha
  refine DT.callItems (es := es) (ep := ep) hd ⟨o, ho, hx, hdat⟩ ?_
  have hf : H s.heap.objs.size = none := I.hok.fresh (Nat.le_refl _)
  exact ⟨.ref s.heap.objs.size, upd H s.heap.objs.size (L2.DX.itemsO s.heap.objs.size a), I.laid (t' := s.toks) (fun b u e => Heap.get?_push_of_some _ e) (Nat.le_refl _) (L2.DX.itemsO_ok (Heap.get?_push_size _ rfl)), rfl, q _ hf⟩
def rSortD (L : Lx) : List V → Hp → VK → Prop := fun xs H Q => ∃ (Γ : Env) (g : Gh) (σ : L2.St) (q a : Addr) (ks : List (List Key)) (vs : List V) (ds : List D), Rep L Γ g σ H ∧ xs = [.ref q] ∧ H q = some (L2.DX.itemsO q a) ∧ Rd H a (.dT (ks.zip vs)) ∧ ks.length = vs.length ∧ DenL L g vs ds ∧
  okSort ((ks.zip ds).map pairD) = true ∧ ∀ v g2 H2, Stp L g H g2 H2 → g2.bud = g.bud → FrT L H g2 H2 v (.lst (sortD ((ks.zip ds).map pairD))) → Q v H2
theorem rd_new {H : Hp} {q a : Addr} {o u : HO} (nq : H q = none) (h : Rd H a u) : Rd (upd H q o) a u := by
  rcases h with h | ⟨ob, h⟩
  · exact .inl ((upd_ne (fun z => by rw [z, nq] at h; cases h)).trans h)
  · exact .inr ⟨ob, (upd_ne (fun z => by rw [z, nq] at h; cases h)).trans h⟩
theorem refs_rel : ∀ as : List Addr, Vals (as.map V.ref) (as.map Value.ref)
  | [] => .nil
  | _ :: as => .cons rfl (refs_rel as)
theorem cr_sortD (hK : X.K = L.K) (hz : L.fz = false) (hc : X.calm = true) (hu : X.A.units + 66 < cLine) : CallR X (.builtin "sorted") (rSortD L) := by
  intro pins s σ H xs us Q I r h
  obtain ⟨Γ, g, σ', q, a, ks, vs, ds, rp, ex, hq, ha, hl, l, hs, w⟩ := h
  subst ex
  obtain ⟨u, eu, ru⟩ := vals1 r
  subst eu
  cases ru
  have view : s.heap.IsItemsView q a := (show ObjOk X.prog X.w H s.heap q (L2.DX.itemsO q a) from I.hok q _ hq).1
  obtain ⟨z, hd, xs', rel, o, es, ep, ho, hx, hdat, hes, his, hn⟩ := dt_rd I.hok ha
  have l2 : es.size = xs'.length := by
    have := congrArg List.length hes
    rw [List.length_map, Array.length_toList] at this
    exact this
  have l1 : (ks.zip vs).length = xs'.length := Paired.length rel
  have esz : es.size ≤ sizeLine := by omega
  refine DT.sortedI (es := es) (ep := ep) (I.ok.hd hc) view ⟨o, ho, hx, hdat⟩ esz fun h' tk as hk hlt hln hG => ?_
  obtain ⟨H2, g2, J, S, eb, dl⟩ := items_den (tk := tk) hz I rp hl l rel hes hk hG hln
  have rp2 := rp.step S
  generalize hps : (ks.zip ds).map pairD = ps at hs dl w
  unfold okSort at hs
  simp only [Bool.and_eq_true, Bool.or_eq_true, List.all_eq_true, decide_eq_true_eq] at hs
  obtain ⟨⟨⟨h1, h2⟩, h3⟩, h4⟩ := hs
  have hpl := plL_all h1
  have hal : PySem.W.AllAlike (ps.map D.py) := fun x hx y hy => by
    obtain ⟨x', hx', rfl⟩ := List.mem_map.mp hx
    obtain ⟨y', hy', rfl⟩ := List.mem_map.mp hy
    exact h2 x' hx' y' hy'
  have hkk : PySem.W.Sortable (ps.map D.py) := by
    rcases h3 with h3 | h3
    · refine .inl fun x hx => ?_
      obtain ⟨x', hx', rfl⟩ := List.mem_map.mp hx
      have t := h3 x' hx'
      cases x' with
      | tup l => cases l with
        | nil => cases t
        | cons y l => exact ⟨y.py, D.pyL l, by simp only [D.py, D.pyL]⟩
      | _ => cases t
    · refine .inr fun x hx => ?_
      obtain ⟨x', hx', rfl⟩ := List.mem_map.mp hx
      have t := h3 x' hx'
      have t2 := hpl x' hx'
      cases x' <;> simp [isTupNon, D.pl, D.py] at t t2 ⊢
  have lps : ps.length = as.length := by rw [← dl.length, List.length_map]
  have hob : (h'.push { cls := .type "list", data := .seq (as.map Value.ref).toArray }).get? h'.objs.size = some (seqObj "list" (as.map Value.ref).toArray 0) := Heap.get?_push_size _ rfl
  have kb : ∀ b ob, h'.get? b = some ob → (h'.push { cls := .type "list", data := .seq (as.map Value.ref).toArray }).get? b = some ob := fun b ob e => Heap.get?_push_of_some _ e
  refine PySem.W.list_sort_data (s := { s with heap := h'.push { cls := .type "list", data := .seq (as.map Value.ref).toArray }, toks := tk }) (a := h'.objs.size) (n := 0) (R := fun u d => ∃ v, RelV v u ∧ Den L g2 v d) (enc := D.py) (vs := as.map Value.ref) (bs := ps) hob
    (each_of (fun v d u r t _ => ⟨v, r, t⟩) (refs_rel as) dl)
    (each_of (fun v d u r t hd => by
      obtain ⟨bs, rd⟩ := Dp.reads J d.py v u (hK ▸ t.dp rp2.sub (hpl d hd)) r
      refine ⟨bs, Reads.keeps kb rd, fun m => ?_⟩
      obtain ⟨ob, eo⟩ := PyProof.On.reads_mem_get rd _ m
      exact absurd (Heap.lt_size eo) (Nat.lt_irrefl _)) (refs_rel as) dl) hal hkk (by omega) (fun d hd => by rw [D.depth_py]; have := h4 d hd; show X.A.units + 1 + 1 + _ < cLine; omega) fun out ho eo => ?_
  rw [dLe_eq, ← isort_eq dLe_total] at eo
  obtain ⟨vs', r2, l3⟩ := of_each eo
  obtain ⟨n, hnat⟩ := PyProof.Rows.sortedHeap_at (vs := as.map Value.ref) (out := out.toArray) hob
  have nn : H2 h'.objs.size = none := J.hok.fresh (Nat.le_refl _)
  have hl2 := r2.length
  have J2 := J.laid (t' := tk) (h' := sortedHeap (h'.push { cls := .type "list", data := .seq (as.map Value.ref).toArray }) h'.objs.size (as.map Value.ref) out.toArray) (o := .lst vs') (fun b ob e => (PyProof.Rows.sortedHeap_old (Nat.ne_of_lt (Heap.lt_size e)) (Heap.lt_size (kb b ob e))).trans (kb b ob e)) (Nat.le_refl _)
    ⟨by omega, out, n, r2, hnat⟩
  exact ⟨.ref _, _, J2, rfl, w _ g2 _ (S.trans (stp_new (o := .lst vs') rp2 nn false)) eb (FrT.new rp2 S nn l3)⟩
def pairsD (kvs : List (D × D)) : List D := kvs.map fun kv => .tup [kv.1, kv.2]
theorem pairsD_zip (ks : List (List Key)) (ds : List D) : pairsD ((ks.map fun k => D.tup (k.map keyD)).zip ds) = (ks.zip ds).map pairD := by
  unfold pairsD
  rw [List.zip_map_left, List.map_map]
  rfl
def iSortItems (i : IE) : IE := fun Γ => (i Γ).bind fun x => match x with
  | .dct true kvs => if okSort (pairsD kvs) = true then .ret (.lst (sortD (pairsD kvs))) else .stuck
  | _ => .stuck
theorem df_sortItems (hK : X.K = L.K) (hz : L.fz = false) (hc : X.calm = true) (hu : X.A.units + 66 < cLine) (hg : Gl X "sorted") (hm : X.mg "sorted" = none) (h : DV L X i e) (hbase : attributeBase e "items" X.env (eval e X.env) = eval e X.env := by rfl) (hline : (apos.endLine == cpos.line) = true := by rfl)
    (he : starEach [.Call (.Attribute e "items" apos) [] [] cpos] X.env = (false, eval (.Call (.Attribute e "items" apos) [] [] cpos) X.env) :: starEach [] X.env := by rfl) (hpl : (backTo pos (starEach [] X.env)).any (·.1) = false := by rfl) :
    DF L X (iSortItems i) (.Call (.Name "sorted" p) [.Call (.Attribute e "items" apos) [] [] cpos] [] pos) := fun W tk => by
  refine PE.imp (pe_callB (cr_sortD hK hz hc hu) hg hm (by decide +kernel) (pa_cons (pe_dm0 PySem.F.slot_dict_items PySem.F.type_dict_items mt_itemsR (h W tk) hbase hline) pa_nil he) (by decide) (by decide) he hpl) fun σ H Q ⟨Γ, g, rp, w⟩ => ?_
  refine Rd1.go rp w fun x H1 dx g1 r1 s1 t1 w => ?_
  cases dx with
  | dct t kvs =>
    cases t with
    | false => exact w.elim
    | true =>
      obtain ⟨ad, rfl, hd⟩ := Vw.dct r1.sub t1
      rcases hd with ⟨_, _, _, _, _, _, _, z⟩ | ⟨ks, vs, ds, h1, h2, h3, rfl, _⟩
      · cases z
      · refine ⟨⟨ad, rfl, .inr ⟨_, h1⟩⟩, ad, _, rfl, rfl, h1, fun q nq => ?_⟩
        have sv := stp_new (o := L2.DX.itemsO q ad) r1 nq false
        have rv := r1.step sv
        by_cases ok : okSort ((ks.zip ds).map pairD) = true
        · have w2 : (if okSort (pairsD ((ks.map fun k => D.tup (k.map keyD)).zip ds)) = true then M.ret (D.lst (sortD (pairsD ((ks.map fun k => D.tup (k.map keyD)).zip ds)))) else M.stuck).wpB g1.bud _ _ := w
          rw [pairsD_zip, if_pos ok] at w2
          refine ⟨Γ, g1, σ, q, ad, ks, vs, ds, rv, rfl, upd_same, rd_new nq h1, h2, h3, ok, fun v g2 H2 S eb ft => ?_⟩
          exact w2 v g2 H2 (s1.trans (sv.trans S)) eb (frT_back (s1.trans sv) ft)
        · have w2 : (if okSort (pairsD ((ks.map fun k => D.tup (k.map keyD)).zip ds)) = true then M.ret (D.lst (sortD (pairsD ((ks.map fun k => D.tup (k.map keyD)).zip ds)))) else M.stuck).wpB g1.bud _ _ := w
          rw [pairsD_zip, if_neg ok] at w2
          exact w2.elim
  | _ => exact w.elim
end
end DL
/-! dict(xs), dict(t): pairs whose keys are tuples. -/
namespace DL
open PySem PySem.Spec PyProof.Rows L2
def pairK : D → Option (List Key × D)
  | .tup [.tup es, d] => match kOfL es with
    | some k => if k.any (fun x => x.isRight) = true then some (k, d) else none
    | none => none
  | _ => none
def pairsK : List D → Option (List (List Key × D))
  | [] => some []
  | x :: r => match pairK x, pairsK r with
    | some kd, some l => some (kd :: l)
    | _, _ => none
theorem pairK_eq {x : D} {k : List Key} {d : D} (h : pairK x = some (k, d)) : x = .tup [.tup (k.map keyD), d] ∧ k.any (fun x => x.isRight) = true := by
  unfold pairK at h
  split at h
  · split at h
    · rename_i e
      split at h
      · rename_i hr
        cases h
        rw [kOfL_eq e]
        exact ⟨rfl, hr⟩
      · cases h
    · cases h
  · cases h
def dctT (kds : List (List Key × D)) : D := .dct true (kds.map fun kd => (.tup (kd.1.map keyD), kd.2))
def fDictT : List D → Option D
  | [.lst ps] => (pairsK ps).bind fun kds => if (kds.map (·.1)).Nodup then some (dctT kds) else none
  | [.tup ps] => (pairsK ps).bind fun kds => if ps ≠ [] ∧ (kds.map (·.1)).Nodup then some (dctT kds) else none
  | _ => none
section
variable {L : Lx} {X : Cx} {g : Gh} {H : Hp}
theorem pairs_at (hk : L.gt = [] ∧ L.fz = false) (sub : ∀ a o, g.F a = some o → H a = some o) : ∀ {ws : List V} {ps : List D} {kds : List (List Key × D)}, DenL L g ws ps → pairsK ps = some kds →
    ∃ (pa : List Addr) (vs : List V), ws = pa.map V.ref ∧ vs.length = kds.length ∧ pa.length = kds.length ∧ DenL L g vs (kds.map (·.2)) ∧ Paired (fun p (kv : List Key × V) => ∃ b, SqT L.K H p [.ref b, kv.2] ∧ H b = some (.tup (kv.1.map kV))) pa ((kds.map (·.1)).zip vs)
  | _, _, _, .nil, e => by
    cases e
    exact ⟨[], [], rfl, rfl, rfl, .nil, .nil⟩
  | _, _, _, .cons (d := x) (ds := r) a l, e => by
    unfold pairsK at e
    split at e
    · rename_i kd l' e1 e2
      cases e
      obtain ⟨k, d⟩ := kd
      obtain ⟨pa, vs, h1, h2, h5, h3, h4⟩ := pairs_at hk sub l e2
      obtain ⟨ex, hr⟩ := pairK_eq e1
      subst ex
      cases a with
      | @tup p us _ sq du =>
        cases du with
        | cons d1 du =>
          cases du with
          | cons d2 du =>
            cases du
            cases d1 with
            | @tup b ws' _ sb db =>
              have ek := den_keys db
              subst ek
              refine ⟨p :: pa, _ :: vs, by rw [h1]; rfl, by rw [List.length_cons, List.length_cons, h2], by rw [List.length_cons, List.length_cons, h5], .cons d2 h3, .cons ⟨b, sqT_mono sub sq.sq, (sb.mono sub).own hk.1 hk.2 hr⟩ h4⟩
    · cases e
theorem zip_kds : ∀ kds : List (List Key × D), (kds.map fun kd => (D.tup (kd.1.map keyD), kd.2)) = ((kds.map (·.1)).map fun k => D.tup (k.map keyD)).zip (kds.map (·.2))
  | [] => rfl
  | kd :: r => by
    rw [List.map_cons, zip_kds r]
    rfl
theorem keys_zip {kds : List (List Key × D)} {vs : List V} (h : vs.length = kds.length) : ((kds.map (·.1)).zip vs).map (·.1) = kds.map (·.1) := List.map_fst_zip (by rw [List.length_map, h]; exact Nat.le_refl _)
theorem ca_dictT (hK : X.K = L.K) (hk : L.gt = [] ∧ L.fz = false) (hc : X.calm = true) (hu : X.A.units + 2 < cLine) : CaD L X FrTD (.type "dict") fDictT := by
  intro pins st σ H xs us Q I r ⟨Γ, g, σ', ds, d, rp, vs, e, w⟩
  have fin : ∀ (kds : List (List Key × D)) (ws : List V), ws.length = kds.length → DenL L g ws (kds.map (·.2)) → Wn L FrTD g H Q (dctT kds) g.bud → ∀ p, H p = none → Q (.ref p) (upd H p (.dT ((kds.map (·.1)).zip ws))) := fun kds ws hl dl w p n => by
    have s := stp_new (o := .dT ((kds.map (·.1)).zip ws)) rp n false
    exact w (.ref p) _ _ s rfl ⟨p, true, _, rfl, rfl, .inr ⟨kds.map (·.1), ws, kds.map (·.2), upd_same, by rw [List.length_map, hl], dl.mono s.le s.mu, zip_kds kds, rfl⟩, nF_of rp n, fun i => (InM.there rp.rnd.ok (i.new n rp.rnd.ok)) n, n⟩
  unfold fDictT at e
  split at e
  · rename_i ps
    obtain ⟨kds, hkd, e⟩ := Option.bind_eq_some_iff.mp e
    split at e
    · rename_i hn
      cases e
      obtain ⟨v, rfl, a⟩ := vs.one
      obtain ⟨q, ws, rfl, e1, l1⟩ := a.lst rp.sub
      obtain ⟨u, eu, ru⟩ := vals1 r
      subst eu
      cases ru
      obtain ⟨pa, vs', rfl, h2, h5, h3, h4⟩ := pairs_at hk rp.sub l1 hkd
      obtain ⟨its, rv, pl, hz⟩ := I.list (.inl (.inl e1))
      have ei := refs_at rv
      subst ei
      rw [List.length_map] at hz
      exact dict_core (fun items Ts l => PairArg.list q items Ts l) hc hu I pl hz (hK ▸ h4) (by rw [keys_zip h2]; exact hn) (fin kds vs' h2 h3 w)
    · cases e
  · rename_i ps
    obtain ⟨kds, hkd, e⟩ := Option.bind_eq_some_iff.mp e
    split at e
    · rename_i hn
      cases e
      obtain ⟨v, rfl, a⟩ := vs.one
      obtain ⟨u, eu, ru⟩ := vals1 r
      subst eu
      have key : ∀ {q : Addr} {ws : List V}, SqD L.fz L.gt L.K H q ws → DenL L g ws ps → u = Value.ref q → wpAny (model X.prog X.w) X.A (call (.type "dict") [u]) (EP X pins σ Q) X.xe st := fun {q ws} sq l1 eu => by
        subst eu
        obtain ⟨pa, vs', rfl, h2, h5, h3, h4⟩ := pairs_at hk rp.sub l1 hkd
        have ne : (pa.map V.ref).any notKey = true := by
          cases pa with
          | nil =>
            have : kds = [] := List.length_eq_zero_iff.mp (by simpa using h5.symm)
            cases l1
            exact absurd rfl hn.1
          | cons _ _ => rfl
        have go : ∀ (o : Obj) (its : List Value) (n : Nat), st.heap.get? q = some o → o.cls = .type "tuple" → o.dict = none → o.data = .seq its.toArray n → Vals (pa.map V.ref) its → its.length ≤ sizeLine → wpAny (model X.prog X.w) X.A (call (.type "dict") [.ref q]) (EP X pins σ Q) X.xe st := fun o its n g1 g2 g3 g4 rv hz => by
          have ei := refs_at rv
          subst ei
          rw [List.length_map] at hz
          exact dict_core (fun items Ts l => PairArg.tuple q items Ts l) hc hu I ⟨o, n, g1, g2, g3, g4⟩ hz (hK ▸ h4) (by rw [keys_zip h2]; exact hn.2) (fin kds vs' h2 h3 w)
        rcases sq with ⟨z, _⟩ | ⟨o, its, n, h1, h2', h3', h4', h5', h6⟩ | ⟨o, e1, e2, e3, _⟩
        · rw [ne, Bool.or_true] at z
          cases z
        · exact go o its.toList n (I.kIn q o (hK ▸ h1)) h2' h5'.1 (by simpa using h3') h6 (by simpa using h4')
        · obtain ⟨ho, hz, its, rv, o', ho', hc', n, hdat⟩ := (show ObjOk X.prog X.w H st.heap q (.frz o (.tup (pa.map V.ref))) from I.hok q _ e1)
          rw [ho] at ho'
          cases ho'
          exact go o its n ho e2 e3 hdat rv (by rw [← rv.length]; exact hz)
      rcases a with a | ⟨_, _, _, _, ex, _⟩ | ⟨_, _, _, _, ex, _⟩
      · cases a with
        | @tup q ws _ sq l1 => exact key (sq.mono rp.sub) l1 ru
      · cases ex
      · cases ex
    · cases e
  · cases e
/-- a new dict is locked and frozen -/
theorem stp_frzD {H₀ : Hp} {g₀ : Gh} {v : V} {d : D} (s : Stp L g₀ H₀ g H) (t : FrTD L H₀ g H v d) : ∃ p u, v = .ref p ∧ H p = some u ∧ Mut (some u) ∧ ∀ od, ∃ g', Stp L g₀ H₀ g' (upd H p (.frz od u)) ∧ g'.bud = g.bud ∧ Den L g' v d := by
  obtain ⟨p, t', kvs, rfl, rfl, hd, h3, h4, h5⟩ := t
  have frz : ∀ (u : HO) (od : Obj) (ho : IsDO u), H p = some u → ∃ no, Stp L g₀ H₀ (g.put p (.frz od u) no) (upd H p (.frz od u)) ∧ ∀ a o, g.F a = some o → (g.put p (.frz od u) no).F a = some o := fun u od ho h1 => by
    have no : ∀ ps, HO.frz od u ≠ .tbl ps := fun _ z => nomatch z
    have S := stp_updD (o' := .frz od u) s h5 h1 ho h3 h4
    have le : ∀ a o, g.F a = some o → (g.put p (.frz od u) no).F a = some o := fun a o e => upd_keep h3 e
    have hF : ∀ a o, (g.put p (.frz od u) no).F a = some o → (a = p ∧ o = .frz od u) ∨ g.F a = some o := fun a o e => by
      by_cases h : a = p
      · subst h
        have e' : upd g.F a (.frz od u) a = some o := e
        rw [upd_same] at e'
        exact .inl ⟨rfl, (Option.some.inj e').symm⟩
      · have e' : upd g.F p (.frz od u) a = some o := e
        rw [upd_ne h] at e'
        exact .inr e'
    refine ⟨no, ⟨fun a o e => le a o (s.le a o e), s.mu, fun a o e => ?_, S.keep, fun a n => ⟨(S.nf a n).1, fun e => ?_⟩, fun a o e => ?_, S.rnd, S.bud, S.tab⟩, le⟩
    · rcases hF a o e with ⟨rfl, rfl⟩ | e
      · exact upd_same
      · exact S.sub _ _ e
    · have q : a ≠ p := fun z => n (by rw [z]; exact h5)
      exact ((S.nf a n).2 e).imp (upd_ne q).trans id
    · rcases hF a o e with ⟨rfl, rfl⟩ | e
      · exact fun z => h4 (inM_updD h4 z)
      · exact S.nm _ _ e
  rcases hd with ⟨ks, vs, ds, h1, h2, h6, rfl, rfl⟩ | ⟨ks, vs, ds, h1, h2, h6, rfl, rfl⟩
  · refine ⟨p, _, rfl, h1, trivial, fun od => ?_⟩
    obtain ⟨no, S, le⟩ := frz (.dK (ks.zip vs)) od trivial h1
    exact ⟨_, S, rfl, .dK (o := od) put_F h2 (h6.mono le fun _ e => e)⟩
  · refine ⟨p, _, rfl, h1, trivial, fun od => ?_⟩
    obtain ⟨no, S, le⟩ := frz (.dT (ks.zip vs)) od trivial h1
    exact ⟨_, S, rfl, .dT (o := od) put_F h2 (h6.mono le fun _ e => e)⟩
theorem DFD.de {i : IE} {e : Expr} (h : DFD L X i e) : DE L X i e := fun W tk => by
  refine PE.imp (pe_lockV (h W tk)) fun σ H Q ⟨Γ, g, rp, w⟩ => ⟨Γ, g, rp, M.wpB_mono (fun d b k v g' H' s e t => ?_) (fun _ _ x => x) _ _ w⟩
  obtain ⟨p, u, e1, e2, e3, F⟩ := stp_frzD s t
  refine .inr ⟨p, u, e1, e2, e3, fun od => ?_⟩
  obtain ⟨g2, s2, e2, t2⟩ := F od
  exact k v g2 _ s2 (e2.trans e) t2
end
end DL
/-! enumerate over a list or a tuple. -/
namespace DL
open PySem PySem.Spec PyProof.Rows L2
/-- enumerate(v) of what begins -/
theorem meetsEn {v : Value} {oit : Obj} {C : Heap → Prop} (B : Begins v oit C) :
    Meets (Builtin.«enumerate.__new__» ⟨[.type "enumerate", v], []⟩) (fun _ R st => C st.heap ∧
      R (.ok (.ret (.ref (st.heap.push oit).objs.size))) { st with heap := (st.heap.push oit).push { cls := .type "enumerate", data := .fields #[.none, .bool false, .ref st.heap.objs.size, rawInt 0, .none, .none] } }) :=
  .of_wp fun prog w A R st hh => by
    obtain ⟨hp, gg, dr, tk, os⟩ := st
    have hsub := sub_enumerate
    have it1 : ∀ {A' : Around} {E Q : Value → Shared → Prop}, Q (.ref hp.objs.size) ⟨hp.push oit, gg, dr, tk, os⟩ → wpAny (model prog w) A' (pyIter v) Q E ⟨hp, gg, dr, tk, os⟩ := fun qq => B.iter prog w _ _ ⟨hp, gg, dr, tk, os⟩ _ hh.1 qq
    have h2 := hh.2
    wp_walk using it1
    refine wpAny_stack_any fun st' => wpAny_pure ?_
    split
    · rename_i c _ _ _ _ _
      cases (c == Value.type "enumerate")
      all_goals wp_walk using it1
      all_goals exact ⟨_, rfl, h2⟩
    · wp_walk using it1
      exact ⟨_, rfl, h2⟩
section
variable {prog : Program} {w : World} {A : Around} {E : Value → Shared → Prop} {s : Shared}
theorem callEn {v : Value} {oit : Obj} {C : Heap → Prop} {Q : Value → Shared → Prop} (B : Begins v oit C) (hc : C s.heap)
    (h : ∀ h', IsEnum h' (s.heap.objs.size + 1) s.heap.objs.size 0 .none → h'.get? s.heap.objs.size = some oit → (∀ b o, s.heap.get? b = some o → h'.get? b = some o) → Q (.ref (s.heap.objs.size + 1)) { s with heap := h' }) :
    wpAny (model prog w) A (call (.type "enumerate") [v]) Q E s := by
  refine callType_new PySem.F.called_enumerate (by decide) (PySem.F.typeCall_enumerate_1 _) (PySem.F.newCall_enumerate_1 _) (fun obj => PySem.F.args_object_init_2 obj _) PySem.F.entry_enumerate_new (meetsEn B) ⟨hc, ?_⟩
  have hz : (s.heap.push oit).objs.size = s.heap.objs.size + 1 := Heap.size_push ..
  have he := Heap.get?_push_size (s.heap.push oit) (o := { cls := .type "enumerate", data := .fields #[.none, .bool false, .ref s.heap.objs.size, rawInt 0, .none, .none] }) rfl
  rw [hz] at he
  show _ ∧ _
  rw [hz]
  exact ⟨⟨_, he, rfl⟩, h _ he (Heap.get?_push_of_some _ (Heap.get?_push_size _ B.free)) fun b o x => Heap.get?_push_of_some _ (Heap.get?_push_of_some _ x)⟩
end
/-- the tuple at a, its items numbered -/
def IteT (K : PySem.W.Frag) (a : Addr) : It :=
  ⟨fun n H => ∃ (ys : List V) (y : V), SqT K H a ys ∧ ys[n]? = some y, fun n H v H' => ∃ T y, v = .ref T ∧ H T = none ∧ H' = upd H T (.tup [.int (n : Nat), y]) ∧ ∀ ys, SqT K H a ys → ys[n]? = some y, fun n H => ∃ ys : List V, SqT K H a ys ∧ ys.length = n⟩
theorem turnEnT {P : Program} {w : World} {K : PySem.W.Frag} {elts : List Expr} {kk : Nat} {tpos : Pos} (a e it : Addr) :
    Turn P w K (.Tuple elts kk tpos) (IteT K a) [e, it] e (fun n h => (∃ old, IsEnum h e it ((n : Nat) : Int) old) ∧ h.IsTupleIter it a n ∧ e ≠ it) where
  mem := by simp
  obj := fun n h st b hb => by
    obtain ⟨⟨old, he⟩, ⟨o, ho, hc, hd⟩, _⟩ := st
    rcases List.mem_cons.mp hb with z | z
    · subst z; exact ⟨_, he, fun v q => nomatch q⟩
    · rw [List.mem_singleton.mp z]; exact ⟨o, ho, fun v q => by rw [hd] at q; cases q⟩
  keep := fun n h h' st k => ⟨st.1.imp fun old he => k e (by simp) _ he, st.2.1.at fun o q => k it (by simp) o q, st.2.2⟩
  item := by
    intro X hP hw hK hc n pins s σ H E I hf st hg
    subst hP hw hK
    obtain ⟨⟨old, he⟩, hit, hne⟩ := st
    obtain ⟨ys, y, hq, hx⟩ := hg
    obtain ⟨its, rv, p, hz⟩ := I.tuple hq
    obtain ⟨u, hu, ru⟩ := rv.get hx
    have hel : e < s.heap.objs.size := Heap.lt_size he
    have hil : it < s.heap.objs.size := by obtain ⟨_, q, _⟩ := hit; exact Heap.lt_size q
    have pt : s.heap.IsTuple a its.toArray := p
    have hai : a ≠ it := fun z => by
      obtain ⟨o1, q1, c1, _⟩ := hit
      obtain ⟨o2, q2, c2, _⟩ := pt
      rw [z, q1] at q2
      cases q2
      rw [c1] at c2
      exact absurd c2 (by decide)
    have hae : a ≠ e := fun z => by
      obtain ⟨o2, q2, c2, _⟩ := pt
      rw [z, he] at q2
      cases q2
      simp at c2
    refine wpAny_pyNext_enum_itemD (Draws.tuple (show X.A.in1.handled = none from I.ok.hd hc) it a hai its.toArray) he ⟨hit, pt⟩ (by simpa using (List.getElem?_eq_some_iff.mp hu).1) hne (by simp [hne, Ne.symm hae]) fun x h' tk hP ho hs' hT hsz hk => ?_
    have ex : x = u := by
      have q : its[n]? = some x := by simpa using hP
      rw [hu] at q
      exact (Option.some.inj q).symm
    subst ex
    refine ⟨_, rfl, wpAny_letOwnedTupleGo_enum (s := { s with heap := h', toks := tk + 1 }) ho fun h'' he' sb => ?_⟩
    have hT2 : h''.get? s.heap.objs.size = some { cls := .type "tuple", data := .seq #[.int n tk, x] } := (sb.2 _ (Nat.ne_of_gt hel)).trans hT
    have new : ObjOk X.prog X.w (upd H s.heap.objs.size (.tup [.int (n : Nat), y])) h'' s.heap.objs.size (.tup [.int (n : Nat), y]) :=
      ⟨by show 2 ≤ sizeLine; decide, [.int n tk, x], .cons ⟨_, rfl⟩ (.cons ru .nil), ⟨_, hT2, rfl, _, rfl⟩⟩
    have I1 : Inv X pins σ (upd H s.heap.objs.size (.tup [.int (n : Nat), y])) { s with heap := h'', toks := tk + 1 } :=
      I.turnedNew (ch := [e, it]) (fun b ob hb q => (sb.2 b (fun z => hb (by simp [z]))).trans (hk b ob (fun z => hb (by simp [z])) (fun z => hb (by simp [z])) q)) hf (Nat.le_refl _) new
    refine ⟨.ref s.heap.objs.size, _, I1, rfl, ⟨_, y, rfl, I.hok.fresh (Nat.le_refl _), rfl, fun zs hy => by rw [I.tuple_inj hy hq]; exact hx⟩, ⟨⟨x, ?_⟩, hs'.1.at fun o q => (sb.2 it (Ne.symm hne)).trans q, hne⟩, fun b hb => ?_⟩
    · have e1 : ((n + 1 : Nat) : Int) = (n : Int) + 1 := by omega
      rw [e1]; exact he'
    · have hb' : b < s.heap.objs.size := by
        rcases List.mem_cons.mp hb with z | z
        · rw [z]; exact hel
        · rw [List.mem_singleton.mp z]; exact hil
      rw [upd_ne (Nat.ne_of_lt hb')]
      exact (hf b hb).1
  done := by
    intro X hP hw hK hc n pins s σ H E I hf st hg
    subst hP hw hK
    obtain ⟨⟨old, he⟩, hit, hne⟩ := st
    obtain ⟨ys, hq, hx⟩ := hg
    obtain ⟨its, rv, p, hz⟩ := I.tuple hq
    obtain ⟨f0, f1, f2, f3, f4, f5⟩ := hf it (by simp)
    have hl := rv.length
    have pt : s.heap.IsTuple a its.toArray := p
    have hai : a ≠ it := fun z => by
      obtain ⟨o1, q1, c1, _⟩ := hit
      obtain ⟨o2, q2, c2, _⟩ := pt
      rw [z, q1] at q2
      cases q2
      rw [c1] at c2
      exact absurd c2 (by decide)
    have en : n = its.toArray.size := by rw [List.size_toArray, ← hl, hx]
    refine wpAny_pyNext_enum_endD (Draws.tuple (show X.A.in1.handled = none from I.ok.hd hc) it a hai its.toArray) he (show s.heap.IsTupleIter it a its.toArray.size ∧ _ from ⟨en ▸ hit, pt⟩) fun h' eb => ⟨rfl, I.turned (t' := s.toks) (fun b o hb q => eb b o hb q) f0 f1 f3 f4 f5⟩
  self := fun A n s Q E st h => let ⟨⟨_, he⟩, _⟩ := st; wpAny_pyIter_enum he h
section
variable {L : Lx} {X : Cx} {g g' : Gh} {H H' : Hp} {σ : L2.St} {Γ : Env} {W : WX} {pos p : Pos} {i : IE}
def iEnA (K : PySem.W.Frag) (ta : TA) : TI := fun σ H R => ta σ H fun vs H1 => (∃ a ys, vs = [.ref a] ∧ SqL K H1 a ys ∧ R (Ite K a) H1) ∨ ∃ a ys, vs = [.ref a] ∧ SqT K H1 a ys ∧ R (IteT K a) H1
theorem pi_enA {e : Expr} {ta : TA} {tpos : Pos} {elts : List Expr} {kk : Nat} (hg : Gl X "enumerate") (hm : X.mg "enumerate" = none) (ha : PA X [e] ta) (hs : starEach [e] X.env = [(false, eval e X.env)] := by rfl) :
    PI X (.Tuple elts kk tpos) (.Call (.Name "enumerate" p) [e] [] pos) (iEnA X.K ta) := by
  refine ⟨fun pins s σ H R I h => ?_⟩
  refine Call_ (ld_blt I hg hm boot_enumerate (PyProof.Rows.callWith_type1 (thn (ha.run pos pins s σ H _ I h) fun us s1 ⟨vs, H1, I1, r1, q1⟩ => ?_) hs rfl))
  have fp : ∀ h' : Heap, (∀ b o, s1.heap.get? b = some o → h'.get? b = some o) → ∀ b ∈ [s1.heap.objs.size + 1, s1.heap.objs.size], FpOk X pins H1 b := fun h' hk b hb => by
    have hle : s1.heap.objs.size ≤ b := by
      rcases List.mem_cons.mp hb with z | z
      · rw [z]; exact Nat.le_succ _
      · rw [List.mem_singleton.mp z]; exact Nat.le_refl _
    exact I1.fpOk hle (I1.hok.fresh hle)
  rcases q1 with ⟨a, ys, ex, hq, q⟩ | ⟨a, ys, ex, hq, q⟩
  · subst ex
    obtain ⟨u, eu, ru⟩ := vals1 r1
    subst eu
    obtain rfl : u = Value.ref a := ru
    obtain ⟨its, rv, p', hz⟩ := I1.list hq
    refine callEn (begins_list a its.toArray) p'.isList fun h' he hit hk => wpAny_pyIter_enum he ?_
    exact ⟨s1.heap.objs.size + 1, [s1.heap.objs.size + 1, s1.heap.objs.size], _, _, H1, rfl, I1.kept (t' := s1.toks) hk, turn_enum a (s1.heap.objs.size + 1) s1.heap.objs.size, ⟨⟨.none, he⟩, ⟨_, hit, rfl, rfl⟩, Nat.succ_ne_self _⟩, fp h' hk, q⟩
  · subst ex
    obtain ⟨u, eu, ru⟩ := vals1 r1
    subst eu
    obtain rfl : u = Value.ref a := ru
    obtain ⟨its, rv, p', hz⟩ := I1.tuple hq
    refine callEn (begins_tuple a its.toArray) (show s1.heap.IsTuple a its.toArray from p') fun h' he hit hk => wpAny_pyIter_enum he ?_
    exact ⟨s1.heap.objs.size + 1, [s1.heap.objs.size + 1, s1.heap.objs.size], _, _, H1, rfl, I1.kept (t' := s1.toks) hk, turnEnT a (s1.heap.objs.size + 1) s1.heap.objs.size, ⟨⟨.none, he⟩, ⟨_, hit, rfl, rfl⟩, Nat.succ_ne_self _⟩, fp h' hk, q⟩
theorem wk_enT {a : Addr} {vs : List V} {ds : List D} (h : SqT L.K g.F a vs) (l : DenL L g vs ds) : Wk L (IteT L.K a) g (enumD ds) where
  step := fun n d Γ g' σ H e r f => by
    unfold enumD at e
    rw [List.getElem?_map] at e
    by_cases hi : n < ds.length
    · rw [List.getElem?_range hi] at e
      cases e
      have e2 : ds[n]? = some ds[n] := List.getElem?_eq_getElem hi
      obtain ⟨v, hv, t⟩ := (l.mono f.F f.mu).get e2
      have hH := sqT_mono r.sub (sqT_mono f.F h)
      refine ⟨⟨vs, v, hH, hv⟩, fun x H' ⟨T, y, ex, nT, eH, q⟩ => ?_⟩
      subst ex eH
      have e3 := q vs hH
      rw [hv] at e3
      cases e3
      refine ⟨g'.put T (.tup [.int (n : Nat), v]), stp_put r nT, rfl, .pr put_F (.cons (.int _) (.cons ?_ .nil))⟩
      rw [List.getD_eq_getElem?_getD, e2]
      exact t.mono (stp_put (o := .tup [.int (n : Nat), v]) r nT).le (stp_put (o := .tup [.int (n : Nat), v]) r nT).mu
    · rw [List.getElem?_eq_none (by simpa using hi)] at e; cases e
  stop := fun Γ g' σ H r f => ⟨vs, sqT_mono r.sub (sqT_mono f.F h), by unfold enumD; rw [List.length_map, List.length_range]; exact l.length⟩
def iiEnA (i : IE) : II := fun Γ => (evs [i] Γ).bind fun ds => match ds with
  | [.lst ds] => .ret (enumD ds)
  | [.tup ds] => .ret (enumD ds)
  | _ => .stuck
theorem di_enumA (hK : X.K = L.K) {e : Expr} {elts : List Expr} {kk : Nat} {tpos : Pos} (hg : Gl X "enumerate") (hm : X.mg "enumerate" = none) (ha : DA L X [i] [e]) (hs : starEach [e] X.env = [(false, eval e X.env)] := by rfl) :
    DI L X (iiEnA i) (.Tuple elts kk tpos) (.Call (.Name "enumerate" p) [e] [] pos) := fun W tk => by
  refine PI.imp (pi_enA hg hm (ha W tk) hs) fun σ H R ⟨Γ, g, r, w⟩ => RdA.go r w fun vs H1 ds g1 r1 s t w => ?_
  split at w
  · rename_i ds
    cases t with
    | cons a l =>
      cases l
      cases a with
      | lst e l2 => exact .inl ⟨_, _, rfl, .inl (.inl (r1.sub _ _ e)), w g1 H1 _ s rfl (hK ▸ wk_enum e l2)⟩
  · rename_i ds
    cases t with
    | cons a l =>
      cases l
      cases a with
      | tup e l2 => exact .inr ⟨_, _, rfl, hK ▸ sqT_mono r1.sub e.sq, w g1 H1 _ s rfl (hK ▸ wk_enT e.sq l2)⟩
  · exact w.elim
end
end DL
/-! Dicts walked by their keys. -/
namespace DL
open PySem PySem.Spec PyProof.Rows L2
section
variable {L : Lx} {X : Cx} {g g' : Gh} {H H' : Hp} {σ : L2.St} {Γ : Env} {W : WX} {pos p : Pos} {i : IE}
/-- a tuple of keys that stands is data -/
theorem stp_key (hz : L.fz = false) (r : Rep L Γ g σ H) {q : Addr} {ks : List Key} (h : H q = some (.tup (ks.map kV))) : ∃ g', Stp L g H g' H ∧ g'.bud = g.bud ∧ Den L g' (.ref q) (.tup (ks.map keyD)) := by
  have den : ∀ {g' : Gh}, g'.F q = some (.tup (ks.map kV)) → Den L g' (.ref q) (.tup (ks.map keyD)) := fun {g'} e =>
    .tup (.inl ⟨by rw [hz, notKey_kV]; rfl, e⟩) (by
      clear e h
      induction ks with
      | nil => exact .nil
      | cons k ks ih =>
        refine .cons ?_ ih
        cases k with
        | inl i => exact .int i
        | inr s => exact .str s)
  cases e : g.F q with
  | some o =>
    have := r.sub _ _ e
    rw [h] at this
    cases this
    exact ⟨g, Stp.refl r, rfl, den e⟩
  | none =>
    have no : ∀ ps, HO.tup (ks.map kV) ≠ .tbl ps := fun _ z => nomatch z
    have f1 : ∀ b o, g.F b = some o → (upd g.F q (.tup (ks.map kV))) b = some o := fun b o eb => upd_keep e eb
    have hF : ∀ b o, (upd g.F q (.tup (ks.map kV))) b = some o → (b = q ∧ o = .tup (ks.map kV)) ∨ g.F b = some o := fun b o eb => by
      by_cases hb : b = q
      · subst hb
        rw [upd_same] at eb
        exact .inl ⟨rfl, (Option.some.inj eb).symm⟩
      · rw [upd_ne hb] at eb
        exact .inr eb
    have s := stp_more r (fun _ _ e => e) (upd g.F q (.tup (ks.map kV))) (put_nt no) f1 (fun b o eb => by
      rcases hF b o eb with ⟨rfl, rfl⟩ | eb
      · exact h
      · exact r.sub _ _ eb) fun b o eb => by
      rcases hF b o eb with ⟨rfl, rfl⟩ | eb
      · exact .inr (.inr ⟨_, h⟩)
      · exact .inl eb
    exact ⟨_, s, rfl, den upd_same⟩
theorem wk_keysT (hz : L.fz = false) {a : Addr} {o : Obj} {ks : List (List Key)} {vs : List V} (h : g.F a = some (.frz o (.dT (ks.zip vs)))) (hl : ks.length = vs.length) : Wk L (Itkt a o (ks.zip vs)) g (ks.map fun k => D.tup (k.map keyD)) where
  step := fun n d Γ g' σ H e r f => by
    rw [List.getElem?_map] at e
    obtain ⟨k, ek, rfl⟩ := Option.map_eq_some_iff.mp e
    have hn : n < ks.length := (List.getElem?_eq_some_iff.mp ek).1
    refine ⟨⟨r.sub _ _ (f.F _ _ h), by rw [List.length_zip, ← hl, Nat.min_self]; exact hn⟩, fun x H' ⟨e1, k', v, q, e2, e3, e4⟩ => ?_⟩
    subst e1 e3
    have : k' = k := by
      have z := congrArg (Option.map Prod.fst) e2
      rw [← List.getElem?_map, List.map_fst_zip (Nat.le_of_eq hl), ek] at z
      exact (Option.some.inj z).symm
    subst this
    exact stp_key hz r e4
  stop := fun Γ g' σ H r f => ⟨r.sub _ _ (f.F _ _ h), by rw [List.length_zip, List.length_map]; exact Nat.min_le_left _ _⟩
theorem wk_keysK {a : Addr} {o : Obj} {ks : List Key} {vs : List V} (h : g.F a = some (.frz o (.dK (ks.zip vs)))) (hl : ks.length = vs.length) : Wk L (Itk a o (ks.zip vs)) g (ks.map keyD) where
  step := fun n d Γ g' σ H e r f => by
    rw [List.getElem?_map] at e
    obtain ⟨k, ek, rfl⟩ := Option.map_eq_some_iff.mp e
    have hn : n < ks.length := (List.getElem?_eq_some_iff.mp ek).1
    refine ⟨⟨r.sub _ _ (f.F _ _ h), by rw [List.length_zip, ← hl, Nat.min_self]; exact hn⟩, fun x H' ⟨e1, k', v, e2, e3⟩ => ?_⟩
    subst e1 e3
    have : k' = k := by
      have z := congrArg (Option.map Prod.fst) e2
      rw [← List.getElem?_map, List.map_fst_zip (Nat.le_of_eq hl), ek] at z
      exact (Option.some.inj z).symm
    subst this
    refine ⟨g', Stp.refl r, rfl, ?_⟩
    cases k' with
    | inl i => exact .int i
    | inr s => exact .str s
  stop := fun Γ g' σ H r f => ⟨r.sub _ _ (f.F _ _ h), by rw [List.length_zip, List.length_map]; exact Nat.min_le_left _ _⟩
def itK (d : D) : M (List D) := match d with
  | .dct _ kvs => .ret (kvs.map (·.1))
  | _ => .stuck
def iiK (i : IE) : II := fun Γ => (i Γ).bind itK
theorem di_keys (hz : L.fz = false) {tg e : Expr} (h : DE L X i e) : DI L X (iiK i) tg e := fun W tk => by
  refine PI.imp (pi_keys (h W tk)) fun σ H R ⟨Γ, g, r, w⟩ => RdI.go (T := DenT) r w fun v H1 d g1 r1 s t w => ?_
  cases d with
  | dct b kvs =>
    generalize hd : D.dct b kvs = d at t
    cases t with
    | @dK a o ks vs ds e1 e2 e3 =>
      obtain ⟨rfl, rfl⟩ := D.dct.inj hd
      refine ⟨a, o, rfl, .inl ⟨_, r1.sub _ _ e1, w g1 H1 _ (Stp.refl r1) rfl ?_⟩⟩
      rw [List.map_fst_zip (by rw [List.length_map, e2, e3.length]; exact Nat.le_refl _)]
      exact wk_keysK e1 e2
    | @dT a o ks vs ds e1 e2 e3 =>
      obtain ⟨rfl, rfl⟩ := D.dct.inj hd
      refine ⟨a, o, rfl, .inr ⟨_, r1.sub _ _ e1, w g1 H1 _ (Stp.refl r1) rfl ?_⟩⟩
      rw [List.map_fst_zip (by rw [List.length_map, e2, e3.length]; exact Nat.le_refl _)]
      exact wk_keysT hz e1 e2
    | _ => cases hd
  | _ => exact w.elim
end
end DL
/-! A dict of one's own, locked from a statement on. -/
namespace DL
open PySem PySem.Spec PyProof.Rows L2
section
variable {L : Lx} {X : Cx} {g0 g g' : Gh} {H0 H H' : Hp} {σ : L2.St} {Γ : Env} {W : WX} {pos p : Pos} {i : IE}
theorem ps_lockS {st : Stmt} {t : TS} (h : PS X st t) : PS X st (fun D σ H => t D σ H ∨ ∃ d u, H d = some u ∧ Mut (some u) ∧ ∀ od, t D σ (upd H d (.frz od u))) := by
  refine ⟨fun pins s σ H D I hw => ?_⟩
  rcases hw with hw | ⟨d, u, hd, mu, hw⟩
  · exact h.run pins s σ H D I hw
  · obtain ⟨od, I1⟩ := I.lock hd mu
    exact h.run pins s σ _ D I1 (hw od)
theorem stp_lk {gs : Gh} {Hs : Hp} {p : Addr} {u : HO} {od : Obj} (s : Stp L gs Hs g H) (n : Hs p = none) (h1 : H p = some u) (ho : IsDO u) (h3 : g.F p = none) (h4 : ¬ InM g.mu H p) :
    Stp L gs Hs (g.put p (.frz od u) (fun _ z => nomatch z)) (upd H p (.frz od u)) := by
  have S := stp_updD (o' := .frz od u) s n h1 ho h3 h4
  have hF : ∀ a o, (g.put p (.frz od u) (fun _ z => nomatch z)).F a = some o → (a = p ∧ o = .frz od u) ∨ g.F a = some o := fun a o e => by
    by_cases h : a = p
    · subst h
      have e' : upd g.F a (.frz od u) a = some o := e
      rw [upd_same] at e'
      exact .inl ⟨rfl, (Option.some.inj e').symm⟩
    · have e' : upd g.F p (.frz od u) a = some o := e
      rw [upd_ne h] at e'
      exact .inr e'
  refine ⟨fun a o e => upd_keep h3 (s.le a o e), s.mu, fun a o e => ?_, S.keep, fun a hn => ⟨(S.nf a hn).1, fun e => ?_⟩, fun a o e => ?_, S.rnd, S.bud, S.tab⟩
  · rcases hF a o e with ⟨rfl, rfl⟩ | e
    · exact upd_same
    · exact S.sub _ _ e
  · have q : a ≠ p := fun z => hn (by rw [z]; exact n)
    exact ((S.nf a hn).2 e).imp (upd_ne q).trans id
  · rcases hF a o e with ⟨rfl, rfl⟩ | e
    · exact fun z => h4 (inM_updD h4 z)
    · exact S.nm _ _ e
theorem RepS.frzD {n : Nat} {t : Bool} {kvs : List (D × D)} (r : RepS L g0 H0 Γ g σ H) (en : Γ[n]? = some (some (.od t kvs))) :
    ∃ p u, H p = some u ∧ Mut (some u) ∧ σ[n]? = some (some (.ref p)) ∧ ∀ od, ∃ g', RepS L g0 H0 (Γ.set n (some (.fz (.dct t kvs)))) g' σ (L2.upd H p (.frz od u)) ∧ FLe g g' ∧ g'.bud = g.bud ∧ Den L g' (.ref p) (.dct t kvs) := by
  obtain ⟨x, es, p, e2, h3, h4, hd⟩ := r.rep.loc _ _ en
  subst e2
  have n0 : H0 p = none := r.new n _ p en rfl es
  have hl : n < Γ.length := (List.getElem?_eq_some_iff.mp en).1
  have go : ∀ (u : HO) (od : Obj), H p = some u → IsDO u → Den L (g.put p (.frz od u) (fun _ z => nomatch z)) (.ref p) (.dct t kvs) →
      RepS L g0 H0 (Γ.set n (some (.fz (.dct t kvs)))) (g.put p (.frz od u) (fun _ z => nomatch z)) σ (L2.upd H p (.frz od u)) := fun u od h1 ho den => by
    have s := stp_lk (od := od) r.base n0 h1 ho h3 h4
    have le : ∀ a o, g.F a = some o → (g.put p (.frz od u) (fun _ z => nomatch z)).F a = some o := fun a o e => upd_keep h3 e
    have at_ : ∀ (i : Nat) (b : B), (Γ.set n (some (.fz (.dct t kvs))))[i]? = some (some b) → (i = n ∧ b = .fz (.dct t kvs)) ∨ (i ≠ n ∧ Γ[i]? = some (some b)) := fun i b e => by
      by_cases h : i = n
      · subst h
        rw [List.getElem?_set_self hl] at e
        cases e
        exact .inl ⟨rfl, rfl⟩
      · rw [List.getElem?_set_ne (Ne.symm h)] at e
        exact .inr ⟨h, e⟩
    have fr : ∀ q, q ≠ p → g.F q = none → (g.put p (.frz od u) (fun _ z => nomatch z)).F q = none := fun q nq e => (upd_ne nq).trans e
    refine ⟨⟨s.sub, s.rnd, s.tab, fun i b e => ?_, fun i j b c q e1 e2 o1 o2 s1 s2 => ?_, s.nm, by rw [List.length_set]; exact r.rep.len⟩, s, fun i b q e o sq => ?_⟩
    · rcases at_ i b e with ⟨rfl, rfl⟩ | ⟨hi, e⟩
      · exact ⟨_, es, .ref p, rfl, den⟩
      · obtain ⟨x, ex, hb⟩ := r.rep.loc i b e
        refine ⟨x, ex, ?_⟩
        cases b with
        | fz d => obtain ⟨v, rfl, t⟩ := hb; exact ⟨v, rfl, t.mono le fun _ e => e⟩
        | ol es' =>
          obtain ⟨q, ws, rfl, a1, a2, a3, a4⟩ := hb
          have nq : q ≠ p := fun z => hi (r.rep.dis i n _ _ p e en rfl rfl (z ▸ ex) es)
          exact ⟨q, ws, rfl, by rw [upd_ne nq]; exact a1, a2.mono le (fun _ e => e), fr q nq a3, fun z => a4 (inM_updD h4 z)⟩
        | od t kvs =>
          obtain ⟨q, rfl, a1, a2, a3⟩ := hb
          have nq : q ≠ p := fun z => hi (r.rep.dis i n _ _ p e en rfl rfl (z ▸ ex) es)
          exact ⟨q, rfl, fr q nq a1, fun z => a2 (inM_updD h4 z), a3.step (upd_ne nq) le fun _ e => e⟩
        | os m fs =>
          obtain ⟨q, dx, ws, rfl, sq, a1, a2, a3, a4⟩ := hb
          have nq : q ≠ p := fun z => hi (r.rep.dis i n _ _ p e en rfl rfl (z ▸ ex) es)
          exact ⟨q, dx, ws, rfl, sq, by rw [upd_ne nq]; exact a1, a2.mono le (fun _ e => e), fr q nq a3, fun z => a4 (inM_updD h4 z)⟩
    · rcases at_ i b e1 with ⟨_, rfl⟩ | ⟨_, e1⟩
      · cases o1
      rcases at_ j c e2 with ⟨_, rfl⟩ | ⟨_, e2⟩
      · cases o2
      exact r.rep.dis i j b c q e1 e2 o1 o2 s1 s2
    · rcases at_ i b e with ⟨_, rfl⟩ | ⟨_, e⟩
      · cases o
      · exact r.new i b q e o sq
  have fle : ∀ (u : HO) (od : Obj), FLe g (g.put p (.frz od u) (fun _ z => nomatch z)) := fun u od => ⟨fun a o e => upd_keep h3 e, fun _ e => e⟩
  rcases hd with ⟨ks, vs, ds, h1, h2, h6, rfl, rfl⟩ | ⟨ks, vs, ds, h1, h2, h6, rfl, rfl⟩
  · refine ⟨p, _, h1, trivial, es, fun od => ?_⟩
    have den : Den L (g.put p (.frz od (.dK (ks.zip vs))) (fun _ z => nomatch z)) (.ref p) (.dct false ((ks.map keyD).zip ds)) := .dK (o := od) put_F h2 (h6.mono (fle _ od).F (fle (.dK (ks.zip vs)) od).mu)
    exact ⟨_, go (.dK (ks.zip vs)) od h1 trivial den, fle _ od, rfl, den⟩
  · refine ⟨p, _, h1, trivial, es, fun od => ?_⟩
    have den : Den L (g.put p (.frz od (.dT (ks.zip vs))) (fun _ z => nomatch z)) (.ref p) (.dct true ((ks.map fun k => D.tup (k.map keyD)).zip ds)) := .dT (o := od) put_F h2 (h6.mono (fle _ od).F (fle (.dT (ks.zip vs)) od).mu)
    exact ⟨_, go (.dT (ks.zip vs)) od h1 trivial den, fle _ od, rfl, den⟩
/-- ahead of a statement: what is one's own there is data from now on -/
def sFrzA (n : Nat) (s : IS) : IS := fun Γ => match Γ[n]? with
  | some (some (.ol ds)) => s (Γ.set n (some (.fz (.lst ds))))
  | some (some (.od t kvs)) => s (Γ.set n (some (.fz (.dct t kvs))))
  | _ => s Γ
theorem FlT.bud {gs : Gh} {Dn : Ends} {fl : Fl} {b c : Nat} (h : FlT L g0 H0 gs Dn fl b) (e : b = c) : FlT L g0 H0 gs Dn fl c := e ▸ h
theorem ds_frzA {n : Nat} {s : IS} {st : Stmt} (h : DS L X s st) : DS L X (sFrzA n s) st := fun W g0 H0 tk => by
  refine PS.imp (ps_lockS (h W g0 H0 tk)) fun Dn σ H ⟨Γ, g, r, w⟩ => ?_
  unfold sFrzA at w
  split at w
  · rename_i ds en
    obtain ⟨v, g1, es, r1, f1, eb, t⟩ := r.frzL en
    exact .inl ⟨_, g1, r1, M.wpB_mono (fun _ _ x => x.of f1) (fun _ _ x => x) _ _ (eb ▸ w)⟩
  · rename_i t kvs en
    obtain ⟨p, u, h1, mu, es, F⟩ := r.frzD en
    refine .inr ⟨p, u, h1, mu, fun od => ?_⟩
    obtain ⟨g1, r1, f1, eb, _⟩ := F od
    exact ⟨_, g1, r1, M.wpB_mono (fun _ _ x => x.of f1) (fun _ _ x => x) _ _ (eb ▸ w)⟩
  · exact .inl ⟨Γ, g, r, w⟩
end
end DL
/-! A list of one's own, lent to what is called: it is data while the call runs. -/
namespace DL
open PySem PySem.Spec PyProof.Rows L2
mutual
/-- no list stands in it -/
def D.noL : D → Bool
  | .tup xs => D.noLL xs
  | .pr xs => D.noLL xs
  | .ins _ fs => D.noLL fs
  | .exc _ v => v.noL
  | .err _ v => v.noL
  | .lst _ => false
  | .scr _ => false
  | .dct _ _ => false
  | _ => true
def D.noLL : List D → Bool
  | [] => true
  | d :: r => d.noL && D.noLL r
end
section
variable {L : Lx} {X : Cx} {g g' : Gh} {H H' : Hp} {σ : L2.St} {Γ : Env} {W : WX} {pos : Pos} {i : IE} {e : Expr} {p : Addr}
/-- the ghost without p -/
theorem less_nt (g : Gh) (p a : Addr) (ps : Array Value) : (if a = p then none else g.F a) ≠ some (.tbl ps) := fun e => by
  by_cases h : a = p
  · rw [if_pos h] at e; cases e
  · rw [if_neg h] at e; exact g.nt a ps e
def Gh.less (g : Gh) (p : Addr) : Gh := ⟨fun a => if a = p then none else g.F a, g.mu, g.bud, less_nt g p⟩
theorem Gh.less_at {a : Addr} (h : a ≠ p) : (g.less p).F a = g.F a := if_neg h
theorem Gh.less_p : (g.less p).F p = none := if_pos rfl
theorem Gh.less_sub {a : Addr} {o : HO} (h : (g.less p).F a = some o) : a ≠ p ∧ g.F a = some o := by
  by_cases q : a = p
  · subst q; rw [Gh.less_p] at h; cases h
  · rw [Gh.less_at q] at h; exact ⟨q, h⟩
theorem Gh.less_of {a : Addr} {o : HO} {ws : List V} (hp : g.F p = some (.lst ws)) (h : g.F a = some o) (no : o ≠ .lst ws) : (g.less p).F a = some o := by
  rw [Gh.less_at fun z => ?_]
  · exact h
  · rw [z, hp] at h
    exact no (Option.some.inj h).symm
mutual
theorem Den.less {ws : List V} (hp : g.F p = some (.lst ws)) : ∀ {v : V} {d : D}, Den L g v d → d.noL = true → Den L (g.less p) v d
  | _, _, .non, _ => .non
  | _, _, .bl b, _ => .bl b
  | _, _, .int i, _ => .int i
  | _, _, .str s, _ => .str s
  | _, _, .tup e l, h => .tup (by
      rcases e with ⟨z, e⟩ | e | ⟨o, e, r⟩
      · exact .inl ⟨z, Gh.less_of hp e fun z => nomatch z⟩
      · exact .inr (.inl e)
      · exact .inr (.inr ⟨o, Gh.less_of hp e (fun z => nomatch z), r⟩)) (DenL.less hp l (by simpa only [D.noL] using h))
  | _, _, .lst _ _, h => by simp only [D.noL] at h; cases h
  | _, _, .dK _ _ _, h => by simp only [D.noL] at h; cases h
  | _, _, .dT _ _ _, h => by simp only [D.noL] at h; cases h
  | _, _, .ins (c := c) e z l, h => .ins (c := c) (Gh.less_of hp e fun z => nomatch z) z (DenL.less hp l (by simpa only [D.noL] using h))
  | _, _, .exc (n := n) a b c l, h => .exc (n := n) (Gh.less_of hp a fun z => nomatch z) (Gh.less_of hp b fun z => nomatch z) c (Den.less hp l (by simpa only [D.noL] using h))
  | _, _, .err (n := n) a l, h => .err (n := n) a (Den.less hp l (by simpa only [D.noL] using h))
  | _, _, .ty n, _ => .ty n
  | _, _, .clo n, _ => .clo n
  | _, _, .rnd e, _ => .rnd e
  | _, _, .scr _, h => by simp only [D.noL] at h; cases h
  | _, _, .pr e l, h => .pr (Gh.less_of hp e fun z => nomatch z) (DenL.less hp l (by simpa only [D.noL] using h))
theorem DenL.less {ws : List V} (hp : g.F p = some (.lst ws)) : ∀ {vs : List V} {ds : List D}, DenL L g vs ds → D.noLL ds = true → DenL L (g.less p) vs ds
  | _, _, .nil, _ => .nil
  | _, _, .cons a l, h => by
    simp only [D.noLL, Bool.and_eq_true] at h
    exact .cons (Den.less hp a h.1) (DenL.less hp l h.2)
end
theorem lst_nt {ws : List V} (ps : Array Value) : HO.lst ws ≠ .tbl ps := fun z => nomatch z
theorem Stp.less {ws : List V} (h3 : g.F p = none) (s : Stp L (g.put p (.lst ws) lst_nt) H g' H') : Stp L g H (g'.less p) H' := by
  have le : ∀ a o, g.F a = some o → (g.put p (.lst ws) lst_nt).F a = some o := fun a o e => upd_keep h3 e
  refine ⟨fun a o e => ?_, s.mu, fun a o e => s.sub _ _ (Gh.less_sub e).2, s.keep, fun a h => ⟨(s.nf a h).1, fun e => ?_⟩, fun a o e => s.nm _ _ (Gh.less_sub e).2, ⟨s.rnd.1, s.rnd.2⟩, s.bud, s.tab⟩
  · rw [Gh.less_at fun z => by rw [z, h3] at e; cases e]
    exact s.le _ _ (le _ _ e)
  · by_cases q : a = p
    · subst q; exact .inl Gh.less_p
    · rcases (s.nf a h).2 ((upd_ne q).trans e) with z | z
      · exact .inl (by rw [Gh.less_at q]; exact z)
      · exact .inr z
/-- the list in slot n is frozen -/
theorem Rep.lend {n : Nat} {ds : List D} (r : Rep L Γ g σ H) (en : Γ[n]? = some (some (.ol ds))) : ∃ p ws, g.F p = none ∧ H p = some (.lst ws) ∧ Rep L (Γ.set n (some (.fz (.lst ds)))) (g.put p (.lst ws) lst_nt) σ H := by
  obtain ⟨x, es, p, ws, e2, h1, h2, h3, h4⟩ := r.loc _ _ en
  subst e2
  have hl : n < Γ.length := (List.getElem?_eq_some_iff.mp en).1
  have le : ∀ a o, g.F a = some o → (g.put p (.lst ws) lst_nt).F a = some o := fun a o e => upd_keep h3 e
  have hF : ∀ a u, (g.put p (.lst ws) lst_nt).F a = some u → (a = p ∧ u = .lst ws) ∨ g.F a = some u := fun a u e => by
    by_cases h : a = p
    · subst h
      have e' : L2.upd g.F a (.lst ws) a = some u := e
      rw [upd_same] at e'
      exact .inl ⟨rfl, (Option.some.inj e').symm⟩
    · have e' : L2.upd g.F p (.lst ws) a = some u := e
      rw [upd_ne h] at e'
      exact .inr e'
  have fr : ∀ q, q ≠ p → g.F q = none → (g.put p (.lst ws) lst_nt).F q = none := fun q nq e => (upd_ne nq).trans e
  have at_ : ∀ (i : Nat) (b : B), (Γ.set n (some (.fz (.lst ds))))[i]? = some (some b) → (i = n ∧ b = .fz (.lst ds)) ∨ (i ≠ n ∧ Γ[i]? = some (some b)) := fun i b e => by
    by_cases h : i = n
    · subst h
      rw [List.getElem?_set_self hl] at e
      cases e
      exact .inl ⟨rfl, rfl⟩
    · rw [List.getElem?_set_ne (Ne.symm h)] at e
      exact .inr ⟨h, e⟩
  refine ⟨p, ws, h3, h1, ⟨fun a o e => ?_, ⟨r.rnd.1, r.rnd.2⟩, r.tab, fun i b e => ?_, fun i j b c q e1 e2 o1 o2 s1 s2 => ?_, fun a o e => ?_, by rw [List.length_set]; exact r.len⟩⟩
  · rcases hF a o e with ⟨rfl, rfl⟩ | e
    · exact h1
    · exact r.sub a o e
  · rcases at_ i b e with ⟨rfl, rfl⟩ | ⟨hi, e⟩
    · exact ⟨_, es, .ref p, rfl, .lst put_F (h2.mono le fun _ e => e)⟩
    · obtain ⟨x, ex, hb⟩ := r.loc i b e
      refine ⟨x, ex, ?_⟩
      cases b with
      | fz d => obtain ⟨v, rfl, t⟩ := hb; exact ⟨v, rfl, t.mono le fun _ e => e⟩
      | ol es' =>
        obtain ⟨q, ws, rfl, a1, a2, a3, a4⟩ := hb
        have nq : q ≠ p := fun z => hi (r.dis i n _ _ p e en rfl rfl (z ▸ ex) es)
        exact ⟨q, ws, rfl, a1, a2.mono le (fun _ e => e), fr q nq a3, a4⟩
      | od t kvs =>
        obtain ⟨q, rfl, a1, a2, a3⟩ := hb
        have nq : q ≠ p := fun z => hi (r.dis i n _ _ p e en rfl rfl (z ▸ ex) es)
        exact ⟨q, rfl, fr q nq a1, a2, a3.step rfl le fun _ e => e⟩
      | os m fs =>
        obtain ⟨q, dx, ws, rfl, sq, a1, a2, a3, a4⟩ := hb
        have nq : q ≠ p := fun z => hi (r.dis i n _ _ p e en rfl rfl (z ▸ ex) es)
        exact ⟨q, dx, ws, rfl, sq, a1, a2.mono le (fun _ e => e), fr q nq a3, a4⟩
  · rcases at_ i b e1 with ⟨_, rfl⟩ | ⟨_, e1⟩
    · cases o1
    rcases at_ j c e2 with ⟨_, rfl⟩ | ⟨_, e2⟩
    · cases o2
    exact r.dis i j b c q e1 e2 o1 o2 s1 s2
  · rcases hF a o e with ⟨rfl, rfl⟩ | e
    · exact h4
    · exact r.nF _ _ e
def M.keepL (m : M D) : M D := m.tryM (fun d => if d.noL = true then .ret d else .stuck) (fun x => if x.v.noL = true then .exc x else .stuck)
def iLend (n : Nat) (i : IE) : IE := fun Γ => match Γ[n]? with
  | some (some (.ol ds)) => (i (Γ.set n (some (.fz (.lst ds))))).keepL
  | _ => i Γ
theorem de_lend {n : Nat} (h : DE L X i e) : DE L X (iLend n i) e := fun W tk => by
  refine PE.imp (h W tk) fun σ H Q ⟨Γ, g, r, w⟩ => ?_
  unfold iLend at w
  split at w
  · rename_i ds en
    obtain ⟨p, ws, h3, h1, r1⟩ := r.lend en
    refine ⟨_, _, r1, M.wpB_mono (fun d b k v g' H' s eb t => ?_) (fun x b k => ?_) _ _ ((M.wpB_try _ _).mp w)⟩
    · split at k
      · rename_i hn
        exact k v _ H' (s.less h3) eb (t.less (s.le _ _ put_F) hn)
      · exact k.elim
    · split at k
      · rename_i hn
        intro cls d g' H' s eb ea
        obtain ⟨hc, da, f, v, hd, hf, hda, hv⟩ := ea
        exact k cls d _ H' (s.less h3) eb ⟨hc, da, f, v, hd, hf, hda, hv.less (s.le _ _ put_F) hn⟩
      · exact k.elim
  · exact ⟨Γ, g, r, w⟩
end
end DL
/-! Slots of one's own from branches and pairs; list(d.values()); max(list). -/
namespace DL
open PySem PySem.Spec PyProof.Rows L2
section
variable {L : Lx} {X : Cx} {g0 g g' : Gh} {H0 H H' : Hp} {σ : L2.St} {Γ : Env} {W : WX} {pos p apos cpos : Pos} {i j : IE} {a b e : Expr}
/-- x = a new list if c else data -/
def sOwnIf (n : Nat) (c : IT) (i j : IE) : IS := fun Γ => (c Γ).bind fun t => if t = true then sOwn n i Γ else sSet n j Γ
theorem ds_ownIf {n : Nat} {x : Str} {c : IT} {ce : Expr} {pos' p2 : Pos} (hN : X.N.Nodup) (hi : X.N[n]? = some x) (hx : Loc X.env.scope x) (hc : DT L X c ce) (ha : DF L X i a) (hb : DE L X j b)
    (hs : swapsWith (.IfExp ce a b p2) (some (.Name x pos')) pos.line X.env = pure false := by rfl)
    (hf : X.fn x = true ∨ X.env.scope.names.lookup x = some .local := by first | exact .inl rfl | exact .inr rfl) : DS L X (sOwnIf n c i j) (.Assign [.Name x pos'] (.IfExp ce a b p2) pos) := fun W g0 H0 tk => by
  refine PS.imp (ps_set hN hi hx (pe_ifExp (hc W tk) (ha W tk) (hb W tk)) hs hf) fun Dn σ H ⟨Γ, g, r, w⟩ => ?_
  refine ⟨Γ, g, r.rep, M.wpB_mono (fun t b k g1 H1 s e => ?_) (fun _ _ x => x.xw r.base) _ _ ((M.wpB_bind _ _).mp w)⟩
  subst e
  cases t with
  | true =>
    refine iteT (Rd1.goS (f := fun d => match d with
      | .lst ds => M.ret (Fl.nx (Γ.set n (some (.ol ds))))
      | _ => .stuck) (r.step s) (show ((i Γ).bind _).wpB g1.bud (FlT L g0 H0 g Dn) (XS L W g0 H0) from k) fun v H2 d g2 r2 s2 t w => ?_)
    cases d with
    | lst ds => exact w g2 _ H2 ((r.step s).setOwn s2 t) (s.fle.trans s2.fle) rfl
    | _ => exact w.elim
  | false =>
    refine iteF (Rd1.goS (f := fun d => M.ret (Fl.nx (Γ.set n (some (.fz d))))) (r.step s) (show ((j Γ).bind _).wpB g1.bud (FlT L g0 H0 g Dn) (XS L W g0 H0) from k) fun v H2 d g2 r2 s2 t w => ?_)
    exact w g2 _ H2 (r2.set t) (s.fle.trans s2.fle) rfl
/-- a, b = e, a new list -/
def sParO (n m : Nat) (i j : IE) : IS := fun Γ => (i Γ).bind fun d => (j Γ).bind fun e => match e with
  | .lst ds => .ret (.nx ((Γ.set n (some (.fz d))).set m (some (.ol ds))))
  | _ => .stuck
theorem ds_parO {n m : Nat} {x y : Str} {px py pt : Pos} {kt k2 pt2} (hc : X.calm = true) (hN : X.N.Nodup) (hi : X.N[n]? = some x) (hj : X.N[m]? = some y) (hij : n ≠ m)
    (hx : X.env.scope.names.lookup x = some .local) (hy : X.env.scope.names.lookup y = some .local) (ha : DE L X i a) (hb : DF L X j b)
    (hw : swappedStores [.Tuple [.Name x px, .Name y py] kt pt] (.Tuple [a, b] k2 pt2) X.env = pure (some [x, y]))
    (hs : swapsWithSole [.Tuple [.Name x px, .Name y py] kt pt] (.Tuple [a, b] k2 pt2) pos.line X.env = pure false := by rfl)
    (hs1 : starEach (a :: [b]) X.env = (false, eval a X.env) :: starEach [b] X.env := by rfl) (hs2 : starEach (b :: []) X.env = (false, eval b X.env) :: starEach [] X.env := by rfl) :
    DS L X (sParO n m i j) (.Assign [.Tuple [.Name x px, .Name y py] kt pt] (.Tuple [a, b] k2 pt2) pos) := fun W g0 H0 tk => by
  refine PS.imp (ps_par hc hN hi hj hij hx hy (pa_cons (ha W tk) (pa_cons (hb W tk) pa_nil hs2) hs1) hw hs) fun Dn σ H ⟨Γ, g, r, w⟩ => ?_
  refine Rd1.goS r w fun v H1 d g1 r1 s1 t1 w => ?_
  refine Rd1.goS r1 w fun u H2 e g2 r2 s2 t2 w => ?_
  cases e with
  | lst ds =>
    have rs := (r1.set (n := n) t1)
    obtain ⟨q, us, ds', rfl, e', h1, h2, h3, h4, h5⟩ := id t2
    cases e'
    exact ⟨_, _, rfl, w g2 _ H2 (rs.setOwn s2 t2) (s1.fle.trans s2.fle) rfl⟩
  | _ => exact w.elim
theorem frTD_back {g g1 g2 : Gh} {H H1 H2 : Hp} {v : V} {d : D} (s : Stp L g H g1 H1) : FrTD L H1 g2 H2 v d → FrTD L H g2 H2 v d := fun ⟨p, t, kvs, e1, e2, h1, h3, h4, h5⟩ => ⟨p, t, kvs, e1, e2, h1, h3, h4, none_back s h5⟩
theorem dfd_ty {x : Str} {es : List Expr} {is : List IE} {id : String} {f : List D → Option D} (ho : CaD L X FrTD (.type id) f) (gl : Gl X x) (mn : X.mg x = none) (bv : bootBuiltins x = some (.type id)) (ha : DAv L X is (e :: es)) (n1 : x ≠ "__name__" := by decide) (n2 : (x == ("__debug__" : Str)) = false := by decide)
    (h1 : starEach (e :: es) X.env = (false, eval e X.env) :: starEach es X.env := by rfl) (h2 : (backTo pos (starEach es X.env)).any (·.1) = false := by rfl) : DFD L X (iBi f is) (.Call (.Name x p) (e :: es) [] pos) := fun W tk =>
  PE.imp (pe_callTy ho gl mn bv (ha W tk) n1 n2 h1 h2) fun σ H Q h => RdAv.bi frTD_back h
/-! list(d.values()) -/
def valuesO (q d : Addr) : HO := .ext fun h => h.IsValuesView q d
def rValuesR : V → List V → Hp → VK → Prop := fun x xs H Q => ∃ (a : Addr) (kvs : List (List Key × V)), x = .ref a ∧ xs = [] ∧ Rd H a (.dT kvs) ∧ ∀ p, H p = none → Q (.ref p) (upd H p (valuesO p a))
theorem mt_valuesR : MtR X "dict.values" rValuesR := by
  intro pins s σ H x xs v us Q I rx rxs h
  obtain ⟨a, kvs, rfl, rfl, ha, q⟩ := h
  cases rx
  cases rxs
  obtain ⟨z, hd, xs', rel, o, es, ep, ho, hx, hdat, _⟩ := dt_rd I.hok ha
  have hf : H s.heap.objs.size = none := I.hok.fresh (Nat.le_refl _)
  refine call_meetsIn PySem.F.slot_dict_values ⟨o, ho, hx.1⟩ PySem.F.entry_dict_values (PySem.F.args_dict_values_1 _) (meets_dict_values_raw a hd) ⟨⟨es, ep, o, ho, hx, hdat⟩, ?_⟩
  have new : ∀ H2, ObjOk X.prog X.w H2 (s.heap.push { cls := .type "dict_values", data := .fields #[.ref a] }) s.heap.objs.size (valuesO s.heap.objs.size a) := fun H2 =>
    have hp := Heap.get?_push_size s.heap (o := { cls := .type "dict_values", data := .fields #[.ref a] }) rfl
    ⟨⟨_, hp, rfl, rfl⟩, ⟨_, hp⟩, fun h1 h2 x k => let ⟨o, ho, r⟩ := x; ⟨o, k o ho, r⟩⟩
  exact ⟨.ref s.heap.objs.size, upd H s.heap.objs.size (valuesO s.heap.objs.size a), I.laid (t' := s.toks) (fun b u e => Heap.get?_push_of_some _ e) (Nat.le_refl _) (new _), rfl, q _ hf⟩
theorem cr_listV (hc : X.calm = true) : CallR X (.type "list") (fun xs H Q => ∃ q a kvs, xs = [V.ref q] ∧ H q = some (valuesO q a) ∧ Rd H a (.dT kvs) ∧ ∀ p, H p = none → Q (.ref p) (upd H p (.lst (kvs.map (·.2))))) := by
  intro pins s σ H xs us Q I r h
  obtain ⟨q, a, kvs, rfl, hq, ha, qq⟩ := h
  obtain ⟨u, rfl, rx⟩ := vals1 r
  cases rx
  have view : s.heap.IsValuesView q a := (show ObjOk X.prog X.w H s.heap q (valuesO q a) from I.hok q _ hq).1
  obtain ⟨z, hd, xs', rel, o, es, ep, ho, hx, hdat, hes, his, hn⟩ := dt_rd I.hok ha
  have l2 : es.size = xs'.length := by
    have := congrArg List.length hes
    rw [List.length_map, Array.length_toList] at this
    exact this
  have l1 : kvs.length = xs'.length := Paired.length rel
  refine PySem.W.kdl_call (PySem.KdlSrc.rawValues) (I.ok.hd hc) ⟨view, o, ho, hx, hdat⟩ (by omega) fun h' tk acc' c' kp e it => ?_
  have rv : Vals (kvs.map (·.2)) acc'.toList := by
    refine vals_of_at (by have z1 : acc'.toList.length = acc'.size := Array.length_toList; have z2 := it.1; rw [List.length_map, z1, z2]; omega) fun n x u hx hu => ?_
    obtain ⟨hlt, ev⟩ := it.2 n u (by rw [← Array.getElem?_toList]; exact hu)
    rw [List.getElem?_map] at hx
    obtain ⟨kv, hkv, rfl⟩ := Option.map_eq_some_iff.mp hx
    have hn' : n < xs'.length := by omega
    obtain ⟨y, hy, _, _, r3⟩ := at_pair rel (List.getElem?_eq_getElem hn')
    rw [hkv] at hy
    cases hy
    have e2 : es.toList[n]? = some es[n] := by rw [Array.getElem?_toList]; exact Array.getElem?_eq_getElem hlt
    rw [hes, List.getElem?_map, List.getElem?_eq_getElem hn'] at e2
    have e3 := Option.some.inj e2
    rw [ev, ← e3]
    exact r3
  refine ⟨.ref s.heap.objs.size, _, I.laid (t' := tk) (o := .lst (kvs.map (·.2))) kp (Nat.le_refl _) ?_, rfl, qq _ (I.hok.fresh (Nat.le_refl _))⟩
  exact ⟨by rw [List.length_map]; omega, acc'.toList, c', rv, by rw [Array.toArray_toList]; exact e⟩
def iVals (i : IE) : IE := fun Γ => (i Γ).bind fun x => match x with
  | .dct true kvs => .ret (.lst (kvs.map (·.2)))
  | _ => .stuck
theorem df_listVals (hc : X.calm = true) (hg : Gl X "list") (hm : X.mg "list" = none) (h : DV L X i e) (hbase : attributeBase e "values" X.env (eval e X.env) = eval e X.env := by rfl) (hline : (apos.endLine == cpos.line) = true := by rfl)
    (he : starEach [.Call (.Attribute e "values" apos) [] [] cpos] X.env = (false, eval (.Call (.Attribute e "values" apos) [] [] cpos) X.env) :: starEach [] X.env := by rfl) (hpl : (backTo pos (starEach [] X.env)).any (·.1) = false := by rfl) :
    DF L X (iVals i) (.Call (.Name "list" p) [.Call (.Attribute e "values" apos) [] [] cpos] [] pos) := fun W tk => by
  refine PE.imp (pe_callTy (cr_listV hc) hg hm (by decide +kernel) (pa_cons (pe_dm0 PySem.F.slot_dict_values PySem.F.type_dict_values mt_valuesR (h W tk) hbase hline) pa_nil he) (by decide) (by decide) he hpl) fun σ H Q ⟨Γ, g, rp, w⟩ => ?_
  refine Rd1.go rp w fun x H1 dx g1 r1 s1 t1 w => ?_
  cases dx with
  | dct t kvs =>
    cases t with
    | false => exact w.elim
    | true =>
      obtain ⟨ad, rfl, hd⟩ := Vw.dct r1.sub t1
      rcases hd with ⟨_, _, _, _, _, _, _, z⟩ | ⟨ks, vs, ds, h1, h2, h3, rfl, _⟩
      · cases z
      · refine ⟨⟨ad, rfl, .inr ⟨_, h1⟩⟩, ad, _, rfl, rfl, h1, fun q nq => ?_⟩
        have sv := stp_new (o := valuesO q ad) r1 nq false
        have rv := r1.step sv
        refine ⟨q, ad, _, rfl, upd_same, rd_new nq h1, fun p' np => ?_⟩
        have sn := stp_new (o := .lst ((ks.zip vs).map (·.2))) rv np false
        have eq : ((ks.map fun k => D.tup (k.map keyD)).zip ds).map (·.2) = ds := List.map_snd_zip (by rw [List.length_map, h2, h3.length]; exact Nat.le_refl _)
        have ev : (ks.zip vs).map (·.2) = vs := List.map_snd_zip (by rw [h2]; exact Nat.le_refl _)
        have w2 : Wn L FrT g H Q (.lst (((ks.map fun k => D.tup (k.map keyD)).zip ds).map (·.2))) g1.bud := w
        rw [eq] at w2
        refine w2 _ _ _ (s1.trans (sv.trans sn)) rfl ?_
        rw [ev] at sn ⊢
        exact frT_back (s1.trans sv) (FrT.new (H := upd H1 q (valuesO q ad)) rv (Stp.refl rv) np h3)
  | _ => exact w.elim
/-! max(list) -/
def intsOf : List D → Option (List Int)
  | [] => some []
  | .int i :: r => (intsOf r).map (i :: ·)
  | _ => none
def maxI (x : Int) (xs : List Int) : Int := xs.foldl max x
theorem maxI_le : ∀ (xs : List Int) (x : Int), x ≤ maxI x xs ∧ (∀ y ∈ xs, y ≤ maxI x xs) ∧ (maxI x xs = x ∨ maxI x xs ∈ xs)
  | [], x => ⟨Int.le_refl _, fun y h => by simp at h, .inl rfl⟩
  | y :: r, x => by
    obtain ⟨h1, h2, h3⟩ := maxI_le r (max x y)
    show x ≤ maxI (max x y) r ∧ (∀ z ∈ y :: r, z ≤ maxI (max x y) r) ∧ (maxI (max x y) r = x ∨ maxI (max x y) r ∈ y :: r)
    refine ⟨by omega, fun z hz => ?_, ?_⟩
    · rcases List.mem_cons.mp hz with rfl | hz
      · omega
      · exact h2 z hz
    · rcases h3 with h3 | h3
      · rw [h3]
        rcases Int.le_total x y with q | q
        · exact .inr (by rw [Int.max_eq_right q]; exact List.mem_cons_self)
        · exact .inl (Int.max_eq_left q)
      · exact .inr (List.mem_cons_of_mem _ h3)
def fMaxL : List D → Option D
  | [.lst xs] => match intsOf xs with
    | some (i :: is) => some (.int (maxI i is))
    | _ => none
  | _ => none
theorem intsOf_den : ∀ {vs : List V} {xs : List D} {ns : List Int}, DenL L g vs xs → intsOf xs = some ns → vs = ns.map V.int
  | _, _, _, .nil, h => by cases h; rfl
  | _, _, _, .cons (d := d) a l, h => by
    cases d with
    | int i =>
      obtain ⟨r, hr, rfl⟩ := Option.map_eq_some_iff.mp h
      cases a
      rw [intsOf_den l hr]
      rfl
    | _ => cases h
theorem ca_maxL (hc : X.calm = true) : CaD L X DenT (.builtin "max") fMaxL := by
  intro pins st σ H xs us Q I r ⟨Γ, g, σ', ds, d, rp, vs, e, w⟩
  unfold fMaxL at e
  split at e
  · rename_i xs'
    split at e
    · rename_i i0 is hi
      cases e
      obtain ⟨v, rfl, a⟩ := vs.one
      obtain ⟨q, ws, rfl, e1, l1⟩ := a.lst rp.sub
      obtain ⟨u, eu, ru⟩ := vals1 r
      subst eu
      obtain rfl : u = Value.ref q := ru
      have ew := intsOf_den l1 hi
      obtain ⟨its, rv, pl, hz⟩ := I.list (.inl (.inl e1))
      have hl := rv.length
      have lw : ws.length = (i0 :: is).length := by rw [ew, List.length_map]
      have at_ : ∀ (n : Nat) (v : Value), its[n]? = some v → ∃ t, v = .int ((i0 :: is).getD n 0) t := fun n v hv => by
        have hn : n < its.length := (List.getElem?_eq_some_iff.mp hv).1
        have hn2 : n < (i0 :: is).length := by omega
        obtain ⟨u, hu, ru⟩ := rv.get (show ws[n]? = some (V.int (i0 :: is)[n]) from by rw [ew, List.getElem?_map, List.getElem?_eq_getElem hn2]; rfl)
        rw [hv] at hu
        cases hu
        obtain ⟨t, rfl⟩ := ru
        refine ⟨t, ?_⟩
        rw [List.getD_eq_getElem?_getD, List.getElem?_eq_getElem hn2]
        rfl
      refine call_max_walk (iter_anyList pl.isList fun s₂ e2 st2 hfp hlI => ?_)
      subst e2
      refine ⟨_, _, _, _, _, _, _, rfl, Walks.list (A := X.A.in1) (show X.A.in1.handled = none from I.ok.hd hc) _ q hlI its.toArray, st2, hfp, by rw [List.size_toArray, ← hl, lw]; exact Nat.succ_pos _, CmpOf.ints_gt (fun n => (i0 :: is).getD n 0) (fun n v z => at_ n v (by simpa using z)), fun v h' tk hP hk => ?_⟩
      have hP' : its[argBest (fun i j => decide ((i0 :: is).getD i 0 > (i0 :: is).getD j 0)) (its.toArray.size - 1)]? = some v := by rw [← List.getElem?_toArray]; exact hP
      obtain ⟨t, rfl⟩ := at_ _ _ hP'
      have hsz : its.toArray.size = (i0 :: is).length := by rw [List.size_toArray, ← hl, lw]
      obtain ⟨m1, m2⟩ := argBest_gt (fun n => (i0 :: is).getD n 0) (its.toArray.size - 1)
      obtain ⟨q1, q2, q3⟩ := maxI_le is i0
      have up : ∀ y ∈ i0 :: is, y ≤ (i0 :: is).getD (argBest (fun i j => decide ((i0 :: is).getD i 0 > (i0 :: is).getD j 0)) (its.toArray.size - 1)) 0 := fun y hy => by
        obtain ⟨j, hj, ej⟩ := List.mem_iff_getElem.mp hy
        have z := m2 j (by omega)
        have e3 : (i0 :: is).getD j 0 = y := by rw [List.getD_eq_getElem?_getD, List.getElem?_eq_getElem hj, ← ej]; rfl
        rw [← e3]
        exact z
      have mem : (i0 :: is).getD (argBest (fun i j => decide ((i0 :: is).getD i 0 > (i0 :: is).getD j 0)) (its.toArray.size - 1)) 0 ∈ i0 :: is := by
        have hlt : argBest (fun i j => decide ((i0 :: is).getD i 0 > (i0 :: is).getD j 0)) (its.toArray.size - 1) < (i0 :: is).length := by
          have := List.length_pos_iff.mpr (show i0 :: is ≠ [] from nofun)
          omega
        rw [List.getD_eq_getElem?_getD, List.getElem?_eq_getElem hlt]
        exact List.getElem_mem hlt
      have eq : (i0 :: is).getD (argBest (fun i j => decide ((i0 :: is).getD i 0 > (i0 :: is).getD j 0)) (its.toArray.size - 1)) 0 = maxI i0 is := by
        refine Int.le_antisymm ?_ ?_
        · rcases List.mem_cons.mp mem with z | z
          · rw [z]; exact q1
          · exact q2 _ z
        · refine up _ ?_
          rcases q3 with z | z
          · rw [z]; exact List.mem_cons_self
          · exact List.mem_cons_of_mem _ z
      rw [eq]
      have hk2 : ∀ b o, st.heap.get? b = some o → h'.get? b = some o := PySem.old_kept hk
      exact ⟨.int _, H, I.kept (t' := tk) hk2, ⟨t, rfl⟩, w _ g H (Stp.refl rp) rfl (.int _)⟩
    · cases e
  · cases e
end
end DL
/-! Short words for gen.py. -/
namespace DL
open PySem PySem.Spec PyProof.Rows L2
theorem u1 {n : Nat} (h : n + 64 < cLine) : n + 1 < cLine := by omega
theorem u2 {n : Nat} (h : n + 64 < cLine) : n + 2 < cLine := by omega
end DL
/-! sorted of a list or a tuple. -/
namespace DL
open PySem PySem.W PySem.Calls PySem.Spec PyProof.Rows PyProof.V L2
section
variable {prog : Program} {w : World} {A : Around} {E : Value → Shared → Prop} {s : Shared}
theorem sortedTup {t : Addr} {o : Obj} {items : Array Value} {n : Nat} {Q : Value → Shared → Prop} (ho : s.heap.get? t = some o) (hc : o.cls = .type "tuple") (hd : o.data = .seq items n) (hz : items.size ≤ sizeLine)
    (h : ∀ (h' : Heap), (∀ b o, s.heap.get? b = some o → h'.get? b = some o) →
      wpAny (model prog w) A.in1 (call (.builtin "list.sort") [.ref h'.objs.size]) (fun _ s' => Q (.ref h'.objs.size) s') E { s with heap := h'.push { cls := .type "list", data := .seq items.toList.toArray } }) :
    wpAny (model prog w) A (call (.builtin "sorted") [.ref t]) Q E s := by
  refine call_function_entry kind_sorted plain_sorted entry_sorted (args_sorted1 _) ?_
  unfold Builtin.«sorted»
  refine wpAny_bind (m := checkCount "sorted" 1 1 _) (wpAny_pure ?_)
  refine wpAny_bind (wpAny_collect_seq (A := A.in1) t (.inr rfl) ho hc hd (fun h' hk => ?_) hz)
  refine wpAny_bind (wpAny_newList ?_ (by rw [Array.length_toList]; exact hz))
  exact wpAny_bind (wpAny_holding (wpAny_mono (h h' hk) (fun _ s' x => wpAny_pure ⟨_, rfl, x⟩) fun _ _ e => e))
end
section
variable {L : Lx} {X : Cx} {g g' : Gh} {H H' : Hp} {σ : L2.St} {Γ : Env}
def fSortedT : List D → Option D
  | [.tup ds] => if okSort ds = true then some (.lst (sortD ds)) else none
  | _ => none
theorem ca_sortedT (hK : X.K = L.K) (hu : X.A.units + 66 < cLine) : CaD L X FrT (.builtin "sorted") fSortedT := by
  intro pins st σ H xs us Q I r ⟨Γ, g, σ', ds, d, rp, vs, e, w⟩
  unfold fSortedT at e
  split at e
  · rename_i ds
    split at e
    · rename_i hs
      cases e
      unfold okSort at hs
      simp only [Bool.and_eq_true, Bool.or_eq_true, List.all_eq_true, decide_eq_true_eq] at hs
      obtain ⟨⟨⟨h1, h2⟩, h3⟩, h4⟩ := hs
      obtain ⟨v, rfl, a⟩ := vs.one
      obtain ⟨q, ws, rfl, e1, l1, _⟩ := a.tup rp.sub
      obtain ⟨u, eu, ru⟩ := vals1 r
      subst eu
      obtain rfl : u = Value.ref q := ru
      obtain ⟨its, rv, ⟨o, ho, hc, n, hd⟩, hz⟩ := I.tuple (hK ▸ e1)
      have hpl := plL_all h1
      have hal : PySem.W.AllAlike (ds.map D.py) := fun x hx y hy => by
        obtain ⟨x', hx', rfl⟩ := List.mem_map.mp hx
        obtain ⟨y', hy', rfl⟩ := List.mem_map.mp hy
        exact h2 x' hx' y' hy'
      have hkk : PySem.W.Sortable (ds.map D.py) := by
        rcases h3 with h3 | h3
        · refine .inl fun x hx => ?_
          obtain ⟨x', hx', rfl⟩ := List.mem_map.mp hx
          have t := h3 x' hx'
          cases x' with
          | tup l => cases l with
            | nil => cases t
            | cons y l => exact ⟨y.py, D.pyL l, by simp only [D.py, D.pyL]⟩
          | _ => cases t
        · refine .inr fun x hx => ?_
          obtain ⟨x', hx', rfl⟩ := List.mem_map.mp hx
          have t := h3 x' hx'
          have t2 := hpl x' hx'
          cases x' <;> simp [isTupNon, D.pl, D.py] at t t2 ⊢
      have hlen : ds.length = its.length := l1.length.symm.trans rv.length
      have hz2 : its.length ≤ sizeLine := by have := rv.length; omega
      have hz' : its.toArray.size ≤ sizeLine := by rw [List.size_toArray]; exact hz2
      refine sortedTup (items := its.toArray) ho hc hd hz' fun h' hk => ?_
      have J := I.kept (t' := st.toks) hk
      have hob : (h'.push { cls := .type "list", data := .seq its.toArray.toList.toArray }).get? h'.objs.size = some (seqObj "list" its.toArray 0) := Heap.get?_push_size _ rfl
      have kb : ∀ b ob, h'.get? b = some ob → (h'.push { cls := .type "list", data := .seq its.toArray.toList.toArray }).get? b = some ob := fun b ob e => Heap.get?_push_of_some _ e
      refine PySem.W.list_sort_data (s := { st with heap := h'.push { cls := .type "list", data := .seq its.toArray.toList.toArray } }) (a := h'.objs.size) (n := 0) (R := fun u d => ∃ v, RelV v u ∧ Den L g v d) (enc := D.py) (vs := its) (bs := ds) hob
        (each_of (fun v d u r t _ => ⟨v, r, t⟩) rv l1)
        (each_of (fun v d u r t hd => by
          obtain ⟨bs, rd⟩ := Dp.reads J d.py v u (hK ▸ t.dp rp.sub (hpl d hd)) r
          refine ⟨bs, Reads.keeps kb rd, fun m => ?_⟩
          obtain ⟨ob, eo⟩ := PyProof.On.reads_mem_get rd _ m
          exact absurd (Heap.lt_size eo) (Nat.lt_irrefl _)) rv l1) hal hkk (by omega) (fun d hd => by rw [D.depth_py]; have := h4 d hd; show X.A.units + 1 + 1 + _ < cLine; omega) fun out ho2 eo => ?_
      rw [dLe_eq, ← isort_eq dLe_total] at eo
      obtain ⟨vs', r2, l3⟩ := of_each eo
      obtain ⟨m, hnat⟩ := PyProof.Rows.sortedHeap_at (vs := its) (out := out.toArray) hob
      have nn : H h'.objs.size = none := J.hok.fresh (Nat.le_refl _)
      have hl2 := r2.length
      have J2 := J.laid (t' := st.toks) (h' := sortedHeap (h'.push { cls := .type "list", data := .seq its.toArray.toList.toArray }) h'.objs.size its out.toArray) (o := .lst vs') (fun b ob e => (PyProof.Rows.sortedHeap_old (Nat.ne_of_lt (Heap.lt_size e)) (Heap.lt_size (kb b ob e))).trans (kb b ob e)) (Nat.le_refl _)
        ⟨by omega, out, m, r2, hnat⟩
      exact ⟨.ref _, _, J2, rfl, w _ g _ (stp_new (o := .lst vs') rp nn false) rfl (FrT.new rp (Stp.refl rp) nn l3)⟩
    · cases e
  · cases e
def fSortedA : List D → Option D := orC fSorted fSortedT
theorem ca_sortedA (hK : X.K = L.K) (hu : X.A.units + 66 < cLine) : CaD L X FrT (.builtin "sorted") fSortedA := (ca_sorted hK hu).or (ca_sortedT hK hu)
end
end DL
/-! sum of a list; dicts walked by their items. -/
namespace DL
open PySem PySem.Spec PyProof.Rows L2
section
variable {L : Lx} {X : Cx} {g g' : Gh} {H H' : Hp} {σ : L2.St} {Γ : Env} {W : WX} {pos p apos cpos tpos : Pos} {i : IE} {e : Expr}
def fSum : List D → Option D
  | [.lst xs] => (intsOf xs).map fun ns => .int ns.sum
  | _ => none
theorem ca_sum (hc : X.calm = true) : CaD L X DenT (.builtin "sum") fSum := by
  intro pins st σ H xs us Q I r ⟨Γ, g, σ', ds, d, rp, vs, e, w⟩
  unfold fSum at e
  split at e
  · rename_i xs'
    obtain ⟨ns, hn, rfl⟩ := Option.map_eq_some_iff.mp e
    obtain ⟨v, rfl, a⟩ := vs.one
    obtain ⟨q, ws, rfl, e1, l1⟩ := a.lst rp.sub
    have ew := intsOf_den l1 hn
    subst ew
    exact cr_sum hc pins st σ H _ us Q I r ⟨q, ns, rfl, .inl (.inl e1), w _ g H (Stp.refl rp) rfl (.int _)⟩
  · cases e
/-- the pairs of the locked dict at d, its keys tuples -/
def ItiT (d : Addr) (o : Obj) (kvs : List (List Key × V)) : It :=
  ⟨fun n H => H d = some (.frz o (.dT kvs)) ∧ n < kvs.length, fun n H x H' => ∃ T k v q, kvs[n]? = some (k, v) ∧ x = .ref T ∧ H T = none ∧ H q = some (.tup (k.map kV)) ∧ H' = upd H T (.tup [.ref q, v]), fun n H => H d = some (.frz o (.dT kvs)) ∧ kvs.length ≤ n⟩
theorem dT_entry {P : Program} {w : World} {pins : List (Addr × Obj)} {s : Shared} {d : Addr} {o : Obj} {kvs : List (List Key × V)} (I : Inv X pins σ H s) (h : H d = some (.frz o (.dT kvs))) :
    (d == sysModules) = false ∧ s.heap.get? d = some o ∧ o.ExactDict ∧ ∃ (es : Array DictEntry) (ep : Nat), o.data = .dict es ep ∧ es.size = kvs.length ∧
      ∀ (n : Nat) (k : List Key) (v : V), kvs[n]? = some (k, v) → ∃ (en : DictEntry) (q : Addr), es[n]? = some en ∧ en.key = .ref q ∧ H q = some (.tup (k.map kV)) ∧ RelV v en.val := by
  obtain ⟨hd, z, hs, xs, pr, o', es, ep, ho, hx, hdt, he, _⟩ := I.hok d _ h
  rw [hd] at ho
  cases ho
  refine ⟨hs, hd, hx, es, ep, hdt, ?_, fun n k v e => ?_⟩
  · have l1 : es.size = xs.length := size_of_entries he
    have l2 : kvs.length = xs.length := Paired.length pr
    omega
  · obtain ⟨b, hb, e1, e2, e3⟩ := paired_get pr e
    have q := entry_at he n
    rw [hb] at q
    exact ⟨_, b.2.1, q, rfl, e2, e3⟩
theorem turnItT {P : Program} {w : World} {K : PySem.W.Frag} {elts : List Expr} {kk : Nat} {d : Addr} {o : Obj} {es : Array DictEntry} {ep : Nat} {kvs : List (List Key × V)} (it : Addr) (hod : o.data = .dict es ep) :
    Turn P w K (.Tuple elts kk tpos) (ItiT d o kvs) [it] it (fun n h => ∃ ok ov, IsItemIter h it d n kvs.length ep ok ov) where
  mem := by simp
  obj := fun n h st b hb => by
    rw [List.mem_singleton.mp hb]
    obtain ⟨ok, ov, e⟩ := st
    exact ⟨_, e, fun v z => nomatch z⟩
  keep := fun n h h' st k => let ⟨ok, ov, e⟩ := st; ⟨ok, ov, k it (by simp) _ e⟩
  item := by
    intro X hP hw hK hc n pins s σ H E I hf st hg
    subst hP hw hK
    obtain ⟨hd, hi⟩ := hg
    obtain ⟨hs, hgd, hx, es', ep', hdt, hsz, ent⟩ := dT_entry (P := X.prog) (w := X.w) I hd
    obtain ⟨rfl, rfl⟩ := dict_ep hod hdt
    obtain ⟨⟨k, v⟩, hkv⟩ : ∃ p, kvs[n]? = some p := ⟨kvs[n], List.getElem?_eq_getElem hi⟩
    obtain ⟨en, q, hen, hkey, hq, rv⟩ := ent n k v hkv
    obtain ⟨ok, ov, he⟩ := st
    rw [← hsz] at he
    have hlt : it < s.heap.objs.size := Heap.lt_size he
    have hn : n < es'.size := by omega
    have een : es'[n] = en := by
      rw [Array.getElem?_eq_getElem hn] at hen
      exact Option.some.inj hen
    refine DT.nextI he ⟨o, hgd, hx, hdt⟩ hn fun h' ho hT hz hk => ?_
    rw [een] at ho hT
    refine ⟨_, rfl, wpAny_letOwnedTupleGo_items (s := { s with heap := h' }) ho fun h'' he' sb => ?_⟩
    have hT2 : h''.get? s.heap.objs.size = some { cls := .type "tuple", data := .seq #[en.key, en.val] } := (sb.2 _ (Nat.ne_of_gt hlt)).trans hT
    have new : ObjOk X.prog X.w (upd H s.heap.objs.size (.tup [.ref q, v])) h'' s.heap.objs.size (.tup [.ref q, v]) :=
      ⟨by show 2 ≤ sizeLine; decide, [en.key, en.val], .cons hkey (.cons rv .nil), ⟨_, hT2, rfl, _, rfl⟩⟩
    have I1 : Inv X pins σ (upd H s.heap.objs.size (.tup [.ref q, v])) { s with heap := h'' } :=
      I.turnedNew (t' := s.toks) (ch := [it]) (fun b ob hb e => (sb.2 b (by simpa using hb)).trans (hk b ob (by simpa using hb) e)) hf (Nat.le_refl _) new
    refine ⟨.ref s.heap.objs.size, _, I1, rfl, ⟨_, k, v, q, hkv, rfl, I.hok.fresh (Nat.le_refl _), hq, rfl⟩, ⟨en.key, en.val, ?_⟩, fun b hb => ?_⟩
    · rw [← hsz]; exact he'
    · rw [List.mem_singleton.mp hb, upd_ne (Nat.ne_of_lt hlt)]
      exact (hf it (by simp)).1
  done := by
    intro X hP hw hK hc n pins s σ H E I hf st hg
    subst hP hw hK
    obtain ⟨hd, hi⟩ := hg
    obtain ⟨f0, f1, f2, f3, f4, f5⟩ := hf it (by simp)
    obtain ⟨hs, hgd, hx, es', ep', hdt, hsz, ent⟩ := dT_entry (P := X.prog) (w := X.w) I hd
    obtain ⟨rfl, rfl⟩ := dict_ep hod hdt
    obtain ⟨ok, ov, he⟩ := st
    rw [← hsz] at he
    exact DT.endI (I.ok.hd hc) he ⟨o, hgd, hx, hdt⟩ (by omega) fun h' eb => ⟨rfl, I.turned (t' := s.toks) (fun b ob hb e => eb b ob hb e) f0 f1 f3 f4 f5⟩
  self := fun A n s Q E st h => let ⟨_, _, e⟩ := st; PySem.W.kcp_self e h
/-- for a, b in d.items() -/
def iItemsA (td : TE) : TI := fun σ H R => td σ H fun x H1 => ∃ d o, x = .ref d ∧ ((∃ kvs, H1 d = some (.frz o (.dK kvs)) ∧ R (Iti d o kvs) H1) ∨ ∃ kvs, H1 d = some (.frz o (.dT kvs)) ∧ R (ItiT d o kvs) H1)
theorem pi_itemsA {elts : List Expr} {kk : Nat} {td : TE} (he : PE X e td) (hbase : attributeBase e "items" X.env (eval e X.env) = eval e X.env := by rfl) (hline : (apos.endLine == cpos.line) = true := by rfl) :
    PI X (.Tuple elts kk tpos) (.Call (.Attribute e "items" apos) [] [] cpos) (iItemsA td) := by
  refine ⟨fun pins s σ H R I h => ?_⟩
  refine wpAny_Call_method (T := "dict") (id := "dict.items") hbase rfl hline PySem.F.plainAttrs_dict PySem.F.slot_dict_items PySem.F.type_dict_items (thn (he.run pins s σ H _ I h) fun u s1 ⟨x, H1, I1, rx, d, o, ex, q⟩ => ?_)
  subst ex
  obtain rfl : u = Value.ref d := rx
  have isd : IsD H1 d := by
    rcases q with ⟨kvs, hd, _⟩ | ⟨kvs, hd, _⟩
    · exact .inl ⟨_, .inr ⟨o, hd⟩⟩
    · exact .inr ⟨_, .inr ⟨o, hd⟩⟩
  obtain ⟨h1, h2, h3⟩ := isD_at I1 isd
  refine ⟨h1, h2, ?_⟩
  have I2 : Inv X pins σ H1 { s1 with heap := s1.heap.push { cls := .type "dict_items", data := .fields #[.ref d] } } := I1.kept (t' := s1.toks) fun b ob q => Heap.get?_push_of_some _ q
  have view : (s1.heap.push { cls := .type "dict_items", data := .fields #[.ref d] }).IsItemsView s1.heap.objs.size d := ⟨_, Heap.get?_push_size _ rfl, rfl, rfl⟩
  have fin : ∃ (es : Array DictEntry) (ep : Nat), DT.Raw s1.heap d es ep ∧ wpAny (model X.prog X.w) X.A (pyIter (.ref s1.heap.objs.size)) (PIE X pins σ (.Tuple elts kk tpos) R) X.xe { s1 with heap := s1.heap.push { cls := .type "dict_items", data := .fields #[.ref d] } } := by
    rcases q with ⟨kvs, hd, q⟩ | ⟨kvs, hd, q⟩
    · obtain ⟨hs, hgd, hx, es, ep, vs, hdt, hsz, kv, hm⟩ := I1.frzK hd
      refine ⟨es, ep, ⟨o, hgd, hx, hdt⟩, DT.iterI view (DT.Raw.push ⟨o, hgd, hx, hdt⟩ _) (pi_one (tk := s1.toks) I2 _ (turn_items _ hdt) ⟨.none, .none, ?_⟩ q)⟩
      rw [← hsz]
      exact Heap.get?_push_size _ rfl
    · obtain ⟨hs, hgd, hx, es, ep, hdt, hsz, ent⟩ := dT_entry (P := X.prog) (w := X.w) I1 hd
      refine ⟨es, ep, ⟨o, hgd, hx, hdt⟩, DT.iterI view (DT.Raw.push ⟨o, hgd, hx, hdt⟩ _) (pi_one (tk := s1.toks) I2 _ (turnItT _ hdt) ⟨.none, .none, ?_⟩ q)⟩
      rw [← hsz]
      exact Heap.get?_push_size _ rfl
  obtain ⟨es, ep, rw', fin⟩ := fin
  show wpAny _ _ (callWith cpos (.builtin "dict.items") [.ref d] [] []) _ X.xe s1
  exact method_meetsIn PySem.F.slot_dict_items PySem.F.entry_dict_items rfl (PySem.evalArgs_none ⟨rfl, h1, PySem.F.args_dict_items_1 _, _, DT.meetsItems (es := es) (ep := ep) h3, rw', fin⟩)
theorem wk_itemsT (hz : L.fz = false) {a : Addr} {o : Obj} {ks : List (List Key)} {vs : List V} {ds : List D} (h : g.F a = some (.frz o (.dT (ks.zip vs)))) (hl : ks.length = vs.length) (l : DenL L g vs ds) : Wk L (ItiT a o (ks.zip vs)) g ((ks.zip ds).map fun kd => D.pr [.tup (kd.1.map keyD), kd.2]) where
  step := fun n d Γ g' σ H e r f => by
    rw [List.getElem?_map] at e
    obtain ⟨⟨k, x⟩, ek, rfl⟩ := Option.map_eq_some_iff.mp e
    have hl2 := l.length
    have hn : n < (ks.zip ds).length := (List.getElem?_eq_some_iff.mp ek).1
    rw [List.length_zip] at hn
    refine ⟨⟨r.sub _ _ (f.F _ _ h), by rw [List.length_zip]; omega⟩, fun y H' ⟨T, k', v, q, e2, e3, e4, e5, e6⟩ => ?_⟩
    subst e3 e6
    obtain ⟨z1, z2⟩ := List.getElem?_zip_eq_some.mp ek
    obtain ⟨z3, z4⟩ := List.getElem?_zip_eq_some.mp e2
    rw [z1] at z3
    cases z3
    obtain ⟨v', hv', t⟩ := (l.mono f.F f.mu).get z2
    rw [z4] at hv'
    cases hv'
    obtain ⟨g1, s1, b1, dk⟩ := stp_key hz r e5
    have r1 := r.step s1
    have s2 := stp_put (o := .tup [.ref q, v]) r1 e4
    refine ⟨g1.put T (.tup [.ref q, v]), s1.trans s2, b1, .pr put_F (.cons (dk.mono s2.le s2.mu) (.cons ((t.mono s1.le s1.mu).mono s2.le s2.mu) .nil))⟩
  stop := fun Γ g' σ H r f => ⟨r.sub _ _ (f.F _ _ h), by rw [List.length_zip, List.length_map, List.length_zip]; have := l.length; omega⟩
theorem wk_itemsK {a : Addr} {o : Obj} {ks : List Key} {vs : List V} {ds : List D} (h : g.F a = some (.frz o (.dK (ks.zip vs)))) (hl : ks.length = vs.length) (l : DenL L g vs ds) : Wk L (Iti a o (ks.zip vs)) g ((ks.zip ds).map fun kd => D.pr [keyD kd.1, kd.2]) where
  step := fun n d Γ g' σ H e r f => by
    rw [List.getElem?_map] at e
    obtain ⟨⟨k, x⟩, ek, rfl⟩ := Option.map_eq_some_iff.mp e
    have hl2 := l.length
    have hn : n < (ks.zip ds).length := (List.getElem?_eq_some_iff.mp ek).1
    rw [List.length_zip] at hn
    refine ⟨⟨r.sub _ _ (f.F _ _ h), by rw [List.length_zip]; omega⟩, fun y H' ⟨T, k', v, e2, e3, e4, e6⟩ => ?_⟩
    subst e3 e6
    obtain ⟨z1, z2⟩ := List.getElem?_zip_eq_some.mp ek
    obtain ⟨z3, z4⟩ := List.getElem?_zip_eq_some.mp e2
    rw [z1] at z3
    cases z3
    obtain ⟨v', hv', t⟩ := (l.mono f.F f.mu).get z2
    rw [z4] at hv'
    cases hv'
    have s2 := stp_put (o := .tup [kV k, v]) r e4
    have dk : Den L (g'.put T (.tup [kV k, v])) (kV k) (keyD k) := by
      cases k with
      | inl i => exact .int i
      | inr s => exact .str s
    exact ⟨g'.put T (.tup [kV k, v]), s2, rfl, .pr put_F (.cons dk (.cons (t.mono s2.le s2.mu) .nil))⟩
  stop := fun Γ g' σ H r f => ⟨r.sub _ _ (f.F _ _ h), by rw [List.length_zip, List.length_map, List.length_zip]; have := l.length; omega⟩
def itI (d : D) : M (List D) := match d with
  | .dct _ kvs => .ret (kvs.map fun kv => .pr [kv.1, kv.2])
  | _ => .stuck
def iiI (i : IE) : II := fun Γ => (i Γ).bind itI
theorem di_items (hz : L.fz = false) {elts : List Expr} {kk : Nat} (h : DE L X i e) (hbase : attributeBase e "items" X.env (eval e X.env) = eval e X.env := by rfl) (hline : (apos.endLine == cpos.line) = true := by rfl) :
    DI L X (iiI i) (.Tuple elts kk tpos) (.Call (.Attribute e "items" apos) [] [] cpos) := fun W tk => by
  refine PI.imp (pi_itemsA (h W tk) hbase hline) fun σ H R ⟨Γ, g, r, w⟩ => RdI.go (T := DenT) r w fun v H1 d g1 r1 s t w => ?_
  cases d with
  | dct b kvs =>
    generalize hd : D.dct b kvs = d at t
    cases t with
    | @dK a o ks vs ds e1 e2 e3 =>
      obtain ⟨rfl, rfl⟩ := D.dct.inj hd
      refine ⟨a, o, rfl, .inl ⟨_, r1.sub _ _ e1, w g1 H1 _ (Stp.refl r1) rfl ?_⟩⟩
      rw [List.zip_map_left, List.map_map]
      exact wk_itemsK e1 e2 e3
    | @dT a o ks vs ds e1 e2 e3 =>
      obtain ⟨rfl, rfl⟩ := D.dct.inj hd
      refine ⟨a, o, rfl, .inr ⟨_, r1.sub _ _ e1, w g1 H1 _ (Stp.refl r1) rfl ?_⟩⟩
      rw [List.zip_map_left, List.map_map]
      exact wk_itemsT hz e1 e2 e3
    | _ => cases hd
  | _ => exact w.elim
end
end DL
/-! An instance of one's own, lent to what is called: it is data while the call runs. -/
namespace DL
open PySem PySem.Spec PyProof.Rows L2
mutual
/-- no instance stands in it -/
def D.noI : D → Bool
  | .tup xs => D.noIL xs
  | .pr xs => D.noIL xs
  | .ins _ _ => false
  | .exc _ v => v.noI
  | .err _ v => v.noI
  | .lst xs => D.noIL xs
  | .scr _ => false
  | .dct _ _ => false
  | _ => true
def D.noIL : List D → Bool
  | [] => true
  | d :: r => d.noI && D.noIL r
end
section
variable {L : Lx} {X : Cx} {g g' : Gh} {H H' : Hp} {σ : L2.St} {Γ : Env} {W : WX} {pos : Pos} {i : IE} {e : Expr} {p : Addr}
theorem Gh.less_ofI {C dx : Addr} {a : Addr} {o : HO} {ws : List (Str × V)} (hp : g.F p = some (.ins C dx ws)) (h : g.F a = some o) (no : o ≠ .ins C dx ws) : (g.less p).F a = some o := by
  rw [Gh.less_at fun z => ?_]
  · exact h
  · rw [z, hp] at h
    exact no (Option.some.inj h).symm
mutual
theorem Den.lessI {C dx : Addr} {ws : List (Str × V)} (hp : g.F p = some (.ins C dx ws)) : ∀ {v : V} {d : D}, Den L g v d → d.noI = true → Den L (g.less p) v d
  | _, _, .non, _ => .non
  | _, _, .bl b, _ => .bl b
  | _, _, .int i, _ => .int i
  | _, _, .str s, _ => .str s
  | _, _, .tup e l, h => .tup (by
      rcases e with ⟨z, e⟩ | e | ⟨o, e, r⟩
      · exact .inl ⟨z, Gh.less_ofI hp e fun z => nomatch z⟩
      · exact .inr (.inl e)
      · exact .inr (.inr ⟨o, Gh.less_ofI hp e (fun z => nomatch z), r⟩)) (DenL.lessI hp l (by simpa only [D.noI] using h))
  | _, _, .lst e l, h => .lst (Gh.less_ofI hp e fun z => nomatch z) (DenL.lessI hp l (by simpa only [D.noI] using h))
  | _, _, .dK _ _ _, h => by simp only [D.noI] at h; cases h
  | _, _, .dT _ _ _, h => by simp only [D.noI] at h; cases h
  | _, _, .ins _ _ _, h => by simp only [D.noI] at h; cases h
  | _, _, .exc (n := n) a b c l, h => .exc (n := n) (Gh.less_ofI hp a fun z => nomatch z) (Gh.less_ofI hp b fun z => nomatch z) c (Den.lessI hp l (by simpa only [D.noI] using h))
  | _, _, .err (n := n) a l, h => .err (n := n) a (Den.lessI hp l (by simpa only [D.noI] using h))
  | _, _, .ty n, _ => .ty n
  | _, _, .clo n, _ => .clo n
  | _, _, .rnd e, _ => .rnd e
  | _, _, .scr _, h => by simp only [D.noI] at h; cases h
  | _, _, .pr e l, h => .pr (Gh.less_ofI hp e fun z => nomatch z) (DenL.lessI hp l (by simpa only [D.noI] using h))
theorem DenL.lessI {C dx : Addr} {ws : List (Str × V)} (hp : g.F p = some (.ins C dx ws)) : ∀ {vs : List V} {ds : List D}, DenL L g vs ds → D.noIL ds = true → DenL L (g.less p) vs ds
  | _, _, .nil, _ => .nil
  | _, _, .cons a l, h => by
    simp only [D.noIL, Bool.and_eq_true] at h
    exact .cons (Den.lessI hp a h.1) (DenL.lessI hp l h.2)
end
theorem ins_nt {C dx : Addr} {ws : List (Str × V)} (ps : Array Value) : HO.ins C dx ws ≠ .tbl ps := fun z => nomatch z
theorem Stp.lessI {C dx : Addr} {ws : List (Str × V)} (h3 : g.F p = none) (s : Stp L (g.put p (.ins C dx ws) ins_nt) H g' H') : Stp L g H (g'.less p) H' := by
  have le : ∀ a o, g.F a = some o → (g.put p (.ins C dx ws) ins_nt).F a = some o := fun a o e => upd_keep h3 e
  refine ⟨fun a o e => ?_, s.mu, fun a o e => s.sub _ _ (Gh.less_sub e).2, s.keep, fun a h => ⟨(s.nf a h).1, fun e => ?_⟩, fun a o e => s.nm _ _ (Gh.less_sub e).2, ⟨s.rnd.1, s.rnd.2⟩, s.bud, s.tab⟩
  · rw [Gh.less_at fun z => by rw [z, h3] at e; cases e]
    exact s.le _ _ (le _ _ e)
  · by_cases q : a = p
    · subst q; exact .inl Gh.less_p
    · rcases (s.nf a h).2 ((upd_ne q).trans e) with z | z
      · exact .inl (by rw [Gh.less_at q]; exact z)
      · exact .inr z
/-- the instance in slot n is frozen -/
theorem Rep.lendI {n c : Nat} {fs : List (Str × D)} (r : Rep L Γ g σ H) (en : Γ[n]? = some (some (.os c fs))) (hn : fs.map (·.1) = L.cF c) : ∃ p dx ws, g.F p = none ∧ H p = some (.ins (L.cA c) dx ws) ∧ Rep L (Γ.set n (some (.fz (.ins c (fs.map (·.2)))))) (g.put p (.ins (L.cA c) dx ws) ins_nt) σ H := by
  obtain ⟨x, es, p, dx, ws', e2, e3, h1, h2, h3, h4⟩ := r.loc _ _ en
  obtain ⟨ws, ew⟩ : ∃ ws, ws = (fs.map (·.1)).zip ws' := ⟨_, rfl⟩
  rw [← ew] at h1
  subst e2
  have hl : n < Γ.length := (List.getElem?_eq_some_iff.mp en).1
  have le : ∀ a o, g.F a = some o → (g.put p (.ins (L.cA c) dx ws) ins_nt).F a = some o := fun a o e => upd_keep h3 e
  have hF : ∀ a u, (g.put p (.ins (L.cA c) dx ws) ins_nt).F a = some u → (a = p ∧ u = .ins (L.cA c) dx ws) ∨ g.F a = some u := fun a u e => by
    by_cases h : a = p
    · subst h
      have e' : L2.upd g.F a (.ins (L.cA c) dx ws) a = some u := e
      rw [upd_same] at e'
      exact .inl ⟨rfl, (Option.some.inj e').symm⟩
    · have e' : L2.upd g.F p (.ins (L.cA c) dx ws) a = some u := e
      rw [upd_ne h] at e'
      exact .inr e'
  have fr : ∀ q, q ≠ p → g.F q = none → (g.put p (.ins (L.cA c) dx ws) ins_nt).F q = none := fun q nq e => (upd_ne nq).trans e
  have at_ : ∀ (i : Nat) (b : B), (Γ.set n (some (.fz (.ins c (fs.map (·.2))))))[i]? = some (some b) → (i = n ∧ b = .fz (.ins c (fs.map (·.2)))) ∨ (i ≠ n ∧ Γ[i]? = some (some b)) := fun i b e => by
    by_cases h : i = n
    · subst h
      rw [List.getElem?_set_self hl] at e
      cases e
      exact .inl ⟨rfl, rfl⟩
    · rw [List.getElem?_set_ne (Ne.symm h)] at e
      exact .inr ⟨h, e⟩
  refine ⟨p, dx, ws, h3, h1, ⟨fun a o e => ?_, ⟨r.rnd.1, r.rnd.2⟩, r.tab, fun i b e => ?_, fun i j b c' q e1 e2 o1 o2 s1 s2 => ?_, fun a o e => ?_, by rw [List.length_set]; exact r.len⟩⟩
  · rcases hF a o e with ⟨rfl, rfl⟩ | e
    · exact h1
    · exact r.sub a o e
  · rcases at_ i b e with ⟨rfl, rfl⟩ | ⟨hi, e⟩
    · exact ⟨_, es, .ref p, rfl, .ins (c := 0) (by rw [put_F, ew, hn]) (by rw [← hn, List.length_map, h2.length, List.length_map]) (h2.mono le fun _ e => e)⟩
    · obtain ⟨x, ex, hb⟩ := r.loc i b e
      refine ⟨x, ex, ?_⟩
      cases b with
      | fz d => obtain ⟨v, rfl, t⟩ := hb; exact ⟨v, rfl, t.mono le fun _ e => e⟩
      | ol es' =>
        obtain ⟨q, ws, rfl, a1, a2, a3, a4⟩ := hb
        have nq : q ≠ p := fun z => hi (r.dis i n _ _ p e en rfl rfl (z ▸ ex) es)
        exact ⟨q, ws, rfl, a1, a2.mono le (fun _ e => e), fr q nq a3, a4⟩
      | od t kvs =>
        obtain ⟨q, rfl, a1, a2, a3⟩ := hb
        have nq : q ≠ p := fun z => hi (r.dis i n _ _ p e en rfl rfl (z ▸ ex) es)
        exact ⟨q, rfl, fr q nq a1, a2, a3.step rfl le fun _ e => e⟩
      | os m fs =>
        obtain ⟨q, dx, ws, rfl, sq, a1, a2, a3, a4⟩ := hb
        have nq : q ≠ p := fun z => hi (r.dis i n _ _ p e en rfl rfl (z ▸ ex) es)
        exact ⟨q, dx, ws, rfl, sq, a1, a2.mono le (fun _ e => e), fr q nq a3, a4⟩
  · rcases at_ i b e1 with ⟨_, rfl⟩ | ⟨_, e1⟩
    · cases o1
    rcases at_ j c' e2 with ⟨_, rfl⟩ | ⟨_, e2⟩
    · cases o2
    exact r.dis i j b c' q e1 e2 o1 o2 s1 s2
  · rcases hF a o e with ⟨rfl, rfl⟩ | e
    · exact h4
    · exact r.nF _ _ e
def M.keepI (m : M D) : M D := m.tryM (fun d => if d.noI = true then .ret d else .stuck) (fun x => if x.v.noI = true then .exc x else .stuck)
def iLendI (cF : Nat → List Str) (n : Nat) (i : IE) : IE := fun Γ => match Γ[n]? with
  | some (some (.os c fs)) => if fs.map (·.1) = cF c then (i (Γ.set n (some (.fz (.ins c (fs.map (·.2))))))).keepI else .stuck
  | _ => i Γ
theorem de_lendI {n : Nat} (h : DE L X i e) : DE L X (iLendI L.cF n i) e := fun W tk => by
  refine PE.imp (h W tk) fun σ H Q ⟨Γ, g, r, w⟩ => ?_
  unfold iLendI at w
  split at w
  · rename_i c fs en
    split at w
    · rename_i hf
      obtain ⟨p, dx, ws, h3, h1, r1⟩ := r.lendI en hf
      refine ⟨_, _, r1, M.wpB_mono (fun d b k v g' H' s eb t => ?_) (fun x b k => ?_) _ _ ((M.wpB_try _ _).mp w)⟩
      · split at k
        · rename_i hn
          exact k v _ H' (s.lessI h3) eb (t.lessI (s.le _ _ put_F) hn)
        · exact k.elim
      · split at k
        · rename_i hn
          intro cls d g' H' s eb ea
          obtain ⟨hc, da, f, v, hd, hf, hda, hv⟩ := ea
          exact k cls d _ H' (s.lessI h3) eb ⟨hc, da, f, v, hd, hf, hda, hv.lessI (s.le _ _ put_F) hn⟩
        · exact k.elim
    · exact w.elim
  · exact ⟨Γ, g, r, w⟩
end
end DL
/-! An instance of one's own in a slot: made, taken out, put back. -/
namespace DL
open PySem PySem.Spec L2
section
variable {L : Lx} {X : Cx} {gs g0 g g' : Gh} {Hs H0 H H' : Hp} {σ σ' : L2.St} {Γ Γ' : Env} {W : WX} {pos : Pos} {p C dx : Addr}
/-- the heap without p -/
def del (H : Hp) (p : Addr) : Hp := fun a => if a = p then none else H a
theorem del_ne {a : Addr} (h : a ≠ p) : del H p a = H a := if_neg h
theorem del_p : del H p p = none := if_pos rfl
theorem del_some {a : Addr} {o : HO} (h : del H p a = some o) : a ≠ p ∧ H a = some o := by
  by_cases q : a = p
  · subst q; rw [del_p] at h; cases h
  · rw [del_ne q] at h; exact ⟨q, h⟩
theorem inM_del {mu : Option Addr} {a : Addr} (n : ¬ InM mu H p) : InM mu (del H p) a ↔ InM mu H a := by
  constructor
  · rintro ⟨m, e, h | ⟨kvs, k, e4, hm⟩⟩
    · exact ⟨m, e, .inl h⟩
    · exact ⟨m, e, .inr ⟨kvs, k, (del_some e4).2, hm⟩⟩
  · rintro ⟨m, e, h | ⟨kvs, k, e4, hm⟩⟩
    · exact ⟨m, e, .inl h⟩
    · exact ⟨m, e, .inr ⟨kvs, k, by rw [del_ne fun z => n ⟨m, e, .inl z.symm⟩]; exact e4, hm⟩⟩
theorem stp_del {fs : List (Str × V)} (s : Stp L gs Hs g H) (n : Hs p = none) (h1 : H p = some (.ins C dx fs)) (h3 : g.F p = none) (h4 : ¬ InM g.mu H p) : Stp L gs Hs g (del H p) := by
  have ne : ∀ a, Hs a ≠ none → a ≠ p := fun a h z => h (by rw [z]; exact n)
  refine ⟨s.le, s.mu, fun a o e => ?_, fun a o e nt nm => ?_, fun a h => ?_, fun a o e i => s.nm a o e ((inM_del h4).mp i), ⟨s.rnd.1, fun m e => ?_⟩, s.bud, ⟨fun q hq => ?_, fun ea en ed eu he => ?_⟩⟩
  · have q : a ≠ p := fun z => by rw [z, h3] at e; cases e
    rw [del_ne q]; exact s.sub a o e
  · obtain ⟨e1, m1⟩ := s.keep a o e nt nm
    rw [del_ne (ne a (by rw [e]; simp))]
    exact ⟨e1, fun i => m1 ((inM_del h4).mp i)⟩
  · unfold Tp; rw [del_ne (ne a h)]; exact s.nf a h
  · obtain ⟨c, l, cs, ls, at_, e1, e2, e3, r⟩ := s.rnd.2 m e
    have q : ∀ a, InM g.mu H a → a ≠ p := fun a i z => h4 (z ▸ i)
    have em : del H p m = H m := del_ne (q m ⟨m, e, .inl rfl⟩)
    have ec : del H p c = H c := del_ne (q c ⟨m, e, .inr ⟨_, Sum.inr "cells", e1, by simp⟩⟩)
    have el : del H p l = H l := del_ne (q l ⟨m, e, .inr ⟨_, Sum.inr "left", e1, by simp⟩⟩)
    exact ⟨c, l, cs, ls, at_, em.trans e1, ec.trans e2, el.trans e3, r⟩
  · obtain ⟨ps, e1, e2, e3⟩ := s.tab.1 q hq
    have n1 : q.1 ≠ p := fun z => by rw [z, h1] at e1; cases e1
    refine ⟨ps, by rw [del_ne n1]; exact e1, e2, fun pos cv hc => ?_⟩
    obtain ⟨c, z1, z2⟩ := e3 pos cv hc
    have n2 : c ≠ p := fun z => by rw [z, h1] at z2; unfold LamX.CodeO at z2; cases z2
    exact ⟨c, z1, by rw [del_ne n2]; exact z2⟩
  · obtain ⟨f, e1, e2⟩ := s.tab.2 ea en ed eu he
    have n1 : ed ≠ p := fun z => by rw [z, h1] at e2; cases e2
    exact ⟨f, e1, by rw [del_ne n1]; exact e2⟩
theorem stp_back (r : Rep L Γ g σ H) (h4 : ¬ InM g.mu H p) : Stp L g (del H p) g H :=
  ⟨fun _ _ e => e, fun _ e => e, r.sub, fun a o e _ n => ⟨(del_some e).2, fun i => n ((inM_del h4).mpr i)⟩, fun a n => ⟨fun z => n (by
    by_cases q : a = p
    · subst q; exact del_p
    · rw [del_ne q]; exact z), .inl⟩, r.nF, r.rnd, Nat.le_refl _, r.tab⟩
theorem none_at {n i : Nat} {b : B} (e : (Γ.set n none)[i]? = some (some b)) : i ≠ n ∧ Γ[i]? = some (some b) := by
  by_cases h : i = n
  · subst h
    by_cases hl : i < Γ.length
    · rw [List.getElem?_set_self hl] at e; cases e
    · rw [List.getElem?_eq_none (by simpa using hl)] at e; cases e
  · rw [List.getElem?_set_ne (Ne.symm h)] at e
    exact ⟨h, e⟩
/-- an own instance is taken out of its slot -/
theorem RepS.takeI {n c : Nat} {fs : List (Str × D)} {vs : List V} (r : RepS L g0 H0 Γ g σ H) (en : Γ[n]? = some (some (.os c fs))) (es : σ[n]? = some (some (.ref p))) (h1 : H p = some (.ins (L.cA c) dx ((fs.map (·.1)).zip vs))) (h3 : g.F p = none) (h4 : ¬ InM g.mu H p) :
    RepS L g0 H0 (Γ.set n none) g σ (del H p) := by
  have n0 : H0 p = none := r.new n _ p en rfl es
  have s := stp_del r.base n0 h1 h3 h4
  refine ⟨⟨s.sub, s.rnd, s.tab, fun i b e => ?_, fun i j b c q e1 e2 o1 o2 s1 s2 => r.rep.dis i j b c q (none_at e1).2 (none_at e2).2 o1 o2 s1 s2, s.nm, by rw [List.length_set]; exact r.rep.len⟩, s, fun i b q e o sq => r.new i b q (none_at e).2 o sq⟩
  obtain ⟨hi, e⟩ := none_at e
  obtain ⟨x, ex, hb⟩ := r.rep.loc i b e
  refine ⟨x, ex, ?_⟩
  cases b with
  | fz d => exact hb
  | ol es' =>
    obtain ⟨q, ws, rfl, a1, a2, a3, a4⟩ := hb
    have nq : q ≠ p := fun z => hi (r.rep.dis i n _ _ p e en rfl rfl (z ▸ ex) es)
    exact ⟨q, ws, rfl, by rw [del_ne nq]; exact a1, a2, a3, fun z => a4 ((inM_del h4).mp z)⟩
  | od t kvs =>
    obtain ⟨q, rfl, a1, a2, a3⟩ := hb
    have nq : q ≠ p := fun z => hi (r.rep.dis i n _ _ p e en rfl rfl (z ▸ ex) es)
    exact ⟨q, rfl, a1, fun z => a2 ((inM_del h4).mp z), a3.step (del_ne nq) (fun _ _ e => e) fun _ e => e⟩
  | os m fs =>
    obtain ⟨q, dy, ws, rfl, sq, a1, a2, a3, a4⟩ := hb
    have nq : q ≠ p := fun z => hi (r.rep.dis i n _ _ p e en rfl rfl (z ▸ ex) es)
    exact ⟨q, dy, ws, rfl, sq, by rw [del_ne nq]; exact a1, a2, a3, fun z => a4 ((inM_del h4).mp z)⟩
/-- .. and put into a slot -/
theorem RepS.putI {n c : Nat} {fs : List (Str × D)} {vs : List V} {v : Option V} (r : RepS L g0 H0 Γ g σ H) (ev : (σ.set n v)[n]? = some (some (.ref p)) ∨ n ≥ Γ.length) (h0 : H0 p = none) (hsf : ∀ a, L.sf = some a → p = a) (h1 : H p = some (.ins (L.cA c) dx ((fs.map (·.1)).zip vs))) (l : DenL L g vs (fs.map (·.2)))
    (h3 : g.F p = none) (h4 : ¬ InM g.mu H p) (od : ∀ (i : Nat) (b : B) (q : Addr), i ≠ n → Γ[i]? = some (some b) → b.own = true → σ[i]? = some (some (.ref q)) → q ≠ p) : RepS L g0 H0 (Γ.set n (some (.os c fs))) g (σ.set n v) H := by
  have at_ : ∀ (i : Nat) (b : B), (Γ.set n (some (.os c fs)))[i]? = some (some b) → (i = n ∧ b = .os c fs ∧ (σ.set n v)[i]? = some (some (.ref p))) ∨ (i ≠ n ∧ Γ[i]? = some (some b) ∧ (σ.set n v)[i]? = σ[i]?) := fun i b e => by
    by_cases h : i = n
    · subst h
      by_cases hl : i < Γ.length
      · rw [List.getElem?_set_self hl] at e
        cases e
        exact .inl ⟨rfl, rfl, ev.resolve_right (by omega)⟩
      · rw [List.getElem?_eq_none (by simpa using hl)] at e; cases e
    · rw [List.getElem?_set_ne (Ne.symm h)] at e
      exact .inr ⟨h, e, List.getElem?_set_ne (Ne.symm h)⟩
  refine ⟨⟨r.rep.sub, r.rep.rnd, r.rep.tab, fun i b e => ?_, fun i j b c q e1 e2 o1 o2 s1 s2 => ?_, r.rep.nF, by rw [List.length_set, List.length_set]; exact r.rep.len⟩, r.base, fun i b q e o sq => ?_⟩
  · rcases at_ i b e with ⟨rfl, rfl, t⟩ | ⟨_, e, t⟩
    · exact ⟨_, t, p, dx, vs, rfl, hsf, h1, l, h3, h4⟩
    · rw [t]; exact r.rep.loc i b e
  · rcases at_ i b e1 with ⟨i1, b1, t1⟩ | ⟨n1, f1, t1⟩
    · rcases at_ j c e2 with ⟨j1, c1, t2⟩ | ⟨n2, f2, t2⟩
      · exact i1.trans j1.symm
      · rw [t1] at s1
        cases s1
        rw [t2] at s2
        exact absurd rfl (od j c p n2 f2 o2 s2)
    · rw [t1] at s1
      rcases at_ j c e2 with ⟨j1, c1, t2⟩ | ⟨n2, f2, t2⟩
      · rw [t2] at s2
        cases s2
        exact absurd rfl (od i b p n1 f1 o1 s1)
      · rw [t2] at s2
        exact r.rep.dis i j b c q f1 f2 o1 o2 s1 s2
  · rcases at_ i b e with ⟨rfl, rfl, t⟩ | ⟨_, e, t⟩
    · rw [t] at sq
      cases sq
      exact h0
    · exact r.new i b q e o (t ▸ sq)
/-- a new instance of one's own -/
def FrTI : TT1 := fun L H₀ g H v d => ∃ p dx c vs ds, v = .ref p ∧ d = .ins c ds ∧ H p = some (.ins (L.cA c) dx ((L.cF c).zip vs)) ∧ (L.cF c).length = vs.length ∧ DenL L g vs ds ∧ g.F p = none ∧ ¬ InM g.mu H p ∧ H₀ p = none
def DFI (L : Lx) (X : Cx) (i : IE) (e : Expr) : Prop := ∀ W, Takes X W → PE X e (Rd1 L FrTI W i)
def sOwnI (cF : Nat → List Str) (n : Nat) (i : IE) : IS := fun Γ => (i Γ).bind fun d => match d with
  | .ins c ds => .ret (.nx (Γ.set n (some (.os c ((cF c).zip ds)))))
  | _ => .stuck
theorem zip_fst {α β : Type} : ∀ {xs : List α} {ys : List β}, xs.length = ys.length → (xs.zip ys).map (·.1) = xs ∧ (xs.zip ys).map (·.2) = ys := fun {xs} => by
  induction xs with
  | nil => intro ys h; cases ys with
    | nil => exact ⟨rfl, rfl⟩
    | cons y ys => simp at h
  | cons x xs ih => intro ys h; cases ys with
    | nil => simp at h
    | cons y ys =>
      obtain ⟨a, b⟩ := ih (by simpa using h)
      rw [List.zip_cons_cons, List.map_cons, List.map_cons, a, b]
      exact ⟨rfl, rfl⟩
theorem RepS.setOwnI {n c : Nat} {v : V} {ds : List D} {g1 : Gh} {H1 : Hp} (hsf : L.sf = none) (r0 : RepS L g0 H0 Γ g σ H) (s : Stp L g H g1 H1) (h : FrTI L H g1 H1 v (.ins c ds)) : RepS L g0 H0 (Γ.set n (some (.os c ((L.cF c).zip ds)))) g1 (σ.set n (some v)) H1 := by
  obtain ⟨p, dx, c', vs, ds', rfl, e, h1, hl, h2, h3, h4, h5⟩ := h
  cases e
  obtain ⟨z1, z2⟩ := zip_fst (xs := L.cF c) (ys := ds) (hl.trans h2.length)
  refine (r0.step s).putI (p := p) (dx := dx) (vs := vs) ?_ (none_back r0.base h5) (fun a e => by rw [hsf] at e; cases e) (by rw [z1]; exact h1) (by rw [z2]; exact h2) h3 h4 fun i b q _ e o sq z => ?_
  · by_cases hn : n < Γ.length
    · exact .inl (List.getElem?_set_self (by rw [← r0.rep.len]; exact hn))
    · exact .inr (Nat.le_of_not_lt hn)
  · subst z
    obtain ⟨x, ex, hb⟩ := r0.rep.loc i b e
    rw [sq] at ex
    cases ex
    cases b with
    | fz d => cases o
    | ol es' => obtain ⟨q, ws, e1, a1, _⟩ := hb; cases e1; rw [h5] at a1; cases a1
    | od t kvs => obtain ⟨q, e1, _, _, a3⟩ := hb; cases e1; rcases a3 with ⟨_, _, _, a, _⟩ | ⟨_, _, _, a, _⟩ <;> rw [h5] at a <;> cases a
    | os m fs => obtain ⟨q, dx, ws, e1, _, a1, _⟩ := hb; cases e1; rw [h5] at a1; cases a1
variable {e : Expr} {i : IE}
/-- x = C(..), changed later -/
theorem ds_ownI {n : Nat} {x : Str} {pos' : Pos} (hsf : L.sf = none) (hN : X.N.Nodup) (hi : X.N[n]? = some x) (hx : Loc X.env.scope x) (h : DFI L X i e) (hs : swapsWith e (some (.Name x pos')) pos.line X.env = pure false := by rfl)
    (hf : X.fn x = true ∨ X.env.scope.names.lookup x = some .local := by first | exact .inl rfl | exact .inr rfl) : DS L X (sOwnI L.cF n i) (.Assign [.Name x pos'] e pos) := fun W g0 H0 tk => by
  refine PS.imp (ps_set hN hi hx (h W tk) hs hf) fun Dn σ H ⟨Γ, g, r, w⟩ => ⟨Γ, g, r.rep, M.wpB_mono (fun d b k v g1 H1 s eb t => ?_) (fun _ _ x => x.xw r.base) _ _ ((M.wpB_bind _ _).mp w)⟩
  split at k
  · exact k g1 _ H1 (r.setOwnI hsf s t) s.fle eb
  · exact k.elim
/-- C(..) -/
def CalI (L : Lx) (X : Cx) (u : Value) (n : Nat) (m : List D → M D) : Prop :=
  ∀ (W : WX) (pins : List (Addr × Obj)) (s : Shared) (σ : L2.St) (H : Hp) (Γ : Env) (g : Gh) (us : List Value) (vs : List V) (ds : List D) (Q : VK), Takes X W → Inv X pins σ H s → Vals vs us → us.length = n →
    Rep L Γ g σ H → DenL L g vs ds → (m ds).wpB g.bud (Wn L FrTI g H Q) (XW L W g σ H) → wpAny (model X.prog X.w) X.A (call u us) (EP X pins σ Q) X.xe s
theorem cali_cls {C f : Addr} {fd : FuncData} {ps : List Str} {k c n : Nat} {m : List D → M (List (Str × D))} (M : Mk X.K C f) (F : FGI L X.prog X.w X.mg X.base k f fd ps c m) (hK : X.K = L.K) (hC : L.cA c = C) (hr : Room (k + 1) X.A) (hgd : X.A.guards = some []) (hb : Binds X.K fd ps [])
    (hn : n + 1 = ps.length) : CalI L X (.ref C) n (mInit c (L.cF c) m) := by
  intro W pins s σ H Γ g us vs ds Q tk I r l1 rp l w
  refine run_mkI M F hK hC hr hgd hb tk I r (by omega) rp l (DL.M.wpB_mono (fun fs b q a g' H' e o => ?_) (fun _ _ x => x) _ _ ((DL.M.wpB_bind _ _).mp w))
  split at q
  · rename_i hf
    obtain ⟨dx, vs', h1, h2⟩ := o.ins
    exact q _ g' H' o.st e ⟨a, dx, c, vs', fs.map (·.2), rfl, rfl, by rw [← hf]; exact h1, by rw [← hf, List.length_map, h2.length, List.length_map], h2, o.nF, o.nM, o.new⟩
  · exact q.elim
variable {x : Str} {es : List Expr} {is : List IE} {m : List D → M D} {u : Value}
theorem dfi_cal {p : Pos} (c : CalI L X u is.length m) (kp : PySem.W.keepIn X.K u = true) (gl : Gl X x) (mf : X.mg x = some u) (ha : DA L X is (e :: es)) (nd : (x == ("__debug__" : Str)) = false := by decide)
    (h1 : starEach (e :: es) X.env = (false, eval e X.env) :: starEach es X.env := by rfl) (h2 : (backTo pos (starEach es X.env)).any (·.1) = false := by rfl) :
    DFI L X (iCal m is) (.Call (.Name x p) (e :: es) [] pos) := fun W tk => by
  refine ⟨fun pins s σ H Q I ⟨Γ, g, rp, w⟩ => ?_⟩
  have w := evs_len is g.bud ((M.wpB_bind _ _).mp w)
  refine wpAny_Call_Name_kw (ld_glob I gl mf ?_ nd)
  refine PySem.W.callWith_K (h₀ := X.base) I.ok.mod.kin kp (thn ((ha W tk).run pos pins s σ H (fun vs H1 => ∃ ds g1, Rep L Γ g1 σ H1 ∧ Stp L g H g1 H1 ∧ DenL L g1 vs ds ∧ ds.length = is.length ∧ (m ds).wpB g1.bud (Wn L FrTI g1 H1 Q) (XW L W g1 σ H1)) I
    ⟨Γ, g, rp, M.wpB_mono (fun ds b h vs g' H' s' e t => ⟨ds, g', rp.step s', s', t, h.1, by
      rw [e]
      exact M.wpB_mono (fun d b k v g2 H2 s2 e t => k v g2 H2 (s'.trans s2) e (by
        obtain ⟨p, dx, c, vs, ds, a1, a2, a3, a4, a5, a6, a7, a8⟩ := t
        exact ⟨p, dx, c, vs, ds, a1, a2, a3, a4, a5, a6, a7, none_back s' a8⟩)) (fun _ _ x => x.of s') _ _ h.2⟩) (fun _ _ x => x) _ _ w⟩) fun us s1 ⟨vs, H1, I1, r, ds, g1, r1, s', t, hl, w1⟩ => ⟨I1.kIn, ?_⟩) h1 h2
  have hl2 : us.length = is.length := r.length.symm.trans (t.length.trans hl)
  exact c W pins s1 σ H1 Γ g1 us vs ds Q tk I1 r hl2 r1 t w1
end
end DL
/-! A method that changes its own instance. -/
namespace DL
open PySem PySem.Spec L2
/-- such a method's run: what stands in self behind it -/
def runTk (n : Nat) (body : IS) (c : Nat) (fs : List (Str × D)) (ds : List D) : M (List (Str × D)) := (body (some (.os c fs) :: env0 (n - 1) ds)).bind fun (fl : Fl) => match fl with
  | .nx Γ => match (Γ[0]? : Option (Option B)) with
    | some (some (.os c' fs')) => if c' = c then .ret fs' else .stuck
    | _ => .stuck
  | _ => .stuck
section
variable {L : Lx} {X : Cx} {gB g0 g g' : Gh} {HB H0 H H' : Hp} {σ : L2.St} {Γ : Env} {W : WX} {pos : Pos}
def SpU (L : Lx) (c : Nat) (m : List (Str × D) → List D → M (List (Str × D))) (vs : List V) (H : Hp) (Q : VK) (E : XK) : Prop := ∃ gB HB Γ g σ fs ds a vs', vs = V.ref a :: vs' ∧ Rep L Γ g σ H ∧ Own L gB HB g H a c fs ∧ DenL L g vs' ds ∧
  (m fs ds).wpB g.bud (fun fs' b => ∀ g' H', g'.bud = b → Own L gB HB g' H' a c fs' → Q .non H') (XF L E gB HB)
structure FGU (L : Lx) (P : Program) (w : World) (mg : Str → Option Value) (base : Heap) (k : Nat) (f : Addr) (fd : FuncData) (ps : List Str) (c : Nat) (m : List (Str × D) → List D → M (List (Str × D))) : Prop where
  go : ∀ (A : Around) (outer : List PySem.Env) (s : Shared) (H : Hp) (args : Args) (us : List Value) (vs : List V) (Q : VK) (E : XK), Room k A → A.guards = some [] → Env0 P w L.K mg base A outer s H → BindsTo s fd args (ps.zip us) → Vals vs us → us.length = ps.length → SpU L c m vs H Q E →
    codeAny (model P w) A (.call (.ref f) args) (CR (L2.CX P w) outer P w H s Q E) s
theorem own_startU {N : List Str} {ds : List D} {vs : List V} {a : Addr} {c : Nat} {fs : List (Str × D)} (r : Rep L Γ g σ H) (o : Own L gB HB g H a c fs) (l : DenL L g vs ds) (hn : vs.length + 1 ≤ N.length) :
    RepS (L.ms a) gB HB (some (.os c fs) :: env0 (N.length - 1) ds) g (L2.start N (.ref a :: vs)) H := by
  have at_ : ∀ (i : Nat) (b : B), (some (.os c fs) :: env0 (N.length - 1) ds)[i]? = some (some b) → (i = 0 ∧ b = .os c fs) ∨ ∃ j d, i = j + 1 ∧ ds[j]? = some d ∧ b = .fz d := fun i b e => by
    cases i with
    | zero => cases e; exact .inl ⟨rfl, rfl⟩
    | succ i =>
      rw [List.getElem?_cons_succ] at e
      unfold env0 at e
      by_cases h : i < ds.length
      · rw [List.getElem?_append_left (by simpa using h), List.getElem?_map] at e
        cases q : ds[i]? with
        | none => rw [q] at e; cases e
        | some d => rw [q] at e; cases e; exact .inr ⟨i, d, rfl, q, rfl⟩
      · rw [List.getElem?_append_right (by simpa using h), List.getElem?_replicate] at e
        split at e <;> cases e
  obtain ⟨dx, ws, h1, h2⟩ := o.ins
  refine ⟨⟨r.sub, r.rnd, r.tab, fun i b e => ?_, fun i j b c p e1 e2 o1 o2 s1 s2 => ?_, r.nF, ?_⟩, o.st.toMk, fun i b p e ob s => ?_⟩
  · rcases at_ i b e with ⟨rfl, rfl⟩ | ⟨j, d, rfl, hd, rfl⟩
    · exact ⟨some (.ref a), rfl, a, dx, ws, rfl, fun _ e => Option.some.inj e, h1, h2.toMk, o.nF, o.nM⟩
    · obtain ⟨v, hv, t⟩ := l.get hd
      refine ⟨some v, ?_, v, rfl, t.toMk⟩
      unfold L2.start
      rw [List.getElem?_append_left (by rw [List.length_map, List.length_cons]; exact Nat.succ_lt_succ (List.getElem?_eq_some_iff.mp hv).1), List.getElem?_map, List.getElem?_cons_succ, hv]
      rfl
  · rcases at_ i b e1 with ⟨rfl, rfl⟩ | ⟨_, _, _, _, rfl⟩
    · rcases at_ j c e2 with ⟨rfl, rfl⟩ | ⟨_, _, _, _, rfl⟩
      · rfl
      · cases o2
    · cases o1
  · unfold env0 L2.start
    rw [List.length_cons, List.length_append, List.length_append, List.length_map, List.length_map, List.length_replicate, List.length_replicate, List.length_cons, l.length]
    have := l.length
    omega
  · rcases at_ i b e with ⟨rfl, rfl⟩ | ⟨_, _, _, _, rfl⟩
    · cases s
      exact o.new
    · cases ob
theorem fgu_of {P : Program} {w : World} {mg : Str → Option Value} {base : Heap} {x qual : Str} {st : Stmt} {f : Addr} {fd : FuncData} {N ps : List Str} {k c : Nat} {body : IS} (F : Fun L.K x qual st f fd) (S : FnScope N ps (defScope st))
    (hb : ∀ (a : Addr) (cdv : Value) (A : Around) (outer : List PySem.Env) (s : Shared) (H : Hp) (E : XK), Room k (A.deeper (PyProof.Rows.envOfC qual (defScope st) s.heap.objs.size f cdv)) → A.guards = some [] →
      DSs (L.ms a) (cxOf (L2.CX P w) P w L.K mg base N qual (defScope st) f cdv A outer s H E) body (defBody st)) : FGU L P w mg base (k + 1) f fd ps c (runTk N.length body c) := by
  refine ⟨fun A outer s H args us vs Q E hr hg e0 bt r hl ⟨gB, HB, Γ, g, σ, fs0, ds, a, vs', ev, rp, o, l, w⟩ => ?_⟩
  obtain ⟨oc, od, kV, doc, pm, an, cdv, ct, osl, rfl, lk, hcd⟩ := F.ex
  refine LamX.run_ofS lk hcd S hr e0 bt r (r.length.trans hl) fun hr' => ⟨_, hb a cdv A outer s H E hr' hg (fun cls d _ H => E cls d H) gB HB (takes_of rfl rfl rfl rfl), ?_⟩
  have hpl : ps.length ≤ N.length := by have := congrArg List.length S.pre; rw [List.length_take] at this; omega
  subst ev
  have hn : vs'.length + 1 ≤ N.length := by
    have := r.length.trans hl
    rw [List.length_cons] at this
    omega
  refine ⟨_, g, own_startU rp o l hn, M.wpB_mono (fun fl b k => ?_) (fun x _ z => fun cls d g σ H s e ⟨q, da, f, v, e1, e2, e3, e4⟩ => z cls d g H s.ofMk e ⟨q, da, f, v, e1, e2, e3, e4.ofMk⟩) _ _ ((M.wpB_bind _ _).mp w)⟩
  cases fl with
  | nx Γ' =>
    intro g' σ' H' r' _ e
    simp only at k
    split at k
    · rename_i c' fs en
      split at k
      · rename_i hc
        subst hc
        obtain ⟨x, es, p, dx, ws, e2, ep, h1, h2, h3, h4⟩ := r'.rep.loc _ _ en
        have ep := ep a rfl
        subst ep
        exact k g' H' e ⟨r'.base.ofMk, o.new, ⟨dx, ws, h1, h2.ofMk⟩, h3, h4⟩
      · exact k.elim
    · exact k.elim
  | rt d => exact k.elim
  | bk Γ' => exact k.elim
  | ct Γ' => exact k.elim
/-- self.f = e, where f has a value -/
def putFD (f : Str) (d : D) : List (Str × D) → List (Str × D)
  | [] => []
  | (n, x) :: r => if n = f then (n, d) :: r else (n, x) :: putFD f d r
def sSelfU (ok : Nat → Bool) (n : Nat) (f : Str) (i : IE) : IS := fun Γ => (i Γ).bind fun d => match Γ[n]? with
  | some (some (.os c fs)) => if ok c = true ∧ f ∈ fs.map (·.1) ∧ fs.length < 1000 then .ret (.nx (Γ.set n (some (.os c (putFD f d fs))))) else .stuck
  | _ => .stuck
theorem putFD_names {f : Str} {d : D} : ∀ {fs : List (Str × D)}, (putFD f d fs).map (·.1) = fs.map (·.1) := fun {fs} => by
  induction fs with
  | nil => rfl
  | cons q fs ih =>
    obtain ⟨n, y⟩ := q
    unfold putFD
    split
    · rfl
    · rw [List.map_cons, List.map_cons, ih]
theorem putFD_den {f : Str} {d : D} {v : V} (t : Den L g v d) : ∀ {fs : List (Str × D)} {vs : List V}, DenL L g vs (fs.map (·.2)) → f ∈ fs.map (·.1) → ∃ vs', putF f v ((fs.map (·.1)).zip vs) = (fs.map (·.1)).zip vs' ∧ DenL L g vs' ((putFD f d fs).map (·.2)) := fun {fs} => by
  induction fs with
  | nil => intro vs _ h; cases h
  | cons q fs ih =>
    obtain ⟨n, y⟩ := q
    intro vs l h
    cases l with
    | cons a l =>
      rename_i v0 vs
      rw [List.map_cons, List.zip_cons_cons]
      unfold putFD putF
      by_cases e : n = f
      · rw [if_pos e, if_pos e]
        exact ⟨v :: vs, rfl, .cons t l⟩
      · rw [if_neg e, if_neg e]
        obtain ⟨vs', h1, h2⟩ := ih l ((List.mem_cons.mp h).resolve_left fun z => e z.symm)
        exact ⟨v0 :: vs', by rw [h1]; rfl, .cons a h2⟩
theorem ds_selfU {ok : Nat → Bool} {n : Nat} {f sn : Str} {sp p1 : Pos} {i : IE} {e : Expr} (hK : X.K = L.K) (hx : ∀ c, ok c = true → Cls L.K (L.cA c) ∧ NoAttr L.K (L.cA c) f) (hv : PE X (.Name sn sp) (tVar n)) (h : DE L X i e)
    (hs : swapsWith e (some (.Attribute (.Name sn sp) f p1)) pos.line X.env = pure false := by rfl) : DS L X (sSelfU ok n f i) (.Assign [.Attribute (.Name sn sp) f p1] e pos) := fun W g0 H0 tk => by
  refine PS.imp (ps_fld hv (h W tk) hs) fun Dn σ H ⟨Γ, g, r, w⟩ => Rd1.goS r w fun v H1 d g1 r1 s t w => ?_
  split at w
  · rename_i c fs en
    split at w
    · rename_i hc
      obtain ⟨x, es, p, dx, vs, e2, sq, h1, hd, h3, h4⟩ := r1.rep.loc _ _ en
      subst e2
      obtain ⟨k1, k2⟩ := hx c hc.1
      have hl : (fs.map (·.1)).length = vs.length := by rw [hd.length, List.length_map, List.length_map]
      obtain ⟨vs', ep, l'⟩ := putFD_den t hd hc.2.1
      refine ⟨.ref p, es, p, L.cA c, dx, _, rfl, h1, hK ▸ k1, hK ▸ k2, ?_, ?_⟩
      · rw [List.length_zip, ← hl, Nat.min_self, List.length_map]
        exact hc.2.2
      · rw [ep, ← putFD_names (f := f) (d := d)]
        exact w g1 σ _ (r1.updI en sq es h1 h3 h4 l') s.fle rfl
    · exact w.elim
  · exact w.elim
/-- x.m(..), a method that changes x's own instance -/
def sTake (cF : Nat → List Str) (n c : Nat) (m : List (Str × D) → List D → M (List (Str × D))) (is : List IE) : IS := fun Γ => match Γ[n]? with
  | some (some (.os c' fs)) => if c' = c ∧ fs.map (·.1) = cF c then (evs is Γ).bind fun ds => (m fs ds).bind fun fs' => .ret (.nx (Γ.set n (some (.os c fs')))) else .stuck
  | _ => .stuck
theorem ds_take {f : Addr} {fd : FuncData} {ps : List Str} {k c n : Nat} {nm x : Str} {m : List (Str × D) → List D → M (List (Str × D))} {pl : Sem Bool} {p apos cpos : Pos} {e : Expr} {es : List Expr} {is : List IE}
    (F : FGU L X.prog X.w X.mg X.base k f fd ps c m) (hr : Room k X.A) (hgd : X.A.guards = some []) (hb : Binds X.K fd ps []) (hn : is.length + 1 = ps.length) (ok : MthOk L c nm f) (hK : X.K = L.K) (hv : PE X (.Name x p) (tVar n)) (ha : DA L X is (e :: es))
    (h1 : starEach (e :: es) X.env = (false, eval e X.env) :: starEach es X.env := by rfl) (h2 : (backTo cpos (starEach es X.env)).any (·.1) = false := by rfl)
    (ht : eval (.Call (.Attribute (.Name x p) nm apos) (e :: es) [] cpos) X.env = (do
      let ov ← eval (.Name x p) X.env
      standAt apos.atName
      let (f, first) ← holding [ov] (getMethod ov nm pl)
      callWith cpos f first (backTo cpos (starEach (e :: es) X.env)) (backToKw cpos (keywordEach [] X.env))) := by rfl)
    (hs : swapsWith (.Call (.Attribute (.Name x p) nm apos) (e :: es) [] cpos) none pos.line X.env = pure false := by rfl) :
    DS L X (sTake L.cF n c m is) (.Expr (.Call (.Attribute (.Name x p) nm apos) (e :: es) [] cpos) pos) := fun W g0 H0 tk => by
  have pe : PE X (.Call (.Attribute (.Name x p) nm apos) (e :: es) [] cpos) (fun σ H Q => ∃ Γ g fs, RepS L g0 H0 Γ g σ H ∧ Γ[n]? = some (some (.os c fs)) ∧ fs.map (·.1) = L.cF c ∧
      ((evs is Γ).bind fun ds => m fs ds).wpB g.bud (fun fs' b => ∀ g' H', RepS L g0 H0 (Γ.set n (some (.os c fs'))) g' σ H' → FLe g g' → g'.bud = b → Q .non H') (XS L W g0 H0)) := by
    refine ⟨fun pins s σ H Q I ⟨Γ, g, fs, r, en, hf, w⟩ => ?_⟩
    obtain ⟨x0, es0, p0, dx0, vs0, e2, sq0, h10, hd0, h30, h40⟩ := r.rep.loc _ _ en
    subst e2
    refine PySem.W.methodCall_KW (pl := pl) (thn (hv.run pins s σ H (fun v H1 => v = .ref p0 ∧ H1 = H) I ⟨.ref p0, es0, rfl, rfl⟩) fun u s1 ⟨v, H1, I1, rv, ev, eH⟩ => ?_) ht
    subst ev
    subst eH
    obtain rfl : u = Value.ref p0 := rv
    rw [hf] at h10
    refine getmeth_ok I1 h10 (hK ▸ ok.cl) (hK ▸ ok.me) (lookup_no ok.no) ?_
    have w := evs_len is g.bud ((M.wpB_bind _ _).mp w)
    refine PySem.W.callWith_K (first := [.ref p0]) (h₀ := X.base) I1.ok.mod.kin (hK ▸ ok.me.kp) (thn ((ha W tk).run cpos pins s1 σ H1 (fun vs H2 => ∃ ds g2, RepS L g0 H0 Γ g2 σ H2 ∧ Stp L g H1 g2 H2 ∧ DenL L g2 vs ds ∧ ds.length = is.length ∧
      (m fs ds).wpB g2.bud (fun fs' b => ∀ g' H', RepS L g0 H0 (Γ.set n (some (.os c fs'))) g' σ H' → FLe g g' → g'.bud = b → Q .non H') (XS L W g0 H0)) I1
      ⟨Γ, g, r.rep, M.wpB_mono (fun ds b h vs g' H' s' e t => ⟨ds, g', r.step s', s', t, h.1, by rw [e]; exact h.2⟩) (fun _ _ x => x.xw r.base) _ _ w⟩) fun us s2 ⟨vs, H2, I2, rv2, ds, g2, r2, s', l, hl, w2⟩ => ⟨I2.kIn, ?_⟩) h1 h2
    obtain ⟨x2, es2, p2, dx2, vs2, e22, sq2, h12, hd2, h32, h42⟩ := r2.rep.loc _ _ en
    rw [es0] at es2
    cases es2
    cases e22
    have n0 : H0 p0 = none := r2.new n _ p0 en rfl es0
    have sd := stp_back r2.rep h42
    have r3 := r2.takeI en es0 h12 h32 h42
    have ow : Own L g2 (del H2 p0) g2 H2 p0 c fs := ⟨sd, del_p, ⟨dx2, vs2, h12, hd2⟩, h32, h42⟩
    have b := hb s2 (Value.ref p0 :: us) I2.kIn (by rw [List.append_nil, List.length_cons, ← rv2.length, l.length, hl]; exact hn)
    rw [List.append_nil] at b
    refine wpAny_call (codeAny_mono (F.go X.A X.stack s2 H2 ⟨Value.ref p0 :: us, []⟩ (Value.ref p0 :: us) (V.ref p0 :: vs) Q (WE W σ) hr hgd (hK ▸ I2.env0) b (.cons rfl rv2) (by rw [List.length_cons, ← rv2.length, l.length, hl]; exact hn)
      ⟨g2, del H2 p0, Γ, g2, σ, fs, ds, p0, vs, rfl, r2.rep, ow, l, M.wpB_mono (fun fs' b k g' H' e o => ?_) (fun x b k => ?_) _ _ w2⟩) fun r s' hq => ?_)
    · obtain ⟨dx3, vs3, h13, hd3⟩ := o.ins
      have r4 := r3.step o.st
      have r5 := r4.putI (n := n) (v := some (.ref p0)) (p := p0) (c := c) (fs := fs') (dx := dx3) (vs := vs3) (by
        rcases Nat.lt_or_ge n σ.length with h | h
        · exact .inl (List.getElem?_set_self h)
        · exact .inr (by rw [List.length_set, r2.rep.len]; exact h)) n0 sq2 h13 hd3 o.nF o.nM fun i b q hi e ob sq z => by
          subst z
          exact hi (r2.rep.dis i n _ _ q (none_at e).2 en ob rfl sq es0)
      rw [List.set_set] at r5
      have eσ : σ.set n (some (V.ref p0)) = σ := by
        apply List.ext_getElem?
        intro i
        by_cases h : n = i
        · subst h
          rw [es0, List.getElem?_set_self (List.getElem?_eq_some_iff.mp es0).1]
        · rw [List.getElem?_set_ne h]
      rw [eσ] at r5
      exact k g' H' r5 (s'.fle.trans o.st.fle) e
    · intro cls d g' H' s3 e ea
      exact k cls d g' σ H' (r3.base.trans s3) e ea
    · cases r with
      | error e => exact passAt tk σ pins H2 s2 e s' I2 hq
      | ok fl =>
        cases fl with
        | ret u => exact I2.after hq
        | next => exact hq
        | brk => exact hq
        | cont => exact hq
  refine PS.imp (ps_expr pe hs) fun Dn σ H ⟨Γ, g, r, w⟩ => ?_
  unfold sTake at w
  split at w
  · rename_i c' fs en
    split at w
    · rename_i hc
      obtain ⟨rfl, hf⟩ := hc
      refine ⟨Γ, g, fs, r, en, hf, ?_⟩
      refine (M.wpB_bind _ _).mpr (M.wpB_mono (fun ds b k => ?_) (fun _ _ x => x) _ _ ((M.wpB_bind _ _).mp w))
      exact M.wpB_mono (fun fs' b k g' H' r' f e => k g' σ H' r' f e) (fun _ _ x => x) _ _ ((M.wpB_bind _ _).mp k)
    · exact w.elim
  · exact w.elim
end
end DL
/-! max and min of a list with a key. -/
namespace DL
open PySem PySem.Spec PyProof.Rows L2 LamX
section
variable {X : Cx} {pins : List (Addr × Obj)} {σ : L2.St} {H HZ : Hp} {s s1 : Shared}
theorem lam_startK {A : Around} {outer : List PySem.Env} {E : XK} {sc : Scope} {fl cl : Addr} {h₁ : Heap} {tk n : Nat} {y : Str} {u : Value} {v : V} (I : Inv X pins σ H s) (D : LamD X.env.scope sc y) (hN : X.N.Nodup) (hy : X.N[n]? = some y) (rv : RelV v u)
    (e0 : Env0 X.prog X.w X.K X.mg X.base A outer s1 HZ) (hd : A.handled = none)
    (un : Un (frs X.stack) [] H HZ s.heap s1.heap) (hns : h₁.Ns s1.heap.objs.size fun z => ([(y, u)] : List (Str × Value)).reverse.lookup z) (kp : ∀ b o, s1.heap.get? b = some o → h₁.get? b = some o) :
    Inv (lamCx X A outer s1 HZ E sc fl cl) [] (σ.set n (some v)) HZ { s1 with heap := h₁, toks := tk } := by
  have there := D.has I.ok
  have back : ∀ {z c}, (cloFrom X.env.cells sc.names []).lookup z = some c → X.env.cells.lookup z = some c := by
    intro z c e
    rcases cloFrom_mem (PySem.mem_of_lookup e) with hm | ⟨h1, h2⟩
    · cases hm
    · obtain ⟨c1, hc⟩ := there _ h1 rfl
      have hc' : X.env.cells.lookup z = some c1 := hc
      rw [hc'] at h2
      have e2 : c = c1 := h2
      rw [e2]
      exact hc
  have fwd : ∀ {z}, sc.names.lookup z = some .free → ∃ c, (cloFrom X.env.cells sc.names []).lookup z = some c := by
    intro z hl
    exact mem_lookup (cloFrom_has (cells := X.env.cells) (acc := []) (PySem.mem_of_lookup hl))
  have stays : ∀ {c : Addr} {v : Option Value}, H c = none → s.heap.IsCell c v → h₁.IsCell c v := by
    rintro c v n ⟨o, ho, hd⟩
    obtain ⟨sl, q⟩ := un.any ho n (by simp)
    exact ⟨_, kp _ _ q, hd⟩
  have nil : ∀ b : Addr, b ∉ (lamCx X A outer s1 HZ E sc fl cl).ex := fun b z => absurd (show b ∈ ([] : List Addr) from z) (by simp)
  have okX : (lamCx X A outer s1 HZ E sc fl cl).Ok := by
    refine ⟨e0.mod, D.kind, rfl, rfl, Nat.le_refl _, fun z z' c e1 e2 => I.ok.inj z z' c (back e1) (back e2), fun z hz => ?_, fun z c q _ => ?_, fun _ => hd, Around.frames_deeper e0.frames, .inr ⟨rfl, rfl⟩, fun b z => absurd z (nil b), e0.bs, e0.bsz, fun b _ _ => nil b, fun b z => absurd z (nil b), e0.funs, e0.frf⟩
    · have hz : sc.names.lookup z = some .cell ∨ sc.names.lookup z = some .free := hz
      rcases hz with hz | hz
      · exact absurd rfl (D.own _ (PySem.mem_of_lookup hz)).2
      · exact fwd hz
    · have q : false = true := q
      cases q
  have ln : n < X.N.length := (List.getElem?_eq_some_iff.mp hy).1
  refine ⟨okX, rfl, e0.bare, Un.kept kp, ⟨_, hns, fun i z v' e1 e2 e3 => ?_⟩, fun z c e => ?_, e0.hok.fresh (Nat.le_refl _), fun z c e => ?_, fun q hq => absurd (show q ∈ ([] : List (Addr × Obj)) ++ [] from hq) (by simp), e0.hok.kept kp, (List.length_set).trans I.len⟩
  · have e3 : Vis sc z := e3
    have e1 : X.N[i]? = some z := e1
    rcases e3 with k | k | k
    · have zy := (D.own _ (PySem.mem_of_lookup k)).1 rfl
      have zy : z = y := zy
      subst zy
      have en : i = n := by
        exact ((List.getElem?_inj ln hN).mp (hy.trans e1.symm)).symm
      subst en
      rw [List.getElem?_set_self (by rw [I.len]; exact ln)] at e2
      cases e2
      exact ⟨u, rv, .inl ⟨k, by simp [List.lookup]⟩⟩
    · exact absurd rfl (D.own _ (PySem.mem_of_lookup k)).2
    · have nz : i ≠ n := fun e => by
        subst e
        have ez := hy.symm.trans e1
        cases ez
        have k' := D.loc.symm.trans k
        cases k'
      rw [List.getElem?_set_ne (Ne.symm nz)] at e2
      obtain ⟨m, hn, hl⟩ := I.loc
      have vis : Vis X.env.scope z := (D.free _ (PySem.mem_of_lookup k) rfl).elim (fun q => .inr (.inl q)) (fun q => .inr (.inr q))
      obtain ⟨w', r, q⟩ := hl i z v' e1 e2 vis
      obtain ⟨c2, h2⟩ := fwd k
      refine ⟨w', r, .inr ⟨.inr k, c2, h2, ?_⟩⟩
      have c1 := back h2
      rcases q with ⟨k', _⟩ | ⟨_, c3, e', q⟩
      · have k' : X.env.scope.names.lookup z = some .local := k'
        rcases D.free _ (PySem.mem_of_lookup k) rfl with k2 | k2
        · rw [show X.env.scope.names.lookup z = _ from k2] at k'
          cases k'
        · rw [show X.env.scope.names.lookup z = _ from k2] at k'
          cases k'
      · rw [c1] at e'
        cases e'
        exact stays (I.freeC z _ c1) q
  · obtain ⟨w', q⟩ := I.cell z c (back e)
    exact ⟨w', stays (I.freeC z c (back e)) q⟩
  · obtain ⟨v, o, ho, hd⟩ := I.cell z c (back e)
    exact un.free c o ho (I.freeC z c (back e)) (by simp)
/-- a lambda of one parameter called by a builtin -/
theorem lam_turn {ps : Arguments} {bd : Expr} {sc : Scope} {k n : Nat} {y : Str} {fl cl : Addr} {pm ctv u : Value} {v : V} {t : XK → TE} {Q' : VK} {Q E : Value → Shared → Prop} (J1 : Inv X pins σ H s) (LS : LamD X.env.scope sc y) (hN : X.N.Nodup) (hy : X.N[n]? = some y)
    (ho : s.heap.get? fl = some (PySem.W.kla_obj "<lambda>" (X.env.qual ++ "<lambda>") ps bd sc (cloFrom X.env.cells sc.names []) pm cl ctv)) (hc : H cl = some (CodeO cl (X.env.qual ++ "<lambda>")))
    (hb : bindArgs (PySem.W.kla_fn "<lambda>" (X.env.qual ++ "<lambda>") ps bd sc (cloFrom X.env.cells sc.names []) pm (.ref cl) ctv) ⟨[u], []⟩ = pure [(y, u)]) (hr : Room (k + 2) X.A) (hgd : X.A.guards = some [])
    (hB : ∀ (A : Around) (outer : List PySem.Env) (s : Shared) (H : Hp) (E : XK), Room k (A.deeper (lamEnv X sc s.heap.objs.size fl cl)) → A.guards = some [] → PE (lamCx X A outer s H E sc fl cl) bd (t E))
    (rv : RelV v u) (ht : t (fun _ _ _ => False) (σ.set n (some v)) H Q') (go : ∀ u' s' v' H', Inv X pins σ H' s' → Un (frs X.stack) [] H H' s.heap s'.heap → RelV v' u' → Q' v' H' → Q u' s') :
    wpAny (model X.prog X.w) X.A.in1 (call (.ref fl) [u]) Q E s := by
  obtain ⟨⟨oc, vs, tq, hoc, hdc, hvc⟩, -, -⟩ := J1.hok cl _ hc
  have hr1 := hr.in1
  refine wpAny_call (codeAny_mono (R := CR (L2.CX X.prog X.w) X.stack X.prog X.w H s Q' (fun _ _ _ => False)) ?_ ?_)
  · refine PySem.W.kla_callFunE hr1.depth ho rfl LS.co LS.gen rfl ⟨cl, oc, vs, tq, rfl, hoc, hdc, hvc⟩ ?_
    rw [hb]
    have lV : ∀ z ∈ ([(y, u)] : List (Str × Value)), sc.names.lookup z.1 = some .local := fun z hz => by
      rw [List.mem_singleton] at hz
      rw [hz]
      exact LS.loc
    refine wpAny_pure (wpAny_newFunctionEnv (fun z hz => (LS.own z hz).2) lV (fun h₁ hns hsb => ⟨J1.nolimit.fresh _ hsb, ?_⟩) LS.kind)
    have kp : ∀ b o, s.heap.get? b = some o → h₁.get? b = some o := by
      intro b o e
      exact hsb.extBut b o (Nat.ne_of_lt (Heap.lt_size e)) (Heap.get?_push_of_some _ e)
    have J := lam_startK (tk := s.toks + ([(y, u)] : List (Str × Value)).length) (E := fun _ _ _ => False) (fl := fl) (cl := cl) J1 LS hN hy rv J1.env0.in1 hr1.hd Un.refl hns kp
    refine PySem.W.kla_codeExpr (wpAny_mono ((hB _ _ s H (fun _ _ _ => False) (hr1.deeper _) hgd).run [] _ _ H Q' J ht) ?_ fun e s' hq => hq)
    rintro v s' ⟨w', H', J', rv, q⟩
    exact ⟨w', H', J'.os, J'.bare, J'.base, J'.hok, rv, q⟩
  · intro r s' hq
    cases r with
    | error e =>
      obtain ⟨_, _, _, _, _, _, _, _, _, _, _, _, z⟩ := hq
      exact z.elim
    | ok fo =>
      cases fo with
      | ret u =>
        obtain ⟨v', H', os, bare, un, hok, r', q⟩ := hq
        exact go u s' v' H' (J1.call' (ch := []) os un hok bare fun b hb => by simp at hb) un r' q
      | next => exact False.elim hq
      | brk => exact False.elim hq
      | cont => exact False.elim hq
end
/-- the keys of the things -/
def keysOf (f : D → M D) : List D → Option (List Int)
  | [] => some []
  | x :: r => match f x, keysOf f r with
    | .ret (.int k), some ks => some (k :: ks)
    | _, _ => none
def btK (gt : Bool) (ks : List Int) (i j : Nat) : Bool := if gt = true then decide (ks.getD i 0 > ks.getD j 0) else decide (ks.getD i 0 < ks.getD j 0)
/-- max(xs, key=lambda y: k), min(..): y stands in slot n -/
def keyB (gt : Bool) (n : Nat) (ik : IE) (Γ : Env) (d : D) : M D := match d with
  | .lst xs => match keysOf (fun x => ik (Γ.set n (some (.fz x)))) xs with
    | some ks => match xs[argBest (btK gt ks) (xs.length - 1)]? with
      | some x => .ret x
      | none => .stuck
    | none => .stuck
  | _ => .stuck
def iKey (gt : Bool) (n : Nat) (il ik : IE) : IE := fun Γ => (il Γ).bind (keyB gt n ik Γ)
theorem keysOf_at {f : D → M D} : ∀ {xs : List D} {ks : List Int}, keysOf f xs = some ks → ks.length = xs.length ∧ ∀ (i : Nat) (x : D), xs[i]? = some x → f x = .ret (.int (ks.getD i 0)) := fun {xs} => by
  induction xs with
  | nil => intro ks h; cases h; exact ⟨rfl, fun i x e => by simp at e⟩
  | cons x r ih =>
    intro ks h
    simp only [keysOf] at h
    split at h
    · rename_i k ks' e1 e2
      cases h
      obtain ⟨l, a⟩ := ih e2
      refine ⟨by rw [List.length_cons, List.length_cons, l], fun i z e => ?_⟩
      cases i with
      | zero => cases e; exact e1
      | succ i => exact a i z e
    · cases h
section
variable {L : Lx} {X : Cx} {e : Expr} {il ik : IE}
theorem rel_at {ws : List V} {its : List Value} (r : Vals ws its) {i : Nat} {u : Value} (h : its[i]? = some u) : ∃ v, ws[i]? = some v ∧ RelV v u := by
  have hi : i < ws.length := by rw [r.length]; exact (List.getElem?_eq_some_iff.mp h).1
  obtain ⟨u', e, rv⟩ := r.get (List.getElem?_eq_getElem hi)
  rw [h] at e
  cases e
  exact ⟨_, List.getElem?_eq_getElem hi, rv⟩
/-- a list is walked, its things are known up to their marks -/
theorem walksV {P : Program} {w : World} {A : Around} (hh : A.handled = none) {it q : Addr} (ne : q ≠ it) (ws : List V) :
    Walks P w A it [it, q] [it] ws.length (fun i u => ∃ v, ws[i]? = some v ∧ RelV v u) fun i h => h.IsListIter it q i ∧ ∃ its : List Value, Vals ws its ∧ h.IsList q its.toArray := by
  constructor
  · intro b hb
    rw [List.mem_singleton] at hb
    rw [hb]
    exact List.mem_cons_self
  · rintro i h h' ⟨a, its, r, l⟩ k
    exact ⟨a.at fun o e => k it (by simp) o e, its, r, l.at fun o e => k q (by simp) o e⟩
  · rintro i s Q E hi ⟨a, its, r, l⟩ go
    have hi' : i < its.toArray.size := by rw [List.size_toArray, ← r.length]; exact hi
    refine wpAny_pyNext_list_item a l (Array.getElem?_eq_getElem hi') fun h' a' sb => ?_
    obtain ⟨v, hv, rv⟩ := rel_at (i := i) (u := its.toArray[i]) r (by rw [← List.getElem?_toArray, Array.getElem?_eq_getElem hi'])
    refine go _ h' s.toks ⟨v, hv, rv⟩ ⟨a', its, r, l.extBut sb.extBut ne⟩ fun b o hb e => sb.extBut b o ?_ e
    intro z
    exact hb (by rw [z]; exact List.mem_singleton_self _)
  · rintro s Q E ⟨a, its, r, l⟩ go
    refine wpAny_pyNext_list_end hh a l (by rw [Array.getElem?_eq_none]; rw [List.size_toArray, ← r.length]; exact Nat.le_refl _) fun h' k => go h' s.toks fun b o hb e => k b o ?_ e
    intro z
    exact hb (by rw [z]; exact List.mem_singleton_self _)
  · rintro i s Q E ⟨a, _⟩ go
    exact wpAny_pyIter_listiter a go
theorem key_core {nm : String} {op : CmpOp} {gt : Bool} {co tb : Addr} {k n : Nat} {y : Str} {ps : Arguments} {bd : Expr} {sc : Scope} {p lpos kp pos : Pos} (hK : X.K = L.K) (hcalm : X.calm = true)
    (call_ : ∀ {x : Value} {q : Addr} {Q E : Value → Shared → Prop} {s : Shared}, wpAny (model X.prog X.w) X.A.in1 (pyIter x) (fun it s₂ => ∃ I fp wr G n P St J V bt, it = .ref I ∧ WalksS X.prog X.w X.A.in1 I fp wr G n P St ∧ St 0 s₂ ∧ (∀ b ∈ fp, b < s₂.heap.objs.size) ∧ 0 < n ∧
      KeyRun X.prog X.w X.A.in1 (.ref q) op s₂.heap.objs.size wr G n P St J V bt ∧ J s₂ ∧ ∀ v s', P (argBest bt (n - 1)) v → J s' → Q v s') E s → wpAny (model X.prog X.w) X.A (call (.builtin nm) [x] [(Str.ofString "key", .ref q)]) Q E s)
    (cmp_ : ∀ (ks : List Int), CmpOf X.prog X.w X.A.in1 op (fun i v => ∃ t, v = .int (ks.getD i 0) t) (btK gt ks))
    (hg : Gl X (Str.ofString nm)) (hm : X.mg (Str.ofString nm) = none) (hv : bootBuiltins (Str.ofString nm) = some (.builtin nm)) (h : DE L X il e)
    (B : TabB X.base X.mg co tb) (ec : X.env.code = .ref co) (mT : (tb, X.env.qual ++ "<lambda>") ∈ L.T) (uT : ∀ p ∈ L.T, p.1 = tb → p.2 = X.env.qual ++ "<lambda>")
    (hr : Room (k + 2) X.A) (hgd : X.A.guards = some []) (LS : LamD X.env.scope sc y) (hN : X.N.Nodup) (hy : X.N[n]? = some y) (nd : defaultsOf ps X.env = ([], []))
    (hbind : ∀ (q : Str) (cs : List (Str × Addr)) (pm cv ctv u : Value), bindArgs (PySem.W.kla_fn "<lambda>" q ps bd sc cs pm cv ctv) ⟨[u], []⟩ = pure [(y, u)])
    (hB : ∀ (A : Around) (outer : List PySem.Env) (s : Shared) (H : Hp) (E : XK) (fl cl : Addr), Room k (A.deeper (lamEnv X sc s.heap.objs.size fl cl)) → A.guards = some [] → DE L (lamCx X A outer s H E sc fl cl) ik bd)
    (hdn : Str.ofString nm ≠ ("__name__" : Str)) (hdb : (Str.ofString nm == ("__debug__" : Str)) = false)
    (he : backTo pos (starEach [e] X.env) = (false, eval e X.env) :: backTo pos (starEach [] X.env)) (hpl : (backTo pos (starEach [e] X.env)).any (·.1) = false)
    (hall : (backToKw pos (keywordEach [⟨some "key", .Lambda ps bd sc lpos, kp⟩] X.env)).all (·.1.isSome) = true) (hkw : (backToKw pos (keywordEach [⟨some "key", .Lambda ps bd sc lpos, kp⟩] X.env)).any (·.1.isNone) = false) :
    DE L X (iKey gt n il ik) (.Call (.Name (Str.ofString nm) p) [e] [⟨some "key", .Lambda ps bd sc lpos, kp⟩] pos) := fun W tk => by
  constructor
  rintro pins s σ H Q I ⟨Γ, g0, rp, w⟩
  refine wpAny_Call_Name_kw (ld_blt I hg hm hv ?_ hdn hdb)
  refine PyProof.Rows.callWith_kw ?_ he hpl hall hkw
  rw [he]
  have q0 := (h W tk).run pins s σ H (fun v H1 => ∃ d g1, Rep L Γ g1 σ H1 ∧ Stp L g0 H g1 H1 ∧ Den L g1 v d ∧ (keyB gt n ik Γ d).wpB g1.bud (Wn L DenT g0 H Q) (XW L W g1 σ H1)) I (Rd1.go rp w fun v H1 d g1 r1 s1 t1 w1 => ⟨d, g1, r1, s1, t1, w1⟩)
  refine Calls.spliced_cons (thn q0 ?_)
  rintro u sa ⟨v, H1, I1, rv, d, g1, r1, st1, t1, w1⟩
  refine Calls.spliced_nil ?_
  cases d with
  | lst xs =>
    unfold keyB at w1
    dsimp only at w1
    split at w1
    · rename_i ks hks
      split at w1
      · rename_i best hbest
        obtain ⟨kl, ka⟩ := keysOf_at hks
        obtain ⟨q, ws, rfl, e1, l1⟩ := Vw.lst r1.sub (.inl t1)
        obtain rfl : u = Value.ref q := rv
        refine PyProof.Rows.kws_cons (lam_makeN I1 B ec mT uT r1.tab.1 nd (LS.has I1.ok) ?_)
        intro fl cl pm ctv H2 s2 J en nf T2 ho hn hfr hco
        refine PyProof.Rows.kws_nil ?_
        have st2 : Stp L g1 H1 g1 H2 := r1.ext en nf T2 g1.nt
        have r2 := r1.step st2
        obtain ⟨ws', e1', l1'⟩ : ∃ ws', g1.F q = some (.lst ws') ∧ DenL L g1 ws' xs := by
          cases t1 with
          | lst a b => exact ⟨_, a, b⟩
        have e2 := r2.sub _ _ e1'
        obtain ⟨its, rvs, pl, hz⟩ := J.list (.inl (.inl e2))
        have lw := l1'.length
        have flt := Heap.lt_size ho
        have nI : H2 s2.heap.objs.size = none := J.hok.fresh (Nat.le_refl _)
        refine call_ (iter_anyList pl.isList fun s₃ e3 st3 hfp hlI => ?_)
        have I3 : Inv X pins σ H2 s₃ := by rw [e3]; exact J.kept (t' := s2.toks) fun b u e => Heap.get?_push_of_some _ e
        have k3 : ∀ b o, s2.heap.get? b = some o → s₃.heap.get? b = some o := fun b o e => by rw [e3]; exact Heap.get?_push_of_some _ e
        have z3 : s2.heap.objs.size < s₃.heap.objs.size := by rw [e3]; show _ < (s2.heap.push _).objs.size; rw [Heap.size_push]; exact Nat.lt_succ_self _
        clear e3
        have nS : H2 s₃.heap.objs.size = none := I3.hok.fresh (Nat.le_refl _)
        have pos : 0 < ws'.length := by
          have := (List.getElem?_eq_some_iff.mp hbest).1
          omega
        refine ⟨_, _, _, _, ws'.length, _, _, fun s' => ∃ g' H', Inv X pins σ H' s' ∧ Stp L g1 H2 g' H' ∧ g'.bud = g1.bud ∧ FpOk X pins H' s2.heap.objs.size ∧ FpOk X pins H' s₃.heap.objs.size ∧ s'.heap.get? fl = some (PySem.W.kla_obj "<lambda>" (X.env.qual ++ "<lambda>") ps bd sc (cloFrom X.env.cells sc.names []) pm cl ctv) ∧ H' fl = none,
          fun i v _ => ∃ t, v = .int (ks.getD i 0) t, btK gt ks, rfl, (walksV (P := X.prog) (w := X.w) (A := X.A.in1) (show X.A.in1.handled = none from I.ok.hd hcalm) hlI ws').toS, ⟨st3.1, its, rvs, st3.2⟩, hfp, pos, ?_, ⟨g1, H2, I3, Stp.refl r2, rfl, J.fpOk (Nat.le_refl _) nI, I3.fpOk (Nat.le_refl _) nS, k3 _ _ ho, hn⟩, ?_⟩
        · refine ⟨?_, fun _ _ _ _ h _ => h, ?_, fun i j ki kj s Q E _ hi hj hq => cmp_ ks i j ki kj s Q E hi hj hq⟩
          · rintro s4 ⟨h', gn, d', t', o'⟩ ⟨g', H', I', stp, eb, f1, f2, o1, o2⟩ m
            obtain rfl : gn = s4.gens := m.gens
            obtain rfl : d' = s4.drawn := m.drawn
            obtain rfl : o' = s4.os := m.os
            refine ⟨g', H', I'.turnedL (t' := t') (h' := h') (ch := [s₃.heap.objs.size, s2.heap.objs.size]) (fun b o nb e => m.heap b o nb e) (fun b hb => ?_), stp, eb, f1, f2, m.heap fl _ ?_ o1, o2⟩
            · rcases List.mem_cons.mp hb with z | z
              · rw [z]; exact f2
              · rw [List.mem_singleton.mp z]; exact f1
            · intro z
              rcases List.mem_cons.mp z with z | z
              · rw [z] at flt; exact Nat.lt_irrefl _ (Nat.lt_trans flt z3)
              · rw [List.mem_singleton.mp z] at flt; exact Nat.lt_irrefl _ flt
          · rintro i u s4 o Q4 E4 hi ⟨v, hv, rv⟩ ⟨g', H', I', stp, eb, f1, f2, o1, o2⟩ hSt hS go
            have r' := r2.step stp
            have hxi : i < xs.length := by rw [← lw]; exact hi
            obtain ⟨v2, hv2, t⟩ := l1'.get (List.getElem?_eq_getElem hxi)
            rw [hv] at hv2
            cases hv2
            have t2 := t.mono stp.le stp.mu
            have nfr : ∀ {b}, FpOk X pins H' b → b ∉ frs X.stack := fun {b} f z => (List.mem_cons.mp (I'.stkSub _ z)).elim f.2.1 f.2.2.1
            refine lam_turn (Q' := fun v' H'' => v' = .int (ks.getD i 0) ∧ ∃ g'', Stp L g' H' g'' H'' ∧ g''.bud = g'.bud) (t := fun E => Rd1 L DenT (fun cls d _ H => E cls d H) ik) (k := k) (n := n) I' LS hN hy o1
              (stp.keep cl _ hco codeO_ne (not_inM r2.rnd hco (fun _ z => by unfold CodeO at z; cases z) (fun _ z => by unfold CodeO at z; cases z))).1 (hbind _ _ _ _ _ _) hr hgd
              (fun A outer s H E hr2 hg2 => hB A outer s H E fl cl hr2 hg2 _ takes_lam) rv ⟨_, g', r'.set t2, ?_⟩ fun u' s5 v' H5 I5 un r5 ⟨ev, g5, stp5, eb5⟩ => ?_
            · rw [ka i _ (List.getElem?_eq_getElem hxi)]
              exact fun v' g'' H'' s eb t => ⟨by cases t; rfl, g'', s, eb⟩
            · subst ev
              obtain ⟨tt, rfl⟩ := r5
              have stp6 := stp.trans stp5
              have r6 := r2.step stp6
              have e6 := r6.sub _ _ (stp6.le _ _ e1')
              obtain ⟨its6, rvs6, pl6, _⟩ := I5.list (.inl (.inl e6))
              obtain ⟨a1, _⟩ := hSt
              have kI : ∀ o, s4.heap.get? s2.heap.objs.size = some o → s5.heap.get? s2.heap.objs.size = some o := fun o e => un.keep _ o e f1.1 (nfr f1) (by simp)
              obtain ⟨oI, hI, _⟩ := id a1
              refine go _ s5 ⟨g5, H5, I5, stp6, eb5.trans eb, ⟨un.free _ oI hI f1.1 (by simp), f1.2⟩, ⟨un.free _ o hS f2.1 (by simp), f2.2⟩, un.keep _ _ o1 o2 ?_ (by simp), un.free _ _ o1 o2 (by simp)⟩ ⟨a1.at kI, its6, rvs6, pl6.isList⟩ (un.keep _ o hS f2.1 (nfr f2) (by simp)) ⟨tt, rfl⟩ fun _ _ h => h
              exact hfr
        · rintro u s4 ⟨v, hv, rv⟩ ⟨g', H', I', stp, eb, _⟩
          rw [lw] at hv
          obtain ⟨v2, hv2, t⟩ := l1'.get hbest
          rw [hv] at hv2
          cases hv2
          exact ⟨v, H', I', rv, w1 v g' H' (st1.trans (st2.trans stp)) eb (t.mono stp.le stp.mu)⟩
      · exact w1.elim
    · exact w1.elim
  | _ => exact w1.elim
theorem de_maxK {co tb : Addr} {k n : Nat} {y : Str} {ps : Arguments} {bd : Expr} {sc : Scope} {p lpos kp pos : Pos} (hK : X.K = L.K) (hcalm : X.calm = true)
    (hg : Gl X ("max")) (hm : X.mg ("max") = none) (h : DE L X il e)
    (B : TabB X.base X.mg co tb) (ec : X.env.code = .ref co) (mT : (tb, X.env.qual ++ "<lambda>") ∈ L.T) (uT : ∀ p ∈ L.T, p.1 = tb → p.2 = X.env.qual ++ "<lambda>")
    (hr : Room (k + 2) X.A) (hgd : X.A.guards = some []) (LS : LamD X.env.scope sc y) (hN : X.N.Nodup) (hy : X.N[n]? = some y) (nd : defaultsOf ps X.env = ([], []))
    (hbind : ∀ (q : Str) (cs : List (Str × Addr)) (pm cv ctv u : Value), bindArgs (PySem.W.kla_fn "<lambda>" q ps bd sc cs pm cv ctv) ⟨[u], []⟩ = pure [(y, u)])
    (hB : ∀ (A : Around) (outer : List PySem.Env) (s : Shared) (H : Hp) (E : XK) (fl cl : Addr), Room k (A.deeper (lamEnv X sc s.heap.objs.size fl cl)) → A.guards = some [] → DE L (lamCx X A outer s H E sc fl cl) ik bd)
    (he : backTo pos (starEach [e] X.env) = (false, eval e X.env) :: backTo pos (starEach [] X.env) := by rfl) (hpl : (backTo pos (starEach [e] X.env)).any (·.1) = false := by rfl)
    (hall : (backToKw pos (keywordEach [⟨some "key", .Lambda ps bd sc lpos, kp⟩] X.env)).all (·.1.isSome) = true := by rfl) (hkw : (backToKw pos (keywordEach [⟨some "key", .Lambda ps bd sc lpos, kp⟩] X.env)).any (·.1.isNone) = false := by rfl) :
    DE L X (iKey true n il ik) (.Call (.Name ("max") p) [e] [⟨some "key", .Lambda ps bd sc lpos, kp⟩] pos) :=
  key_core (nm := "max") (op := .Gt) (gt := true) hK hcalm (fun h => call_max_walkK h) (fun ks => CmpOf.ints_gt (fun i => ks.getD i 0) (fun _ _ h => h)) hg hm (by decide +kernel) h B ec mT uT hr hgd LS hN hy nd hbind hB (by decide) (by decide) he hpl hall hkw
theorem de_minK {co tb : Addr} {k n : Nat} {y : Str} {ps : Arguments} {bd : Expr} {sc : Scope} {p lpos kp pos : Pos} (hK : X.K = L.K) (hcalm : X.calm = true)
    (hg : Gl X ("min")) (hm : X.mg ("min") = none) (h : DE L X il e)
    (B : TabB X.base X.mg co tb) (ec : X.env.code = .ref co) (mT : (tb, X.env.qual ++ "<lambda>") ∈ L.T) (uT : ∀ p ∈ L.T, p.1 = tb → p.2 = X.env.qual ++ "<lambda>")
    (hr : Room (k + 2) X.A) (hgd : X.A.guards = some []) (LS : LamD X.env.scope sc y) (hN : X.N.Nodup) (hy : X.N[n]? = some y) (nd : defaultsOf ps X.env = ([], []))
    (hbind : ∀ (q : Str) (cs : List (Str × Addr)) (pm cv ctv u : Value), bindArgs (PySem.W.kla_fn "<lambda>" q ps bd sc cs pm cv ctv) ⟨[u], []⟩ = pure [(y, u)])
    (hB : ∀ (A : Around) (outer : List PySem.Env) (s : Shared) (H : Hp) (E : XK) (fl cl : Addr), Room k (A.deeper (lamEnv X sc s.heap.objs.size fl cl)) → A.guards = some [] → DE L (lamCx X A outer s H E sc fl cl) ik bd)
    (he : backTo pos (starEach [e] X.env) = (false, eval e X.env) :: backTo pos (starEach [] X.env) := by rfl) (hpl : (backTo pos (starEach [e] X.env)).any (·.1) = false := by rfl)
    (hall : (backToKw pos (keywordEach [⟨some "key", .Lambda ps bd sc lpos, kp⟩] X.env)).all (·.1.isSome) = true := by rfl) (hkw : (backToKw pos (keywordEach [⟨some "key", .Lambda ps bd sc lpos, kp⟩] X.env)).any (·.1.isNone) = false := by rfl) :
    DE L X (iKey false n il ik) (.Call (.Name ("min") p) [e] [⟨some "key", .Lambda ps bd sc lpos, kp⟩] pos) :=
  key_core (nm := "min") (op := .Lt) (gt := false) hK hcalm (fun h => call_min_walkK h) (fun ks => CmpOf.ints_lt (fun i => ks.getD i 0) (fun _ _ h => h)) hg hm (by decide +kernel) h B ec mT uT hr hgd LS hN hy nd hbind hB (by decide) (by decide) he hpl hall hkw
end
end DL
/-! tuple(d.items()), the keys numbers and texts, the values too. -/
namespace DL
open PySem PySem.Spec PyProof.Rows L2
section
variable {prog : Program} {w : World} {A : Around} {E : Value → Shared → Prop} {s : Shared}
variable {K : Type} [DecidableEq K] {knd : KeyKind prog w K} {kvs : List (K × Value)} {ep : Nat} {r d : Addr}
theorem view_type (hv : s.heap.IsItemsView r d) : s.TypeIs (.ref r) "dict_items" := by
  obtain ⟨o, ho, hc, _⟩ := hv
  exact ⟨o, ho, hc⟩
theorem tup_items {Q : Value → Shared → Prop} (hh : A.handled = none) (hv : s.heap.IsItemsView r d) (hm : s.heap.DictAt knd d kvs ep) (hn : kvs.length ≤ sizeLine)
    (hQ : ∀ (h' : Heap) (tk : Nat) (as : List Addr), (∀ b o, s.heap.get? b = some o → h'.get? b = some o) → as.length = kvs.length → PySem.W.KdxG knd kvs s.heap.objs.size h' as →
      Q (.ref h'.objs.size) { s with heap := h'.push { cls := .type "tuple", data := .seq (as.map Value.ref).toArray }, toks := tk }) :
    wpAny (model prog w) A (call (.type "tuple") [.ref r]) Q E s := by
  have ty := view_type hv
  have made : codeAny (model prog w) A.in1 (.call (.builtin "tuple.__new__") ⟨[.type "tuple", .ref r], []⟩) (wants (fun obj s₁ => s₁.TypeIs obj "tuple" ∧ Q obj s₁) E) s := by
    refine codeAny_of_tree ?_
    show wpAny _ A.in1.in1 (do checkBuiltinCall "tuple.__new__" ⟨[.type "tuple", .ref r], []⟩; again (.builtin "tuple.__new__" ⟨[.type "tuple", .ref r], []⟩)) _ _ s
    refine wpAny_bind (wpAny_of_eq (PySem.F.newCall_tuple_1 _) (wpAny_pure ⟨plainId_quiet PySem.F.plain_tuple_new _, codeAny_builtin PySem.F.entry_tuple_new ?_⟩))
    rw [Around.under_plainId PySem.F.plain_tuple_new _]
    have i1 := sub_tuple_self
    have i2 := init_tuple_lookup
    have i3 := madeHere_tuple
    have i4 : A.in1.in1.handled = none := hh
    wp_walk using wpAny_typeOf ty, PySem.W.kdx_collect (A := A.in1.in1) i4 hv hm hn
    intro h' tk as hk hl hG
    show wpAny _ _ (Builtin.Tuple.tupleExact (as.map Value.ref).toArray >>= fun v => ret v) _ _ _
    unfold Builtin.Tuple.tupleExact
    refine wpAny_bind (wpAny_newObj_type ?_ (by show (as.map Value.ref).toArray.size ≤ sizeLine; rw [List.size_toArray, List.length_map, hl]; exact hn))
    exact wpAny_pure ⟨⟨_, Heap.get?_push_size _ rfl, rfl⟩, hQ h' tk as hk hl hG⟩
  refine callType_codes (Q₁ := fun obj s₁ => s₁.TypeIs obj "tuple" ∧ Q obj s₁) PySem.F.called_tuple (PySem.F.typeCall_tuple_1 _) PySem.F.entry_object_init made fun obj s₁ h₁ => ?_
  exact ⟨h₁.1, PySem.F.args_object_init_2 obj _, object_init_meets PySem.F.called_tuple.init.lookup PySem.F.called_tuple.made (by decide) prog w A.in1 _ s₁ ⟨h₁.1, rfl, h₁.2⟩⟩
end
def pairI (kv : D × D) : D := .tup [kv.1, kv.2]
def iTupItems (i : IE) : IE := fun Γ => (i Γ).bind fun x => match x with
  | .dct false kvs => if kvs.all (fun kv => (kOf kv.2).isSome) = true then .ret (.tup (kvs.map pairI)) else .stuck
  | _ => .stuck
section
variable {L : Lx} {X : Cx} {g : Gh} {H : Hp} {i : IE} {e : Expr} {p apos cpos pos : Pos}
/-- a dict whose keys are numbers and texts, read -/
theorem dk_rd {pins : List (Addr × Obj)} {σ : L2.St} {s : Shared} {a : Addr} {kvs : List (Key × V)} (I : Inv X pins σ H s) (h : Rd H a (.dK kvs)) :
    kvs.length ≤ sizeLine ∧ (a == sysModules) = false ∧ ∃ vs, KV kvs vs ∧ s.heap.DictOf (mixKind X.prog X.w) a vs := by
  rcases h with h | ⟨o, h⟩
  · obtain ⟨z, hs, vs, kv, hd⟩ := I.hok a _ h
    exact ⟨z, hs, vs, kv, hd⟩
  · obtain ⟨_, z, hs, vs, kv, hd⟩ := I.hok a _ h
    exact ⟨z, hs, vs, kv, hd⟩
def rItemsK : V → List V → Hp → VK → Prop := fun x xs H Q => ∃ (a : Addr) (kvs : List (Key × V)), x = .ref a ∧ xs = [] ∧ Rd H a (.dK kvs) ∧ ∀ p, H p = none → Q (.ref p) (upd H p (L2.DX.itemsO p a))
theorem mt_itemsK : MtR X "dict.items" rItemsK := by
  intro pins s σ H x xs v us Q I rx rxs h
  obtain ⟨a, kvs, rfl, rfl, ha, q⟩ := h
  cases rx
  cases rxs
  obtain ⟨z, hs, vs, kv, o, es, ep, ho, hx, hdat, _⟩ := dk_rd I ha
  refine DT.callItems (es := es) (ep := ep) hs ⟨o, ho, hx, hdat⟩ ?_
  have hf : H s.heap.objs.size = none := I.hok.fresh (Nat.le_refl _)
  exact ⟨.ref s.heap.objs.size, upd H s.heap.objs.size (L2.DX.itemsO s.heap.objs.size a), I.laid (t' := s.toks) (fun b u e => Heap.get?_push_of_some _ e) (Nat.le_refl _) (L2.DX.itemsO_ok (Heap.get?_push_size _ rfl)), rfl, q _ hf⟩
theorem kOf_den {v : V} {d : D} (t : Den L g v d) (h : (kOf d).isSome = true) : notKey v = false := by
  cases t <;> first | rfl | cases h
def rTupI (L : Lx) : List V → Hp → VK → Prop := fun xs H Q => ∃ (Γ : Env) (g : Gh) (σ : L2.St) (q a : Addr) (ks : List Key) (vs : List V) (ds : List D), Rep L Γ g σ H ∧ xs = [.ref q] ∧ H q = some (L2.DX.itemsO q a) ∧ Rd H a (.dK (ks.zip vs)) ∧ ks.length = vs.length ∧ DenL L g vs ds ∧
  (∀ d ∈ ds, (kOf d).isSome = true) ∧ ∀ v g2 H2, Stp L g H g2 H2 → g2.bud = g.bud → Den L g2 v (.tup ((ks.zip ds).map fun kd => .tup [keyD kd.1, kd.2])) → Q v H2
theorem denL_at : ∀ {vs : List V} {ds : List D}, vs.length = ds.length → (∀ (j : Nat) (v : V) (d : D), vs[j]? = some v → ds[j]? = some d → Den L g v d) → DenL L g vs ds
  | [], [], _, _ => .nil
  | [], _ :: _, h, _ => by cases h
  | _ :: _, [], h, _ => by cases h
  | v :: vs, d :: ds, h, k => .cons (k 0 v d rfl rfl) (denL_at (Nat.succ.inj h) fun j v d h1 h2 => k (j + 1) v d h1 h2)
theorem cr_tupI (hz : L.fz = false) (hc : X.calm = true) : CallR X (.type "tuple") (rTupI L) := by
  intro pins s σ H xs us Q I r h
  obtain ⟨Γ, g, σ', q, a, ks, vs, ds, rp, ex, hq, ha, hl, l, hk, w⟩ := h
  subst ex
  obtain ⟨u, eu, ru⟩ := vals1 r
  subst eu
  cases ru
  have view : s.heap.IsItemsView q a := (show ObjOk X.prog X.w H s.heap q (L2.DX.itemsO q a) from I.hok q _ hq).1
  obtain ⟨z, hs, vs', kv, hdo⟩ := dk_rd I ha
  obtain ⟨ep, hat⟩ := hdo.dictAt
  have lk : (ks.zip vs).length = vs'.length := Paired.length kv
  have l2 := l.length
  refine tup_items (knd := mixKind X.prog X.w) (I.ok.hd hc) view hat (by omega) fun h' tk as hkp hla hG => ?_
  have I1 : Inv X pins σ H { s with heap := h', toks := tk } := I.kept (t' := tk) hkp
  have nd : as.Nodup := List.Pairwise.imp (fun h => Nat.ne_of_lt h) hG.rise
  have at_ : ∀ (j : Nat) (b : Addr), as[j]? = some b → ∃ (k : Key) (v : V) (ky x : Value), (ks.zip vs)[j]? = some (k, v) ∧ RelV (kV k) ky ∧ RelV v x ∧ h'.get? b = some { cls := .type "tuple", data := .seq #[ky, x] } := fun j b hj => by
    obtain ⟨ky, k, x, e1, e2, e3⟩ := hG.pairs j b hj
    obtain ⟨⟨k', v⟩, f1, f2, f3⟩ := at_pair kv e1
    have f2 : k' = k := f2
    subst f2
    exact ⟨k', v, ky, x, f1, relV_key (show keyIs k' ky = true from e2), f3, e3⟩
  obtain ⟨H2, I2, k1, k3⟩ := L2.DX.takeT (P := fun b ws => ∃ (j : Nat) (k : Key) (v : V), as[j]? = some b ∧ (ks.zip vs)[j]? = some (k, v) ∧ ws = [kV k, v]) I as H I1 nd fun b hb => by
    obtain ⟨j, hj⟩ := List.mem_iff_getElem?.mp hb
    obtain ⟨k, v, ky, x, e1, e2, e3, e4⟩ := at_ j b hj
    exact ⟨Nat.le_of_lt (hG.above b hb), I.hok.fresh (Nat.le_of_lt (hG.above b hb)), _, ⟨j, k, v, hj, e1, rfl⟩, fun H2 => ⟨by show 2 ≤ sizeLine; decide, [ky, x], .cons e2 (.cons e3 .nil), ⟨_, e4, rfl, _, rfl⟩⟩⟩
  have fresh : ∀ b ∈ as, H b = none := fun b hb => I.hok.fresh (Nat.le_of_lt (hG.above b hb))
  let F2 : Hp := fun b => if b ∈ as then H2 b else g.F b
  have fA : ∀ b, b ∈ as → F2 b = H2 b := fun b hb => if_pos hb
  have fO : ∀ b, b ∉ as → F2 b = g.F b := fun b hb => if_neg hb
  have two : ∀ b o, F2 b = some o → (b ∈ as ∧ H2 b = some o) ∨ (b ∉ as ∧ g.F b = some o) := fun b o e => by
    by_cases hb : b ∈ as
    · rw [fA b hb] at e; exact .inl ⟨hb, e⟩
    · rw [fO b hb] at e; exact .inr ⟨hb, e⟩
  have nt : ∀ a ps, F2 a ≠ some (.tbl ps) := fun a ps e => by
    rcases two a _ e with ⟨hb, e⟩ | ⟨_, e⟩
    · obtain ⟨ws, _, e2⟩ := k3 a hb
      rw [e2] at e; cases e
    · exact g.nt a ps e
  have f1 : ∀ b o, g.F b = some o → F2 b = some o := fun b o e => by
    have hH := rp.sub _ _ e
    rw [fO b fun z => by rw [fresh b z] at hH; cases hH]
    exact e
  have S := stp_more rp k1 F2 nt f1 (fun b o e => by
    rcases two b o e with ⟨_, e⟩ | ⟨_, e⟩
    · exact e
    · exact k1 _ _ (rp.sub _ _ e)) fun b o e => by
    rcases two b o e with ⟨hb, _⟩ | ⟨_, e⟩
    · exact .inr (.inl (fresh b hb))
    · exact .inl e
  have rp2 := rp.step S
  have dl : DenL L ⟨F2, g.mu, g.bud, nt⟩ (as.map V.ref) ((ks.zip ds).map fun kd => .tup [keyD kd.1, kd.2]) := by
    refine denL_at (by rw [List.length_map, List.length_map, hla, ← lk, List.length_zip, List.length_zip, l2]) fun j v d hv hd => ?_
    rw [List.getElem?_map] at hv hd
    obtain ⟨b, hb, rfl⟩ := Option.map_eq_some_iff.mp hv
    obtain ⟨⟨k, d⟩, hkd, rfl⟩ := Option.map_eq_some_iff.mp hd
    have mb := List.mem_of_getElem? hb
    obtain ⟨ws, ⟨j', k', v, hj', e1, rfl⟩, e2⟩ := k3 b mb
    obtain rfl := nodup_at nd hb hj'
    obtain ⟨z1, z2⟩ := List.getElem?_zip_eq_some.mp e1
    obtain ⟨z3, z4⟩ := List.getElem?_zip_eq_some.mp hkd
    rw [z1] at z3
    cases z3
    obtain ⟨v2, hv2, t⟩ := l.get z4
    rw [z2] at hv2
    cases hv2
    have dk : Den L ⟨F2, g.mu, g.bud, nt⟩ (kV k) (keyD k) := by
      cases k with
      | inl i => exact .int i
      | inr s => exact .str s
    refine .tup (.inl ⟨?_, (fA b mb).trans e2⟩) (.cons dk (.cons (t.mono S.le S.mu) .nil))
    have nk : notKey (kV k) = false := by cases k <;> rfl
    rw [hz]
    simp only [List.any_cons, List.any_nil, nk, kOf_den t (hk d (List.mem_of_getElem? z4)), Bool.or_false]
  have nn : H2 h'.objs.size = none := I2.hok.fresh (Nat.le_refl _)
  have lz : as.length ≤ sizeLine := by omega
  have J2 := I2.laid (t' := tk) (h' := h'.push { cls := .type "tuple", data := .seq (as.map Value.ref).toArray }) (o := newT L.fz { cls := .type "tuple", data := .seq (as.map Value.ref).toArray } (as.map V.ref)) (fun b ob e => Heap.get?_push_of_some _ e) (Nat.le_refl _) (by
    have k : ∀ H', ObjOk X.prog X.w H' (h'.push { cls := .type "tuple", data := .seq (as.map Value.ref).toArray }) h'.objs.size (.tup (as.map V.ref)) := fun _ => ⟨by rw [List.length_map]; exact lz, as.map Value.ref, refs_rel as, PyProof.Rows.IsTup.new _ _⟩
    unfold newT
    split
    · exact ⟨Heap.get?_push_size _ rfl, k _⟩
    · exact k _)
  have S3 := stp_put (o := newT L.fz { cls := .type "tuple", data := .seq (as.map Value.ref).toArray } (as.map V.ref)) rp2 nn newT_nt
  exact ⟨.ref _, _, J2, rfl, w _ _ _ (S.trans S3) rfl (.tup (newT_sq put_F rfl rfl) (dl.mono S3.le S3.mu))⟩
theorem de_tupItems (hz : L.fz = false) (hc : X.calm = true) (hg : Gl X "tuple") (hm : X.mg "tuple" = none) (h : DV L X i e) (hbase : attributeBase e "items" X.env (eval e X.env) = eval e X.env := by rfl) (hline : (apos.endLine == cpos.line) = true := by rfl)
    (he : starEach [.Call (.Attribute e "items" apos) [] [] cpos] X.env = (false, eval (.Call (.Attribute e "items" apos) [] [] cpos) X.env) :: starEach [] X.env := by rfl) (hpl : (backTo pos (starEach [] X.env)).any (·.1) = false := by rfl) :
    DE L X (iTupItems i) (.Call (.Name "tuple" p) [.Call (.Attribute e "items" apos) [] [] cpos] [] pos) := fun W tk => by
  refine PE.imp (pe_callTy (cr_tupI hz hc) hg hm (by decide +kernel) (pa_cons (pe_dm0 PySem.F.slot_dict_items PySem.F.type_dict_items mt_itemsK (h W tk) hbase hline) pa_nil he) (by decide) (by decide) he hpl) fun σ H Q ⟨Γ, g, rp, w⟩ => ?_
  refine Rd1.go rp w fun x H1 dx g1 r1 s1 t1 w => ?_
  cases dx with
  | dct t kvs =>
    cases t with
    | true => exact w.elim
    | false =>
      obtain ⟨ad, rfl, hd⟩ := Vw.dct r1.sub t1
      rcases hd with ⟨ks, vs, ds, h1, h2, h3, rfl, _⟩ | ⟨_, _, _, _, _, _, _, z⟩
      · dsimp only at w
        split at w
        · rename_i hk
          refine ⟨⟨ad, rfl, .inl ⟨_, h1⟩⟩, ad, _, rfl, rfl, h1, fun q nq => ?_⟩
          have sv := stp_new (o := L2.DX.itemsO q ad) r1 nq false
          refine ⟨Γ, g1, σ, q, ad, ks, vs, ds, r1.step sv, rfl, upd_same, rd_new nq h1, h2, h3, fun d hd => ?_, fun v g2 H2 S eb t => ?_⟩
          · obtain ⟨j, hj⟩ := List.mem_iff_getElem?.mp hd
            have lj := (List.getElem?_eq_some_iff.mp hj).1
            have lk : j < (ks.map keyD).length := by rw [List.length_map, h2, h3.length]; exact lj
            exact List.all_eq_true.mp hk ((ks.map keyD)[j], d) (List.mem_of_getElem? (i := j) (List.getElem?_zip_eq_some.mpr ⟨List.getElem?_eq_getElem lk, hj⟩))
          · refine w v g2 H2 (s1.trans (sv.trans S)) eb ?_
            rw [List.zip_map_left, List.map_map]
            exact t
        · exact w.elim
      · cases z
  | _ => exact w.elim
end
end DL
/-! {k: v for ..}, the keys numbers and texts: a new dict of one's own. -/
namespace DL
open PySem PySem.Spec L2
def dcRun (t : IG) (c : IT) (ik iv : IE) (own : List Nat) (Γ : Env) : List (D × D) → List D → M (List (D × D))
  | acc, [] => .ret acc
  | acc, d :: r => (t d (wipeE Γ own)).bind fun Γ1 => (c Γ1).bind fun b => if b = true then (ik Γ1).bind fun y => (iv Γ1).bind fun x => if (kOf y).isSome = true ∧ acc.length < sizeLine then dcRun t c ik iv own Γ (putD acc y x) r else .stuck else dcRun t c ik iv own Γ acc r
def iDc (t : IG) (it : II) (c : IT) (ik iv : IE) (own : List Nat) : IE := fun Γ => (it Γ).bind fun ds => (dcRun t c ik iv own Γ [] ds).noX.bind fun acc => .ret (.dct false acc)
section
variable {L : Lx} {X : Cx} {g0 g g' : Gh} {H0 H H' : Hp} {σ σ' : L2.St} {Γ Γ' : Env} {W : WX} {pos : Pos}
/-- the own dict that is being made -/
def AccD (L : Lx) (g : Gh) (H : Hp) (p : Addr) (acc : List (D × D)) : Prop := ∃ (ks : List Key) (vs : List V) (ds : List D), H p = some (.dK (ks.zip vs)) ∧ ks.length = vs.length ∧ DenL L g vs ds ∧ acc = (ks.map keyD).zip ds ∧ g.F p = none ∧ ¬ InM g.mu H p
theorem AccD.step {p : Addr} {acc : List (D × D)} (a : AccD L g H p acc) (s : Stp L g H g' H') : AccD L g' H' p acc := by
  obtain ⟨ks, vs, ds, h1, h5, h2, h6, h3, h4⟩ := a
  obtain ⟨e, m⟩ := s.keep p _ h1 (fun _ z => nomatch z) h4
  exact ⟨ks, vs, ds, e, h5, h2.mono s.le s.mu, h6, s.keepF h1 (fun _ z => nomatch z) (fun _ z => nomatch z) h4 h3, m⟩
theorem AccD.len {p : Addr} {acc : List (D × D)} {ks : List Key} {vs : List V} {ds : List D} (h5 : ks.length = vs.length) (h2 : DenL L g vs ds) (h6 : acc = (ks.map keyD).zip ds) : (ks.zip vs).length = acc.length := by
  rw [h6, List.length_zip, List.length_zip, List.length_map, h2.length]
theorem dc_read {t : IG} {it : II} {c : IT} {ik iv : IE} {own : List Nat} {gt : TG} {tt : TT} {Q : VK} (gk : GK L gt t own) (tk : TK L tt c) (r : Rep L Γ g σ H)
    (w : (iDc t it c ik iv own Γ).wpB g.bud (Wn L FrTD g H Q) (XW L W g σ H)) : tDc (RdI L W it) gt tt (Rd1 L DenT (fun _ _ _ _ => False) ik) (Rd1 L DenT (fun _ _ _ _ => False) iv) own σ H Q := by
  refine ⟨Γ, g, r, M.wpB_mono (fun ds b k g1 H1 J sp e wk => ?_) (fun _ _ x => x) _ _ ((M.wpB_bind _ _).mp w)⟩
  subst e
  intro Dd nD
  replace k : ((dcRun t c ik iv own Γ [] ds).bind fun acc => M.ret (D.dct false acc)).wpB g1.bud (Wn L FrTD g H Q) (XW L (fun _ _ _ _ => False) g σ H) := (M.wpB_bind _ _).mpr (M.wpB_noX (Q := fun acc c => Wn L FrTD g H Q (.dct false acc) c) _ _ ((M.wpB_bind _ _).mp k))
  have r1 := r.step sp
  have s2 : Stp L g1 H1 g1 (upd H1 Dd (.dK [])) := stp_new (o := .dK []) r1 nD false
  have xw : ∀ {g2 : Gh} {H2 : Hp} {σ2 : L2.St} {x : Ex} {b : Nat}, Stp L g1 H1 g2 H2 → XW L (fun _ _ _ _ => False) g σ H x b → XW L (fun _ _ _ _ => False) g2 σ2 H2 x b := fun s h cls d g' H' s' e a => h cls d g' H' (sp.trans (s.trans s')) e a
  have nM0 : ¬ InM g1.mu H1 Dd := fun i => (InM.there r1.rnd.ok i) nD
  refine ⟨fun j m Hj => j ≤ ds.length ∧ m = ds.length - j ∧ ∃ g2 acc, Stp L g1 H1 g2 Hj ∧ AccD L g2 Hj Dd acc ∧ ((dcRun t c ik iv own Γ acc (ds.drop j)).bind fun acc => M.ret (D.dct false acc)).wpB g2.bud (Wn L FrTD g H Q) (XW L (fun _ _ _ _ => False) g σ H),
    ⟨ds.length, Nat.zero_le _, by simp, g1, [], s2, ⟨[], [], [], upd_same, rfl, .nil, rfl, nF_of r1 nD, fun i => nM0 (inM_updD nM0 i)⟩, k⟩, ?_⟩
  rintro j m Hj ⟨hj, rfl, g2, acc, s, a, w2⟩
  have r2 := r1.step s
  by_cases hlt : j < ds.length
  · have ed : ds.drop j = ds[j] :: ds.drop (j + 1) := List.drop_eq_getElem_cons hlt
    rw [ed] at w2
    obtain ⟨go, yl⟩ := wk.step j ds[j] Γ g2 σ Hj (List.getElem?_eq_getElem hlt) r2 s.fle
    refine .inr ⟨go, fun Hn => ∃ g2 acc, Stp L g1 H1 g2 Hn ∧ AccD L g2 Hn Dd acc ∧ ((dcRun t c ik iv own Γ acc (ds.drop (j + 1))).bind fun acc => M.ret (D.dct false acc)).wpB g2.bud (Wn L FrTD g H Q) (XW L (fun _ _ _ _ => False) g σ H), fun H' ⟨g', acc', s', a', w'⟩ => ⟨ds.length - (j + 1), by omega, hlt, rfl, g', acc', s', a', w'⟩, fun x H' y => ?_⟩
    obtain ⟨g3, s3, b3, t3⟩ := yl x H' y
    rw [← b3] at w2
    have s13 := s.trans s3
    have w3 := (M.wpB_bind _ _).mp w2
    refine gk x ds[j] Γ g3 σ H' _ (XW L (fun _ _ _ _ => False) g σ H) g3.bud (wipe_rep (r2.step s3)) t3 (M.wpB_mono (fun Γ1 c' k eb σ1 rp1 wi => ?_) (fun _ _ x => x) _ _ ((M.wpB_bind _ _).mp w3))
    subst eb
    refine ⟨wi, tk σ1 H' _ ⟨Γ1, g3, rp1, M.wpB_mono (fun b c' k g4 H4 s4 e4 => ?_) (fun _ _ x => xw s13 x) _ _ ((M.wpB_bind _ _).mp k)⟩⟩
    subst e4
    have s14 := s13.trans s4
    have a4 := (a.step s3).step s4
    cases b with
    | false => exact iteF ⟨g4, acc, s14, a4, (M.wpB_bind _ _).mpr k⟩
    | true =>
      refine iteT ⟨Γ1, g4, rp1.step s4, M.wpB_mono (fun y b k v g5 H5 s5 e5 t5 => ?_) (fun _ _ x => xw s14 x) _ _ ((M.wpB_bind _ _).mp k)⟩
      subst e5
      have s15 := s14.trans s5
      refine ⟨Γ1, g5, (rp1.step s4).step s5, M.wpB_mono (fun d b k u g6 H6 s6 e6 t6 => ?_) (fun _ _ x => xw s15 x) _ _ ((M.wpB_bind _ _).mp k)⟩
      subst e6
      split at k
      · rename_i z
        obtain ⟨ks, vs, es, h1, h5, h2, h6, h3, h4⟩ := (a4.step s5).step s6
        obtain ⟨kk, ek⟩ := Option.isSome_iff_exists.mp z.1
        have ey := kOf_eq ek
        subst ey
        have ev : v = kV kk := by
          cases kk with
          | inl i => cases t5; rfl
          | inr s => cases t5; rfl
        obtain ⟨ks', vs', es', e1, e2, e3, e4⟩ := put_den kEq_key kk t6 h5 h2
        refine ⟨ks.zip vs, kk, ev, h1, by rw [AccD.len (p := Dd) h5 h2 h6]; exact z.2, g6, putD acc (keyD kk) d, stp_updD (s15.trans s6) nD h1 trivial h3 h4, ⟨ks', vs', es', by rw [upd_same, e1], e2, e3, by rw [h6, e4], h3, fun i => h4 (inM_updD h4 i)⟩, (M.wpB_bind _ _).mpr k⟩
      · exact k.elim
  · have e : j = ds.length := by omega
    subst e
    rw [List.drop_length] at w2
    obtain ⟨ks, vs, es, h1, h5, h2, h6, h3, h4⟩ := a
    exact .inl ⟨wk.stop Γ g2 σ Hj r2 s.fle, w2 (.ref Dd) g2 Hj (sp.trans s) rfl ⟨Dd, false, acc, rfl, rfl, .inl ⟨ks, vs, es, h1, h5, h2, h6, rfl⟩, h3, h4, none_back sp nD⟩⟩
theorem dfd_dc {t : IG} {it : II} {c : IT} {ik iv : IE} {own : List (Str × Nat)} {gt : TG} {tt : TT} {kx vx tg iter : Expr} {ifs : List Expr} {scope : Scope} (hc : X.calm = true) (hN : X.N.Nodup) (hi : DI L X it tg iter) (ok : BlkOk X.N X.env.scope scope own)
    (hg : ∀ (s : Shared) (H : Hp) (C : Addr) (cl : List (Str × Addr)) (fp : List Addr), PG (X.blk s H scope (compEnvC scope cl C X.env) fp) tg gt) (gk : GK L gt t (own.map (·.2)))
    (ht : ∀ (s : Shared) (H : Hp) (C : Addr) (cl : List (Str × Addr)) (fp : List Addr), PTs (X.blk s H scope (compEnvC scope cl C X.env) fp) ifs tt) (tk : TK L tt c)
    (hk : ∀ (s : Shared) (H : Hp) (C : Addr) (cl : List (Str × Addr)) (fp : List Addr), DE L (X.blk s H scope (compEnvC scope cl C X.env) fp) ik kx)
    (he : ∀ (s : Shared) (H : Hp) (C : Addr) (cl : List (Str × Addr)) (fp : List Addr), DE L (X.blk s H scope (compEnvC scope cl C X.env) fp) iv vx) (hs : ∀ x, foldedSetIterable iter X.env x = pure x := by intro _; rfl) :
    DFD L X (iDc t it c ik iv (own.map (·.2))) (.DictComp kx vx [⟨tg, iter, ifs, 0⟩] scope pos) := fun W tk' => by
  exact PE.imp (pe_dc hc hN (hi W tk') ok hg ht (fun s H C cl fp => hk s H C cl fp _ LamX.takes0) (fun s H C cl fp => he s H C cl fp _ LamX.takes0) hs) fun σ H Q ⟨Γ, g, r, w⟩ => dc_read gk tk r w
end
end DL
/-! dict(xs), dict(t): pairs whose keys are numbers and texts. -/
namespace DL
open PySem PySem.Spec PyProof.Rows L2
def pairK1 : D → Option (Key × D)
  | .tup [y, d] => (kOf y).map fun k => (k, d)
  | _ => none
def pairsK1 : List D → Option (List (Key × D))
  | [] => some []
  | x :: r => match pairK1 x, pairsK1 r with
    | some kd, some l => some (kd :: l)
    | _, _ => none
theorem pairK1_eq {x : D} {k : Key} {d : D} (h : pairK1 x = some (k, d)) : x = .tup [keyD k, d] := by
  unfold pairK1 at h
  split at h
  · rename_i y d'
    obtain ⟨k', hk, e⟩ := Option.map_eq_some_iff.mp h
    cases e
    rw [kOf_eq hk]
  · cases h
def dctK (kds : List (Key × D)) : D := .dct false (kds.map fun kd => (keyD kd.1, kd.2))
def fDictK : List D → Option D
  | [.lst ps] => (pairsK1 ps).bind fun kds => if (kds.map (·.1)).Nodup then some (dctK kds) else none
  | [.tup ps] => (pairsK1 ps).bind fun kds => if ps ≠ [] ∧ (kds.map (·.1)).Nodup then some (dctK kds) else none
  | _ => none
section
variable {L : Lx} {X : Cx} {g : Gh} {H : Hp}
theorem key_val {k : Key} {u : Value} (r : RelV (kV k) u) : keyIs k u = true := by
  cases k with
  | inl i => obtain ⟨t, rfl⟩ := r; exact keyIs_int i t
  | inr s => obtain ⟨t, rfl⟩ := r; exact keyIs_str s t
theorem pairsV_of {pins : List (Addr × Obj)} {s : Shared} {σ : L2.St} (I : Inv X pins σ H s) : ∀ {ps : List Addr} {kvs : List (Key × V)}, Paired (fun p (kv : Key × V) => SqT X.K H p [kV kv.1, kv.2]) ps kvs →
    ∃ xs : List (Key × Value × Value), Paired (fun (p : Key × V) (q : Key × Value × Value) => p.1 = q.1 ∧ RelV p.2 q.2.2) kvs xs ∧ xs.length = ps.length ∧
      ∀ (j : Nat) (q : Key × Value × Value), xs[j]? = some q → keyIs q.1 q.2.1 = true ∧ ∃ p, ps[j]? = some p ∧ s.heap.IsTuple p #[q.2.1, q.2.2]
  | [], [], .nil => ⟨[], .nil, rfl, fun j q e => by simp at e⟩
  | p :: ps, kv :: kvs, .cons hq t => by
    obtain ⟨xs, h1, h2, h3⟩ := pairsV_of I t
    obtain ⟨its, r, pl, _⟩ := I.tuple hq
    obtain ⟨u1, u2, rfl⟩ : ∃ u1 u2, its = [u1, u2] := by
      have := r.length
      match its, this with
      | [a, b], _ => exact ⟨a, b, rfl⟩
    cases r with
    | cons r1 r =>
      cases r with
      | cons r2 _ =>
        refine ⟨(kv.1, u1, u2) :: xs, .cons ⟨rfl, r2⟩ h1, by rw [List.length_cons, List.length_cons, h2], fun j q e => ?_⟩
        cases j with
        | zero =>
          obtain rfl : (kv.1, u1, u2) = q := by simpa using e
          exact ⟨key_val r1, p, rfl, pl⟩
        | succ j => exact h3 j q (by simpa using e)
theorem dict_coreK {pins : List (Addr × Obj)} {s : Shared} {σ : L2.St} {H : Hp} {a : Addr} {T : String} {Q : VK} {ps : List Addr} {kvs : List (Key × V)} (P : ∀ (items : Array Value) (Ts : Nat → Addr) (l : List (Value × Value)), PairArg X.prog X.w T a (a :: (List.range l.length).map Ts) [] l.length (PairRel l) (fun h => PlainSeq T h a items ∧ PairItems h items Ts l))
    (hcalm : X.calm = true) (I : Inv X pins σ H s) (pl : PlainSeq T s.heap a (ps.map Value.ref).toArray) (hz : ps.length ≤ sizeLine)
    (hp : Paired (fun p (kv : Key × V) => SqT X.K H p [kV kv.1, kv.2]) ps kvs) (hn : (kvs.map (·.1)).Nodup) (q : ∀ p, H p = none → Q (.ref p) (upd H p (.dK kvs))) :
    wpAny (model X.prog X.w) X.A (call (.type "dict") [.ref a]) (EP X pins σ Q) X.xe s := by
  obtain ⟨ys, k1, k2, k3⟩ := pairsV_of I hp
  have ek : ∀ {kvs : List (Key × V)} {ys : List (Key × Value × Value)}, Paired (fun (p : Key × V) (q : Key × Value × Value) => p.1 = q.1 ∧ RelV p.2 q.2.2) kvs ys → ys.map (·.1) = kvs.map (·.1) ∧ KV kvs (ys.map fun y => (y.1, y.2.2)) := by
    intro kvs ys h
    induction h with
    | nil => exact ⟨rfl, .nil⟩
    | cons h _ ih => exact ⟨by rw [List.map_cons, List.map_cons, ih.1, h.1], .cons ⟨h.1, h.2⟩ ih.2⟩
  obtain ⟨e1, e2⟩ := ek k1
  refine call_dict_pairs (knd := mixKind X.prog X.w) (kvs := ys.map fun y => (y.1, y.2.2)) (P (ps.map Value.ref).toArray (fun j => ps.getD j 0) (ys.map fun y => (y.2.1, y.2.2))) (I.ok.hd hcalm) ⟨pl, ?_, ?_⟩ ⟨by rw [List.length_map, List.length_map], ?_⟩ (by rw [List.length_map, k2]; exact hz) ?_
  · simp [k2]
  · intro j k v e
    rw [List.getElem?_map] at e
    obtain ⟨y, ey, e⟩ := Option.map_eq_some_iff.mp e
    cases e
    obtain ⟨_, p, ep, tp⟩ := k3 j y ey
    refine ⟨?_, .inl ?_⟩
    · simp [ep]
    · show s.heap.IsTuple (ps.getD j 0) _
      rw [show ps.getD j 0 = p by simp [ep]]
      exact tp
  · intro i key v e
    rw [show PairRel (ys.map fun y => (y.2.1, y.2.2)) i key v = ((ys.map fun y => (y.2.1, y.2.2))[i]? = some (key, v)) from rfl, List.getElem?_map] at e
    obtain ⟨y, ey, e⟩ := Option.map_eq_some_iff.mp e
    cases e
    exact ⟨y.1, by rw [List.getElem?_map, ey]; rfl, (k3 i y ey).1⟩
  · intro h' tk hd' k
    rw [merged_nil_of_nodup _ (by rw [List.map_map]; exact (show ys.map (·.1) = _ from e1) ▸ hn)] at hd'
    have hm : (s.heap.objs.size == sysModules) = false := beq_eq_false_iff_ne.mpr (Nat.ne_of_gt I.big)
    have hf : H s.heap.objs.size = none := I.hok.fresh (Nat.le_refl _)
    have hl : kvs.length ≤ sizeLine := by
      have := e2.length
      rw [List.length_map, k2] at this
      omega
    exact ⟨.ref s.heap.objs.size, upd H s.heap.objs.size (.dK kvs), I.laid (t' := tk) (fun b ob e => k b ob (by simp) e) (Nat.le_refl _) (show ObjOk X.prog X.w _ _ _ (.dK kvs) from ⟨hl, hm, _, e2, hd'⟩), rfl, q _ hf⟩
theorem pairs_atK (sub : ∀ a o, g.F a = some o → H a = some o) : ∀ {ws : List V} {ps : List D} {kds : List (Key × D)}, DenL L g ws ps → pairsK1 ps = some kds →
    ∃ (pa : List Addr) (vs : List V), ws = pa.map V.ref ∧ vs.length = kds.length ∧ pa.length = kds.length ∧ DenL L g vs (kds.map (·.2)) ∧ Paired (fun p (kv : Key × V) => SqT L.K H p [kV kv.1, kv.2]) pa ((kds.map (·.1)).zip vs)
  | _, _, _, .nil, e => by
    cases e
    exact ⟨[], [], rfl, rfl, rfl, .nil, .nil⟩
  | _, _, _, .cons (d := x) (ds := r) a l, e => by
    unfold pairsK1 at e
    split at e
    · rename_i kd l' e1 e2
      cases e
      obtain ⟨k, d⟩ := kd
      obtain ⟨pa, vs, h1, h2, h5, h3, h4⟩ := pairs_atK sub l e2
      have ex := pairK1_eq e1
      subst ex
      cases a with
      | @tup p us _ sq du =>
        cases du with
        | @cons v1 _ _ _ d1 du =>
          cases du with
          | @cons v2 _ _ _ d2 du =>
            cases du
            have ev : v1 = kV k := by
              cases k with
              | inl i => cases d1; rfl
              | inr s => cases d1; rfl
            subst ev
            exact ⟨p :: pa, v2 :: vs, by rw [h1]; rfl, by rw [List.length_cons, List.length_cons, h2], by rw [List.length_cons, List.length_cons, h5], .cons d2 h3, .cons (sqT_mono sub sq.sq) h4⟩
    · cases e
theorem zip_kds1 : ∀ kds : List (Key × D), (kds.map fun kd => (keyD kd.1, kd.2)) = ((kds.map (·.1)).map keyD).zip (kds.map (·.2))
  | [] => rfl
  | kd :: r => by
    rw [List.map_cons, zip_kds1 r]
    rfl
theorem ca_dictK (hK : X.K = L.K) (hc : X.calm = true) : CaD L X FrTD (.type "dict") fDictK := by
  intro pins st σ H xs us Q I r ⟨Γ, g, σ', ds, d, rp, vs, e, w⟩
  have fin : ∀ (kds : List (Key × D)) (ws : List V), ws.length = kds.length → DenL L g ws (kds.map (·.2)) → Wn L FrTD g H Q (dctK kds) g.bud → ∀ p, H p = none → Q (.ref p) (upd H p (.dK ((kds.map (·.1)).zip ws))) := fun kds ws hl dl w p n => by
    have s := stp_new (o := .dK ((kds.map (·.1)).zip ws)) rp n false
    exact w (.ref p) _ _ s rfl ⟨p, false, _, rfl, rfl, .inl ⟨kds.map (·.1), ws, kds.map (·.2), upd_same, by rw [List.length_map, hl], dl.mono s.le s.mu, zip_kds1 kds, rfl⟩, nF_of rp n, fun i => (InM.there rp.rnd.ok (i.new n rp.rnd.ok)) n, n⟩
  have kz : ∀ {kds : List (Key × D)} {vs : List V}, vs.length = kds.length → ((kds.map (·.1)).zip vs).map (·.1) = kds.map (·.1) := fun {kds vs} h => List.map_fst_zip (by rw [List.length_map, h]; exact Nat.le_refl _)
  unfold fDictK at e
  split at e
  · rename_i ps
    obtain ⟨kds, hkd, e⟩ := Option.bind_eq_some_iff.mp e
    split at e
    · rename_i hn
      cases e
      obtain ⟨v, rfl, a⟩ := vs.one
      obtain ⟨q, ws, rfl, e1, l1⟩ := a.lst rp.sub
      obtain ⟨u, eu, ru⟩ := vals1 r
      subst eu
      cases ru
      obtain ⟨pa, vs', rfl, h2, h5, h3, h4⟩ := pairs_atK rp.sub l1 hkd
      obtain ⟨its, rv, pl, hz⟩ := I.list (.inl (.inl e1))
      have ei := refs_at rv
      subst ei
      rw [List.length_map] at hz
      exact dict_coreK (fun items Ts l => PairArg.list q items Ts l) hc I pl hz (hK ▸ h4) (by rw [kz h2]; exact hn) (fin kds vs' h2 h3 w)
    · cases e
  · rename_i ps
    obtain ⟨kds, hkd, e⟩ := Option.bind_eq_some_iff.mp e
    split at e
    · rename_i hn
      cases e
      obtain ⟨v, rfl, a⟩ := vs.one
      obtain ⟨u, eu, ru⟩ := vals1 r
      subst eu
      have key : ∀ {q : Addr} {ws : List V}, SqD L.fz L.gt L.K H q ws → DenL L g ws ps → u = Value.ref q → wpAny (model X.prog X.w) X.A (call (.type "dict") [u]) (EP X pins σ Q) X.xe st := fun {q ws} sq l1 eu => by
        subst eu
        obtain ⟨pa, vs', rfl, h2, h5, h3, h4⟩ := pairs_atK rp.sub l1 hkd
        have ne : (pa.map V.ref).any notKey = true := by
          cases pa with
          | nil =>
            have : kds = [] := List.length_eq_zero_iff.mp (by simpa using h5.symm)
            cases l1
            exact absurd rfl hn.1
          | cons _ _ => rfl
        have go : ∀ (o : Obj) (its : List Value) (n : Nat), st.heap.get? q = some o → o.cls = .type "tuple" → o.dict = none → o.data = .seq its.toArray n → Vals (pa.map V.ref) its → its.length ≤ sizeLine → wpAny (model X.prog X.w) X.A (call (.type "dict") [.ref q]) (EP X pins σ Q) X.xe st := fun o its n g1 g2 g3 g4 rv hz => by
          have ei := refs_at rv
          subst ei
          rw [List.length_map] at hz
          exact dict_coreK (fun items Ts l => PairArg.tuple q items Ts l) hc I ⟨o, n, g1, g2, g3, g4⟩ hz (hK ▸ h4) (by rw [kz h2]; exact hn.2) (fin kds vs' h2 h3 w)
        rcases sq with ⟨z, _⟩ | ⟨o, its, n, h1, h2', h3', h4', h5', h6⟩ | ⟨o, e1, e2, e3, _⟩
        · rw [ne, Bool.or_true] at z
          cases z
        · exact go o its.toList n (I.kIn q o (hK ▸ h1)) h2' h5'.1 (by simpa using h3') h6 (by simpa using h4')
        · obtain ⟨ho, hz, its, rv, o', ho', hc', n, hdat⟩ := (show ObjOk X.prog X.w H st.heap q (.frz o (.tup (pa.map V.ref))) from I.hok q _ e1)
          rw [ho] at ho'
          cases ho'
          exact go o its n ho e2 e3 hdat rv (by rw [← rv.length]; exact hz)
      rcases a with a | ⟨_, _, _, _, ex, _⟩ | ⟨_, _, _, _, ex, _⟩
      · cases a with
        | @tup q ws _ sq l1 => exact key (sq.mono rp.sub) l1 ru
      · cases ex
      · cases ex
    · cases e
  · cases e
end
end DL
/-! zip of three lists. -/
namespace DL
open PySem PySem.Spec PyProof.Rows L2
def zip3D : List D → List D → List D → List D
  | x :: xs, y :: ys, q :: qs => .pr [x, y, q] :: zip3D xs ys qs
  | _, _, _ => []
theorem zip3D_at : ∀ {xs ys qs : List D} {n : Nat} {d : D}, (zip3D xs ys qs)[n]? = some d → ∃ x y q, xs[n]? = some x ∧ ys[n]? = some y ∧ qs[n]? = some q ∧ d = .pr [x, y, q]
  | [], _, _, _, _, h => by simp [zip3D] at h
  | _ :: _, [], _, _, _, h => by simp [zip3D] at h
  | _ :: _, _ :: _, [], _, _, h => by simp [zip3D] at h
  | x :: xs, y :: ys, q :: qs, 0, d, h => ⟨x, y, q, rfl, rfl, rfl, by simpa [zip3D] using h.symm⟩
  | x :: xs, y :: ys, q :: qs, n + 1, d, h => by
    obtain ⟨u, v, w, h1, h2, h3, h4⟩ := zip3D_at (xs := xs) (ys := ys) (qs := qs) (n := n) (d := d) (by simpa [zip3D] using h)
    exact ⟨u, v, w, by simpa using h1, by simpa using h2, by simpa using h3, h4⟩
theorem zip3D_len : ∀ {xs ys qs : List D}, (zip3D xs ys qs).length ≤ xs.length ∧ (zip3D xs ys qs).length ≤ ys.length ∧ (zip3D xs ys qs).length ≤ qs.length ∧ ((zip3D xs ys qs).length = xs.length ∨ (zip3D xs ys qs).length = ys.length ∨ (zip3D xs ys qs).length = qs.length)
  | [], _, _ => by simp [zip3D]
  | _ :: _, [], _ => by simp [zip3D]
  | _ :: _, _ :: _, [] => by simp [zip3D]
  | x :: xs, y :: ys, q :: qs => by
    obtain ⟨h1, h2, h3, h4⟩ := zip3D_len (xs := xs) (ys := ys) (qs := qs)
    simp only [zip3D, List.length_cons]
    omega
def itZ3 : List D → M (List D)
  | [.lst xs, .lst ys, .lst qs] => .ret (zip3D xs ys qs)
  | _ => .stuck
def iiZ3 (i j k : IE) : II := fun Γ => (evs [i, j, k] Γ).bind itZ3
/-- the things of the lists at a, b, c, in new tuples -/
def ItZ3 (a b c : Addr) (us vs ws : List V) : It :=
  ⟨fun n H => H a = some (.lst us) ∧ H b = some (.lst vs) ∧ H c = some (.lst ws) ∧ n < us.length ∧ n < vs.length ∧ n < ws.length,
    fun n H x H' => ∃ T u v w, us[n]? = some u ∧ vs[n]? = some v ∧ ws[n]? = some w ∧ x = .ref T ∧ H T = none ∧ H' = upd H T (.tup [u, v, w]),
    fun n H => H a = some (.lst us) ∧ H b = some (.lst vs) ∧ H c = some (.lst ws) ∧ n ≤ us.length ∧ n ≤ vs.length ∧ n ≤ ws.length ∧ (n = us.length ∨ n = vs.length ∨ n = ws.length)⟩
section
variable {tpos : Pos}
theorem sep3 {n a b c : Nat} (la : a < n) (lb : b < n) (lc : c < n) : ZipSep3 (n + 5) (n + 3) (n + 4) n (n + 1) (n + 2) [n, a] [n + 1, b] [n + 2, c] := by
  have A : ∀ {x y : Nat}, x ≠ y → @Ne Addr x y := fun h => h
  have B : ∀ {x y q : Nat}, x ≠ y → x ≠ q → ¬ (@Membership.mem Addr (List Addr) _ [y, q] x) := fun {x y q} h1 h2 h => by
    rcases List.mem_cons.mp h with e | h
    · exact h1 e
    · exact h2 (List.mem_singleton.mp h)
  exact ⟨A (by omega), A (by omega), A (by omega), A (by omega), List.mem_cons_self, B (by omega) (by omega), B (by omega) (by omega), A (by omega), List.mem_cons_self, B (by omega) (by omega), B (by omega) (by omega),
    A (by omega), List.mem_cons_self, B (by omega) (by omega), B (by omega) (by omega), B (by omega) (by omega), B (by omega) (by omega), B (by omega) (by omega), B (by omega) (by omega), B (by omega) (by omega), B (by omega) (by omega)⟩
theorem turnZ3 {P : Program} {w : World} {K : PySem.W.Frag} {elts : List Expr} {kk : Nat} {a b c z TI TO i1 i2 i3 : Addr} {us vs ws : List V} (S : ZipSep3 z TI TO i1 i2 i3 [i1, a] [i2, b] [i3, c]) (n1 : a ≠ i1) (n2 : b ≠ i2) (n3 : c ≠ i3) :
    Turn P w K (.Tuple elts kk tpos) (ItZ3 a b c us vs ws) [z, TI, TO, i1, i2, i3] z fun n h => IsZip h z TI TO .none ∧ IsTupOf3 h TI (.ref i1) (.ref i2) (.ref i3) ∧ (∃ x y q, IsTupOf3 h TO x y q) ∧ h.IsListIter i1 a n ∧ h.IsListIter i2 b n ∧ h.IsListIter i3 c n := by
  have six : ∀ {d : Addr}, d ∈ [z, TI, TO, i1, i2, i3] → d = z ∨ d = TI ∨ d = TO ∨ d = i1 ∨ d = i2 ∨ d = i3 := fun h => by simpa using h
  constructor
  · exact List.mem_cons_self
  · rintro n h ⟨h1, h2, ⟨x, y, q, h3⟩, ⟨o4, h4, _, d4⟩, ⟨o5, h5, _, d5⟩, ⟨o6, h6, _, d6⟩⟩ d hd
    rcases six hd with rfl | rfl | rfl | rfl | rfl | rfl
    · exact ⟨_, h1, fun v z => nomatch z⟩
    · exact ⟨_, h2, fun v z => nomatch z⟩
    · exact ⟨_, h3, fun v z => nomatch z⟩
    · exact ⟨o4, h4, fun v z => by rw [d4] at z; cases z⟩
    · exact ⟨o5, h5, fun v z => by rw [d5] at z; cases z⟩
    · exact ⟨o6, h6, fun v z => by rw [d6] at z; cases z⟩
  · rintro n h h' ⟨h1, h2, ⟨x, y, q, h3⟩, h4, h5, h6⟩ k
    exact ⟨k z (by simp) _ h1, k TI (by simp) _ h2, ⟨x, y, q, k TO (by simp) _ h3⟩, h4.at fun o e => k i1 (by simp) o e, h5.at fun o e => k i2 (by simp) o e, h6.at fun o e => k i3 (by simp) o e⟩
  · intro X hP hw hK hc n pins s σ H E I hf st hg
    subst hP hw hK
    obtain ⟨hz, hTI, ⟨x0, y0, q0, hTO⟩, t1, t2, t3⟩ := st
    obtain ⟨e1, e2, e3, l1, l2, l3⟩ := hg
    obtain ⟨is1, r1, p1, _⟩ := I.list (.inl (.inl e1))
    obtain ⟨is2, r2, p2, _⟩ := I.list (.inl (.inl e2))
    obtain ⟨is3, r3, p3, _⟩ := I.list (.inl (.inl e3))
    have hh : X.A.in1.handled = none := I.ok.hd hc
    have zlt := Heap.lt_size hz
    have sz : ∀ {vs : List V} {is : List Value}, Vals vs is → is.toArray.size = vs.length := fun r => by rw [List.size_toArray, r.length]
    refine wpAny_pyNext_zipD3_item S (Draws.list hh i1 a n1 is1.toArray) (Draws.list hh i2 b n2 is2.toArray) (Draws.list hh i3 c n3 is3.toArray) hz hTI hTO ⟨t1, p1.isList⟩ ⟨t2, p2.isList⟩ ⟨t3, p3.isList⟩ (by rw [sz r1]; exact l1) (by rw [sz r2]; exact l2) (by rw [sz r3]; exact l3) fun x1 x2 x3 h' tk y1 y2 y3 z' TO' s1 s2 s3 hT hsz hk => ?_
    refine ⟨_, rfl, wpAny_letOwnedTupleGo_zip (s := { s with heap := h', toks := tk }) z' fun h'' z'' sb => ?_⟩
    obtain ⟨u, hu, ru⟩ := rel_at r1 (by rw [← List.getElem?_toArray]; exact y1)
    obtain ⟨v, hv, rv⟩ := rel_at r2 (by rw [← List.getElem?_toArray]; exact y2)
    obtain ⟨q, hq, rq⟩ := rel_at r3 (by rw [← List.getElem?_toArray]; exact y3)
    have hT2 : h''.get? s.heap.objs.size = some { cls := .type "tuple", data := .seq #[x1, x2, x3] } := (sb.2 _ (Nat.ne_of_gt zlt)).trans hT
    have new : ObjOk X.prog X.w (upd H s.heap.objs.size (.tup [u, v, q])) h'' s.heap.objs.size (.tup [u, v, q]) :=
      ⟨by show 3 ≤ sizeLine; decide, [x1, x2, x3], .cons ru (.cons rv (.cons rq .nil)), ⟨_, hT2, rfl, _, rfl⟩⟩
    have I1 : Inv X pins σ (upd H s.heap.objs.size (.tup [u, v, q])) { s with heap := h'', toks := tk } :=
      I.turnedNew (t' := tk) (ch := [z, TI, TO, i1, i2, i3]) (fun d o hb e => (sb.2 d (fun y => hb (by simp [y]))).trans (hk d o (fun y => hb (by simp [y])) (fun y => hb (by simp [y])) (fun y => hb (by simp [y])) (fun y => hb (by simp [y])) (fun y => hb (by simp [y])) e)) hf (Nat.le_refl _) new
    refine ⟨.ref s.heap.objs.size, _, I1, rfl, ⟨_, u, v, q, hu, hv, hq, rfl, I.hok.fresh (Nat.le_refl _), rfl⟩, ⟨z'', ?_, ⟨x1, x2, x3, ?_⟩, ?_, ?_, ?_⟩, fun d hd => ?_⟩
    · exact (sb.2 _ S.TIz).trans (hk _ _ S.TIz S.TITO S.TIi1 S.TIi2 S.TIi3 hTI)
    · exact (sb.2 _ S.TOz).trans TO'
    · exact s1.1.at fun o e => (sb.2 _ S.zi1.symm).trans e
    · exact s2.1.at fun o e => (sb.2 _ S.zi2.symm).trans e
    · exact s3.1.at fun o e => (sb.2 _ S.zi3.symm).trans e
    · have lt : d < s.heap.objs.size := by
        rcases six hd with y | y | y | y | y | y
        · rw [y]; exact zlt
        · rw [y]; exact Heap.lt_size hTI
        · rw [y]; exact Heap.lt_size hTO
        · rw [y]; obtain ⟨_, e, _⟩ := t1; exact Heap.lt_size e
        · rw [y]; obtain ⟨_, e, _⟩ := t2; exact Heap.lt_size e
        · rw [y]; obtain ⟨_, e, _⟩ := t3; exact Heap.lt_size e
      rw [upd_ne (Nat.ne_of_lt lt)]
      exact (hf d hd).1
  · intro X hP hw hK hc n pins s σ H E I hf st hg
    subst hP hw hK
    obtain ⟨hz, hTI, ⟨x0, y0, q0, hTO⟩, t1, t2, t3⟩ := st
    obtain ⟨e1, e2, e3, l1, l2, l3, hend⟩ := hg
    obtain ⟨is1, r1, p1, _⟩ := I.list (.inl (.inl e1))
    obtain ⟨is2, r2, p2, _⟩ := I.list (.inl (.inl e2))
    obtain ⟨is3, r3, p3, _⟩ := I.list (.inl (.inl e3))
    have hh : X.A.in1.handled = none := I.ok.hd hc
    have sz : ∀ {vs : List V} {is : List Value}, Vals vs is → is.toArray.size = vs.length := fun r => by rw [List.size_toArray, r.length]
    refine wpAny_pyNext_zipD3_end S (Draws.list hh i1 a n1 is1.toArray) (Draws.list hh i2 b n2 is2.toArray) (Draws.list hh i3 c n3 is3.toArray) hz hTI hTO ⟨t1, p1.isList⟩ ⟨t2, p2.isList⟩ ⟨t3, p3.isList⟩ (by rw [sz r1]; exact l1) (by rw [sz r2]; exact l2) (by rw [sz r3]; exact l3) (by rw [sz r1, sz r2, sz r3]; exact hend) fun h' tk hk => ⟨rfl, ?_⟩
    exact I.turnedL (t' := tk) (ch := [z, TI, TO, i1, i2, i3]) (fun d o hb e => hk d o (fun y => hb (by simp [y])) (fun y => hb (by simp [y])) (fun y => hb (by simp [y])) (fun y => hb (by simp [y])) (fun y => hb (by simp [y])) e) hf
  · rintro A n s Q E ⟨hz, _⟩ h
    exact wpAny_pyIter_zip hz h
end
section
variable {L : Lx} {X : Cx} {g : Gh} {H : Hp} {i j k : IE} {a b c : Expr} {p pos tpos : Pos}
def tZip3 (ta : TA) : TI := fun σ H R => ta σ H fun vs H1 => ∃ a b c us vs' ws, vs = [.ref a, .ref b, .ref c] ∧ H1 a = some (.lst us) ∧ H1 b = some (.lst vs') ∧ H1 c = some (.lst ws) ∧ R (ItZ3 a b c us vs' ws) H1
theorem pi_zip3 {ta : TA} {elts : List Expr} {kk : Nat} (hg : Gl X "zip") (hm : X.mg "zip" = none) (ha : PA X [a, b, c] ta)
    (hs : starEach [a, b, c] X.env = (false, eval a X.env) :: starEach [b, c] X.env := by rfl) (hpl : (backTo pos (starEach [b, c] X.env)).any (·.1) = false := by rfl) :
    PI X (.Tuple elts kk tpos) (.Call (.Name "zip" p) [a, b, c] [] pos) (tZip3 ta) := by
  refine ⟨fun pins s σ H R I h => ?_⟩
  refine Call_ (ld_blt I hg hm PyProof.Rows.boot_zip (PyProof.Rows.callWith_type1 (thn (ha.run pos pins s σ H _ I h) fun us s1 ⟨vs, H1, I1, r1, q1⟩ => ?_) hs hpl))
  obtain ⟨a, b, c, us', vs', ws, rfl, e1, e2, e3, q⟩ := q1
  cases r1 with
  | cons ra rr =>
  cases rr with
  | cons rb rr =>
  cases rr with
  | cons rc rr =>
  cases rr
  cases ra
  cases rb
  cases rc
  obtain ⟨is1, r1, p1, _⟩ := I1.list (.inl (.inl e1))
  obtain ⟨is2, r2, p2, _⟩ := I1.list (.inl (.inl e2))
  obtain ⟨is3, r3, p3, _⟩ := I1.list (.inl (.inl e3))
  have la := p1.lt
  have lb := p2.lt
  have lc := p3.lt
  refine zip_begins3 (begins_list a is1.toArray) (begins_list b is2.toArray) (begins_list c is3.toArray) p1.isList p2.isList p3.isList fun h' hz hTI hTO o1 o2 o3 hsz hk => wpAny_pyIter_zip hz ?_
  have I2 : Inv X pins σ H1 { s1 with heap := h' } := I1.kept (t' := s1.toks) hk
  refine ⟨s1.heap.objs.size + 5, [s1.heap.objs.size + 5, s1.heap.objs.size + 3, s1.heap.objs.size + 4, s1.heap.objs.size, s1.heap.objs.size + 1, s1.heap.objs.size + 2], _, _, H1, rfl, I2, turnZ3 (sep3 la lb lc) (Nat.ne_of_lt la) (Nat.ne_of_lt (Nat.lt_succ_of_lt lb)) (Nat.ne_of_lt (Nat.lt_succ_of_lt (Nat.lt_succ_of_lt lc))), ⟨hz, hTI, ⟨_, _, _, hTO⟩, ⟨_, o1, rfl, rfl⟩, ⟨_, o2, rfl, rfl⟩, ⟨_, o3, rfl, rfl⟩⟩, fun d hd => ?_, q⟩
  · have hle : s1.heap.objs.size ≤ d := by
      rcases (show d = s1.heap.objs.size + 5 ∨ d = s1.heap.objs.size + 3 ∨ d = s1.heap.objs.size + 4 ∨ d = s1.heap.objs.size ∨ d = s1.heap.objs.size + 1 ∨ d = s1.heap.objs.size + 2 by simpa using hd) with y | y | y | y | y | y <;> rw [y] <;> first | exact Nat.le_add_right _ _ | exact Nat.le_refl _
    exact I1.fpOk hle (I1.hok.fresh hle)
theorem wk_zip3 {a b c : Addr} {us vs ws : List V} {xs ys qs : List D} (e1 : g.F a = some (.lst us)) (e2 : g.F b = some (.lst vs)) (e3 : g.F c = some (.lst ws)) (l1 : DenL L g us xs) (l2 : DenL L g vs ys) (l3 : DenL L g ws qs) : Wk L (ItZ3 a b c us vs ws) g (zip3D xs ys qs) where
  step := fun n d Γ g' σ H e r f => by
    obtain ⟨x, y, q, h1, h2, h3, rfl⟩ := zip3D_at e
    obtain ⟨u, hu, tu⟩ := (l1.mono f.F f.mu).get h1
    obtain ⟨v, hv, tv⟩ := (l2.mono f.F f.mu).get h2
    obtain ⟨w, hw, tw⟩ := (l3.mono f.F f.mu).get h3
    refine ⟨⟨r.sub _ _ (f.F _ _ e1), r.sub _ _ (f.F _ _ e2), r.sub _ _ (f.F _ _ e3), (List.getElem?_eq_some_iff.mp hu).1, (List.getElem?_eq_some_iff.mp hv).1, (List.getElem?_eq_some_iff.mp hw).1⟩, fun z H' ⟨T, u', v', w', hu', hv', hw', ez, nT, eH⟩ => ?_⟩
    subst ez eH
    rw [hu] at hu'
    rw [hv] at hv'
    rw [hw] at hw'
    cases hu'
    cases hv'
    cases hw'
    have s := stp_put (o := .tup [u, v, w]) r nT
    exact ⟨g'.put T (.tup [u, v, w]), s, rfl, .pr put_F (.cons (tu.mono s.le s.mu) (.cons (tv.mono s.le s.mu) (.cons (tw.mono s.le s.mu) .nil)))⟩
  stop := fun Γ g' σ H r f => by
    refine ⟨r.sub _ _ (f.F _ _ e1), r.sub _ _ (f.F _ _ e2), r.sub _ _ (f.F _ _ e3), ?_⟩
    rw [l1.length, l2.length, l3.length]
    exact zip3D_len
theorem di_zip3 {elts : List Expr} {kk : Nat} (hg : Gl X "zip") (hm : X.mg "zip" = none) (ha : DA L X [i, j, k] [a, b, c])
    (hs : starEach [a, b, c] X.env = (false, eval a X.env) :: starEach [b, c] X.env := by rfl) (hpl : (backTo pos (starEach [b, c] X.env)).any (·.1) = false := by rfl) :
    DI L X (iiZ3 i j k) (.Tuple elts kk tpos) (.Call (.Name "zip" p) [a, b, c] [] pos) := fun W tk => by
  refine PI.imp (pi_zip3 hg hm (ha W tk) hs hpl) fun σ H R ⟨Γ, g, r, w⟩ => RdA.go r w fun vs H1 ds g1 r1 s t w => ?_
  unfold itZ3 at w
  split at w
  · rename_i xs ys qs
    cases t with
    | cons t1 t2 =>
    cases t2 with
    | cons t2 t3 =>
    cases t3 with
    | cons t3 t4 =>
    cases t4
    cases t1 with
    | @lst a us _ e1 l1 =>
    cases t2 with
    | @lst b vs' _ e2 l2 =>
    cases t3 with
    | @lst c ws _ e3 l3 =>
    exact ⟨a, b, c, us, vs', ws, rfl, r1.sub _ _ e1, r1.sub _ _ e2, r1.sub _ _ e3, w g1 H1 _ s rfl (wk_zip3 e1 e2 e3 l1 l2 l3)⟩
  · exact w.elim
end
end DL
/-! Defs with defaults; keywords in any order; o[k] of an own class; a module's empty tuple. -/
namespace DL
open PySem PySem.Spec PyProof.Rows L2
/-- a def of the text, whatever its defaults are -/
structure FunW (K : PySem.W.Frag) (x qual : Str) (st : Stmt) (f : Addr) (fd : FuncData) : Prop where
  ex : ∃ (oc : Value) (od : Option Addr) (dV kV doc pm : Value) (an : Option Addr) (cdv ct : Value) (osl : Array (Option Value)),
    fd = PySem.W.fnOf x qual (defArgs st) (defBody st) (defScope st) dV kV doc pm an cdv ct ∧ K.lookup f = some ⟨oc, od, .func fd, osl⟩ ∧ PySem.W.codeIn K cdv qual = true
theorem funW_of {K : PySem.W.Frag} {x qual : Str} {st : Stmt} {f : Addr} {fd : FuncData} {dvs : List V} {kws : List (Str × V)} (F : FunD K x qual (defArgs st) (defBody st) (defScope st) dvs kws f fd) : FunW K x qual st f fd := by
  obtain ⟨oc, od, dV, kV, doc, pm, an, cdv, ct, osl, e, lk, hcd, _⟩ := F.ex
  exact ⟨oc, od, dV, kV, doc, pm, an, cdv, ct, osl, e, lk, hcd⟩
section
variable {L : Lx} {X : Cx} {g g' : Gh} {H H' : Hp} {σ : L2.St} {Γ : Env} {W : WX} {pos : Pos} {i j : IE} {a b : Expr}
theorem fg_ofW {P : Program} {w : World} {mg : Str → Option Value} {base : Heap} {x qual : Str} {st : Stmt} {f : Addr} {fd : FuncData} {N ps : List Str} {k : Nat} {body : IS} (F : FunW L.K x qual st f fd) (S : FnScope N ps (defScope st))
    (hb : ∀ (cdv : Value) (A : Around) (outer : List PySem.Env) (s : Shared) (H : Hp) (E : XK), Room k (A.deeper (PyProof.Rows.envOfC qual (defScope st) s.heap.objs.size f cdv)) → A.guards = some [] →
      DSs L (cxOf (L2.CX P w) P w L.K mg base N qual (defScope st) f cdv A outer s H E) body (defBody st)) : FG L P w mg base (k + 1) f fd ps (runFn N.length body) := by
  refine ⟨fun A outer s H args us vs Q E hr hg e0 bt r hl ⟨Γ, g, σ, ds, rp, l, w⟩ => ?_⟩
  obtain ⟨oc, od, dV, kV, doc, pm, an, cdv, ct, osl, rfl, lk, hcd⟩ := F.ex
  refine LamX.run_ofS lk hcd S hr e0 bt r (r.length.trans hl) fun hr' => ⟨_, hb cdv A outer s H E hr' hg (fun cls d _ H => E cls d H) g H (takes_of rfl rfl rfl rfl), ?_⟩
  have hpl : ps.length ≤ N.length := by have := congrArg List.length S.pre; rw [List.length_take] at this; omega
  refine ⟨env0 N.length ds, g, rep_start rp l (by rw [r.length, hl]; exact hpl), M.wpB_mono (fun fl b k => ?_) (fun _ _ x => fun cls d g σ H s e a => x cls d g H s e a) _ _ ((M.wpB_bind _ _).mp w)⟩
  cases fl with
  | nx Γ' => exact fun g' σ' H' r' _ e => k .non g' H' r'.base e .non
  | rt d => exact fun g' v H' s' e t => k v g' H' s' e t
  | bk Γ' => exact k.elim
  | ct Γ' => exact k.elim
/-! where a parameter's value comes from -/
inductive Src where
  | p (i : Nat) | k (i : Nat) | d (i : Nat)
def pick {α : Type} (z : α) (us its ws : List α) (l : List Src) : List α := l.map fun
  | .p i => us.getD i z
  | .k i => ws.getD i z
  | .d i => its.getD i z
/-- n values by position, keywords ks, defaults ds: the parameters get theirs as src tells -/
def PickOk (K : PySem.W.Frag) (fd : FuncData) (ps : List Str) (n : Nat) (ks : List Str) (ds : List Int) (src : List Src) : Prop := src.length = ps.length ∧ ∃ its : List Value, Vals (ds.map V.int) its ∧
  ∀ (s : Shared) (us ws : List Value), K.In s.heap → us.length = n → ws.length = ks.length → BindsTo s fd ⟨us, ks.zip ws⟩ (ps.zip (pick .none us its ws src))
theorem pick0 {K : PySem.W.Frag} {x qual : Str} {params : Arguments} {body : List Stmt} {scope : Scope} {kws : List (Str × V)} {f : Addr} {fd : FuncData} {ps ks : List Str} {n : Nat} {src : List Src} (F : FunD K x qual params body scope [] kws f fd) (hl : src.length = ps.length)
    (h : ∀ (kV doc pm : Value) (an : Option Addr) (cdv ct : Value) (us ws : List Value), us.length = n → ws.length = ks.length → bindArgs (PySem.W.fnOf x qual params body scope .none kV doc pm an cdv ct) ⟨us, ks.zip ws⟩ = pure (ps.zip (pick .none us [] ws src))) : PickOk K fd ps n ks [] src := by
  obtain ⟨oc, od, dV, kV, doc, pm, an, cdv, ct, osl, rfl, lk, hcd, hD, hK⟩ := F.ex
  rcases hD with ⟨_, rfl⟩ | ⟨e, _⟩
  · exact ⟨hl, [], .nil, fun s us ws _ l1 l2 => .of_eq (h kV doc pm an cdv ct us ws l1 l2)⟩
  · exact absurd rfl e
theorem pick1 {K : PySem.W.Frag} {x qual : Str} {params : Arguments} {body : List Stmt} {scope : Scope} {kws : List (Str × V)} {f : Addr} {fd : FuncData} {ps ks : List Str} {n : Nat} {ds : List Int} {src : List Src} (F : FunD K x qual params body scope (ds.map V.int) kws f fd) (hl : src.length = ps.length) (hd : ds ≠ [])
    (h : ∀ (T : Addr) (kV doc pm : Value) (an : Option Addr) (cdv ct : Value) (us its ws : List Value), us.length = n → its.length = ds.length → ws.length = ks.length →
      ∃ k, bindArgs (PySem.W.fnOf x qual params body scope (.ref T) kV doc pm an cdv ct) ⟨us, ks.zip ws⟩ = seqItems? (.ref T) >>= k ∧ k (some its.toArray) = pure (ps.zip (pick .none us its ws src))) : PickOk K fd ps n ks ds src := by
  obtain ⟨oc, od, dV, kV, doc, pm, an, cdv, ct, osl, rfl, lk, hcd, hD, hK⟩ := F.ex
  rcases hD with ⟨e, _⟩ | ⟨_, T, o, its, m, rfl, lT, oT, rT⟩
  · exact absurd (List.map_eq_nil_iff.mp e) hd
  · refine ⟨hl, its, rT, fun s us ws X l1 l2 => ?_⟩
    obtain ⟨k, e1, e2⟩ := h T kV doc pm an cdv ct us its ws l1 (by rw [← rT.length, List.length_map]) l2
    refine BindsTo.of_looks fun M => ?_
    rw [e1]
    exact looks_items X lT oT (.of_pure e2)
theorem vals_getD {vs : List V} {us : List Value} (r : Vals vs us) (i : Nat) : RelV (vs.getD i .non) (us.getD i .none) := by
  rw [List.getD_eq_getElem?_getD, List.getD_eq_getElem?_getD]
  cases h : vs[i]? with
  | none =>
    have : us[i]? = none := by
      rw [List.getElem?_eq_none_iff] at h ⊢
      rw [← r.length]; exact h
    rw [this]; rfl
  | some v =>
    obtain ⟨u, e, rv⟩ := r.get h
    rw [e]; exact rv
theorem den_getD {vs : List V} {ds : List D} (r : DenL L g vs ds) (i : Nat) : Den L g (vs.getD i .non) (ds.getD i .non) := by
  rw [List.getD_eq_getElem?_getD, List.getD_eq_getElem?_getD]
  cases h : ds[i]? with
  | none =>
    have : vs[i]? = none := by
      rw [List.getElem?_eq_none_iff] at h ⊢
      rw [r.length]; exact h
    rw [this]; exact .non
  | some d =>
    obtain ⟨u, e, rv⟩ := r.get h
    rw [e]; exact rv
theorem ints_den (ds : List Int) : DenL L g (ds.map V.int) (ds.map D.int) := by
  induction ds with
  | nil => exact .nil
  | cons d r ih => exact .cons (.int d) ih
theorem kd_pick {fd : FuncData} {ps ks : List Str} {n : Nat} {ds : List Int} {src : List Src} (h : PickOk L.K fd ps n ks ds src) : KD L fd ps n ks fun us ws => pick .non us (ds.map D.int) ws src := by
  obtain ⟨hl, its, rT, h⟩ := h
  refine ⟨fun us ws => pick .none us its ws src, fun vs zs => pick .non vs (ds.map V.int) zs src, ⟨h, fun {vs us zs ws} r1 r2 => ?_⟩, fun gh {vs zs es fs} l1 l2 => ?_, fun us ws _ _ => by unfold pick; rw [List.length_map]; exact hl⟩
  · unfold pick
    clear hl h
    induction src with
    | nil => exact .nil
    | cons q l ih =>
      refine .cons ?_ ih
      cases q with
      | p i => exact vals_getD r1 i
      | k i => exact vals_getD r2 i
      | d i => exact vals_getD rT i
  · unfold pick
    clear hl h
    induction src with
    | nil => exact .nil
    | cons q l ih =>
      refine .cons ?_ ih
      cases q with
      | p i => exact den_getD l1 i
      | k i => exact den_getD l2 i
      | d i => exact den_getD (ints_den ds) i
/-! o[k], o of an own class -/
structure GetOk (L : Lx) (c : Nat) (f : Addr) : Prop where
  fnd : PySem.W.findIn L.K (.ref (L.cA c)) "__getitem__" = some (some (.ref f))
  fn : PySem.W.isFn L.K (.ref f) = true
  is : PySem.W.fnIn L.K f = true
theorem fnIn_of {K : PySem.W.Frag} {x qual : Str} {st : Stmt} {f : Addr} {fd : FuncData} (F : Fun K x qual st f fd) : PySem.W.fnIn K f = true := by
  obtain ⟨oc, od, kV, doc, pm, an, cdv, ct, osl, _, lk, _⟩ := F.ex
  unfold PySem.W.fnIn
  rw [lk]
/-- a def called from within a builtin -/
theorem call_in1 {k : Nat} {f : Addr} {fd : FuncData} {ps : List Str} {m : List D → M D} {pins : List (Addr × Obj)} {s : Shared} {us : List Value} {vs : List V} {ds : List D} {Q : VK} (F : FG L X.prog X.w X.mg X.base k f fd ps m) (hK : X.K = L.K) (hr : Room (k + 1) X.A) (hgd : X.A.guards = some []) (bi : L2.Binds X.K fd ps []) (hn : us.length = ps.length)
    (tk : Takes X W) (I : Inv X pins σ H s) (r : Vals vs us) (rp : Rep L Γ g σ H) (l : DenL L g vs ds) (w : (m ds).wpB g.bud (Wn L DenT g H Q) (XW L W g σ H)) : wpAny (model X.prog X.w) X.A.in1 (call (.ref f) us) (EP X pins σ Q) X.xe s := by
  have b := bi s us I.kIn (by rw [List.append_nil]; exact hn)
  rw [List.append_nil] at b
  refine wpAny_call (codeAny_mono (F.go X.A.in1 X.stack s H ⟨us, []⟩ us vs Q (WE W σ) hr.in1 hgd (hK ▸ I.env0.in1) b r hn (spd_of rp l w)) fun r s' hq => ?_)
  cases r with
  | error e => exact passAt tk σ pins H s e s' I hq
  | ok fl =>
    cases fl with
    | ret u => exact I.after hq
    | next => exact hq
    | brk => exact hq
    | cont => exact hq
theorem de_getI {k c : Nat} {f : Addr} {fd : FuncData} {ps : List Str} {m : List D → M D} (F : FG L X.prog X.w X.mg X.base k f fd ps m) (hK : X.K = L.K) (hr : Room (k + 1) X.A) (hgd : X.A.guards = some []) (bi : L2.Binds X.K fd ps []) (hn : 2 = ps.length) (ok : GetOk L c f)
    (ha : DE L X i a) (hb : DE L X j b) (hs : ∀ o u, subscripted b true o u = runValue (.builtin "lifetime.subscript" ⟨[o, u], []⟩) := by exact fun _ _ => rfl) : DE L X (iMth c m i [j]) (.Subscript a b pos) := fun W tk => by
  refine ⟨fun pins s σ H Q I ⟨Γ, g, rp, w⟩ => ?_⟩
  refine Subscript_ (binT (ha W tk) (hb W tk) I (R := fun x y H2 => ∃ g2 dx dy, Rep L Γ g2 σ H2 ∧ Den L g2 x dx ∧ Den L g2 y dy ∧ (∃ fs, dx = .ins c fs) ∧ (m [dx, dy]).wpB g2.bud (Wn L DenT g2 H2 Q) (XW L W g2 σ H2)) ?_ fun v u s2 x y H2 I2 rx ry ⟨g2, dx, dy, r2, tx, ty, ⟨fs, ed⟩, w2⟩ => ?_)
  · refine Rd1.go rp w fun x H1 dx g1 r1 s1 t1 w1 => ?_
    cases dx with
    | ins c' ds =>
      dsimp only at w1
      split at w1
      · rename_i hc
        subst hc
        have w1' : ((j Γ).bind fun y => m [.ins c' ds, y]).wpB g1.bud (Wn L DenT g H Q) (XW L W g1 σ H1) := by
          refine (M.wpB_bind _ _).mpr (M.wpB_mono (fun y b k => ?_) (fun _ _ x => x) _ _ ((M.wpB_bind _ _).mp ((M.wpB_bind _ _).mp w1)))
          exact k
        refine Rd1.go r1 w1' fun y H2 dy g2 r2 s2 t2 w2 => ⟨g2, _, dy, r2, t1.mono s2.le s2.mu, t2, ⟨ds, rfl⟩, ?_⟩
        exact M.wpB_mono (fun d b k v g' H' s e t => k v g' H' (s1.trans (s2.trans s)) e t) (fun _ _ x => x) _ _ w2
      · exact w1.elim
    | _ => exact w1.elim
  · subst ed
    have tx' := tx
    cases tx with
    | @ins ad cn dxx n vs ds' e1 e2 e3 =>
      have hA := r2.sub _ _ e1
      have rx' : v = Value.ref ad := rx
      subst rx'
      obtain ⟨mA, J, _⟩ := ins_get I2.hok hA
      obtain ⟨od, J, _⟩ := J.look
      obtain ⟨mF, hF⟩ := I2.fr
      exact PySem.W.sub_K hF I2.ok.mod.kin J (hK ▸ ok.fnd) (hK ▸ ok.is) (hK ▸ ok.fn) (call_in1 F hK hr hgd bi (by rw [← hn]; rfl) tk I2 (.cons rx (.cons ry .nil)) r2 (.cons tx' (.cons ty .nil)) w2) (hs _ _)
/-! t != E, E a module's empty tuple -/
def ZTop (K : PySem.W.Frag) (o : Option Value) : Prop := ∃ a, o = some (.ref a) ∧ ∀ H, SqT K H a []
theorem ztop_ok {K : PySem.W.Frag} {a : Addr} (h : gtB K a [] = true) {o : Option Value} (e : o = some (.ref a)) : ZTop K o := by
  obtain ⟨b, e2, q⟩ := gtB_ok (gt := [a]) h List.mem_cons_self e
  exact ⟨b, e2, fun H => (q false H).sq⟩
def rNeZ (K : PySem.W.Frag) : R2 := fun x y H Q => ∃ p ys b, x = .ref p ∧ y = .ref b ∧ SqT K H p ys ∧ SqT K H b [] ∧ Q (.bl !ys.isEmpty) H
theorem op_neZ (hu : X.A.units + 1 < cLine) : OpR X (compareOp .NotEq) (rNeZ X.K) := by
  intro pins st σ H x y v u Q I rx ry ⟨p, ys, b, ex, ey, h1, h2, q⟩
  subst ex ey
  obtain rfl : v = Value.ref p := rx
  obtain rfl : u = Value.ref b := ry
  obtain ⟨its, rv, p1, _⟩ := I.tuple h1
  obtain ⟨its2, rv2, p2, _⟩ := I.tuple h2
  cases rv2
  have hs : its.toArray.size = ys.length := by rw [List.size_toArray, ← rv.length]
  have e : ((List.range (min its.toArray.size ([] : List Value).toArray.size)).all (fun _ => true) && its.toArray.size == ([] : List Value).toArray.size) = ys.isEmpty := by
    rw [hs]
    cases ys <;> simp
  exact (e ▸ SeqAt.RcNeAt.tuples (e := fun _ => true) p1 p2 (by omega) (fun j _ h => absurd h (by simp)) : SeqAt.RcNeAt X.A st (.ref p) (.ref b) (!ys.isEmpty)) X.prog X.w _ _ ⟨.bl _, H, I, rfl, q⟩
def iNeZ (i : IE) : IE := fun Γ => (i Γ).bind fun d => match d with
  | .tup xs => .ret (.bl !xs.isEmpty)
  | _ => .stuck
theorem neZ_read {x : Str} {p : Addr} {Q : VK} (hK : X.K = L.K) (hz : ∀ H, SqT L.K H p []) (h : Rd1 L DenT W (iNeZ i) σ H Q) : tOp (rNeZ X.K) (Rd1 L DenT W i) (tC (.ref p)) σ H Q := by
  obtain ⟨Γ, g, rp, w⟩ := h
  refine Rd1.go rp w fun v H1 d g1 r1 s1 t1 w1 => ?_
  cases d with
  | tup xs =>
    cases t1 with
    | @tup q us _ sq l =>
      refine ⟨q, us, p, rfl, rfl, hK ▸ sqT_mono r1.sub sq.sq, hK ▸ hz H1, ?_⟩
      have e : us.isEmpty = xs.isEmpty := by
        cases l <;> rfl
      rw [e]
      exact w1 _ g1 H1 s1 rfl (.bl _)
  | _ => exact w1.elim
theorem de_neZ {x : Str} {p : Pos} (hK : X.K = L.K) (hu : X.A.units + 1 < cLine) (ha : DE L X i a) (hg : Gl X x) (hz : ZTop L.K (X.mg x)) (hd : (x == ("__debug__" : Str)) = false := by decide) (hm : behindInMarks .NotEq (.Name x p) = false := by exact nomark _) :
    DE L X (iNeZ i) (.Compare a [.NotEq] [.Name x p] pos) := fun W tk => by
  obtain ⟨q, e, z⟩ := hz
  exact PE.imp (pe_cmpR (op_neZ hu) (ha W tk) (pe_glob (v := .ref q) hg e rfl hd) hm) fun σ H Q h => neZ_read (x := x) hK z h
theorem dt_neZ {x : Str} {p : Pos} (hK : X.K = L.K) (hu : X.A.units + 1 < cLine) (ha : DE L X i a) (hg : Gl X x) (hz : ZTop L.K (X.mg x)) (hd : (x == ("__debug__" : Str)) = false := by decide) (hm : behindInMarks .NotEq (.Name x p) = false := by exact nomark _) :
    DT L X (asB (iNeZ i)) (.Compare a [.NotEq] [.Name x p] pos) := fun W tk => by
  obtain ⟨q, e, z⟩ := hz
  refine PT.imp (pt_cmpR (op_neZ hu) (ha W tk) (pe_glob (v := .ref q) hg e rfl hd) hm) fun σ H Q ⟨Γ, g, r, w⟩ => neZ_read (x := x) hK z ⟨Γ, g, r, M.wpB_mono (fun d b k v g' H' s e t => ?_) (fun _ _ x => x) _ _ ((M.wpB_bind _ _).mp w)⟩
  cases d with
  | bl c =>
    cases t
    exact ⟨c, rfl, k g' H' s e⟩
  | _ => exact k.elim
end
end DL
/-! x != y, x of a class with an own __eq__. -/
namespace DL
open PySem PySem.Spec PyProof.Rows L2
structure NeOk (L : Lx) (c : Nat) (f : Addr) : Prop where
  eq : PySem.W.findIn L.K (.ref (L.cA c)) "__eq__" = some (some (.ref f))
  fn : PySem.W.isFn L.K (.ref f) = true
  ne : PySem.W.findIn L.K (.ref (L.cA c)) "__ne__" = some (some (.builtin "object.__ne__"))
  ob : PySem.W.mroIn L.K (L.cA c) (.type "object") = some true
section
variable {prog : Program} {w : World} {A : Around} {E : Value → Shared → Prop} {s : Shared} {K : PySem.W.Frag} {x C LL f : Addr} {h₀ : Heap} {m : Str → Option Value} {ox : Obj} {od : Option Obj} {b : Value}
theorem ifBound_B {M : Model} {args : List Value} {name : Str} {id : String} {Q : Option Value → Shared → Prop} (X : K.In s.heap) (I : PySem.W.InstAt s.heap x ox C od) (hs : PySem.W.findIn K (.ref C) name = some (some (.builtin id))) (hb : bindSpecial (.builtin id) (.ref x) = pure (.builtin id, [.ref x]))
    (h : wpAny M A (call (.builtin id) (.ref x :: args)) (fun v => Q (some v)) E s) : wpAny M A (callSpecialIfBound? (.ref x) name args) Q E s := by
  simp only [callSpecialIfBound?, bindSpecialIfBound?]
  refine wpAny_holding (wpAny_bind (wpAny_bind (wpAny_bind (I.type.here ((PySem.W.looks_findIn X hs).here ?_)))))
  simp only [hb]
  refine wpAny_bind (wpAny_askSetting (wpAny_ite ?_))
  have fin : wpAny M A (call (.builtin id) ([.ref x] ++ args) >>= fun v => pure (some v)) Q E s := wpAny_bind (wpAny_mono h (fun v s' h' => wpAny_pure h') fun _ _ h' => h')
  split
  · exact wpAny_bind (wpAny_pure (wpAny_pure fin))
  · exact wpAny_tryCatch (wpAny_bind (wpAny_pure (wpAny_pure fin)))
theorem ne_own {Q : Value → Shared → Prop} (hu : A.units + 1 < cLine) (F : Fr h₀ LL s.heap m) (X₀ : K.In h₀) (I : PySem.W.InstAt s.heap x ox C od) (hb : PySem.W.Looks (model prog w) s.heap (typeOf b) (.ref C))
    (hs : PySem.W.findIn K (.ref C) "__eq__" = some (some (.ref f))) (hf : PySem.W.isFn K (.ref f) = true) (hn : PySem.W.findIn K (.ref C) "__ne__" = some (some (.builtin "object.__ne__"))) (ho : PySem.W.mroIn K C (.type "object") = some true)
    (h : wpAny (model prog w) A.in1 (call (.ref f) [.ref x, b]) (fun v s' => ∃ k, v = .bool k ∧ Q (.bool (!k)) s') E s) : wpAny (model prog w) A (richCompare .NotEq (.ref x) b) Q E s := by
  have X := X₀.keeps F.keep
  have inst : PySem.W.Looks (model prog w) s.heap (isInstance (.ref x) (.type "object")) true := I.type.andThen (PySem.W.looks_mroIn X ho)
  have one : wpAny (model prog w) A (tryCompare (.ref x) "__ne__" b) (fun r s' => ∃ v, r = some v ∧ Q v s') E s := by
    unfold tryCompare
    refine wpAny_bind (ifBound_B X I hn (PySem.F.slot_zip_ne.bind _) (wpAny_call (codeAny_call_builtin PySem.F.slot_zip_ne.plain PySem.F.cmpEntry_ne (@PySem.W.check_slot (model prog w) _ _ _ "object.__ne__" "object" "__ne__" (.ref x) [b] [] _ PySem.F.cmpKind_ne PySem.F.cmpSplit_ne inst (PySem.F.cmpArgs_ne _ _) ?_))))
    unfold Builtin.«object.__ne__»
    refine wpAny_bind (m := slotArgs _ _ _) (wpAny_pure ?_)
    refine wpAny_bind (wpAny_cRoomFor (A := A.in1) hu ?_)
    refine wpAny_bind (m := callSpecialIfBound? (.ref x) (Str.ofString "__eq__") [b]) (PySem.W.ifBound_K X I hs hf (wpAny_mono h (fun v s' hv => ?_) fun _ _ e => e))
    obtain ⟨k, rfl, q⟩ := hv
    refine wpAny_bind (m := truthy (.bool k)) (wpAny_truthy_bool ?_)
    exact wpAny_pure (wpAny_pure ⟨_, rfl, q⟩)
  unfold richCompare
  simp only [oneThing_ref]
  refine wpAny_holding (wpAny_bind (wpAny_cRoomFor (by omega) ?_))
  refine wpAny_bind (I.type.here (wpAny_bind (hb.here ?_)))
  split
  · rename_i q
    simp at q
  · refine wpAny_bind (wpAny_pure ?_)
    simp only [Bool.false_eq_true, if_false]
    refine wpAny_bind (wpAny_mono one (fun r s' z => ?_) fun _ _ e => e)
    obtain ⟨v, rfl, hq⟩ := z
    exact wpAny_pure hq
end
section
variable {L : Lx} {X : Cx} {g g' : Gh} {H H' : Hp} {σ : L2.St} {Γ : Env} {W : WX} {pos : Pos} {i j : IE} {a b : Expr}
def neM (c : Nat) (m : List D → M D) (x y : D) : M D := match x, y with
  | .ins c' ds, .ins c'' es => if c' = c ∧ c'' = c then ((m [.ins c' ds, .ins c'' es]).noX).bind fun d => match d with
    | .bl b => .ret (.bl !b)
    | _ => .stuck else .stuck
  | _, _ => .stuck
def iNeM (c : Nat) (m : List D → M D) (i j : IE) : IE := fun Γ => (i Γ).bind fun x => (j Γ).bind fun y => neM c m x y
def rdNeM (L : Lx) (c : Nat) (m : List D → M D) : R2 := fun x y H Q => ∃ Γ g σ dx dy, Rep L Γ g σ H ∧ Den L g x dx ∧ Den L g y dy ∧ (neM c m dx dy).wpB g.bud (Wn L DenT g H Q) (fun _ _ => False)
theorem op_neM {k c : Nat} {m : List D → M D} {f : Addr} {fd : FuncData} {ps : List Str} (ok : NeOk L c f) (F : FG L X.prog X.w X.mg X.base k f fd ps m) (hK : X.K = L.K) (hr : Room (k + 1) X.A) (hgd : X.A.guards = some []) (bi : L2.Binds X.K fd ps []) (hn : 2 = ps.length) : OpR X (compareOp .NotEq) (rdNeM L c m) := by
  intro pins s σ H x y v u Q I rx ry ⟨Γ, g, σ', dx, dy, rp, tx, ty, w⟩
  show wpAny (model X.prog X.w) X.A (richCompare .NotEq v u) (EP X pins σ Q) X.xe s
  unfold neM at w
  split at w
  · rename_i c' ds c'' es
    split at w
    · rename_i hc
      obtain ⟨rfl, rfl⟩ := hc
      have tx' := tx
      have ty' := ty
      cases tx with
      | @ins ad cn dxx n vs ds' e1 e2 e3 =>
      cases ty with
      | @ins bd cn2 dxy n2 vs2 ds2 f1 f2 f3 =>
      obtain rfl : v = Value.ref ad := rx
      obtain rfl : u = Value.ref bd := ry
      obtain ⟨mA, J, _⟩ := ins_get I.hok (rp.sub _ _ e1)
      obtain ⟨od, J, _⟩ := J.look
      obtain ⟨mB, J', _⟩ := ins_get I.hok (rp.sub _ _ f1)
      obtain ⟨od', J', _⟩ := J'.look
      obtain ⟨mF, hF⟩ := I.fr
      have un := hr.un
      refine ne_own (by omega) hF I.ok.mod.kin J J'.type (hK ▸ ok.eq) (hK ▸ ok.fn) (hK ▸ ok.ne) (hK ▸ ok.ob) ?_
      have w1 : (m [.ins c'' ds, .ins c'' es]).wpB g.bud (Wn L DenT g H fun v H' => ∃ b, v = .bl b ∧ Q (.bl !b) H') (XW L (fun _ _ _ _ => False) g σ H) := by
        refine M.wpB_mono (fun d b k => ?_) (fun _ _ x => x) _ _ (M.wpB_noX (E' := XW L (fun _ _ _ _ => False) g σ H) _ _ ((M.wpB_bind _ _).mp w))
        cases d with
        | bl bb =>
          intro v2 g2 H2 s2 e t2
          cases t2
          exact ⟨bb, rfl, k _ g2 H2 s2 e (.bl _)⟩
        | _ => exact k.elim
      refine wpAny_mono (call_in1 (W := fun _ _ _ _ => False) F hK hr hgd bi (by rw [← hn]; rfl) L2.takes0 I (.cons (show RelV (.ref ad) (.ref ad) from rfl) (.cons (show RelV (.ref bd) (.ref bd) from rfl) .nil)) (rep_any rp) (.cons tx' (.cons ty' .nil)) w1) (fun r s2 hq => ?_) fun _ _ z => z
      obtain ⟨v2, H2, I2, r2, bb, ev, q⟩ := hq
      subst ev
      obtain rfl : r = Value.bool bb := r2
      exact ⟨bb, rfl, .bl _, H2, I2, rfl, q⟩
    · exact w.elim
  · exact w.elim
theorem iNeM_read {c : Nat} {m : List D → M D} {Q : VK} (h : Rd1 L DenT W (iNeM c m i j) σ H Q) : tOp (rdNeM L c m) (Rd1 L DenT W i) (Rd1 L DenT W j) σ H Q := by
  obtain ⟨Γ, g, rp, w⟩ := h
  refine Rd1.go rp w fun x H1 dx g1 r1 s1 t1 w => Rd1.go r1 w fun y H2 dy g2 r2 s2 t2 w => ?_
  refine ⟨Γ, g2, σ, dx, dy, r2, t1.mono s2.le s2.mu, t2, ?_⟩
  have w2 := M.wpB_mono (Q' := fun d b => ∀ v g' H', Stp L g2 H2 g' H' → g'.bud = b → Den L g' v d → Q v H') (fun d b k v g' H' s e t => k v g' H' (s1.trans (s2.trans s)) e t) (fun _ _ x => x) _ _ w
  unfold neM at w2 ⊢
  split at w2
  · rename_i c' ds c'' es
    split at w2
    · rename_i hc
      rw [if_pos hc]
      refine (M.wpB_bind _ _).mpr (M.wpB_mono (fun d b k => ?_) (fun _ _ x => x) _ _ (noX_false ((M.wpB_bind _ _).mp w2)))
      cases d with
      | bl bb => exact k
      | _ => exact k.elim
    · exact w2.elim
  · exact w2.elim
theorem de_neM {k c : Nat} {m : List D → M D} {f : Addr} {fd : FuncData} {ps : List Str} (ok : NeOk L c f) (F : FG L X.prog X.w X.mg X.base k f fd ps m) (hK : X.K = L.K) (hr : Room (k + 1) X.A) (hgd : X.A.guards = some []) (bi : L2.Binds X.K fd ps []) (hn : 2 = ps.length)
    (ha : DE L X i a) (hb : DE L X j b) (hm : behindInMarks .NotEq b = false) : DE L X (iNeM c m i j) (.Compare a [.NotEq] [b] pos) := fun W tk =>
  PE.imp (pe_cmpR (op_neM ok F hK hr hgd bi hn) (ha W tk) (hb W tk) hm) fun σ H Q h => iNeM_read h
theorem dt_neM {k c : Nat} {m : List D → M D} {f : Addr} {fd : FuncData} {ps : List Str} (ok : NeOk L c f) (F : FG L X.prog X.w X.mg X.base k f fd ps m) (hK : X.K = L.K) (hr : Room (k + 1) X.A) (hgd : X.A.guards = some []) (bi : L2.Binds X.K fd ps []) (hn : 2 = ps.length)
    (ha : DE L X i a) (hb : DE L X j b) (hm : behindInMarks .NotEq b = false) : DT L X (asB (iNeM c m i j)) (.Compare a [.NotEq] [b] pos) := fun W tk => by
  refine PT.imp (pt_cmpR (op_neM ok F hK hr hgd bi hn) (ha W tk) (hb W tk) hm) fun σ H Q ⟨Γ, g, r, w⟩ => iNeM_read ⟨Γ, g, r, M.wpB_mono (fun d b k v g' H' s e t => ?_) (fun _ _ x => x) _ _ ((M.wpB_bind _ _).mp w)⟩
  cases d with
  | bl c =>
    cases t
    exact ⟨c, rfl, k g' H' s e⟩
  | _ => exact k.elim
end
end DL
/-! Words for instances of one's own. -/
namespace DL
open PySem PySem.Spec PyProof.Rows L2
section
variable {L : Lx} {X : Cx} {g0 g g' : Gh} {H0 H H' : Hp} {σ : L2.St} {Γ : Env} {W : WX} {pos : Pos} {i : IE} {e : Expr}
/-- self.f, self the instance in slot n -/
def iOFld (ok : Nat → Bool) (n : Nat) (f : Str) : IE := fun Γ => match Γ[n]? with
  | some (some (.os c fs)) => if ok c = true then match fs.lookup f with
    | some d => .ret d
    | none => .stuck else .stuck
  | _ => .stuck
theorem lookup_den {f : Str} {d : D} : ∀ {fs : List (Str × D)} {vs : List V}, DenL L g vs (fs.map (·.2)) → fs.lookup f = some d → ∃ v, ((fs.map (·.1)).zip vs).lookup f = some v ∧ Den L g v d := fun {fs} => by
  induction fs with
  | nil => intro vs _ h; cases h
  | cons q fs ih =>
    obtain ⟨n, y⟩ := q
    intro vs l h
    cases l with
    | cons a l =>
      rw [List.map_cons, List.zip_cons_cons, List.lookup_cons]
      rw [List.lookup_cons] at h
      cases q : f == n with
      | true =>
        rw [q] at h
        cases h
        exact ⟨_, rfl, a⟩
      | false =>
        rw [q] at h
        exact ih l h
theorem de_ofld {ok : Nat → Bool} {n : Nat} {f sn : Str} {sp : Pos} (hK : X.K = L.K) (hx : ∀ c, ok c = true → Cls L.K (L.cA c) ∧ NoAttr L.K (L.cA c) f) (hv : PE X (.Name sn sp) (tVar n))
    (hb : attributeBase (.Name sn sp) f X.env (eval (.Name sn sp) X.env) = eval (.Name sn sp) X.env := by rfl) : DE L X (iOFld ok n f) (.Attribute (.Name sn sp) f pos) := fun W tk => PE.imp (pe_fld hv hb) fun σ H Q ⟨Γ, g, r, w⟩ => by
  unfold iOFld at w
  split at w
  · rename_i c fs en
    split at w
    · rename_i hc
      split at w
      · rename_i d hd
        obtain ⟨x, es, p, dx, vs, e2, sq, h1, hl, h3, h4⟩ := r.loc _ _ en
        subst e2
        obtain ⟨k1, k2⟩ := hx c hc
        obtain ⟨v, hv, t⟩ := lookup_den hl hd
        exact ⟨.ref p, es, p, L.cA c, dx, _, v, rfl, h1, hK ▸ k1, hK ▸ k2, hv, w v g H (Stp.refl r) rfl t⟩
      · exact w.elim
    · exact w.elim
  · exact w.elim
/-- the instance of class k in slot n, lent -/
def iLendC (k : Nat) (ns : List Str) (n : Nat) (i : IE) : IE := fun Γ => match Γ[n]? with
  | some (some (.os c fs)) => if c = k ∧ fs.map (·.1) = ns then (i (Γ.set n (some (.fz (.ins c (fs.map (·.2))))))).keepI else .stuck
  | _ => .stuck
theorem de_lendC {k n : Nat} {ns : List Str} (hf : L.cF k = ns) (h : DE L X i e) : DE L X (iLendC k ns n i) e := fun W tk => PE.imp (de_lendI (n := n) h W tk) fun σ H Q ⟨Γ, g, r, w⟩ => by
  refine ⟨Γ, g, r, ?_⟩
  unfold iLendC at w
  unfold iLendI
  split at w
  · rename_i c fs en
    try rw [en]
    try dsimp only
    split at w
    · rename_i hc
      obtain ⟨rfl, hn⟩ := hc
      rw [if_pos (hn.trans hf.symm)]
      exact w
    · exact w.elim
  · exact w.elim
/-- x = C(..), C the class k, changed later -/
def sOwnC (k : Nat) (ns : List Str) (n : Nat) (i : IE) : IS := fun Γ => (i Γ).bind fun d => match d with
  | .ins c ds => if c = k then .ret (.nx (Γ.set n (some (.os c (ns.zip ds))))) else .stuck
  | _ => .stuck
theorem ds_ownC {k n : Nat} {ns : List Str} {x : Str} {pos' : Pos} (hsf : L.sf = none) (hc : L.cF k = ns) (hN : X.N.Nodup) (hi : X.N[n]? = some x) (hx : Loc X.env.scope x) (h : DFI L X i e) (hs : swapsWith e (some (.Name x pos')) pos.line X.env = pure false := by rfl)
    (hf : X.fn x = true ∨ X.env.scope.names.lookup x = some .local := by first | exact .inl rfl | exact .inr rfl) : DS L X (sOwnC k ns n i) (.Assign [.Name x pos'] e pos) := fun W g0 H0 tk => PS.imp (ds_ownI (n := n) hsf hN hi hx h hs hf W g0 H0 tk) fun Dn σ H ⟨Γ, g, r, w⟩ => by
  refine ⟨Γ, g, r, ?_⟩
  unfold sOwnC at w
  unfold sOwnI
  refine (M.wpB_bind _ _).mpr (M.wpB_mono (fun d b q => ?_) (fun _ _ x => x) _ _ ((M.wpB_bind _ _).mp w))
  cases d with
  | ins c ds =>
    dsimp only at q ⊢
    split at q
    · rename_i e
      subst e
      rw [hc]
      exact q
    · exact q.elim
  | _ => exact q.elim
/-- x.m(..), x an instance of class k -/
def sTakeC (k : Nat) (ns : List Str) (n : Nat) (m : List (Str × D) → List D → M (List (Str × D))) (is : List IE) : IS := sTake (fun _ => ns) n k m is
theorem ds_takeC {f : Addr} {fd : FuncData} {ps : List Str} {k c n : Nat} {ns : List Str} {nm x : Str} {m : List (Str × D) → List D → M (List (Str × D))} {pl : Sem Bool} {p apos cpos : Pos} {e : Expr} {es : List Expr} {is : List IE} (hc : L.cF c = ns)
    (F : FGU L X.prog X.w X.mg X.base k f fd ps c m) (hr : Room k X.A) (hgd : X.A.guards = some []) (hb : Binds X.K fd ps []) (hn : is.length + 1 = ps.length) (ok : MthOk L c nm f) (hK : X.K = L.K) (hv : PE X (.Name x p) (tVar n)) (ha : DA L X is (e :: es))
    (h1 : starEach (e :: es) X.env = (false, eval e X.env) :: starEach es X.env := by rfl) (h2 : (backTo cpos (starEach es X.env)).any (·.1) = false := by rfl)
    (ht : eval (.Call (.Attribute (.Name x p) nm apos) (e :: es) [] cpos) X.env = (do
      let ov ← eval (.Name x p) X.env
      standAt apos.atName
      let (f, first) ← holding [ov] (getMethod ov nm pl)
      callWith cpos f first (backTo cpos (starEach (e :: es) X.env)) (backToKw cpos (keywordEach [] X.env))) := by rfl)
    (hs : swapsWith (.Call (.Attribute (.Name x p) nm apos) (e :: es) [] cpos) none pos.line X.env = pure false := by rfl) :
    DS L X (sTakeC c ns n m is) (.Expr (.Call (.Attribute (.Name x p) nm apos) (e :: es) [] cpos) pos) := by
  have q := ds_take F hr hgd hb hn ok hK hv ha h1 h2 ht hs
  have e : sTake L.cF n c m is = sTakeC c ns n m is := by
    unfold sTakeC sTake
    rw [hc]
  rw [← e]
  exact q
end
end DL
/-! zip(T, e), T a module's tuple of texts. -/
namespace DL
open PySem PySem.Spec L2
def TopS (K : PySem.W.Frag) (o : Option Value) (ss : List Str) : Prop := ∃ a, o = some (.ref a) ∧ ∀ H, SqT K H a (ss.map V.str)
theorem topS_ok {K : PySem.W.Frag} {a : Addr} {ss : List Str} (h : gtB K a ss = true) {o : Option Value} (e : o = some (.ref a)) : TopS K o ss := by
  obtain ⟨b, e2, q⟩ := gtB_ok (gt := [a]) h List.mem_cons_self e
  exact ⟨b, e2, fun H => (q false H).sq⟩
def iiZT (ss : List Str) (i : IE) : II := fun Γ => (i Γ).bind fun d => match d with
  | .tup ys => .ret (zipD (ss.map D.str) ys)
  | _ => .stuck
section
variable {L : Lx} {X : Cx} {g : Gh} {H : Hp} {σ : L2.St} {Γ : Env} {W : WX} {pos p q tpos : Pos} {i : IE} {b : Expr}
theorem di_zipTop {x : Str} {ss : List Str} (hK : X.K = L.K) {elts : List Expr} {kk : Nat} (hg : Gl X "zip") (hm : X.mg "zip" = none) (gx : Gl X x) (hx : TopS L.K (X.mg x) ss) (hb : DE L X i b) (hd : (x == ("__debug__" : Str)) = false := by decide)
    (hs : starEach [.Name x q, b] X.env = (false, eval (.Name x q) X.env) :: starEach [b] X.env := by rfl) (hs2 : starEach [b] X.env = (false, eval b X.env) :: starEach [] X.env := by rfl) (hpl : (backTo pos (starEach [b] X.env)).any (·.1) = false := by rfl) :
    DI L X (iiZT ss i) (.Tuple elts kk tpos) (.Call (.Name "zip" p) [.Name x q, b] [] pos) := fun W tk => by
  obtain ⟨a, ea, ha⟩ := hx
  refine PI.imp (RZ.pi_zipA hg hm (pa_cons (pe_glob (v := .ref a) gx ea rfl hd) (pa_cons (hb W tk) pa_nil hs2) hs) hs hpl) fun σ H R ⟨Γ, g, r, w⟩ => ?_
  refine Rd1.go r ((M.wpB_bind _ _).mpr (M.wpB_mono (fun d b k => k) (fun _ _ x => x) _ _ ((M.wpB_bind _ _).mp w)) : ((i Γ).bind fun d => match d with | .tup ys => M.ret (zipD (ss.map D.str) ys) | _ => M.stuck).wpB g.bud _ _) fun v H1 d g1 r1 s1 t1 w1 => ?_
  cases d with
  | tup ys =>
    cases t1 with
    | @tup c ws _ e2 l2 =>
      refine ⟨a, c, ss.map V.str, ws, rfl, .inr ⟨hK ▸ ha H1, hK ▸ sqT_mono r1.sub e2.sq, w1 g1 H1 _ s1 rfl ?_⟩⟩
      exact wk_zip (a := a) (b := c) (us := ss.map V.str) (vs := ws) (fun H q vs => SqT X.K H q vs) (fun r f => ⟨hK ▸ ha _, hK ▸ sqT_mono r.sub (sqT_mono f.F e2.sq)⟩) (denL_strs ss) l2 (fun n H x y s1 s2 h1 h2 => ⟨_, ws, x, y, s1, s2, h1, h2⟩)
        (fun n H v H' s1 s2 ⟨T, x, y, e1, e2, e3, f1, f2⟩ => ⟨T, x, y, e1, e2, e3, f1 _ s1, f2 ws s2⟩) (fun n H s1 s2 h => ⟨_, ws, s1, s2, h⟩)
  | _ => exact w1.elim
end
end DL
/-! x = {k: v for ..}, x a plain local. -/
namespace DL
open PySem PySem.Spec L2
theorem sw_dict {kx vx : Expr} {gs : List Comprehension} {scope : Scope} {pos py : Pos} {y : Str} {l : Nat} {env : PySem.Env} (hk : env.scope.kind = .function) (hy : env.scope.names.lookup y = some .local) (hl : (py.line == pos.line) = true)
    (ha : (scope.names.any fun (n, k) => n == y && (k == .local || k == .cell)) = false) : swapsWith (.DictComp kx vx gs scope pos) (some (.Name y py)) l env = pure true := by
  have ky : env.kindOf y = some .local := hy
  have kb : env.blockKind = .function := by
    rw [PySem.Env.blockKind, hk] <;> rfl
  show (pure _ : Sem Bool) = _
  rw [ky, kb, ha]
  have e : (py.line == (Expr.DictComp kx vx gs scope pos).pos.line) = true := hl
  rw [e]
  rfl
section
variable {X : Cx}
theorem ps_setDc {n : Nat} {y : Str} {yp : Pos} {kx vx tg iter : Expr} {ifs : List Expr} {scope : Scope} {own : List (Str × Nat)} {pos sp : Pos} {wi : TI} {gt : TG} {tt : TT} {tk tv : TE} (hc : X.calm = true) (hN : X.N.Nodup) (hn : X.N[n]? = some y) (yl : X.env.scope.names.lookup y = some .local)
    (sw : swapsWith (.DictComp kx vx [⟨tg, iter, ifs, 0⟩] scope pos) (some (.Name y yp)) sp.line X.env = pure true) (hi : PI X tg iter wi) (ok : BlkOk X.N X.env.scope scope own)
    (hg : ∀ (s : Shared) (H : Hp) (C : Addr) (cl : List (Str × Addr)) (fp : List Addr), PG (X.blk s H scope (compEnvC scope cl C X.env) fp) tg gt)
    (ht : ∀ (s : Shared) (H : Hp) (C : Addr) (cl : List (Str × Addr)) (fp : List Addr), PTs (X.blk s H scope (compEnvC scope cl C X.env) fp) ifs tt)
    (hk : ∀ (s : Shared) (H : Hp) (C : Addr) (cl : List (Str × Addr)) (fp : List Addr), PE (X.blk s H scope (compEnvC scope cl C X.env) fp) kx tk)
    (hv : ∀ (s : Shared) (H : Hp) (C : Addr) (cl : List (Str × Addr)) (fp : List Addr), PE (X.blk s H scope (compEnvC scope cl C X.env) fp) vx tv) (hs : ∀ x, foldedSetIterable iter X.env x = pure x := by intro _; rfl) :
    PS X (.Assign [.Name y yp] (.DictComp kx vx [⟨tg, iter, ifs, 0⟩] scope pos) sp) (tAsg (tDc wi gt tt tk tv (own.map (·.2))) (gName n)) := by
  constructor
  intro pins s σ H Dn I w
  rw [exec_Assign_Name_used _ _ _ _ sw]
  refine wpAny_bind (wpAny_standAt (wpAny_bind ?_))
  have w : tDc wi gt tt tk tv (own.map (·.2)) σ H (fun x H1 => gName n x σ H1 Dn.nx) := w
  have core := dc_core (pos := pos) (pos' := firstIterPos [⟨tg, iter, ifs, 0⟩] pos) (use := some (assign (.Name y yp) X.env)) (Qf := fun _ s' => SP X pins Dn .next s') hc hN I hi ok hg ht hk hv hs w fun Da Ca s1 m1 H1 I1 q1 n1 fp => by
    obtain ⟨p0, p1, p2, p3, p4, p5⟩ := fp
    refine wpAny_assign_Name (store_ok2 (v := V.ref Da) I1 hN hn (.inl yl) rfl (fun s2 I2 ⟨b, sb, hb⟩ => ?_) (.inr yl))
    have off : Ca ≠ b := by
      rcases hb with e | e
      · rw [e]; exact p1
      · intro z
        exact p4 y b e z.symm
    refine ⟨m1, n1.sameBut sb off, fun h2 sb2 => ⟨_, H1, I2.turned (t' := s2.toks) (fun c o hc e => (sb2.2 c hc).trans e) p0 p1 p3 p4 p5, q1⟩⟩
  exact wpAny_bind (thn core fun _ s' hq => wpAny_pure (wpAny_pure hq))
end
section
variable {L : Lx} {X : Cx} {Γ : Env} {W : WX} {pos : Pos}
theorem ds_ownDc {n : Nat} {y : Str} {yp sp : Pos} {t : IG} {it : II} {c : IT} {ik iv : IE} {own : List (Str × Nat)} {gt : TG} {tt : TT} {kx vx tg iter : Expr} {ifs : List Expr} {scope : Scope} (hc : X.calm = true) (hN : X.N.Nodup) (hn : X.N[n]? = some y) (yl : X.env.scope.names.lookup y = some .local)
    (sw : swapsWith (.DictComp kx vx [⟨tg, iter, ifs, 0⟩] scope pos) (some (.Name y yp)) sp.line X.env = pure true) (hi : DI L X it tg iter) (ok : BlkOk X.N X.env.scope scope own)
    (hg : ∀ (s : Shared) (H : Hp) (C : Addr) (cl : List (Str × Addr)) (fp : List Addr), PG (X.blk s H scope (compEnvC scope cl C X.env) fp) tg gt) (gk : GK L gt t (own.map (·.2)))
    (ht : ∀ (s : Shared) (H : Hp) (C : Addr) (cl : List (Str × Addr)) (fp : List Addr), PTs (X.blk s H scope (compEnvC scope cl C X.env) fp) ifs tt) (tk : TK L tt c)
    (hk : ∀ (s : Shared) (H : Hp) (C : Addr) (cl : List (Str × Addr)) (fp : List Addr), DE L (X.blk s H scope (compEnvC scope cl C X.env) fp) ik kx)
    (he : ∀ (s : Shared) (H : Hp) (C : Addr) (cl : List (Str × Addr)) (fp : List Addr), DE L (X.blk s H scope (compEnvC scope cl C X.env) fp) iv vx) (hs : ∀ x, foldedSetIterable iter X.env x = pure x := by intro _; rfl) :
    DS L X (sOwnD n (iDc t it c ik iv (own.map (·.2)))) (.Assign [.Name y yp] (.DictComp kx vx [⟨tg, iter, ifs, 0⟩] scope pos) sp) := fun W g0 H0 tk' => by
  refine PS.imp (ps_setDc hc hN hn yl sw (hi W tk') ok hg ht (fun s H C cl fp => hk s H C cl fp _ LamX.takes0) (fun s H C cl fp => he s H C cl fp _ LamX.takes0) hs) fun Dn σ H ⟨Γ, g, r, w⟩ => ?_
  refine dc_read (Q := fun x H1 => gName n x σ H1 Dn.nx) gk tk r.rep (M.wpB_mono (fun d b k v g' H' s e fr => ?_) (fun _ _ x => x.xw r.base) _ _ ((M.wpB_bind _ _).mp w))
  cases d with
  | dct t ds => exact k g' _ H' (r.setOwnD s fr) s.fle e
  | _ => exact k.elim
end
end DL
/-! Runs told step by step: what the words of a run do on data that are not fixed. -/
namespace DL
open PySem PySem.Spec L2
theorem M.bind_ite {α β : Type} {c : Prop} [Decidable c] (a b : M α) (f : α → M β) : (if c then a else b).bind f = if c then a.bind f else b.bind f := by split <;> rfl
theorem M.ret_bind {α β : Type} (a : α) (f : α → M β) : (M.ret a).bind f = f a := rfl
theorem M.stuck_bind {α β : Type} (f : α → M β) : (M.stuck : M α).bind f = .stuck := rfl
theorem M.exc_bind {α β : Type} (x : Ex) (f : α → M β) : (M.exc x : M α).bind f = .exc x := rfl
theorem M.choose_bind {α β : Type} (n : Nat) (k : Nat → M α) (f : α → M β) : (M.choose n k).bind f = .choose n fun i => (k i).bind f := rfl
theorem M.ret_noX {α : Type} (a : α) : (M.ret a).noX = .ret a := rfl
end DL
namespace DL
open PySem PySem.Spec L2
/-! comparisons -/
theorem fEq_int (i j : Int) : fEq (.int i) (.int j) = some (.bl (decide (i = j))) := by
  show some (D.bl (i == j)) = _
  exact congrArg (fun b => some (D.bl b)) (by by_cases h : i = j <;> simp [h])
theorem fEq_str (x y : Str) : fEq (.str x) (.str y) = some (.bl (decide (x = y))) := by
  show some (D.bl (x == y)) = _
  exact congrArg (fun b => some (D.bl b)) (by by_cases h : x = y <;> simp [h])
theorem fLe_int (i j : Int) : fLe (.int i) (.int j) = some (.bl (decide (i ≤ j))) := rfl
theorem fLt_int (i j : Int) : fLt (.int i) (.int j) = some (.bl (decide (i < j))) := rfl
theorem fGe_int (i j : Int) : fGe (.int i) (.int j) = some (.bl (decide (j ≤ i))) := rfl
theorem fGt_int (i j : Int) : fGt (.int i) (.int j) = some (.bl (decide (j < i))) := rfl
/-- x < y of texts -/
abbrev sLt (x y : Str) : Bool := decide (x.cps.toList < y.cps.toList)
theorem dLt_str (x y : Str) : dLt (.str x) (.str y) = sLt x y := by
  unfold dLt
  exact PySem.W.dataLt_str x y
theorem fLt_str (x y : Str) : fLt (.str x) (.str y) = some (.bl (sLt x y)) := by
  rw [← dLt_str]; rfl
theorem fLe_str (x y : Str) : fLe (.str x) (.str y) = some (.bl (!sLt y x)) := by
  rw [← dLt_str]; rfl
theorem fAdd_int (i j : Int) : fAdd (.int i) (.int j) = some (.int (i + j)) := rfl
theorem fSubI_int (i j : Int) : fSubI (.int i) (.int j) = some (.int (i - j)) := rfl
theorem fLen_tup (ds : List D) : fLen [.tup ds] = some (.int ds.length) := rfl
theorem fLen_lst (ds : List D) : fLen [.lst ds] = some (.int ds.length) := rfl
/-! comprehensions -/
theorem lcRun_pure {t : IG} {c : IT} {i : IE} {own : List Nat} {Γ : Env} {p : D → Bool} {e : D → D} : ∀ (ds acc : List D), (∀ d ∈ ds, ∃ Γ1, t d (wipeE Γ own) = .ret Γ1 ∧ c Γ1 = .ret (p d) ∧ (p d = true → i Γ1 = .ret (e d))) → acc.length + ds.length ≤ sizeLine →
    lcRun t c i own Γ acc ds = .ret (acc ++ (ds.filter p).map e)
  | [], acc, _, _ => by simp [lcRun]
  | d :: r, acc, h, hl => by
    obtain ⟨Γ1, e1, e2, e3⟩ := h d List.mem_cons_self
    rw [List.length_cons] at hl
    unfold lcRun
    rw [e1, M.ret_bind, e2, M.ret_bind]
    by_cases q : p d = true
    · rw [if_pos q, e3 q, M.ret_bind, if_pos (by omega), lcRun_pure r _ (fun d hd => h d (List.mem_cons_of_mem _ hd)) (by rw [List.length_append, List.length_singleton]; omega), List.filter_cons_of_pos q, List.map_cons, List.append_assoc]
      rfl
    · rw [if_neg q, lcRun_pure r _ (fun d hd => h d (List.mem_cons_of_mem _ hd)) (by omega), List.filter_cons_of_neg q]
theorem lc_pure {t : IG} {it : II} {c : IT} {i : IE} {own : List Nat} {Γ : Env} {ds : List D} {p : D → Bool} {e : D → D} (hi : it Γ = .ret ds) (h : ∀ d ∈ ds, ∃ Γ1, t d (wipeE Γ own) = .ret Γ1 ∧ c Γ1 = .ret (p d) ∧ (p d = true → i Γ1 = .ret (e d))) (hl : ds.length ≤ sizeLine) :
    iLc t it c i own Γ = .ret (.lst ((ds.filter p).map e)) := by
  unfold iLc
  rw [hi, M.ret_bind, lcRun_pure ds [] h (by simpa using hl)]
  rfl
/-- with no test -/
theorem lc_all {t : IG} {it : II} {i : IE} {own : List Nat} {Γ : Env} {ds : List D} {e : D → D} (hi : it Γ = .ret ds) (h : ∀ d ∈ ds, ∃ Γ1, t d (wipeE Γ own) = .ret Γ1 ∧ i Γ1 = .ret (e d)) (hl : ds.length ≤ sizeLine) :
    iLc t it cYes i own Γ = .ret (.lst (ds.map e)) := by
  rw [lc_pure (c := cYes) (p := fun _ => true) (e := e) hi (fun d hd => let ⟨Γ1, e1, e2⟩ := h d hd; ⟨Γ1, e1, rfl, fun _ => e2⟩) hl, List.filter_eq_self.mpr fun _ _ => rfl]
theorem bools_map (f : D → Bool) : ∀ ds : List D, boolsD (ds.map fun d => .bl (f d)) = some (ds.map f)
  | [] => rfl
  | d :: r => by
    show (boolsD (r.map fun d => .bl (f d))).map (f d :: ·) = _
    rw [bools_map f r]
    rfl
theorem fAll_map (f : D → Bool) (ds : List D) : fAll [.lst (ds.map fun d => .bl (f d))] = some (.bl (ds.all f)) := by
  show (boolsD _).map _ = _
  rw [bools_map]
  simp only [Option.map_some, Option.some.injEq, D.bl.injEq]
  rw [List.all_map]
  rfl
end DL
/-! Runs with draws: what they yield, and how many draws they take. Texts by their signs. -/
namespace DL
open PySem PySem.Spec L2
/-- at most k draws, no error, and P of what is yielded -/
def Yl {α : Type} (m : M α) (k : Nat) (P : α → Prop) : Prop := ∀ b, k ≤ b → b ≤ lim → m.wpB b (fun a c => c ≤ b ∧ b ≤ c + k ∧ P a) (fun _ _ => False)
section
variable {α β : Type} {m : M α} {k l : Nat} {P : α → Prop} {Q : β → Prop} {f : α → M β}
theorem Yl.ret {a : α} (h : P a) : Yl (.ret a) 0 P := fun b _ _ => ⟨Nat.le_refl _, Nat.le_refl _, h⟩
theorem Yl.bind (h : Yl m k P) (h2 : ∀ a, P a → Yl (f a) l Q) : Yl (m.bind f) (k + l) Q := fun b hb hl => by
  refine (M.wpB_bind _ _).mpr (M.wpB_mono (fun a c ⟨c1, c2, pa⟩ => ?_) (fun _ _ x => x) _ _ (h b (by omega) hl))
  exact M.wpB_mono (fun a' c' ⟨d1, d2, pa'⟩ => ⟨by omega, by omega, pa'⟩) (fun _ _ x => x) _ _ (h2 a pa c (by omega) (by omega))
theorem Yl.choose {n : Nat} {f : Nat → M α} (h : ∀ i, i < n → Yl (f i) k P) : Yl (.choose n f) (k + 1) P := fun b hb hl => by
  cases b with
  | zero => omega
  | succ b => exact fun i hi => M.wpB_mono (fun a c ⟨c1, c2, pa⟩ => ⟨by omega, by omega, pa⟩) (fun _ _ x => x) _ _ (h i hi b (by omega) (by omega))
theorem Yl.mono {k' : Nat} {P' : α → Prop} (h : Yl m k P) (hk : k ≤ k') (hP : ∀ a, P a → P' a) : Yl m k' P' := fun b hb hl =>
  M.wpB_mono (fun a c ⟨c1, c2, pa⟩ => ⟨c1, by omega, hP a pa⟩) (fun _ _ x => x) _ _ (h b (by omega) hl)
theorem Yl.noX (h : Yl m k P) : Yl m.noX k P := fun b hb hl => by
  have go : ∀ (m : M α) (b : Nat) {R : α → Nat → Prop}, m.wpB b R (fun _ _ => False) → m.noX.wpB b R (fun _ _ => False) := by
    intro m
    induction m with
    | ret a => exact fun _ _ h => h
    | exc x => exact fun _ _ h => h.elim
    | stuck => exact fun _ _ h => h
    | choose n k ih =>
      intro b R h
      cases b with
      | zero => exact h
      | succ b => exact fun i hi => ih i b (h i hi)
    | begun k ih => exact fun b R h => ⟨h.1, ih _ h.2⟩
  exact go _ _ (h b hb hl)
end
/-- a loop with a word that holds on -/
theorem Yl.loop {t : IG} {s : IS} {k : Nat} (ds : List D) (I : Nat → Env → Prop) (h : ∀ j d Γ, ds[j]? = some d → I j Γ → Yl ((t d Γ).bind s) k fun fl => ∃ Γ', fl = .nx Γ' ∧ I (j + 1) Γ') {Γ : Env} (h0 : I 0 Γ) :
    Yl (loop t s ds Γ) (k * ds.length) fun fl => ∃ Γ', fl = .nx Γ' ∧ I ds.length Γ' := by
  have go : ∀ (r : List D) (j : Nat) (Γ : Env), ds.drop j = r → j ≤ ds.length → I j Γ → Yl (DL.loop t s r Γ) (k * r.length) fun fl => ∃ Γ', fl = .nx Γ' ∧ I ds.length Γ' := by
    intro r
    induction r with
    | nil =>
      intro j Γ e hj hI
      have : j = ds.length := by
        have := congrArg List.length e
        rw [List.length_drop] at this
        simp at this
        omega
      subst this
      exact Yl.ret ⟨Γ, rfl, hI⟩
    | cons d r ih =>
      intro j Γ e hj hI
      have hlt : j < ds.length := by
        have := congrArg List.length e
        rw [List.length_drop, List.length_cons] at this
        omega
      have ed : ds[j]? = some d := by
        rw [← List.head?_drop, e]; rfl
      have er : ds.drop (j + 1) = r := by
        rw [← List.tail_drop, e]; rfl
      have e2 : DL.loop t s (d :: r) Γ = ((t d Γ).bind s).bind fun fl => match fl with
        | .nx Γ2 => DL.loop t s r Γ2
        | .ct Γ2 => DL.loop t s r Γ2
        | .bk Γ2 => .ret (.nx Γ2)
        | .rt d => .ret (.rt d) := by
        have assoc : ∀ (m : M Env) (g : Fl → M Fl), m.bind (fun Γ1 => (s Γ1).bind g) = (m.bind s).bind g := by
          intro m g
          induction m with
          | ret a => rfl
          | exc x => rfl
          | stuck => rfl
          | choose n k ih => simp only [M.bind]; congr; funext i; exact ih i
          | begun k ih => simp only [M.bind]; rw [ih]
        show (t d Γ).bind (fun Γ1 => (s Γ1).bind _) = _
        rw [assoc]
        try congr
      rw [e2, List.length_cons, Nat.mul_succ, Nat.add_comm]
      refine (h j d Γ ed hI).bind fun fl hfl => ?_
      obtain ⟨Γ', rfl, hI'⟩ := hfl
      exact ih (j + 1) Γ' er (by omega) hI'
  exact go ds 0 Γ rfl (Nat.zero_le _) h0
/-! ### texts by their signs -/
def S (l : List Nat) : Str := ⟨l.toArray⟩
theorem S_list (l : List Nat) : (S l).cps.toList = l := rfl
theorem S_length (l : List Nat) : (S l).length = l.length := by show l.toArray.size = _; simp
theorem S_inj {l m : List Nat} (h : S l = S m) : l = m := by
  have := congrArg (fun z => z.cps.toList) h
  exact this
theorem S_eq {l m : List Nat} : S l = S m ↔ l = m := ⟨S_inj, fun h => by rw [h]⟩
theorem S_add (l m : List Nat) : (S l ++ S m : Str) = S (l ++ m) := by
  show (⟨l.toArray ++ m.toArray⟩ : Str) = _
  unfold S
  congr 1
  simp
theorem fAdd_S (l m : List Nat) (h : l.length + m.length ≤ sizeLine) : fAdd (.str (S l)) (.str (S m)) = some (.str (S (l ++ m))) := by
  have e : fAddS (.str (S l)) (.str (S m)) = some (.str (S (l ++ m))) := by
    show (if (S l).length + (S m).length ≤ sizeLine then some (D.str (S l ++ S m)) else none) = _
    rw [S_length, S_length, if_pos h, S_add]
  show (match fAddS (.str (S l)) (.str (S m)) with | some d => some d | none => _) = _
  rw [e]
theorem fLen_S (l : List Nat) (h : l.length ≤ sizeLine) : fLen [.str (S l)] = some (.int l.length) := by
  show (if (S l).length ≤ sizeLine then some (D.int (S l).length) else none) = _
  rw [S_length, if_pos h]
theorem atI_nat {α : Type} (l : List α) {i : Nat} (h : i < l.length) : atI l (i : Int) = some l[i] := by
  unfold atI ixN
  rw [if_pos (by omega), if_pos (by omega)]
  simp [h]
theorem fIx_S (l : List Nat) {i : Nat} (h : i < l.length) (hl : l.length ≤ sizeLine) : fIx (.str (S l)) (.int i) = some (.str (S [l[i]])) := by
  show (if (S l).length ≤ sizeLine then (atI (S l).cps.toList (i : Int)).map fun c => D.str ⟨#[c]⟩ else none) = _
  rw [S_length, if_pos hl, S_list, atI_nat l h]
  rfl
theorem fIx_lst (ds : List D) {i : Nat} (h : i < ds.length) : fIx (.lst ds) (.int i) = some ds[i] := by
  have e : fIxL (.lst ds) (.int i) = some ds[i] := atI_nat ds h
  show (match fIxL (.lst ds) (.int i) with | some d => some d | none => _) = _
  rw [e]
theorem fIx_tup (ds : List D) {i : Nat} (h : i < ds.length) : fIx (.tup ds) (.int i) = some ds[i] := by
  have e : fIxT (.tup ds) (.int i) = some ds[i] := atI_nat ds h
  show (match fIxT (.tup ds) (.int i) with | some d => some d | none => _) = _
  rw [e]
theorem fSl_take (l : List Nat) (k : Nat) (hl : l.length ≤ sizeLine) : fSl (.str (S l)) none (some (k : Int)) = some (.str (S (l.take k))) := by
  have e : fSlS (.str (S l)) none (some (k : Int)) = some (.str (S (l.take k))) := by
    show (if (S l).length ≤ sizeLine then some (D.str (cutS (S l) none (some (k : Int)))) else none) = _
    rw [S_length, if_pos hl]
    unfold cutS
    rw [S_length, S_list, HT.sIx_nat, HT.sIx_none, Nat.sub_zero, List.drop_zero]
    congr 2
    unfold S
    congr 2
    by_cases h : k ≤ l.length
    · rw [Nat.min_eq_left h]
    · rw [Nat.min_eq_right (by omega), List.take_of_length_le (by omega), List.take_of_length_le (by omega)]
  exact e
theorem fSl_drop (l : List Nat) (k : Nat) (hl : l.length ≤ sizeLine) : fSl (.str (S l)) (some (k : Int)) none = some (.str (S (l.drop k))) := by
  have e : fSlS (.str (S l)) (some (k : Int)) none = some (.str (S (l.drop k))) := by
    show (if (S l).length ≤ sizeLine then some (D.str (cutS (S l) (some (k : Int)) none)) else none) = _
    rw [S_length, if_pos hl]
    unfold cutS
    rw [S_length, S_list, HT.sIx_nat, HT.sIx_none]
    congr 2
    unfold S
    congr 2
    by_cases h : k ≤ l.length
    · rw [Nat.min_eq_left h]
      exact List.take_of_length_le (by simp)
    · rw [Nat.min_eq_right (by omega), List.drop_of_length_le (Nat.le_refl _), List.drop_of_length_le (by omega), List.take_nil]
  exact e
def abc : List Nat := (List.range 26).map (97 + ·)
theorem abc_eq : Str.ofString "abcdefghijklmnopqrstuvwxyz" = S abc := by decide +kernel
theorem abc_len : abc.length = 26 := by decide
theorem abc_at {i : Nat} (h : i < abc.length) : abc[i] = 97 + i := by
  simp [abc]
theorem empty_eq : Str.ofString "" = S [] := by decide +kernel
/-- small letters -/
def Low (l : List Nat) : Prop := ∀ c ∈ l, 97 ≤ c ∧ c ≤ 122
end DL
/-! Runs with draws, word by word. -/
namespace DL
open PySem PySem.Spec L2
section
variable {α : Type} {m : M α} {k l : Nat} {P : α → Prop}
theorem Yl.of_eq {a : α} (e : m = .ret a) (h : P a) : Yl m 0 P := e ▸ Yl.ret h
theorem Yl.seq {s t : IS} {Γ : DL.Env} {I : DL.Env → Prop} {P : Fl → Prop} (h : Yl (s Γ) k fun fl => ∃ Γ', fl = .nx Γ' ∧ I Γ') (h2 : ∀ Γ', I Γ' → Yl (t Γ') l P) : Yl (DL.sSeq s t Γ) (k + l) P := by
  unfold DL.sSeq
  refine h.bind fun fl hfl => ?_
  obtain ⟨Γ', rfl, hI⟩ := hfl
  exact h2 Γ' hI
theorem Yl.fn {n : Nat} {body : IS} {ds : List D} {P : D → Prop} (h : Yl (body (env0 n ds)) k fun fl => ∃ d, fl = .rt d ∧ P d) : Yl (runFn n body ds) k P := by
  unfold runFn
  refine (Yl.bind (l := 0) h fun fl hfl => ?_).mono (Nat.le_refl _) fun _ x => x
  obtain ⟨d, rfl, hd⟩ := hfl
  exact Yl.ret hd
theorem Yl.for_ {t : IG} {it : II} {s : IS} {Γ : DL.Env} {kk : Nat} (I : Nat → DL.Env → Prop) (hi : Yl (it Γ) l fun r => ∃ n, r = rngD 0 n ∧ n ≤ kk) (h0 : I 0 Γ)
    (h : ∀ j Γ, j < kk → I j Γ → Yl ((t (.int (j : Nat)) Γ).bind s) k fun fl => ∃ Γ', fl = .nx Γ' ∧ I (j + 1) Γ') :
    Yl (DL.sFor t it s Γ) (l + k * kk) fun fl => ∃ Γ', fl = .nx Γ' ∧ ∃ n, n ≤ kk ∧ I n Γ' := by
  unfold DL.sFor
  refine hi.bind fun r hr => ?_
  obtain ⟨n, rfl, hn⟩ := hr
  have hl : (rngD 0 n).length = n := by unfold rngD; simp
  refine (Yl.loop (rngD 0 n) I (fun j d Γ e hI => ?_) h0).mono (by rw [hl]; exact Nat.mul_le_mul_left _ hn) fun fl hf => ?_
  · have hj : j < n := by
      have := (List.getElem?_eq_some_iff.mp e).1
      rw [hl] at this
      exact this
    have ed : d = .int (j : Nat) := by
      unfold rngD at e
      rw [List.getElem?_map, List.getElem?_range hj] at e
      simpa using e.symm
    subst ed
    exact h j Γ (by omega) hI
  · obtain ⟨Γ', e, hI⟩ := hf
    exact ⟨Γ', e, n, hn, by rw [hl] at hI; exact hI⟩
end
theorem rOk_nat : ∀ n : Fin 21, rOk ((n.1 : Nat) : Int) = true := by decide +kernel
theorem rOk_lt {n : Nat} (h : n < 21) : rOk (n : Int) = true := rOk_nat ⟨n, h⟩
def itR (ds : List D) : M (List D) := match ds with
  | [.int j] => if rOk j = true then .ret (rngD 0 j.toNat) else .stuck
  | _ => .stuck
theorem itR_int (j : Int) : itR [.int j] = if rOk j = true then .ret (rngD 0 j.toNat) else .stuck := by
  unfold itR
  simp only
theorem itR_ok (j : Int) (h : rOk j = true) : itR [.int j] = .ret (rngD 0 j.toNat) := by
  rw [itR_int, if_pos h]
theorem itR_nat {n : Nat} (h : n < 21) : itR [.int n] = .ret (rngD 0 n) := by
  rw [itR_ok _ (rOk_lt h), Int.toNat_natCast]
theorem iiR1_eq (i : IE) (Γ : DL.Env) : iiR1 i Γ = (evs [i] Γ).bind itR := rfl
theorem evs_one {i : IE} {Γ : DL.Env} {d : D} (h : i Γ = .ret d) : evs [i] Γ = .ret [d] := by
  unfold evs
  rw [h]
  rfl
theorem rng_eq {n : Nat} (h : n < 21) {i : IE} {Γ : DL.Env} (hi : i Γ = .ret (.int n)) : iiR1 i Γ = .ret (rngD 0 n) := by
  rw [iiR1_eq, evs_one hi, M.ret_bind, itR_nat h]
theorem M.bind_assoc {α β γ : Type} (m : M α) (f : α → M β) (g : β → M γ) : (m.bind f).bind g = m.bind fun a => (f a).bind g := by
  induction m with
  | ret a => rfl
  | exc x => rfl
  | stuck => rfl
  | choose n k ih => simp only [M.bind]; congr; funext i; exact ih i
  | begun k ih => simp only [M.bind]; rw [ih]
theorem evs_bind (i : IE) (Γ : DL.Env) : evs [i] Γ = (i Γ).bind fun d => .ret [d] := by
  unfold evs
  rfl
theorem Yl.rng {n : Nat} (h : n < 21) {i : IE} {Γ : DL.Env} {k : Nat} (hi : Yl (i Γ) k fun d => ∃ j : Nat, j ≤ n ∧ d = .int j) : Yl (iiR1 i Γ) k fun r => ∃ j, r = rngD 0 j ∧ j ≤ n := by
  rw [iiR1_eq, evs_bind, M.bind_assoc]
  refine (Yl.bind (l := 0) hi fun d hd => ?_).mono (Nat.le_refl _) fun _ x => x
  obtain ⟨j, hj, rfl⟩ := hd
  rw [M.ret_bind, itR_nat (by omega)]
  exact Yl.ret ⟨j, rfl, hj⟩
theorem Yl.evs_cons {i : IE} {is : List IE} {Γ : DL.Env} {k l : Nat} {P : D → Prop} {Q : List D → Prop} (h : Yl (i Γ) k P) (h2 : Yl (evs is Γ) l Q) : Yl (evs (i :: is) Γ) (k + l) fun ds => ∃ d r, ds = d :: r ∧ P d ∧ Q r := by
  unfold evs
  refine (Yl.bind (k := k) (l := l) h fun d hd => ?_)
  refine (Yl.bind (l := 0) h2 fun r hr => ?_)
  exact Yl.ret ⟨d, r, rfl, hd, hr⟩
theorem Yl.evs_nil {Γ : DL.Env} : Yl (evs [] Γ) 0 fun ds => ds = [] := Yl.ret rfl
theorem fMul_one (c : Nat) : fMul (.str (S [c])) (.int 8) = some (.str (S (List.replicate 8 c))) := rfl
theorem nodup_range {α : Type} {n : Nat} {g : Nat → α} (h : ∀ i j, i < j → j < n → g i ≠ g j) : ((List.range n).map g).Nodup := by
  rw [List.Nodup, List.pairwise_map]
  refine List.Pairwise.imp_of_mem (fun {a b} ha hb hab => ?_) List.pairwise_lt_range
  exact h a b hab (List.mem_range.mp hb)
/-- a comprehension over range(n) -/
theorem lc_rng {i : IE} {n : Nat} {Γ : DL.Env} {e : Nat → D} (hn : n < 21) {it : IE} (hit : it Γ = .ret (.int n)) {t : IG} {own : List Nat} (h : ∀ k, k < n → ∃ Γ1, t (.int (k : Nat)) (wipeE Γ own) = .ret Γ1 ∧ i Γ1 = .ret (e k)) :
    iLc t (iiR1 it) cYes i own Γ = .ret (.lst ((List.range n).map e)) := by
  have key : ∀ d ∈ rngD 0 n, ∃ k, k < n ∧ d = .int (k : Nat) := fun d hd => by
    unfold rngD at hd
    obtain ⟨k, hk, rfl⟩ := List.mem_map.mp hd
    exact ⟨k, List.mem_range.mp hk, by simp⟩
  rw [lc_all (ds := rngD 0 n) (e := fun d => match d with | .int k => e k.toNat | _ => .non) (rng_eq hn hit) (fun d hd => ?_) (by unfold rngD; rw [List.length_map, List.length_range, sizeLine_eq]; omega)]
  · unfold rngD
    rw [List.map_map]
    congr 2
    refine List.map_congr_left fun k _ => ?_
    simp
  · obtain ⟨k, hk, rfl⟩ := key d hd
    obtain ⟨Γ1, e1, e2⟩ := h k hk
    exact ⟨Γ1, e1, by rw [e2]; simp⟩
end DL
/-! Runs that are looked at whole; words for a law's turns. -/
namespace DL
open PySem PySem.Spec L2
/-- a run that draws at most k times and always tells what p says, seen by looking at all of it -/
def okM {α : Type} (p : α → Bool) : Nat → M α → Bool
  | _, .ret a => p a
  | k + 1, .choose n f => (List.range n).all fun i => okM p k (f i)
  | _, _ => false
theorem okM_yl {α : Type} {p : α → Bool} : ∀ {k : Nat} {m : M α}, okM p k m = true → Yl m k fun a => p a = true := fun {k} => by
  induction k with
  | zero =>
    intro m h
    cases m with
    | ret a => exact (Yl.ret h).mono (Nat.le_refl _) fun _ x => x
    | _ => cases h
  | succ k ih =>
    intro m h
    cases m with
    | ret a => exact (Yl.ret h).mono (Nat.zero_le _) fun _ x => x
    | choose n f => exact Yl.choose fun i hi => ih (List.all_eq_true.mp h i (List.mem_range.mpr hi))
    | _ => cases h
theorem call1 {m : List D → M D} {i : IE} {Γ : DL.Env} {a : D} (h : i Γ = .ret a) : iCall m [i] Γ = m [a] := by
  unfold iCall
  rw [evs_one h]
  rfl
theorem call2 {m : List D → M D} {i j : IE} {Γ : DL.Env} {a b : D} (h : i Γ = .ret a) (h2 : j Γ = .ret b) : iCall m [i, j] Γ = m [a, b] := by
  unfold iCall evs
  rw [h, M.ret_bind, evs_one h2]
  rfl
theorem op_ok {i j : IE} {Γ : DL.Env} {a b d : D} {f : D → D → Option D} (h : i Γ = .ret a) (h2 : j Γ = .ret b) (h3 : f a b = some d) : iOp f i j Γ = .ret d := by
  unfold iOp
  rw [h, M.ret_bind, h2, M.ret_bind, h3]
theorem bi_ok {f : List D → Option D} {i : IE} {Γ : DL.Env} {a d : D} (h : i Γ = .ret a) (h2 : f [a] = some d) : iBi f [i] Γ = .ret d := by
  unfold iBi
  rw [evs_one h, M.ret_bind, h2]
theorem lim_big {n : Nat} (h : n ≤ 2 ^ 40) : n ≤ lim := by
  unfold lim
  exact Nat.le_trans h (Nat.pow_le_pow_right (by decide) (by decide))
theorem call0 {m : List D → M D} {Γ : DL.Env} {a : D} (h : iVar 0 Γ = .ret a) : iCall m [iVar 0] Γ = m [a] := call1 h
theorem Yl.at {α β : Type} {m : M α} {f : α → M β} {c B : Nat} {P : α → Prop} {v : β} (hB : B = lim) (h : Yl m c P) (hc : c ≤ B) (hf : ∀ a, P a → f a = .ret v) : (m.bind f).wpB B (fun d _ => d = v) (fun _ _ => False) := by
  refine (M.wpB_bind _ _).mpr (M.wpB_mono (fun a b ha => ?_) (fun _ _ x => x) _ _ (h B hc (Nat.le_of_eq hB)))
  rw [hf a ha.2.2]
  exact rfl
theorem gN_bind {α : Type} (n : Nat) (d : D) (Γ Γ' : DL.Env) (t : DL.Env → M α) (h : Γ.set n (some (.fz d)) = Γ') : (gN n d Γ).bind t = t Γ' := h ▸ rfl
theorem min2_ok {ns : List Int} {k : Nat} {Γ : DL.Env} (h : iVar 0 Γ = .ret (.scr ns)) : iBi fMin2 [(iBi fLen [(iVar 0)]), (iLit (.int k))] Γ = .ret (.int ((min ns.length k : Nat) : Int)) := by
  have e : iBi fLen [iVar 0] Γ = .ret (.int (ns.length : Nat)) := bi_ok h rfl
  have e2 : evs [(iBi fLen [(iVar 0)]), (iLit (.int k))] Γ = .ret [.int (ns.length : Nat), .int k] := by
    simp only [evs, e, iLit, M.ret_bind]
  have e3 : fMin2 [.int (ns.length : Nat), .int k] = some (.int ((min ns.length k : Nat) : Int)) := by
    unfold fMin2
    simp only
    congr 2
    split <;> omega
  unfold iBi at e2 ⊢
  rw [e2, M.ret_bind, e3]
/-- range(k + min(len(script), l)) -/
theorem walk_ok {ns : List Int} {k l : Nat} {Γ : DL.Env} (h : iVar 0 Γ = .ret (.scr ns)) (hk : k + l < 21) : ∃ j, j ≤ k + l ∧ iiR1 (iOp fAdd (iLit (.int k)) (iBi fMin2 [(iBi fLen [(iVar 0)]), (iLit (.int l))])) Γ = .ret (rngD 0 j) :=
  ⟨k + min ns.length l, by omega, rng_eq (by omega) (op_ok (a := .int k) (b := .int ((min ns.length l : Nat) : Int)) rfl (min2_ok h) (by rw [fAdd_int]; congr 2))⟩
end DL
namespace Lw
open PySem PySem.Spec L2 DL
def topS (i : Nat) : Stmt := PySem.Challenge.pw_handedvotes_k73_more_calls_by_names.main.body.getD i (.Pass ⟨0, 0, 0, 0⟩)
def clsS (i j : Nat) : Stmt := match topS i with
  | .ClassDef (body := body) .. => body.getD j (.Pass ⟨0, 0, 0, 0⟩)
  | _ => .Pass ⟨0, 0, 0, 0⟩
def tabB : List (String × TyK × Bool) := [("NoneType", .inl "bool", false), ("NoneType", .inl "int", false), ("NoneType", .inl "list", false), ("NoneType", .inl "str", false), ("NoneType", .inl "tuple", false), ("bool", .inl "bool", true), ("bool", .inl "int", true), ("bool", .inl "list", false), ("bool", .inl "str", false), ("bool", .inl "tuple", false), ("int", .inl "bool", false), ("int", .inl "int", true), ("int", .inl "list", false), ("int", .inl "str", false), ("int", .inl "tuple", false), ("str", .inl "bool", false), ("str", .inl "int", false), ("str", .inl "list", false), ("str", .inl "str", true), ("str", .inl "tuple", false), ("tuple", .inl "bool", false), ("tuple", .inl "int", false), ("tuple", .inl "list", false), ("tuple", .inl "str", false), ("tuple", .inl "tuple", true), ("list", .inl "bool", false), ("list", .inl "int", false), ("list", .inl "list", true), ("list", .inl "str", false), ("list", .inl "tuple", false), ("dict", .inl "bool", false), ("dict", .inl "int", false), ("dict", .inl "list", false), ("dict", .inl "str", false), ("dict", .inl "tuple", false), ("NoneType", .inr 6, false), ("NoneType", .inr 7, false), ("NoneType", .inr 8, false), ("bool", .inr 6, false), ("bool", .inr 7, false), ("bool", .inr 8, false), ("int", .inr 6, false), ("int", .inr 7, false), ("int", .inr 8, false), ("str", .inr 6, false), ("str", .inr 7, false), ("str", .inr 8, false), ("tuple", .inr 6, false), ("tuple", .inr 7, false), ("tuple", .inr 8, false), ("list", .inr 6, false), ("list", .inr 7, false), ("list", .inr 8, false), ("dict", .inr 6, false), ("dict", .inr 7, false), ("dict", .inr 8, false)]
def tabI : List (Nat × TyK × Bool) := [(6, .inl "bool", false), (6, .inl "int", false), (6, .inl "list", false), (6, .inl "str", false), (6, .inl "tuple", false), (7, .inl "bool", false), (7, .inl "int", false), (7, .inl "list", false), (7, .inl "str", false), (7, .inl "tuple", false), (8, .inl "bool", false), (8, .inl "int", false), (8, .inl "list", false), (8, .inl "str", false), (8, .inl "tuple", false), (6, .inr 6, true), (6, .inr 7, false), (6, .inr 8, false), (7, .inr 6, false), (7, .inr 7, true), (7, .inr 8, false), (8, .inr 6, false), (8, .inr 7, false), (8, .inr 8, true)]
def fIsI := fIsi (isTab tabB [] tabI)
def subT : List (Nat × Nat × Bool) := [(1, 1, true), (1, 2, false), (1, 3, false), (1, 4, false), (1, 5, false), (2, 1, false), (2, 2, true), (2, 3, false), (2, 4, false), (2, 5, false), (3, 1, false), (3, 2, false), (3, 3, true), (3, 4, false), (3, 5, false), (4, 1, false), (4, 2, false), (4, 3, false), (4, 4, true), (4, 5, false), (5, 1, false), (5, 2, false), (5, 3, false), (5, 4, false), (5, 5, true)]
def subX := subOf subT
def fields6 : List Str := ["names", "seats", "quota", "over", "hand", "order"]
def fields7 : List Str := ["rule", "papers", "numbers", "worths", "going", "seats", "standing"]
def fields8 : List Str := ["names", "papers"]
def at_papers : Nat → Option Nat := fun n => if n = 7 then some 1 else if n = 8 then some 1 else  none
def at_names : Nat → Option Nat := fun n => if n = 6 then some 0 else if n = 8 then some 0 else  none
def at_seats : Nat → Option Nat := fun n => if n = 6 then some 1 else if n = 7 then some 5 else  none
def at_hand : Nat → Option Nat := fun n => if n = 6 then some 4 else  none
def at_going : Nat → Option Nat := fun n => if n = 7 then some 4 else  none
def at_rule : Nat → Option Nat := fun n => if n = 7 then some 0 else  none
def at_order : Nat → Option Nat := fun n => if n = 6 then some 5 else  none
def at_standing : Nat → Option Nat := fun n => if n = 7 then some 6 else  none
def at_numbers : Nat → Option Nat := fun n => if n = 7 then some 2 else  none
def at_worths : Nat → Option Nat := fun n => if n = 7 then some 3 else  none
def at_quota : Nat → Option Nat := fun n => if n = 6 then some 2 else  none
def at_over : Nat → Option Nat := fun n => if n = 6 then some 3 else  none
/-- what the text's top has written -/
structure Md (L : Lx) (mg : Str → Option Value) (f : Nat → Addr) (fd : Nat → FuncData) (fI co tb : Nat → Addr) : Prop where
  F__law_begun : Fun L.K "_law_begun" "_law_begun" (topS 47) (f 0) (fd 0)
  g__law_begun : mg "_law_begun" = some (.ref (f 0))
  k__law_begun : PySem.W.keepIn L.K (.ref (f 0)) = true
  b__law_begun : Binds L.K (fd 0) ["script"] []
  F__law_next : Fun L.K "_law_next" "_law_next" (topS 48) (f 1) (fd 1)
  g__law_next : mg "_law_next" = some (.ref (f 1))
  k__law_next : PySem.W.keepIn L.K (.ref (f 1)) = true
  b__law_next : Binds L.K (fd 1) ["m", "many"] []
  F__is_word : Fun L.K "_is_word" "_is_word" (topS 21) (f 2) (fd 2)
  g__is_word : mg "_is_word" = some (.ref (f 2))
  k__is_word : PySem.W.keepIn L.K (.ref (f 2)) = true
  b__is_word : Binds L.K (fd 2) ["thing"] []
  F_is_ascending : Fun L.K "is_ascending" "is_ascending" (topS 13) (f 3) (fd 3)
  g_is_ascending : mg "is_ascending" = some (.ref (f 3))
  k_is_ascending : PySem.W.keepIn L.K (.ref (f 3)) = true
  b_is_ascending : Binds L.K (fd 3) ["things"] []
  F_are_names : Fun L.K "are_names" "are_names" (topS 19) (f 4) (fd 4)
  g_are_names : mg "are_names" = some (.ref (f 4))
  k_are_names : PySem.W.keepIn L.K (.ref (f 4)) = true
  b_are_names : Binds L.K (fd 4) ["thing"] []
  F_need_names : Fun L.K "need_names" "need_names" (topS 18) (f 5) (fd 5)
  g_need_names : mg "need_names" = some (.ref (f 5))
  k_need_names : PySem.W.keepIn L.K (.ref (f 5)) = true
  b_need_names : Binds L.K (fd 5) ["thing"] []
  F_is_pair : Fun L.K "is_pair" "is_pair" (topS 11) (f 6) (fd 6)
  g_is_pair : mg "is_pair" = some (.ref (f 6))
  k_is_pair : PySem.W.keepIn L.K (.ref (f 6)) = true
  b_is_pair : Binds L.K (fd 6) ["thing"] []
  F_is_paper : Fun L.K "is_paper" "is_paper" (topS 20) (f 7) (fd 7)
  g_is_paper : mg "is_paper" = some (.ref (f 7))
  k_is_paper : PySem.W.keepIn L.K (.ref (f 7)) = true
  b_is_paper : Binds L.K (fd 7) ["names", "thing"] []
  F_is_integer : Fun L.K "is_integer" "is_integer" (topS 9) (f 8) (fd 8)
  g_is_integer : mg "is_integer" = some (.ref (f 8))
  k_is_integer : PySem.W.keepIn L.K (.ref (f 8)) = true
  b_is_integer : Binds L.K (fd 8) ["thing"] []
  F__is_item : Fun L.K "_is_item" "_is_item" (topS 45) (f 9) (fd 9)
  g__is_item : mg "_is_item" = some (.ref (f 9))
  k__is_item : PySem.W.keepIn L.K (.ref (f 9)) = true
  b__is_item : Binds L.K (fd 9) ["names", "thing"] []
  F__need_papers : Fun L.K "_need_papers" "_need_papers" (topS 44) (f 10) (fd 10)
  g__need_papers : mg "_need_papers" = some (.ref (f 10))
  k__need_papers : PySem.W.keepIn L.K (.ref (f 10)) = true
  b__need_papers : Binds L.K (fd 10) ["names", "papers"] []
  F_Roll___init__ : Fun L.K "__init__" "Roll.__init__" (clsS 42 0) (f 11) (fd 11)
  b_Roll___init__ : Binds L.K (fd 11) ["self", "names", "papers"] []
  F_is_within : Fun L.K "is_within" "is_within" (topS 10) (f 12) (fd 12)
  g_is_within : mg "is_within" = some (.ref (f 12))
  k_is_within : PySem.W.keepIn L.K (.ref (f 12)) = true
  b_is_within : Binds L.K (fd 12) ["thing", "low", "high"] []
  F_is_integer_pair : Fun L.K "is_integer_pair" "is_integer_pair" (topS 12) (f 13) (fd 13)
  g_is_integer_pair : mg "is_integer_pair" = some (.ref (f 13))
  k_is_integer_pair : PySem.W.keepIn L.K (.ref (f 13)) = true
  b_is_integer_pair : Binds L.K (fd 13) ["thing"] []
  F_is_field : Fun L.K "is_field" "is_field" (topS 26) (f 14) (fd 14)
  g_is_field : mg "is_field" = some (.ref (f 14))
  k_is_field : PySem.W.keepIn L.K (.ref (f 14)) = true
  b_is_field : Binds L.K (fd 14) ["names", "place", "thing"] []
  F_Rule___init__ : Fun L.K "__init__" "Rule.__init__" (clsS 25 0) (f 15) (fd 15)
  b_Rule___init__ : Binds L.K (fd 15) ["self", "names", "seats", "quota", "over", "hand", "order"] []
  F_need_same_names : Fun L.K "need_same_names" "need_same_names" (topS 40) (f 16) (fd 16)
  g_need_same_names : mg "need_same_names" = some (.ref (f 16))
  k_need_same_names : PySem.W.keepIn L.K (.ref (f 16)) = true
  b_need_same_names : Binds L.K (fd 16) ["rule", "roll"] []
  F_units : Fun L.K "units" "units" (topS 27) (f 17) (fd 17)
  g_units : mg "units" = some (.ref (f 17))
  k_units : PySem.W.keepIn L.K (.ref (f 17)) = true
  b_units : Binds L.K (fd 17) ["rule"] []
  F_first_worths : Fun L.K "first_worths" "first_worths" (topS 32) (f 18) (fd 18)
  g_first_worths : mg "first_worths" = some (.ref (f 18))
  k_first_worths : PySem.W.keepIn L.K (.ref (f 18)) = true
  b_first_worths : Binds L.K (fd 18) ["rule", "papers"] []
  F__first_going : Fun L.K "_first_going" "_first_going" (topS 35) (f 19) (fd 19)
  g__first_going : mg "_first_going" = some (.ref (f 19))
  k__first_going : PySem.W.keepIn L.K (.ref (f 19)) = true
  b__first_going : Binds L.K (fd 19) ["paper", "going"] []
  F_stands : Fun L.K "stands" "stands" (topS 33) (f 20) (fd 20)
  g_stands : mg "stands" = some (.ref (f 20))
  k_stands : PySem.W.keepIn L.K (.ref (f 20)) = true
  b_stands : Binds L.K (fd 20) ["papers", "going"] []
  F_Count___init__ : Fun L.K "__init__" "Count.__init__" (clsS 37 0) (f 21) (fd 21)
  b_Count___init__ : Binds L.K (fd 21) ["self", "rule", "roll"] []
  F_has_ended : Fun L.K "has_ended" "has_ended" (topS 28) (f 22) (fd 22)
  g_has_ended : mg "has_ended" = some (.ref (f 22))
  k_has_ended : PySem.W.keepIn L.K (.ref (f 22)) = true
  b_has_ended : Binds L.K (fd 22) ["going", "seats"] []
  F_Count_is_over : Fun L.K "is_over" "Count.is_over" (clsS 37 1) (f 23) (fd 23)
  b_Count_is_over : Binds L.K (fd 23) ["self"] []
  F_Count_piles : Fun L.K "piles" "Count.piles" (clsS 37 2) (f 24) (fd 24)
  b_Count_piles : Binds L.K (fd 24) ["self"] []
  F_Count_has_quota : Fun L.K "has_quota" "Count.has_quota" (clsS 37 4) (f 25) (fd 25)
  b_Count_has_quota : Binds L.K (fd 25) ["self", "pile"] []
  F_Count_next_step : Fun L.K "next_step" "Count.next_step" (clsS 37 3) (f 26) (fd 26)
  b_Count_next_step : Binds L.K (fd 26) ["self"] []
  F_handed_on : Fun L.K "handed_on" "handed_on" (topS 34) (f 27) (fd 27)
  g_handed_on : mg "handed_on" = some (.ref (f 27))
  k_handed_on : PySem.W.keepIn L.K (.ref (f 27)) = true
  b_handed_on : Binds L.K (fd 27) ["rule", "worths", "standing", "step"] []
  F_without_name : Fun L.K "without_name" "without_name" (topS 29) (f 28) (fd 28)
  g_without_name : mg "without_name" = some (.ref (f 28))
  k_without_name : PySem.W.keepIn L.K (.ref (f 28)) = true
  b_without_name : Binds L.K (fd 28) ["going", "name"] []
  F_Count_take : Fun L.K "take" "Count.take" (clsS 37 5) (f 29) (fd 29)
  b_Count_take : Binds L.K (fd 29) ["self", "step"] []
  F_stages : Fun L.K "stages" "stages" (topS 38) (f 30) (fd 30)
  g_stages : mg "stages" = some (.ref (f 30))
  k_stages : PySem.W.keepIn L.K (.ref (f 30)) = true
  b_stages : Binds L.K (fd 30) ["rule", "roll"] []
  F_course : Fun L.K "course" "course" (topS 39) (f 31) (fd 31)
  g_course : mg "course" = some (.ref (f 31))
  k_course : PySem.W.keepIn L.K (.ref (f 31)) = true
  b_course : Binds L.K (fd 31) ["rule", "roll"] []
  F__need_paper : Fun L.K "_need_paper" "_need_paper" (topS 43) (f 32) (fd 32)
  g__need_paper : mg "_need_paper" = some (.ref (f 32))
  k__need_paper : PySem.W.keepIn L.K (.ref (f 32)) = true
  b__need_paper : Binds L.K (fd 32) ["names", "thing"] []
  F_Roll___getitem__ : Fun L.K "__getitem__" "Roll.__getitem__" (clsS 42 1) (f 33) (fd 33)
  b_Roll___getitem__ : Binds L.K (fd 33) ["self", "at"] []
  F_Roll__changed : Fun L.K "_changed" "Roll._changed" (clsS 42 10) (f 34) (fd 34)
  b_Roll__changed : Binds L.K (fd 34) ["self", "changes"] []
  F_Roll_exchanged : FunW L.K "exchanged" "Roll.exchanged" (clsS 42 9) (f 35) (fd 35)
  F_Roll___eq__ : Fun L.K "__eq__" "Roll.__eq__" (clsS 42 4) (f 36) (fd 36)
  b_Roll___eq__ : Binds L.K (fd 36) ["self", "other"] []
  F_law : Fun L.K "law" "law" (topS 49) (f 37) (fd 37)
  b_law : Binds L.K (fd 37) ["script"] []
  n_all : mg "all" = none
  n_bool : mg "bool" = none
  n_dict : mg "dict" = none
  n_enumerate : mg "enumerate" = none
  n_int : mg "int" = none
  n_isinstance : mg "isinstance" = none
  n_len : mg "len" = none
  n_list : mg "list" = none
  n_max : mg "max" = none
  n_min : mg "min" = none
  n_range : mg "range" = none
  n_set : mg "set" = none
  n_sorted : mg "sorted" = none
  n_str : mg "str" = none
  n_sum : mg "sum" = none
  n_tuple : mg "tuple" = none
  n_zip : mg "zip" = none
  i_MOST_NAMES : ∃ t, mg "MOST_NAMES" = some (.int 4 t)
  i__FEWEST_NAMES : ∃ t, mg "_FEWEST_NAMES" = some (.int 2 t)
  i__MOST_LETTERS : ∃ t, mg "_MOST_LETTERS" = some (.int 8 t)
  i__MOST_PARTS : ∃ t, mg "_MOST_PARTS" = some (.int 100 t)
  cd_Count_next_step : (fd 26).code = .ref (co 26)
  T_Count_next_step : (tb 26, lamQ "Count.next_step") ∈ L.T
  U_Count_next_step : ∀ p ∈ L.T, p.1 = tb 26 → p.2 = lamQ "Count.next_step"
  o_Roll_exchanged : MthOk L 8 "exchanged" (f 35)
  o_Count_is_over : MthOk L 7 "is_over" (f 23)
  o_Count_next_step : MthOk L 7 "next_step" (f 26)
  o_Count_piles : MthOk L 7 "piles" (f 24)
  o_Count_take : MthOk L 7 "take" (f 29)
  o_Count_has_quota : MthOk L 7 "has_quota" (f 25)
  o_Roll__changed : MthOk L 8 "_changed" (f 34)
  ne8 : NeOk L 8 (f 36)
  gi8 : GetOk L 8 (f 33)
  zs_FIELDS : TopS L.K (mg "FIELDS") [("seats" : Str), ("quota" : Str), ("over" : Str), ("hand" : Str), ("order" : Str)]
  z_NO_PAPER : ZTop L.K (mg "NO_PAPER")
  K0 : PickOk L.K (fd 31) ["rule", "roll"] 0 ["roll", "rule"] [] [.k 1, .k 0]
  K1 : PickOk L.K (fd 35) ["self", "paper", "other", "many"] 1 ["other", "paper"] [1] [.p 0, .k 1, .k 0, .d 0]
  c1 : mg "BadNames" = some (.ref (L.cA 1))
  h1 : L.cF 1 = [("value" : Str)]
  x1 : PySem.DLX.ExT L.K (L.cA 1) (fI 1) "value" "BadNames.__init__" "ValueError" "ValueError.__new__" "ValueError.__init__" [.type "ValueError", .type "Exception", .type "BaseException", .type "object"]
  c2 : mg "BadPaper" = some (.ref (L.cA 2))
  h2 : L.cF 2 = [("value" : Str)]
  x2 : PySem.DLX.ExT L.K (L.cA 2) (fI 2) "value" "BadPaper.__init__" "ValueError" "ValueError.__new__" "ValueError.__init__" [.type "ValueError", .type "Exception", .type "BaseException", .type "object"]
  c3 : mg "BadRoll" = some (.ref (L.cA 3))
  h3 : L.cF 3 = [("place" : Str)]
  x3 : PySem.DLX.ExT L.K (L.cA 3) (fI 3) "place" "BadRoll.__init__" "ValueError" "ValueError.__new__" "ValueError.__init__" [.type "ValueError", .type "Exception", .type "BaseException", .type "object"]
  c4 : mg "BadRule" = some (.ref (L.cA 4))
  h4 : L.cF 4 = [("place" : Str)]
  x4 : PySem.DLX.ExT L.K (L.cA 4) (fI 4) "place" "BadRule.__init__" "ValueError" "ValueError.__new__" "ValueError.__init__" [.type "ValueError", .type "Exception", .type "BaseException", .type "object"]
  c5 : mg "BadNumber" = some (.ref (L.cA 5))
  h5 : L.cF 5 = [("value" : Str)]
  x5 : PySem.DLX.ExT L.K (L.cA 5) (fI 5) "value" "BadNumber.__init__" "ValueError" "ValueError.__new__" "ValueError.__init__" [.type "ValueError", .type "Exception", .type "BaseException", .type "object"]
  c6 : mg "Rule" = some (.ref (L.cA 6))
  h6 : L.cF 6 = fields6
  cl6 : Cls L.K (L.cA 6)
  na6 : ∀ x ∈ fields6, NoAttr L.K (L.cA 6) x
  mk6 : Mk L.K (L.cA 6) (f 15)
  kc6 : PySem.W.keepIn L.K (.ref (L.cA 6)) = true
  c7 : mg "Count" = some (.ref (L.cA 7))
  h7 : L.cF 7 = fields7
  cl7 : Cls L.K (L.cA 7)
  na7 : ∀ x ∈ fields7, NoAttr L.K (L.cA 7) x
  mk7 : Mk L.K (L.cA 7) (f 21)
  kc7 : PySem.W.keepIn L.K (.ref (L.cA 7)) = true
  c8 : mg "Roll" = some (.ref (L.cA 8))
  h8 : L.cF 8 = fields8
  cl8 : Cls L.K (L.cA 8)
  na8 : ∀ x ∈ fields8, NoAttr L.K (L.cA 8) x
  mk8 : Mk L.K (L.cA 8) (f 11)
  kc8 : PySem.W.keepIn L.K (.ref (L.cA 8)) = true
  f_papers : ∀ n j, at_papers n = some j → (L.cF n).Nodup ∧ (L.cF n)[j]? = some "papers" ∧ Cls L.K (L.cA n) ∧ NoAttr L.K (L.cA n) "papers"
  f_names : ∀ n j, at_names n = some j → (L.cF n).Nodup ∧ (L.cF n)[j]? = some "names" ∧ Cls L.K (L.cA n) ∧ NoAttr L.K (L.cA n) "names"
  f_seats : ∀ n j, at_seats n = some j → (L.cF n).Nodup ∧ (L.cF n)[j]? = some "seats" ∧ Cls L.K (L.cA n) ∧ NoAttr L.K (L.cA n) "seats"
  f_hand : ∀ n j, at_hand n = some j → (L.cF n).Nodup ∧ (L.cF n)[j]? = some "hand" ∧ Cls L.K (L.cA n) ∧ NoAttr L.K (L.cA n) "hand"
  f_going : ∀ n j, at_going n = some j → (L.cF n).Nodup ∧ (L.cF n)[j]? = some "going" ∧ Cls L.K (L.cA n) ∧ NoAttr L.K (L.cA n) "going"
  f_rule : ∀ n j, at_rule n = some j → (L.cF n).Nodup ∧ (L.cF n)[j]? = some "rule" ∧ Cls L.K (L.cA n) ∧ NoAttr L.K (L.cA n) "rule"
  f_order : ∀ n j, at_order n = some j → (L.cF n).Nodup ∧ (L.cF n)[j]? = some "order" ∧ Cls L.K (L.cA n) ∧ NoAttr L.K (L.cA n) "order"
  f_standing : ∀ n j, at_standing n = some j → (L.cF n).Nodup ∧ (L.cF n)[j]? = some "standing" ∧ Cls L.K (L.cA n) ∧ NoAttr L.K (L.cA n) "standing"
  f_numbers : ∀ n j, at_numbers n = some j → (L.cF n).Nodup ∧ (L.cF n)[j]? = some "numbers" ∧ Cls L.K (L.cA n) ∧ NoAttr L.K (L.cA n) "numbers"
  f_worths : ∀ n j, at_worths n = some j → (L.cF n).Nodup ∧ (L.cF n)[j]? = some "worths" ∧ Cls L.K (L.cA n) ∧ NoAttr L.K (L.cA n) "worths"
  f_quota : ∀ n j, at_quota n = some j → (L.cF n).Nodup ∧ (L.cF n)[j]? = some "quota" ∧ Cls L.K (L.cA n) ∧ NoAttr L.K (L.cA n) "quota"
  f_over : ∀ n j, at_over n = some j → (L.cF n).Nodup ∧ (L.cF n)[j]? = some "over" ∧ Cls L.K (L.cA n) ∧ NoAttr L.K (L.cA n) "over"
  tab : TabOk L tabB [] tabI
  sb : ∀ e ∈ subT, PySem.W.exmOne L.K (.ref (L.cA e.1)) (.ref (L.cA e.2.1)) = some e.2.2
  er : L.er = none
  ks : L.gt = [] ∧ L.fz = false
variable {L : Lx} {mg : Str → Option Value} {f : Nat → Addr} {fd : Nat → FuncData} {fI co tb : Nat → Addr}
theorem Md.ms (M : Md L mg f fd fI co tb) (a : Addr) : Md (L.ms a) mg f fd fI co tb := ⟨M.F__law_begun, M.g__law_begun, M.k__law_begun, M.b__law_begun, M.F__law_next, M.g__law_next, M.k__law_next, M.b__law_next, M.F__is_word, M.g__is_word, M.k__is_word, M.b__is_word, M.F_is_ascending, M.g_is_ascending, M.k_is_ascending, M.b_is_ascending, M.F_are_names, M.g_are_names, M.k_are_names, M.b_are_names, M.F_need_names, M.g_need_names, M.k_need_names, M.b_need_names, M.F_is_pair, M.g_is_pair, M.k_is_pair, M.b_is_pair, M.F_is_paper, M.g_is_paper, M.k_is_paper, M.b_is_paper, M.F_is_integer, M.g_is_integer, M.k_is_integer, M.b_is_integer, M.F__is_item, M.g__is_item, M.k__is_item, M.b__is_item, M.F__need_papers, M.g__need_papers, M.k__need_papers, M.b__need_papers, M.F_Roll___init__, M.b_Roll___init__, M.F_is_within, M.g_is_within, M.k_is_within, M.b_is_within, M.F_is_integer_pair, M.g_is_integer_pair, M.k_is_integer_pair, M.b_is_integer_pair, M.F_is_field, M.g_is_field, M.k_is_field, M.b_is_field, M.F_Rule___init__, M.b_Rule___init__, M.F_need_same_names, M.g_need_same_names, M.k_need_same_names, M.b_need_same_names, M.F_units, M.g_units, M.k_units, M.b_units, M.F_first_worths, M.g_first_worths, M.k_first_worths, M.b_first_worths, M.F__first_going, M.g__first_going, M.k__first_going, M.b__first_going, M.F_stands, M.g_stands, M.k_stands, M.b_stands, M.F_Count___init__, M.b_Count___init__, M.F_has_ended, M.g_has_ended, M.k_has_ended, M.b_has_ended, M.F_Count_is_over, M.b_Count_is_over, M.F_Count_piles, M.b_Count_piles, M.F_Count_has_quota, M.b_Count_has_quota, M.F_Count_next_step, M.b_Count_next_step, M.F_handed_on, M.g_handed_on, M.k_handed_on, M.b_handed_on, M.F_without_name, M.g_without_name, M.k_without_name, M.b_without_name, M.F_Count_take, M.b_Count_take, M.F_stages, M.g_stages, M.k_stages, M.b_stages, M.F_course, M.g_course, M.k_course, M.b_course, M.F__need_paper, M.g__need_paper, M.k__need_paper, M.b__need_paper, M.F_Roll___getitem__, M.b_Roll___getitem__, M.F_Roll__changed, M.b_Roll__changed, M.F_Roll_exchanged, M.F_Roll___eq__, M.b_Roll___eq__, M.F_law, M.b_law, M.n_all, M.n_bool, M.n_dict, M.n_enumerate, M.n_int, M.n_isinstance, M.n_len, M.n_list, M.n_max, M.n_min, M.n_range, M.n_set, M.n_sorted, M.n_str, M.n_sum, M.n_tuple, M.n_zip, M.i_MOST_NAMES, M.i__FEWEST_NAMES, M.i__MOST_LETTERS, M.i__MOST_PARTS, M.cd_Count_next_step, M.T_Count_next_step, M.U_Count_next_step, ⟨M.o_Roll_exchanged.cl, M.o_Roll_exchanged.me, M.o_Roll_exchanged.no⟩, ⟨M.o_Count_is_over.cl, M.o_Count_is_over.me, M.o_Count_is_over.no⟩, ⟨M.o_Count_next_step.cl, M.o_Count_next_step.me, M.o_Count_next_step.no⟩, ⟨M.o_Count_piles.cl, M.o_Count_piles.me, M.o_Count_piles.no⟩, ⟨M.o_Count_take.cl, M.o_Count_take.me, M.o_Count_take.no⟩, ⟨M.o_Count_has_quota.cl, M.o_Count_has_quota.me, M.o_Count_has_quota.no⟩, ⟨M.o_Roll__changed.cl, M.o_Roll__changed.me, M.o_Roll__changed.no⟩, ⟨M.ne8.eq, M.ne8.fn, M.ne8.ne, M.ne8.ob⟩, ⟨M.gi8.fnd, M.gi8.fn, M.gi8.is⟩, M.zs_FIELDS, M.z_NO_PAPER, M.K0, M.K1, M.c1, M.h1, M.x1, M.c2, M.h2, M.x2, M.c3, M.h3, M.x3, M.c4, M.h4, M.x4, M.c5, M.h5, M.x5, M.c6, M.h6, M.cl6, M.na6, M.mk6, M.kc6, M.c7, M.h7, M.cl7, M.na7, M.mk7, M.kc7, M.c8, M.h8, M.cl8, M.na8, M.mk8, M.kc8, M.f_papers, M.f_names, M.f_seats, M.f_hand, M.f_going, M.f_rule, M.f_order, M.f_standing, M.f_numbers, M.f_worths, M.f_quota, M.f_over, ⟨M.tab.b, M.tab.e, M.tab.i⟩, M.sb, M.er, M.ks⟩
/-- the tables of code objects -/
structure Tbs (mg : Str → Option Value) (base : Heap) (co tb : Nat → Addr) : Prop where
  t_Count_next_step : LamX.TabB base mg (co 26) (tb 26)
end Lw
namespace Lw
open PySem PySem.Spec L2 DL
section
abbrev s25 : Stmt := topS 47
theorem sc25 : FnScope ["script", "cell"] ["script"] (defScope s25) := ⟨rfl, rfl, rfl, by decide +kernel, rfl, by decide +kernel, by decide +kernel⟩
instance : DecidablePred bitsOk := fun z => by unfold bitsOk; infer_instance
def mBegun : List D → M D
  | [.scr ns] => if ns.length ≤ 63 ∧ ∀ z ∈ ns, bitsOk z then .begun (.ret .rnd) else .stuck
  | _ => .stuck
theorem iteP {b : Bool} {A B : Prop} (h : b = true) (a : A) : if b = true then A else B := by rw [if_pos h]; exact a
theorem iteN {b : Bool} {A B : Prop} (h : b = false) (a : B) : if b = true then A else B := by rw [h]; simpa using a
theorem merge3 (x y z : V) : mergeK [] [(Sum.inr "cells", x), (Sum.inr "left", y), (Sum.inr "at", z)] = ([(Sum.inr "cells", x), (Sum.inr "left", y), (Sum.inr "at", z)] : List (Key × V)) := by
  have n1 : ¬ ((("cells" : Str)) = "left") := by decide +kernel
  have n2 : ¬ ((("cells" : Str)) = "at") := by decide +kernel
  have n3 : ¬ ((("left" : Str)) = "at") := by decide +kernel
  simp [mergeK, putK, n1, n2, n3]
variable {L : Lx} {P : Program} {w : World} {mg : Str → Option Value} {base : Heap}
theorem f25 {f : Addr} {fd : FuncData} (F : Fun L.K "_law_begun" "_law_begun" s25 f fd) (nlist : mg "list" = none) : FG L P w mg base 2 f fd ["script"] mBegun := by
  refine fg_raw F sc25 fun cdv A outer s H E vs Q hr sp hl => ?_
  obtain ⟨Γ, g, σ, ds, rp, l, wp⟩ := sp
  unfold mBegun at wp
  split at wp
  · rename_i ns
    split at wp
    · rename_i hn
      obtain ⟨a, rfl, hq⟩ : ∃ a, vs = [.ref a] ∧ SqL L.K g.F a (ns.map V.int) := by
        cases l with
        | cons h l =>
          cases h with
          | scr e =>
            cases l
            exact ⟨_, rfl, e⟩
      have hu := hu_of hr
      refine ⟨_, pss_one (ps_ret (pe_disp (pps_cons pe_str (pe_callTy call_list_of (by rfl) nlist (by decide +kernel) (pa_cons (pv 0) pa_nil))
        (pps_cons pe_str (pe_lc (own := [("cell", 1)]) rfl sc25.nd (pi_list (pv 0)) (show BlkOk ["script", "cell"] (defScope s25) _ _ from ⟨rfl, by decide +kernel, by decide +kernel, by decide +kernel, by decide +kernel⟩)
          (fun s H C cl fp => pg_name (i := 1) sc25.nd rfl (.inl rfl)) (fun s H C cl fp => pts_one (pt_cmpR op_ge (pv 1) (pe_op op_pow pe_int pe_int) (nomark _))) (fun s H C cl fp => pv 1))
        (pps_cons pe_str pe_int pps_nil))) rfl rfl (by simp) (by decide))), ?_⟩
      have up : ∀ {H1 : Hp} {x : Addr} {o u : HO}, H1 x = none → ∀ y, H1 y = some u → upd H1 x o y = some u := fun n y e => upd_keep n e
      have memo : g.mu = none := by
        cases q : g.mu with
        | none => rfl
        | some m =>
          obtain ⟨c, l, cs, ls, at_, _, _, _, _, _, _, _, _, h0, h1⟩ := rp.rnd.2 m q
          have := wp.1
          omega
      have fin : ∀ (p c D : Addr) (H2 : Hp), (∀ y o, H y = some o → H2 y = some o) → H p = none → H c = none → H D = none → c ≠ D → H2 p = some (.dK [(Sum.inr "cells", .ref c), (Sum.inr "left", .ref D), (Sum.inr "at", .int 0)]) →
          H2 c = some (.lst (ns.map V.int)) → H2 D = some (.lst ((ns.filter fun z => decide (10 ^ 18 ≤ z)).map V.int)) → Q (.ref p) H2 := fun p c D H2 kp np nc nD ncd e1 e2 e3 => by
        have inm : ∀ y o, H y = some o → ¬ InM (some p) H2 y := fun y o e ⟨m, em, h⟩ => by
          cases em
          rcases h with h | ⟨kvs, k, e', h⟩
          · rw [h, np] at e; cases e
          · rw [e1] at e'
            cases e'
            simp only [List.mem_cons, Prod.mk.injEq, V.ref.injEq, List.not_mem_nil, or_false] at h
            rcases h with ⟨_, h⟩ | ⟨_, h⟩ | ⟨_, h⟩
            · rw [h, nc] at e; cases e
            · rw [h, nD] at e; cases e
            · cases h
        have fl : ∀ z ∈ ns.filter (fun z => decide (10 ^ 18 ≤ z)), bitsOk z ∧ 0 ≤ z := fun z hz => by
          have := List.mem_filter.mp hz
          refine ⟨hn.2 z this.1, ?_⟩
          have h := of_decide_eq_true this.2
          omega
        refine wp.2 (.ref p) { F := g.F, mu := some p, bud := lim, nt := g.nt } H2 ⟨fun _ _ e => e, fun m e => (by rw [memo] at e; cases e), fun y o e => kp y o (rp.sub y o e), fun y o e _ _ => ⟨kp y o e, inm y o e⟩, fun y h => ⟨?_, fun e => .inl e⟩, fun y o e => inm y o (rp.sub y o e), ⟨fun e => (by cases e), fun m e => ?_⟩, ?_, ⟨fun q hq => ?_, fun ea en ed eu he => ?_⟩⟩ rfl (.rnd rfl)
        · cases e : H y with
          | none => exact absurd e h
          | some o => rw [kp y o e]; simp
        · cases e
          exact ⟨c, D, ns, _, 0, e1, e2, e3, ncd, hn.1, Nat.le_trans (List.length_filter_le _ _) hn.1, hn.2, fl, by decide, by simp⟩
        · show lim ≤ g.bud
          rw [wp.1]; omega
        · obtain ⟨ps, a1, a2, a3⟩ := rp.tab.1 q hq
          exact ⟨ps, kp _ _ a1, a2, fun pos cv hc => let ⟨c', z1, z2⟩ := a3 pos cv hc; ⟨c', z1, kp _ _ z2⟩⟩
        · obtain ⟨f, a1, a2⟩ := rp.tab.2 ea en ed eu he
          exact ⟨f, a1, kp _ _ a2⟩
      intro p np
      have q0 := sqL_mono (K := L.K) (fun y o e => up (o := .dK []) np y (rp.sub y o e)) hq
      refine ⟨_, rfl, a, _, rfl, .inl q0, fun c nc => ?_⟩
      have q1 := sqL_mono (K := L.K) (fun y o e => up (o := .lst (ns.map V.int)) nc y e) q0
      refine ⟨_, rfl, a, rfl, ⟨_, q1⟩, fun D nD => ?_⟩
      refine ⟨fun j m Hj => j ≤ ns.length ∧ m = ns.length - j ∧ Hj D = some (.lst (((ns.take j).filter fun z => decide (10 ^ 18 ≤ z)).map V.int)) ∧ ∀ y o, upd (upd H p (.dK [])) c (.lst (ns.map V.int)) y = some o → Hj y = some o, ⟨_, Nat.zero_le _, rfl, upd_same, fun y o e => up nD y e⟩, ?_⟩
      rintro j m Hj ⟨hj, rfl, eD, kp⟩
      have qj := sqL_mono (K := L.K) kp q1
      by_cases hlt : j < ns.length
      · refine .inr ⟨⟨_, _, qj, by rw [List.getElem?_map, List.getElem?_eq_getElem hlt]; rfl⟩, fun Hn => Hn D = some (.lst (((ns.take (j + 1)).filter fun z => decide (10 ^ 18 ≤ z)).map V.int)) ∧ ∀ y o, upd (upd H p (.dK [])) c (.lst (ns.map V.int)) y = some o → Hn y = some o, fun H' h => ⟨_, by omega, hlt, rfl, h⟩, fun x H' h => ?_⟩
        obtain ⟨rfl, hx⟩ := h
        have ex := hx _ qj
        rw [List.getElem?_map, List.getElem?_eq_getElem hlt] at ex
        cases ex
        have et : ns.take (j + 1) = ns.take j ++ [ns[j]] := List.take_succ_eq_append_getElem hlt
        refine ⟨rfl, _, rfl, _, _, rfl, rfl, ⟨by decide, by decide, by decide⟩, _, _, rfl, rfl, _, rfl, ?_⟩
        by_cases hz : (10 : Int) ^ 18 ≤ ns[j]
        · have et2 : (ns.take (j + 1)).filter (fun z => decide (10 ^ 18 ≤ z)) = (ns.take j).filter (fun z => decide (10 ^ 18 ≤ z)) ++ [ns[j]] := by
            rw [et, List.filter_append, List.filter_cons_of_pos (by exact decide_eq_true hz), List.filter_nil]
          refine iteP (decide_eq_true hz) ⟨_, rfl, _, eD, ?_, ?_, fun y o e => ?_⟩
          · rw [List.length_map]
            exact Nat.lt_of_le_of_lt (List.length_filter_le _ _) (Nat.lt_of_le_of_lt (List.length_take_le _ _) (Nat.lt_of_le_of_lt (Nat.le_trans hj hn.1) (by decide)))
          · rw [et2, List.map_append, upd_same]; rfl
          · have : y ≠ D := fun z => by rw [z, nD] at e; cases e
            rw [upd_ne this]; exact kp y o e
        · have et2 : (ns.take (j + 1)).filter (fun z => decide (10 ^ 18 ≤ z)) = (ns.take j).filter (fun z => decide (10 ^ 18 ≤ z)) := by
            rw [et, List.filter_append, List.filter_cons_of_neg (by rw [decide_eq_false hz]; decide), List.filter_nil, List.append_nil]
          refine iteN (decide_eq_false hz) ⟨?_, kp⟩
          rw [et2]; exact eD
      · have e : j = ns.length := by omega
        subst e
        rw [List.take_length] at eD
        refine .inl ⟨⟨_, qj, by simp⟩, ?_⟩
        have npc : c ≠ p := fun z => by rw [z, upd_same] at nc; cases nc
        have nDc : c ≠ D := fun z => by rw [z, upd_same] at nD; cases nD
        have nDp : D ≠ p := fun z => by rw [z, upd_ne npc.symm, upd_same] at nD; cases nD
        have ncH : H c = none := by rw [upd_ne npc] at nc; exact nc
        have nDH : H D = none := by rw [upd_ne nDc.symm, upd_ne nDp] at nD; exact nD
        have ep := kp p (.dK []) (by rw [upd_ne npc.symm, upd_same])
        refine ⟨ep, [(Sum.inr "cells", .ref c), (Sum.inr "left", .ref D), (Sum.inr "at", .int 0)], rfl, by show 3 ≤ 15; decide, ?_⟩
        rw [merge3]
        refine fin p c D _ (fun y o e => ?_) np ncH nDH nDc upd_same ?_ ?_
        · have n1 : y ≠ p := fun z => by rw [z, np] at e; cases e
          have n2 : y ≠ c := fun z => by rw [z, ncH] at e; cases e
          rw [upd_ne n1]
          exact kp y o (by rw [upd_ne n2, upd_ne n1]; exact e)
        · rw [upd_ne npc]; exact kp c _ upd_same
        · rw [upd_ne nDp]; exact eD
    · exact wp.elim
  · exact wp.elim
end
section
abbrev s26 : Stmt := topS 48
theorem sc26 : FnScope ["m", "many", "rest", "at", "bits", "cell", "blend"] ["m", "many"] (defScope s26) := ⟨rfl, rfl, rfl, by decide +kernel, rfl, by decide +kernel, by decide +kernel⟩
def mNext : List D → M D
  | [.rnd, .int n] => if 0 < n ∧ n < 2 ^ 60 then .choose n.toNat fun i => .ret (.int (i : Nat)) else .stuck
  | _ => .stuck
theorem iteT' {α : Type} [DecidableEq α] {x y : α} {A B : Prop} (h : ¬ x = y) (a : A) : if (!decide (x = y)) = true then A else B := by
  rw [decide_eq_false h]
  exact iteT a
theorem iteF' {α : Type} [DecidableEq α] {x y : α} {A B : Prop} (h : x = y) (a : B) : if (!decide (x = y)) = true then A else B := by
  rw [decide_eq_true h]
  exact iteF a
theorem iteFz {z : Int} {A B : Prop} (h : ¬ z = 0) (a : B) : if decide (V.int z = V.int 0) = true then A else B := by
  rw [decide_eq_false (fun e => h (V.int.inj e))]
  exact iteF a
variable {L : Lx} {P : Program} {w : World} {mg : Str → Option Value} {base : Heap}
theorem f26 {f : Addr} {fd : FuncData} (F : Fun L.K "_law_next" "_law_next" s26 f fd) (nlen : mg "len" = none) (nint : mg "int" = none) : FG L P w mg base 2 f fd ["m", "many"] mNext := by
  refine fg_raw F sc26 fun cdv A outer s H E vs Q hr sp hl => ?_
  obtain ⟨Γ, g, σ, ds, rp, l, wp⟩ := sp
  unfold mNext at wp
  split at wp
  · rename_i n
    split at wp
    · rename_i hn
      obtain ⟨am, rfl, hm⟩ : ∃ am, vs = [.ref am, .int n] ∧ g.mu = some am := by
        cases l with
        | cons a l =>
          cases a with
          | rnd e =>
            cases l with
            | cons b l =>
              cases b
              cases l
              exact ⟨_, rfl, e⟩
      obtain ⟨c, ll, cs, ls, at0, e1, e2, e3, ncl, hcs, hls, bcs, bls, hat, hbud⟩ := rp.rnd.2 am hm
      have hu := hu_of hr
      obtain ⟨b, eb⟩ : ∃ b, g.bud = b + 1 := by
        cases q : g.bud with
        | zero => rw [q] at wp; exact wp.elim
        | succ b => exact ⟨b, rfl⟩
      rw [eb] at wp
      have hu64 : (A.deeper (PyProof.Rows.envOfC "_law_next" (defScope s26) s.heap.objs.size f cdv)).units + 64 < cLine := hr.units
      refine ⟨_, pss_cons (ps_while (passes_of rfl) (PW.pt (pw_and (pt_cmpR (op_neD hu64) (pe_dget hu (pv 0) pe_str (fun _ _ => rfl)) (pe_lst pa_nil) (nomark _)) (pw_and1 (pt_cmpR op_eq (pe_ix ix_list (pe_dget hu (pv 0) pe_str (fun _ _ => rfl)) pe_int (fun _ _ => rfl)) pe_int (nomark _)))))
          (pss_one (ps_dput hu (pv 0) pe_str (pe_slice sl_list (pe_dget hu (pv 0) pe_str (fun _ _ => rfl)) (po_some pe_int) po_none) rfl)))
        (pss_cons (ps_if (pt_cmpR (op_neD hu64) (pe_dget hu (pv 0) pe_str (fun _ _ => rfl)) (pe_lst pa_nil) (nomark _))
            (pss_cons (ps_set (i := 2) sc26.nd rfl (.inl rfl) (pe_ix ix_list (pe_dget hu (pv 0) pe_str (fun _ _ => rfl)) pe_int (fun _ _ => rfl)))
            (pss_cons (ps_asg (pe_op op_fdivW (pv 2) (pv 1)) (pg_sub (pe_dget hu (pv 0) pe_str (fun _ _ => rfl)) pe_int set_list))
            (pss_one (ps_ret (pe_op op_mod (pe_callTy call_int1 (by rfl) nint (by decide +kernel) (pa_cons (pv 2) pa_nil)) (pv 1)))))) pss_nil)
        (pss_cons (ps_par (i := 3) (j := 4) rfl sc26.nd rfl rfl (by decide) rfl rfl (pa_cons (pe_op op_add (pe_dget hu (pv 0) pe_str (fun _ _ => rfl)) pe_int) (pa_cons (pe_dget hu (pv 0) pe_str (fun _ _ => rfl)) pa_nil)) (by rfl))
        (pss_cons (ps_dput hu (pv 0) pe_str (pv 3) rfl)
        (pss_cons (ps_set (i := 5) sc26.nd rfl (.inl rfl) (pe_ifExp (pt_cmpR (op_neD hu64) (pv 4) (pe_lst pa_nil) (nomark _))
            (pe_callTy call_int1 (by rfl) nint (by decide +kernel) (pa_cons (pe_ix ix_list (pv 4) (pe_op op_mod (pe_callTy call_int1 (by rfl) nint (by decide +kernel) (pa_cons (pe_op op_add (pe_op op_mulW (pv 3) (pv 3)) (pe_op op_fdivW (pv 3) pe_int)) pa_nil)) (pe_callB call_len (by rfl) nlen (by decide +kernel) (pa_cons (pv 4) pa_nil))) (fun _ _ => rfl)) pa_nil)) pe_int))
        (pss_cons (ps_set (i := 6) sc26.nd rfl (.inl rfl) (pe_op op_mod (pe_callTy call_int1 (by rfl) nint (by decide +kernel) (pa_cons (pe_op op_add (pe_op op_add (pe_op op_mul (pv 5) pe_int) (pe_op op_mulW (pv 3) pe_int)) (pe_op op_mulW (pe_op op_mulW pe_int (pv 3)) (pv 3))) pa_nil)) pe_int))
        (pss_one (ps_ret (pe_op op_mod (pe_callTy call_int1 (by rfl) nint (by decide +kernel) (pa_cons (pe_op op_fdivW (pe_op op_mod (pe_callTy call_int1 (by rfl) nint (by decide +kernel) (pa_cons (pe_op op_add (pe_op op_mulW (pv 6) pe_int) (pe_op op_mulW pe_int (pv 3))) pa_nil)) pe_int) pe_int) pa_nil)) (pv 1)))))))))
        , ?_⟩
      have m0 : MS am c ll cs H ll ls at0 H := ⟨e1, e2, e3, ncl, ⟨_, e3⟩, .inl rfl, fun a o e _ _ => e⟩
      have fin : ∀ (l' : Addr) (ls' : List Int) (at_ r : Int) (H1 : Hp), MS am c ll cs H l' ls' at_ H1 → ls'.length ≤ 63 → (∀ z ∈ ls', bitsOk z ∧ 0 ≤ z) → (0 ≤ at_ ∧ at_.toNat + b ≤ lim) → 0 ≤ r → r < n → Q (.int r) H1 := fun l' ls' at_ r H1 s h1 h2 h3 h4 h5 => by
        have ok : MOk b H1 am := ⟨c, l', cs, ls', at_, s.atM, s.atC, s.atL, s.ncl, hcs, h1, bcs, h2, h3.1, h3.2⟩
        have q := wp r.toNat (by omega) (.int r) { g with bud := b } H1 (s.stp rp hm e1 e2 e3 ok (by omega)) rfl
        rw [show ((r.toNat : Nat) : Int) = r by omega] at q
        exact q (.int r)
      refine ⟨fun k σ1 H1 => σ1 = L2.start ["m", "many", "rest", "at", "bits", "cell", "blend"] [V.ref am, V.int n] ∧ ∃ l' ls', k = ls'.length ∧ MS am c ll cs H l' ls' at0 H1 ∧ ls'.length ≤ 63 ∧ ∀ z ∈ ls', bitsOk z ∧ 0 ≤ z, ⟨ls.length, rfl, ll, ls, rfl, m0, hls, bls⟩, ?_⟩
      rintro k σ1 H1 ⟨rfl, l1, ls1, rfl, s1, z1, b1⟩
      refine rd_l s1 rfl ⟨by decide, fun p1 n1 => ne_nil s1.atL n1 ⟨_, rfl, ?_⟩⟩
      have s2 : MS am c ll cs H l1 ls1 at0 (upd H1 p1 (.lst [])) := s1.lay n1
      have n64 : n.natAbs.log2 < 9000 := Nat.lt_trans (Nat.log2_lt (by omega) |>.mpr (show n.natAbs < 2 ^ 60 by omega)) (by decide)
      cases ls1 with
      | nil =>
        refine iteF (rd_l s2 rfl ⟨by decide, fun p2 n2 => ne_nil s2.atL n2 ⟨_, rfl, iteF ?_⟩⟩)
        have s3 := s2.lay (o := .lst []) n2
        refine rd_a s3 rfl ⟨_, _, rfl, rfl, rd_c s3 rfl ⟨_, _, rfl, ?_⟩⟩
        refine ⟨_, rfl, _, rfl, am, _, rfl, DPut.k (k := Sum.inr "at") s3.atM (by show 3 < sizeLine; decide), ?_⟩
        have s4 := s3.setAt (at0 + 1)
        have ha : 0 ≤ at0 + 1 := by omega
        have hb : (at0 + 1).toNat + b ≤ lim := by omega
        have hbits := lim_abs ha (show (at0 + 1).toNat ≤ lim + 1 by omega)
        have big : ∀ (cell : Int) (H2 : Hp), bitsOk cell → MS am c ll cs H l1 [] (at0 + 1) H2 → CMul cell 40692 ∧ CMulW (at0 + 1) 65539 ∧ CMulW 7001 (at0 + 1) ∧ CMulW (7001 * (at0 + 1)) (at0 + 1) ∧ CMulW ((cell * 40692 + (at0 + 1) * 65539 + 7001 * (at0 + 1) * (at0 + 1)) % 2147483399) 48271 ∧ CMulW 1013 (at0 + 1) := fun cell H2 _ _ => by
          have e1 : (7001 : Int).natAbs < 2 ^ 13 := by decide
          have m1 := wide_lt e1 hbits
          have r0 := Int.emod_nonneg (cell * 40692 + (at0 + 1) * 65539 + 7001 * (at0 + 1) * (at0 + 1)) (show (2147483399 : Int) ≠ 0 by decide)
          have r1 := Int.emod_lt_of_pos (cell * 40692 + (at0 + 1) * 65539 + 7001 * (at0 + 1) * (at0 + 1)) (show (0 : Int) < 2147483399 by decide)
          have r2 : ((cell * 40692 + (at0 + 1) * 65539 + 7001 * (at0 + 1) * (at0 + 1)) % 2147483399).natAbs < 2 ^ 32 := by
            have : (2 : Nat) ^ 32 = 4294967296 := by decide
            omega
          exact ⟨.inr ⟨by decide, by decide⟩, wide_mul hbits (show (65539 : Int).natAbs < 2 ^ 17 by decide) (by decide) (by decide) (by decide), wide_mul e1 hbits (by decide) (by decide) (by decide), wide_mul m1 hbits (by decide) (by decide) (by decide),
            wide_mul r2 (show (48271 : Int).natAbs < 2 ^ 16 by decide) (by decide) (by decide) (by decide), wide_mul (show (1013 : Int).natAbs < 2 ^ 10 by decide) hbits (by decide) (by decide) (by decide)⟩
        refine ⟨_, rfl, by decide, fun p3 n3 => ne_nil s4.atC n3 ⟨_, rfl, ?_⟩⟩
        have s5 := s4.lay (o := .lst []) n3
        have wsq : CMulW (at0 + 1) (at0 + 1) := wide_mul hbits hbits (by decide) (by decide) (by decide)
        by_cases hcs0 : cs = []
        · refine iteF' hcs0 ?_
          obtain ⟨q1, q2, q3, q4, q5, q6⟩ := big 5 _ (Nat.lt_of_lt_of_le (show (5 : Int).natAbs < 2 ^ 3 by decide) (Nat.pow_le_pow_right (by decide) (by decide))) s5
          refine ⟨_, rfl, _, _, rfl, rfl, q1, _, rfl, _, _, rfl, rfl, q2, _, _, rfl, rfl, _, rfl, _, _, rfl, rfl, q3, _, rfl, _, _, rfl, rfl, q4, _, _, rfl, rfl, .inl ⟨_, rfl, _, _, rfl, rfl, (by show (0 : Int) < 2147483399; decide), ?_⟩⟩
          refine ⟨_, rfl, _, _, rfl, rfl, q5, _, rfl, _, _, rfl, rfl, q6, _, _, rfl, rfl, .inl ⟨_, rfl, _, _, rfl, rfl, (by show (0 : Int) < 2147483647; decide), _, _, rfl, rfl, ⟨by decide, by decide⟩, .inl ⟨_, rfl, _, rfl, _, _, rfl, rfl, hn.1, ?_⟩⟩⟩
          exact fin l1 [] (at0 + 1) _ _ s5 (by decide) (by intro z hz; cases hz) ⟨ha, hb⟩ (Int.emod_nonneg _ (by omega)) (Int.emod_lt_of_pos _ hn.1)
        · refine iteT' hcs0 ?_
          have lpos : 0 < (cs.length : Int) := by
            have : cs.length ≠ 0 := fun z => hcs0 (List.eq_nil_of_length_eq_zero z)
            omega
          have i0 := Int.emod_nonneg ((at0 + 1) * (at0 + 1) + (at0 + 1) / 2) (show (cs.length : Int) ≠ 0 by omega)
          have i1 := Int.emod_lt_of_pos ((at0 + 1) * (at0 + 1) + (at0 + 1) / 2) lpos
          obtain ⟨z, hz, ez⟩ := at_ints (zs := cs) i0 i1
          obtain ⟨q1, q2, q3, q4, q5, q6⟩ := big z _ (bcs z hz) s5
          refine ⟨_, rfl, _, rfl, _, rfl, _, _, rfl, rfl, wsq, _, rfl, _, _, rfl, rfl, ⟨by decide, by decide⟩, _, _, rfl, rfl, .inl ⟨_, rfl, _, rfl, _, cs.length, rfl, .inl ⟨_, SqL.of s5.atC, by simp⟩, _, _, rfl, rfl, lpos, c, _, _, .int z, rfl, rfl, SqL.of s5.atC, ez, .inl ⟨_, rfl, ?_⟩⟩⟩
          refine ⟨_, rfl, _, _, rfl, rfl, q1, _, rfl, _, _, rfl, rfl, q2, _, _, rfl, rfl, _, rfl, _, _, rfl, rfl, q3, _, rfl, _, _, rfl, rfl, q4, _, _, rfl, rfl, .inl ⟨_, rfl, _, _, rfl, rfl, (by show (0 : Int) < 2147483399; decide), ?_⟩⟩
          refine ⟨_, rfl, _, _, rfl, rfl, q5, _, rfl, _, _, rfl, rfl, q6, _, _, rfl, rfl, .inl ⟨_, rfl, _, _, rfl, rfl, (by show (0 : Int) < 2147483647; decide), _, _, rfl, rfl, ⟨by decide, by decide⟩, .inl ⟨_, rfl, _, rfl, _, _, rfl, rfl, hn.1, ?_⟩⟩⟩
          exact fin l1 [] (at0 + 1) _ _ s5 (by decide) (by intro z hz; cases hz) ⟨ha, hb⟩ (Int.emod_nonneg _ (by omega)) (Int.emod_lt_of_pos _ hn.1)
      | cons z ls1 =>
        have bz := b1 z List.mem_cons_self
        refine iteT (rd_l s2 rfl ⟨l1, _, 0, .int z, rfl, rfl, SqL.of s2.atL, atI_nat (j := 0) rfl, by rfl, _, rfl, ?_⟩)
        by_cases hz : z = 0
        · subst hz
          refine iteT ⟨_, fun σ' H' h => h, ?_⟩
          refine rd_l s2 rfl ⟨1, rfl, l1, _, rfl, SqL.of s2.atL, fun p n2 => ⟨_, rfl, am, _, rfl, DPut.k (k := Sum.inr "left") (upd_keep n2 s2.atM) (by show 3 < sizeLine; decide), ls1.length, Nat.lt_succ_self _, rfl, p, ls1, rfl, ?_, Nat.le_of_succ_le z1, fun z hz => b1 z (List.mem_cons_of_mem _ hz)⟩⟩
          have s3 := s2.lay (o := .lst (cutV ((0 :: ls1).map V.int) (some 1) none)) n2
          have ec : cutV ((0 :: ls1).map V.int) (some 1) none = ls1.map V.int := by
            simp [cutV, HT.sIx, List.take_of_length_le]
          refine s3.setLeft (p := p) (zs := ls1) (by rw [upd_same, ec]) ?_ fun e => ?_
          · cases q : H p with
            | none => rfl
            | some o =>
              have h1 : p ≠ am := fun e => by rw [e, s2.atM] at n2; cases n2
              have h2 : p ≠ ll := fun e => by obtain ⟨zs, e'⟩ := s2.old; rw [e, e'] at n2; cases n2
              rw [s2.keep p o q h1 h2] at n2; cases n2
          · rw [← e, s2.atC] at n2; cases n2
        · refine iteFz hz (rd_l s2 rfl ⟨by decide, fun p2 n2 => ne_nil s2.atL n2 ⟨_, rfl, iteT ?_⟩⟩)
          have s3 := s2.lay (o := .lst []) n2
          refine rd_l s3 rfl ⟨l1, _, 0, .int z, rfl, rfl, SqL.of s3.atL, atI_nat (j := 0) rfl, ?_⟩
          refine ⟨_, rfl, _, rfl, _, _, rfl, rfl, ⟨hn.1, n64⟩, rd_l s3 rfl ⟨l1, _, 0, 0, rfl, rfl, s3.atL, (by unfold ixN; rw [if_pos (by decide), if_pos (by simp only [List.length_map, List.length_cons]; omega)]; rfl), ?_⟩⟩
          have s4 := s3.setItem (zs := (z / n) :: ls1)
          refine ⟨_, rfl, .inl ⟨_, rfl, _, rfl, _, _, rfl, rfl, hn.1, ?_⟩⟩
          have dz : 0 ≤ z / n := Int.ediv_nonneg bz.2 (by omega)
          have dl : z / n ≤ z := Int.ediv_le_self _ bz.2
          exact fin l1 ((z / n) :: ls1) at0 _ _ s4 z1 (fun y hy => by
            rcases List.mem_cons.mp hy with e | hy
            · subst e; exact ⟨wide_le dz dl bz.1, dz⟩
            · exact b1 y (List.mem_cons_of_mem _ hy)) ⟨hat, by omega⟩ (Int.emod_nonneg _ (by omega)) (Int.emod_lt_of_pos _ hn.1)
    · exact wp.elim
  · exact wp.elim
end
end Lw
namespace Lw
open PySem PySem.Spec L2 DL
variable {L : Lx} {P : Program} {w : World} {mg : Str → Option Value} {base : Heap} {f : Nat → Addr} {fd : Nat → FuncData} {fI co tb : Nat → Addr}
theorem g__law_begun (M : Md L mg f fd fI co tb) : FG L P w mg base 2 (f 0) (fd 0) ["script"] mBegun := f25 M.F__law_begun M.n_list
abbrev m__law_begun := mBegun
theorem g__law_next (M : Md L mg f fd fI co tb) : FG L P w mg base 2 (f 1) (fd 1) ["m", "many"] mNext := f26 M.F__law_next M.n_len M.n_int
abbrev m__law_next := mNext
abbrev N__is_word : List Str := ["thing", "letter"]
abbrev s__is_word : Stmt := (topS 21)
theorem sc__is_word : FnScope N__is_word ["thing"] (defScope s__is_word) := ⟨rfl, rfl, rfl, by decide +kernel, rfl, by decide +kernel, by decide +kernel⟩
def b__is_word : IS := (sSeq (sIf (orB (notB (asB (iBi fIsI [(iVar 0), (iLit (.ty "str"))]))) (notB (asB (iChain fLe fLe (iLit (.int 1)) (iBi fLen [(iVar 0)]) (iLit (.int 8)))))) (sRet (iLit (.bl false))) sPass)
  (sRet (iBi fAll [(iLc (gN 1) (iiA (iVar 0)) cYes (iChain fLe fLe (iLit (.str (PySem.Str.ofString "a"))) (iVar 1) (iLit (.str (PySem.Str.ofString "z")))) [1])])))
theorem d__is_word (M : Md L mg f fd fI co tb) {f' : Addr} {cdv : Value} {A : Around} {outer : List PySem.Env} {s : Shared} {H : Hp} {E : XK} (hr : Room (0) (A.deeper (PyProof.Rows.envOfC "_is_word" (defScope s__is_word) s.heap.objs.size f' cdv))) (hg : A.guards = some []) :
    DSs L (cxOf (L2.CX P w) P w L.K mg base N__is_word "_is_word" (defScope s__is_word) f' cdv A outer s H E) (b__is_word) (defBody s__is_word) := by
  have hu : (A.deeper (PyProof.Rows.envOfC "_is_word" (defScope s__is_word) s.heap.objs.size f' cdv)).units + 64 < cLine := hr.units
  exact (dss_cons (ds_if (DW.dt (dw_or (dt_not (dt_val (de_bi (ca_isi M.tab rfl) (by rfl) M.n_isinstance (by decide +kernel) (dav_cons (dvar 0).dv (dav_cons (de_type (t := "str") (by rfl) M.n_str (by decide +kernel)).dv dav_nil))))) (dw_or1 (dt_not (dt_chain (od_le rfl hu) (od_le rfl hu) dint.dv (de_bi (ca_len rfl) (by rfl) M.n_len (by decide +kernel) (dav_cons (dvar 0).dv dav_nil)).dv (dgint (by rfl) M.i__MOST_LETTERS).dv))))) (dss_one (ds_ret dbool)) dss_nil)
  (dss_one (ds_ret (de_bi (ca_all rfl) (by rfl) M.n_all (by decide +kernel) (dav_cons (df_lc (own := [("letter", 1)]) rfl sc__is_word.nd (di_any rfl (dvar 0)) (show BlkOk N__is_word (defScope s__is_word) _ [("letter", 1)] from ⟨rfl, by decide +kernel, by decide +kernel, by decide +kernel, by decide +kernel⟩) (fun s H C cl fp => (pg_name (i := 1) sc__is_word.nd rfl (by first | exact .inl rfl | exact .inr rfl))) (gk_name (by decide)) (fun s H C cl fp => pts_nil) tk_yes (fun s H C cl fp => (de_chain (od_le rfl hu) (od_le rfl hu) dstr.dv (dvar 1).dv dstr.dv))).de.dv dav_nil)))))
def m__is_word : List D → M D := runFn 2 b__is_word
theorem g__is_word (M : Md L mg f fd fI co tb) : FG L P w mg base 1 (f 2) (fd 2) ["thing"] m__is_word := fg_of (N := N__is_word) M.F__is_word sc__is_word fun cdv A outer s H E hr hg => d__is_word M hr hg
abbrev N_is_ascending : List Str := ["things", "low", "high"]
abbrev s_is_ascending : Stmt := (topS 13)
theorem sc_is_ascending : FnScope N_is_ascending ["things"] (defScope s_is_ascending) := ⟨rfl, rfl, rfl, by decide +kernel, rfl, by decide +kernel, by decide +kernel⟩
def b_is_ascending : IS := (sRet (iBi fAll [(iLc (gT [gN 1, gN 2]) (iiZ (iVar 0) (iSl fSl (iVar 0) (oSome (iLit (.int 1))) oNone)) cYes (iOp fLt (iVar 1) (iVar 2)) [1, 2])]))
theorem d_is_ascending (M : Md L mg f fd fI co tb) {f' : Addr} {cdv : Value} {A : Around} {outer : List PySem.Env} {s : Shared} {H : Hp} {E : XK} (hr : Room (0) (A.deeper (PyProof.Rows.envOfC "is_ascending" (defScope s_is_ascending) s.heap.objs.size f' cdv))) (hg : A.guards = some []) :
    DSs L (cxOf (L2.CX P w) P w L.K mg base N_is_ascending "is_ascending" (defScope s_is_ascending) f' cdv A outer s H E) (b_is_ascending) (defBody s_is_ascending) := by
  have hu : (A.deeper (PyProof.Rows.envOfC "is_ascending" (defScope s_is_ascending) s.heap.objs.size f' cdv)).units + 64 < cLine := hr.units
  exact (dss_one (ds_ret (de_bi (ca_all rfl) (by rfl) M.n_all (by decide +kernel) (dav_cons (df_lc (own := [("low", 1), ("high", 2)]) rfl sc_is_ascending.nd (di_zip rfl (by rfl) M.n_zip (da_cons (dvar 0) (da_cons (de_sl (sld rfl) (dvar 0).dv (do_some dint) do_none) da_nil))) (show BlkOk N_is_ascending (defScope s_is_ascending) _ [("low", 1), ("high", 2)] from ⟨rfl, by decide +kernel, by decide +kernel, by decide +kernel, by decide +kernel⟩) (fun s H C cl fp => (pg_tup rfl (pgs_cons (pg_name (i := 1) sc_is_ascending.nd rfl (by first | exact .inl rfl | exact .inr rfl)) (pgs_cons (pg_name (i := 2) sc_is_ascending.nd rfl (by first | exact .inl rfl | exact .inr rfl)) pgs_nil)))) (gk_tup (ns := [1, 2]) (by decide)) (fun s H C cl fp => pts_nil) tk_yes (fun s H C cl fp => (de_cmp (od_lt rfl hu) (dvar 1).dv (dvar 2).dv (nomark _)))).de.dv dav_nil))))
def m_is_ascending : List D → M D := runFn 3 b_is_ascending
theorem g_is_ascending (M : Md L mg f fd fI co tb) : FG L P w mg base 1 (f 3) (fd 3) ["things"] m_is_ascending := fg_of (N := N_is_ascending) M.F_is_ascending sc_is_ascending fun cdv A outer s H E hr hg => d_is_ascending M hr hg
abbrev N_are_names : List Str := ["thing", "name"]
abbrev s_are_names : Stmt := (topS 19)
theorem sc_are_names : FnScope N_are_names ["thing"] (defScope s_are_names) := ⟨rfl, rfl, rfl, by decide +kernel, rfl, by decide +kernel, by decide +kernel⟩
def b_are_names : IS := (sSeq (sIf (orB (notB (asB (iBi fIsI [(iVar 0), (iLit (.ty "tuple"))]))) (notB (asB (iChain fLe fLe (iLit (.int 2)) (iBi fLen [(iVar 0)]) (iLit (.int 4)))))) (sRet (iLit (.bl false))) sPass)
  (sRet (iAnd (iBi fAll [(iLc (gN 1) (iiA (iVar 0)) cYes (iCall (m__is_word) [(iVar 1)]) [1])]) (iCall (m_is_ascending) [(iVar 0)]))))
theorem d_are_names (M : Md L mg f fd fI co tb) {f' : Addr} {cdv : Value} {A : Around} {outer : List PySem.Env} {s : Shared} {H : Hp} {E : XK} (hr : Room (1) (A.deeper (PyProof.Rows.envOfC "are_names" (defScope s_are_names) s.heap.objs.size f' cdv))) (hg : A.guards = some []) :
    DSs L (cxOf (L2.CX P w) P w L.K mg base N_are_names "are_names" (defScope s_are_names) f' cdv A outer s H E) (b_are_names) (defBody s_are_names) := by
  have hu : (A.deeper (PyProof.Rows.envOfC "are_names" (defScope s_are_names) s.heap.objs.size f' cdv)).units + 64 < cLine := hr.units
  exact (dss_cons (ds_if (DW.dt (dw_or (dt_not (dt_val (de_bi (ca_isi M.tab rfl) (by rfl) M.n_isinstance (by decide +kernel) (dav_cons (dvar 0).dv (dav_cons (de_type (t := "tuple") (by rfl) M.n_tuple (by decide +kernel)).dv dav_nil))))) (dw_or1 (dt_not (dt_chain (od_le rfl hu) (od_le rfl hu) (dgint (by rfl) M.i__FEWEST_NAMES).dv (de_bi (ca_len rfl) (by rfl) M.n_len (by decide +kernel) (dav_cons (dvar 0).dv dav_nil)).dv (dgint (by rfl) M.i_MOST_NAMES).dv))))) (dss_one (ds_ret dbool)) dss_nil)
  (dss_one (ds_ret (de_and (de_bi (ca_all rfl) (by rfl) M.n_all (by decide +kernel) (dav_cons (df_lc (own := [("name", 1)]) rfl sc_are_names.nd (di_any rfl (dvar 0)) (show BlkOk N_are_names (defScope s_are_names) _ [("name", 1)] from ⟨rfl, by decide +kernel, by decide +kernel, by decide +kernel, by decide +kernel⟩) (fun s H C cl fp => (pg_name (i := 1) sc_are_names.nd rfl (by first | exact .inl rfl | exact .inr rfl))) (gk_name (by decide)) (fun s H C cl fp => pts_nil) tk_yes (fun s H C cl fp => (de_call (g__is_word M) rfl (hr.mono (by omega)) hg (by rfl) M.g__is_word M.k__is_word M.b__is_word rfl (da_cons (dvar 1) da_nil)))).de.dv dav_nil)) (de_one (de_call (g_is_ascending M) rfl (hr.mono (by omega)) hg (by rfl) M.g_is_ascending M.k_is_ascending M.b_is_ascending rfl (da_cons (dvar 0) da_nil)))))))
def m_are_names : List D → M D := runFn 2 b_are_names
theorem g_are_names (M : Md L mg f fd fI co tb) : FG L P w mg base 2 (f 4) (fd 4) ["thing"] m_are_names := fg_of (N := N_are_names) M.F_are_names sc_are_names fun cdv A outer s H E hr hg => d_are_names M hr hg
abbrev N_need_names : List Str := ["thing"]
abbrev s_need_names : Stmt := (topS 18)
theorem sc_need_names : FnScope N_need_names ["thing"] (defScope s_need_names) := ⟨rfl, rfl, rfl, by decide +kernel, rfl, by decide +kernel, by decide +kernel⟩
def b_need_names : IS := (sSeq (sIf (notB (asB (iCall (m_are_names) [(iVar 0)]))) (sRaise 1 (iVar 0)) sPass)
  (sRet (iVar 0)))
theorem d_need_names (M : Md L mg f fd fI co tb) {f' : Addr} {cdv : Value} {A : Around} {outer : List PySem.Env} {s : Shared} {H : Hp} {E : XK} (hr : Room (2) (A.deeper (PyProof.Rows.envOfC "need_names" (defScope s_need_names) s.heap.objs.size f' cdv))) (hg : A.guards = some []) :
    DSs L (cxOf (L2.CX P w) P w L.K mg base N_need_names "need_names" (defScope s_need_names) f' cdv A outer s H E) (b_need_names) (defBody s_need_names) := by
  have hu : (A.deeper (PyProof.Rows.envOfC "need_names" (defScope s_need_names) s.heap.objs.size f' cdv)).units + 64 < cLine := hr.units
  exact (dss_cons (ds_if (dt_not (dt_val (de_call (g_are_names M) rfl (hr.mono (by omega)) hg (by rfl) M.g_are_names M.k_are_names M.b_are_names rfl (da_cons (dvar 0) da_nil)))) (dss_one (ds_raise rfl M.x1 rfl M.h1 (dep1 hr) (by rfl) M.c1 (dvar 0))) dss_nil)
  (dss_one (ds_ret (dvar 0))))
def m_need_names : List D → M D := runFn 1 b_need_names
theorem g_need_names (M : Md L mg f fd fI co tb) : FG L P w mg base 3 (f 5) (fd 5) ["thing"] m_need_names := fg_of (N := N_need_names) M.F_need_names sc_need_names fun cdv A outer s H E hr hg => d_need_names M hr hg
end Lw
namespace Lw
open PySem PySem.Spec L2 DL
variable {L : Lx} {P : Program} {w : World} {mg : Str → Option Value} {base : Heap} {f : Nat → Addr} {fd : Nat → FuncData} {fI co tb : Nat → Addr}
abbrev N_is_pair : List Str := ["thing"]
abbrev s_is_pair : Stmt := (topS 11)
theorem sc_is_pair : FnScope N_is_pair ["thing"] (defScope s_is_pair) := ⟨rfl, rfl, rfl, by decide +kernel, rfl, by decide +kernel, by decide +kernel⟩
def b_is_pair : IS := (sRet (iAnd (iBi fIsI [(iVar 0), (iLit (.ty "tuple"))]) (iOp fEq (iBi fLen [(iVar 0)]) (iLit (.int 2)))))
theorem d_is_pair (M : Md L mg f fd fI co tb) {f' : Addr} {cdv : Value} {A : Around} {outer : List PySem.Env} {s : Shared} {H : Hp} {E : XK} (hr : Room (0) (A.deeper (PyProof.Rows.envOfC "is_pair" (defScope s_is_pair) s.heap.objs.size f' cdv))) (hg : A.guards = some []) :
    DSs L (cxOf (L2.CX P w) P w L.K mg base N_is_pair "is_pair" (defScope s_is_pair) f' cdv A outer s H E) (b_is_pair) (defBody s_is_pair) := by
  have hu : (A.deeper (PyProof.Rows.envOfC "is_pair" (defScope s_is_pair) s.heap.objs.size f' cdv)).units + 64 < cLine := hr.units
  exact (dss_one (ds_ret (de_and (de_bi (ca_isi M.tab rfl) (by rfl) M.n_isinstance (by decide +kernel) (dav_cons (dvar 0).dv (dav_cons (de_type (t := "tuple") (by rfl) M.n_tuple (by decide +kernel)).dv dav_nil))) (de_one (de_cmp (od_eq rfl hu) (de_bi (ca_len rfl) (by rfl) M.n_len (by decide +kernel) (dav_cons (dvar 0).dv dav_nil)).dv dint.dv (nomark _))))))
def m_is_pair : List D → M D := runFn 1 b_is_pair
theorem g_is_pair (M : Md L mg f fd fI co tb) : FG L P w mg base 1 (f 6) (fd 6) ["thing"] m_is_pair := fg_of (N := N_is_pair) M.F_is_pair sc_is_pair fun cdv A outer s H E hr hg => d_is_pair M hr hg
abbrev N_is_paper : List Str := ["names", "thing", "name"]
abbrev s_is_paper : Stmt := (topS 20)
theorem sc_is_paper : FnScope N_is_paper ["names", "thing"] (defScope s_is_paper) := ⟨rfl, rfl, rfl, by decide +kernel, rfl, by decide +kernel, by decide +kernel⟩
def b_is_paper : IS := (sSeq (sIf (orB (notB (asB (iBi fIsI [(iVar 1), (iLit (.ty "tuple"))]))) (notB (asB (iChain fLe fLe (iLit (.int 1)) (iBi fLen [(iVar 1)]) (iBi fLen [(iVar 0)]))))) (sRet (iLit (.bl false))) sPass)
  (sSeq (sIf (notB (asB (iBi fAll [(iLc (gN 2) (iiA (iVar 1)) cYes (iAnd (iBi fIsI [(iVar 2), (iLit (.ty "str"))]) (iOp fInA (iVar 2) (iVar 0))) [2])]))) (sRet (iLit (.bl false))) sPass)
  (sRet (iOp fEq (iLenT (iVar 1)) (iBi fLen [(iVar 1)])))))
theorem d_is_paper (M : Md L mg f fd fI co tb) {f' : Addr} {cdv : Value} {A : Around} {outer : List PySem.Env} {s : Shared} {H : Hp} {E : XK} (hr : Room (0) (A.deeper (PyProof.Rows.envOfC "is_paper" (defScope s_is_paper) s.heap.objs.size f' cdv))) (hg : A.guards = some []) :
    DSs L (cxOf (L2.CX P w) P w L.K mg base N_is_paper "is_paper" (defScope s_is_paper) f' cdv A outer s H E) (b_is_paper) (defBody s_is_paper) := by
  have hu : (A.deeper (PyProof.Rows.envOfC "is_paper" (defScope s_is_paper) s.heap.objs.size f' cdv)).units + 64 < cLine := hr.units
  exact (dss_cons (ds_if (DW.dt (dw_or (dt_not (dt_val (de_bi (ca_isi M.tab rfl) (by rfl) M.n_isinstance (by decide +kernel) (dav_cons (dvar 1).dv (dav_cons (de_type (t := "tuple") (by rfl) M.n_tuple (by decide +kernel)).dv dav_nil))))) (dw_or1 (dt_not (dt_chain (od_le rfl hu) (od_le rfl hu) dint.dv (de_bi (ca_len rfl) (by rfl) M.n_len (by decide +kernel) (dav_cons (dvar 1).dv dav_nil)).dv (de_bi (ca_len rfl) (by rfl) M.n_len (by decide +kernel) (dav_cons (dvar 0).dv dav_nil)).dv))))) (dss_one (ds_ret dbool)) dss_nil)
  (dss_cons (ds_if (dt_not (dt_val (de_bi (ca_all rfl) (by rfl) M.n_all (by decide +kernel) (dav_cons (df_lc (own := [("name", 2)]) rfl sc_is_paper.nd (di_any rfl (dvar 1)) (show BlkOk N_is_paper (defScope s_is_paper) _ [("name", 2)] from ⟨rfl, by decide +kernel, by decide +kernel, by decide +kernel, by decide +kernel⟩) (fun s H C cl fp => (pg_name (i := 2) sc_is_paper.nd rfl (by first | exact .inl rfl | exact .inr rfl))) (gk_name (by decide)) (fun s H C cl fp => pts_nil) tk_yes (fun s H C cl fp => (de_and (de_bi (ca_isi M.tab rfl) (by rfl) M.n_isinstance (by decide +kernel) (dav_cons (dvar 2).dv (dav_cons (de_type (t := "str") (by rfl) M.n_str (by decide +kernel)).dv dav_nil))) (de_one (de_cmp (od_inA rfl (u65 hr)) (dvar 2).dv (dvar 0).dv (by with_unfolding_all rfl)))))).de.dv dav_nil)))) (dss_one (ds_ret dbool)) dss_nil)
  (dss_one (ds_ret (de_cmp (od_eq rfl hu) (de_lenT rfl rfl (by rfl) M.n_len (by rfl) M.n_set (dvar 1)).dv (de_bi (ca_len rfl) (by rfl) M.n_len (by decide +kernel) (dav_cons (dvar 1).dv dav_nil)).dv (nomark _))))))
def m_is_paper : List D → M D := runFn 3 b_is_paper
theorem g_is_paper (M : Md L mg f fd fI co tb) : FG L P w mg base 1 (f 7) (fd 7) ["names", "thing"] m_is_paper := fg_of (N := N_is_paper) M.F_is_paper sc_is_paper fun cdv A outer s H E hr hg => d_is_paper M hr hg
abbrev N_is_integer : List Str := ["thing"]
abbrev s_is_integer : Stmt := (topS 9)
theorem sc_is_integer : FnScope N_is_integer ["thing"] (defScope s_is_integer) := ⟨rfl, rfl, rfl, by decide +kernel, rfl, by decide +kernel, by decide +kernel⟩
def b_is_integer : IS := (sRet (iAnd (iBi fIsI [(iVar 0), (iLit (.ty "int"))]) (iNot (iBi fIsI [(iVar 0), (iLit (.ty "bool"))]))))
theorem d_is_integer (M : Md L mg f fd fI co tb) {f' : Addr} {cdv : Value} {A : Around} {outer : List PySem.Env} {s : Shared} {H : Hp} {E : XK} (hr : Room (0) (A.deeper (PyProof.Rows.envOfC "is_integer" (defScope s_is_integer) s.heap.objs.size f' cdv))) (hg : A.guards = some []) :
    DSs L (cxOf (L2.CX P w) P w L.K mg base N_is_integer "is_integer" (defScope s_is_integer) f' cdv A outer s H E) (b_is_integer) (defBody s_is_integer) := by
  have hu : (A.deeper (PyProof.Rows.envOfC "is_integer" (defScope s_is_integer) s.heap.objs.size f' cdv)).units + 64 < cLine := hr.units
  exact (dss_one (ds_ret (de_and (de_bi (ca_isi M.tab rfl) (by rfl) M.n_isinstance (by decide +kernel) (dav_cons (dvar 0).dv (dav_cons (de_type (t := "int") (by rfl) M.n_int (by decide +kernel)).dv dav_nil))) (de_one (de_not (de_bi (ca_isi M.tab rfl) (by rfl) M.n_isinstance (by decide +kernel) (dav_cons (dvar 0).dv (dav_cons (de_type (t := "bool") (by rfl) M.n_bool (by decide +kernel)).dv dav_nil))))))))
def m_is_integer : List D → M D := runFn 1 b_is_integer
theorem g_is_integer (M : Md L mg f fd fI co tb) : FG L P w mg base 1 (f 8) (fd 8) ["thing"] m_is_integer := fg_of (N := N_is_integer) M.F_is_integer sc_is_integer fun cdv A outer s H E hr hg => d_is_integer M hr hg
abbrev N__is_item : List Str := ["names", "thing"]
abbrev s__is_item : Stmt := (topS 45)
theorem sc__is_item : FnScope N__is_item ["names", "thing"] (defScope s__is_item) := ⟨rfl, rfl, rfl, by decide +kernel, rfl, by decide +kernel, by decide +kernel⟩
def b__is_item : IS := (sRet (iAnd (iCall (m_is_pair) [(iVar 1)]) (iAnd (iCall (m_is_paper) [(iVar 0), (iOp fIx (iVar 1) (iLit (.int 0)))]) (iAnd (iCall (m_is_integer) [(iOp fIx (iVar 1) (iLit (.int 1)))]) (iOp fGe (iOp fIx (iVar 1) (iLit (.int 1))) (iLit (.int 1)))))))
theorem d__is_item (M : Md L mg f fd fI co tb) {f' : Addr} {cdv : Value} {A : Around} {outer : List PySem.Env} {s : Shared} {H : Hp} {E : XK} (hr : Room (1) (A.deeper (PyProof.Rows.envOfC "_is_item" (defScope s__is_item) s.heap.objs.size f' cdv))) (hg : A.guards = some []) :
    DSs L (cxOf (L2.CX P w) P w L.K mg base N__is_item "_is_item" (defScope s__is_item) f' cdv A outer s H E) (b__is_item) (defBody s__is_item) := by
  have hu : (A.deeper (PyProof.Rows.envOfC "_is_item" (defScope s__is_item) s.heap.objs.size f' cdv)).units + 64 < cLine := hr.units
  exact (dss_one (ds_ret (de_and (de_call (g_is_pair M) rfl (hr.mono (by omega)) hg (by rfl) M.g_is_pair M.k_is_pair M.b_is_pair rfl (da_cons (dvar 1) da_nil)) (de_and (de_call (g_is_paper M) rfl (hr.mono (by omega)) hg (by rfl) M.g_is_paper M.k_is_paper M.b_is_paper rfl (da_cons (dvar 0) (da_cons (de_ix (ixd rfl) (dvar 1).dv dint.dv) da_nil))) (de_and (de_call (g_is_integer M) rfl (hr.mono (by omega)) hg (by rfl) M.g_is_integer M.k_is_integer M.b_is_integer rfl (da_cons (de_ix (ixd rfl) (dvar 1).dv dint.dv) da_nil)) (de_one (de_cmp (od_ge rfl hu) (de_ix (ixd rfl) (dvar 1).dv dint.dv).dv dint.dv (nomark _))))))))
def m__is_item : List D → M D := runFn 2 b__is_item
theorem g__is_item (M : Md L mg f fd fI co tb) : FG L P w mg base 2 (f 9) (fd 9) ["names", "thing"] m__is_item := fg_of (N := N__is_item) M.F__is_item sc__is_item fun cdv A outer s H E hr hg => d__is_item M hr hg
abbrev N__need_papers : List Str := ["names", "papers", "numbers", "at", "item"]
abbrev s__need_papers : Stmt := (topS 44)
theorem sc__need_papers : FnScope N__need_papers ["names", "papers"] (defScope s__need_papers) := ⟨rfl, rfl, rfl, by decide +kernel, rfl, by decide +kernel, by decide +kernel⟩
def b__need_papers : IS := (sSeq (sIf (orB (notB (asB (iBi fIsI [(iVar 1), (iTup [(iLit (.ty "list")), (iLit (.ty "tuple"))])]))) (asB (iOp fEq (iBi fLen [(iVar 1)]) (iLit (.int 0))))) (sRaise 3 (iLit .non)) sPass)
  (sSeq (sOwnD 2 (iLit (.dct true [])))
  (sSeq (sFor (gT [(gN 3), (gN 4)]) (iiEnA (iVar 1)) (sSeq (sIf (orB (notB (asB (iCall (m__is_item) [(iVar 0), (iVar 4)]))) (asB (iOp (fInK false) (iOp fIx (iVar 4) (iLit (.int 0))) (iUse 2)))) (sRaise 3 (iVar 3)) sPass)
  (sPut 2 (iOp fIx (iVar 4) (iLit (.int 0))) (iOp fIx (iVar 4) (iLit (.int 1))))))
  (sRet (iBi fTuple [(iSortItems (iUse 2))])))))
theorem d__need_papers (M : Md L mg f fd fI co tb) {f' : Addr} {cdv : Value} {A : Around} {outer : List PySem.Env} {s : Shared} {H : Hp} {E : XK} (hr : Room (2) (A.deeper (PyProof.Rows.envOfC "_need_papers" (defScope s__need_papers) s.heap.objs.size f' cdv))) (hg : A.guards = some []) :
    DSs L (cxOf (L2.CX P w) P w L.K mg base N__need_papers "_need_papers" (defScope s__need_papers) f' cdv A outer s H E) (b__need_papers) (defBody s__need_papers) := by
  have hu : (A.deeper (PyProof.Rows.envOfC "_need_papers" (defScope s__need_papers) s.heap.objs.size f' cdv)).units + 64 < cLine := hr.units
  exact (dss_cons (ds_if (DW.dt (dw_or (dt_not (dt_val (de_bi (ca_isi M.tab rfl) (by rfl) M.n_isinstance (by decide +kernel) (dav_cons (dvar 1).dv (dav_cons (de_tup (da_cons (de_type (t := "list") (by rfl) M.n_list (by decide +kernel)) (da_cons (de_type (t := "tuple") (by rfl) M.n_tuple (by decide +kernel)) da_nil))).dv dav_nil))))) (dw_or1 (dt_cmp (od_eq rfl hu) (de_bi (ca_len rfl) (by rfl) M.n_len (by decide +kernel) (dav_cons (dvar 1).dv dav_nil)).dv dint.dv (nomark _))))) (dss_one (ds_raise rfl M.x3 rfl M.h3 (dep1 hr) (by rfl) M.c3 dnon)) dss_nil)
  (dss_cons (ds_ownD (n := 2) sc__need_papers.nd rfl (Or.inl rfl) dfd_newT)
  (dss_cons (ds_for (passes_of rfl) rfl (di_enumA rfl (by rfl) M.n_enumerate (da_cons (dvar 1) da_nil)) (dg_tup rfl rfl (dgs_cons (dg_name (n := 3) sc__need_papers.nd rfl (Or.inl rfl)) (dgs_cons (dg_name (n := 4) sc__need_papers.nd rfl (Or.inl rfl)) dgs_nil))) (dss_cons (ds_if (DW.dt (dw_or (dt_not (dt_val (de_call (g__is_item M) rfl (hr.mono (by omega)) hg (by rfl) M.g__is_item M.k__is_item M.b__is_item rfl (da_cons (dvar 0) (da_cons (dvar 4) da_nil))))) (dw_or1 (dt_cmp (od_inK M.ks (u1 hu)) (de_ix (ixd rfl) (dvar 4).dv dint.dv).dv (duse 2) (by with_unfolding_all rfl))))) (dss_one (ds_raise rfl M.x3 rfl M.h3 (dep1 hr) (by rfl) M.c3 (dvar 3))) dss_nil)
  (dss_one (ds_put (n := 2) M.ks (u1 hu) (pv 2) (de_ix (ixd rfl) (dvar 4).dv dint.dv) (de_ix (ixd rfl) (dvar 4).dv dint.dv)))))
  (dss_one (ds_ret (de_ty (ca_tuple rfl) (by rfl) M.n_tuple (by decide +kernel) (dav_cons (df_sortItems rfl M.ks.2 rfl (u66 hr) (by rfl) M.n_sorted (duse 2)).de.dv dav_nil)))))))
def m__need_papers : List D → M D := runFn 5 b__need_papers
theorem g__need_papers (M : Md L mg f fd fI co tb) : FG L P w mg base 3 (f 10) (fd 10) ["names", "papers"] m__need_papers := fg_of (N := N__need_papers) M.F__need_papers sc__need_papers fun cdv A outer s H E hr hg => d__need_papers M hr hg
abbrev N_Roll___init__ : List Str := ["self", "names", "papers"]
abbrev s_Roll___init__ : Stmt := (clsS 42 0)
theorem sc_Roll___init__ : FnScope N_Roll___init__ ["self", "names", "papers"] (defScope s_Roll___init__) := ⟨rfl, rfl, rfl, by decide +kernel, rfl, by decide +kernel, by decide +kernel⟩
def b_Roll___init__ : IS := (sSeq (sSelf (fun c => decide (c = 8)) 0 "names" (iCall (m_need_names) [(iVar 1)]))
  (sSelf (fun c => decide (c = 8)) 0 "papers" (iCall (m__need_papers) [(iVar 1), (iVar 2)])))
theorem d_Roll___init__ (M0 : Md L mg f fd fI co tb) (a : Addr) {f' : Addr} {cdv : Value} {A : Around} {outer : List PySem.Env} {s : Shared} {H : Hp} {E : XK} (hr : Room (3) (A.deeper (PyProof.Rows.envOfC "Roll.__init__" (defScope s_Roll___init__) s.heap.objs.size f' cdv))) (hg : A.guards = some []) :
    DSs (L.ms a) (cxOf (L2.CX P w) P w L.K mg base N_Roll___init__ "Roll.__init__" (defScope s_Roll___init__) f' cdv A outer s H E) b_Roll___init__ (defBody s_Roll___init__) := by
  have M := M0.ms a
  have hu : (A.deeper (PyProof.Rows.envOfC "Roll.__init__" (defScope s_Roll___init__) s.heap.objs.size f' cdv)).units + 64 < cLine := hr.units
  exact (dss_cons (ds_self (ok := fun c => decide (c = 8)) rfl (fun c hc => by obtain rfl := of_decide_eq_true hc; exact ⟨M.cl8, M.na8 _ (by decide)⟩) (pv 0) (de_call (g_need_names M) rfl (hr.mono (by omega)) hg (by rfl) M.g_need_names M.k_need_names M.b_need_names rfl (da_cons (dvar 1) da_nil)))
  (dss_one (ds_self (ok := fun c => decide (c = 8)) rfl (fun c hc => by obtain rfl := of_decide_eq_true hc; exact ⟨M.cl8, M.na8 _ (by decide)⟩) (pv 0) (de_call (g__need_papers M) rfl (hr.mono (by omega)) hg (by rfl) M.g__need_papers M.k__need_papers M.b__need_papers rfl (da_cons (dvar 1) (da_cons (dvar 2) da_nil))))))
def m_Roll___init__ : List D → M (List (Str × D)) := runIn 3 b_Roll___init__ 8
theorem g_Roll___init__ (M : Md L mg f fd fI co tb) : FGI L P w mg base 4 (f 11) (fd 11) ["self", "names", "papers"] 8 m_Roll___init__ := fgi_of (N := N_Roll___init__) M.F_Roll___init__ sc_Roll___init__ fun a cdv A outer s H E hr hg => d_Roll___init__ M a hr hg
end Lw
namespace Lw
open PySem PySem.Spec L2 DL
variable {L : Lx} {P : Program} {w : World} {mg : Str → Option Value} {base : Heap} {f : Nat → Addr} {fd : Nat → FuncData} {fI co tb : Nat → Addr}
abbrev N_is_within : List Str := ["thing", "low", "high"]
abbrev s_is_within : Stmt := (topS 10)
theorem sc_is_within : FnScope N_is_within ["thing", "low", "high"] (defScope s_is_within) := ⟨rfl, rfl, rfl, by decide +kernel, rfl, by decide +kernel, by decide +kernel⟩
def b_is_within : IS := (sRet (iAnd (iCall (m_is_integer) [(iVar 0)]) (iChain fLe fLe (iVar 1) (iVar 0) (iVar 2))))
theorem d_is_within (M : Md L mg f fd fI co tb) {f' : Addr} {cdv : Value} {A : Around} {outer : List PySem.Env} {s : Shared} {H : Hp} {E : XK} (hr : Room (1) (A.deeper (PyProof.Rows.envOfC "is_within" (defScope s_is_within) s.heap.objs.size f' cdv))) (hg : A.guards = some []) :
    DSs L (cxOf (L2.CX P w) P w L.K mg base N_is_within "is_within" (defScope s_is_within) f' cdv A outer s H E) (b_is_within) (defBody s_is_within) := by
  have hu : (A.deeper (PyProof.Rows.envOfC "is_within" (defScope s_is_within) s.heap.objs.size f' cdv)).units + 64 < cLine := hr.units
  exact (dss_one (ds_ret (de_and (de_call (g_is_integer M) rfl (hr.mono (by omega)) hg (by rfl) M.g_is_integer M.k_is_integer M.b_is_integer rfl (da_cons (dvar 0) da_nil)) (de_one (de_chain (od_le rfl hu) (od_le rfl hu) (dvar 1).dv (dvar 0).dv (dvar 2).dv)))))
def m_is_within : List D → M D := runFn 3 b_is_within
theorem g_is_within (M : Md L mg f fd fI co tb) : FG L P w mg base 2 (f 12) (fd 12) ["thing", "low", "high"] m_is_within := fg_of (N := N_is_within) M.F_is_within sc_is_within fun cdv A outer s H E hr hg => d_is_within M hr hg
abbrev N_is_integer_pair : List Str := ["thing"]
abbrev s_is_integer_pair : Stmt := (topS 12)
theorem sc_is_integer_pair : FnScope N_is_integer_pair ["thing"] (defScope s_is_integer_pair) := ⟨rfl, rfl, rfl, by decide +kernel, rfl, by decide +kernel, by decide +kernel⟩
def b_is_integer_pair : IS := (sRet (iAnd (iCall (m_is_pair) [(iVar 0)]) (iAnd (iCall (m_is_integer) [(iOp fIx (iVar 0) (iLit (.int 0)))]) (iCall (m_is_integer) [(iOp fIx (iVar 0) (iLit (.int 1)))]))))
theorem d_is_integer_pair (M : Md L mg f fd fI co tb) {f' : Addr} {cdv : Value} {A : Around} {outer : List PySem.Env} {s : Shared} {H : Hp} {E : XK} (hr : Room (1) (A.deeper (PyProof.Rows.envOfC "is_integer_pair" (defScope s_is_integer_pair) s.heap.objs.size f' cdv))) (hg : A.guards = some []) :
    DSs L (cxOf (L2.CX P w) P w L.K mg base N_is_integer_pair "is_integer_pair" (defScope s_is_integer_pair) f' cdv A outer s H E) (b_is_integer_pair) (defBody s_is_integer_pair) := by
  have hu : (A.deeper (PyProof.Rows.envOfC "is_integer_pair" (defScope s_is_integer_pair) s.heap.objs.size f' cdv)).units + 64 < cLine := hr.units
  exact (dss_one (ds_ret (de_and (de_call (g_is_pair M) rfl (hr.mono (by omega)) hg (by rfl) M.g_is_pair M.k_is_pair M.b_is_pair rfl (da_cons (dvar 0) da_nil)) (de_and (de_call (g_is_integer M) rfl (hr.mono (by omega)) hg (by rfl) M.g_is_integer M.k_is_integer M.b_is_integer rfl (da_cons (de_ix (ixd rfl) (dvar 0).dv dint.dv) da_nil)) (de_one (de_call (g_is_integer M) rfl (hr.mono (by omega)) hg (by rfl) M.g_is_integer M.k_is_integer M.b_is_integer rfl (da_cons (de_ix (ixd rfl) (dvar 0).dv dint.dv) da_nil)))))))
def m_is_integer_pair : List D → M D := runFn 1 b_is_integer_pair
theorem g_is_integer_pair (M : Md L mg f fd fI co tb) : FG L P w mg base 2 (f 13) (fd 13) ["thing"] m_is_integer_pair := fg_of (N := N_is_integer_pair) M.F_is_integer_pair sc_is_integer_pair fun cdv A outer s H E hr hg => d_is_integer_pair M hr hg
abbrev N_is_field : List Str := ["names", "place", "thing"]
abbrev s_is_field : Stmt := (topS 26)
theorem sc_is_field : FnScope N_is_field ["names", "place", "thing"] (defScope s_is_field) := ⟨rfl, rfl, rfl, by decide +kernel, rfl, by decide +kernel, by decide +kernel⟩
def b_is_field : IS := (sSeq (sIf (asB (iOp fEq (iVar 1) (iLit (.str (PySem.Str.ofString "seats"))))) (sRet (iCall (m_is_within) [(iVar 2), (iLit (.int 1)), (iOp fSubI (iBi fLen [(iVar 0)]) (iLit (.int 1)))])) sPass)
  (sSeq (sIf (asB (iOp fEq (iVar 1) (iLit (.str (PySem.Str.ofString "quota"))))) (sRet (iAnd (iCall (m_is_integer_pair) [(iVar 2)]) (iChain3 fLt fLt fLe (iLit (.int 0)) (iOp fIx (iVar 2) (iLit (.int 0))) (iOp fIx (iVar 2) (iLit (.int 1))) (iLit (.int 100))))) sPass)
  (sSeq (sIf (asB (iOp fEq (iVar 1) (iLit (.str (PySem.Str.ofString "over"))))) (sRet (iOr (iOp fIs (iVar 2) (iLit (.bl true))) (iOp fIs (iVar 2) (iLit (.bl false))))) sPass)
  (sSeq (sIf (asB (iOp fEq (iVar 1) (iLit (.str (PySem.Str.ofString "hand"))))) (sRet (iAnd (iCall (m_is_integer_pair) [(iVar 2)]) (iAnd (iChain fLe fLe (iLit (.int 0)) (iOp fIx (iVar 2) (iLit (.int 0))) (iOp fIx (iVar 2) (iLit (.int 1)))) (iChain fLe fLe (iLit (.int 1)) (iOp fIx (iVar 2) (iLit (.int 1))) (iLit (.int 100)))))) sPass)
  (sRet (iAnd (iCall (m_is_paper) [(iVar 0), (iVar 2)]) (iOp fEq (iBi fLen [(iVar 2)]) (iBi fLen [(iVar 0)]))))))))
theorem d_is_field (M : Md L mg f fd fI co tb) {f' : Addr} {cdv : Value} {A : Around} {outer : List PySem.Env} {s : Shared} {H : Hp} {E : XK} (hr : Room (2) (A.deeper (PyProof.Rows.envOfC "is_field" (defScope s_is_field) s.heap.objs.size f' cdv))) (hg : A.guards = some []) :
    DSs L (cxOf (L2.CX P w) P w L.K mg base N_is_field "is_field" (defScope s_is_field) f' cdv A outer s H E) (b_is_field) (defBody s_is_field) := by
  have hu : (A.deeper (PyProof.Rows.envOfC "is_field" (defScope s_is_field) s.heap.objs.size f' cdv)).units + 64 < cLine := hr.units
  exact (dss_cons (ds_if (dt_cmp (od_eq rfl hu) (dvar 1).dv dstr.dv (nomark _)) (dss_one (ds_ret (de_call (g_is_within M) rfl (hr.mono (by omega)) hg (by rfl) M.g_is_within M.k_is_within M.b_is_within rfl (da_cons (dvar 2) (da_cons dint (da_cons (de_bin od_subI (de_bi (ca_len rfl) (by rfl) M.n_len (by decide +kernel) (dav_cons (dvar 0).dv dav_nil)).dv dint.dv) da_nil)))))) dss_nil)
  (dss_cons (ds_if (dt_cmp (od_eq rfl hu) (dvar 1).dv dstr.dv (nomark _)) (dss_one (ds_ret (de_and (de_call (g_is_integer_pair M) rfl (hr.mono (by omega)) hg (by rfl) M.g_is_integer_pair M.k_is_integer_pair M.b_is_integer_pair rfl (da_cons (dvar 2) da_nil)) (de_one (de_chain3 (od_lt rfl hu) (od_lt rfl hu) (od_le rfl hu) dint.dv (de_ix (ixd rfl) (dvar 2).dv dint.dv).dv (de_ix (ixd rfl) (dvar 2).dv dint.dv).dv (dgint (by rfl) M.i__MOST_PARTS).dv))))) dss_nil)
  (dss_cons (ds_if (dt_cmp (od_eq rfl hu) (dvar 1).dv dstr.dv (nomark _)) (dss_one (ds_ret (de_or (de_cmp od_is (dvar 2).dv dbool.dv (nomark _)) (de_one (de_cmp od_is (dvar 2).dv dbool.dv (nomark _)))))) dss_nil)
  (dss_cons (ds_if (dt_cmp (od_eq rfl hu) (dvar 1).dv dstr.dv (nomark _)) (dss_one (ds_ret (de_and (de_call (g_is_integer_pair M) rfl (hr.mono (by omega)) hg (by rfl) M.g_is_integer_pair M.k_is_integer_pair M.b_is_integer_pair rfl (da_cons (dvar 2) da_nil)) (de_and (de_chain (od_le rfl hu) (od_le rfl hu) dint.dv (de_ix (ixd rfl) (dvar 2).dv dint.dv).dv (de_ix (ixd rfl) (dvar 2).dv dint.dv).dv) (de_one (de_chain (od_le rfl hu) (od_le rfl hu) dint.dv (de_ix (ixd rfl) (dvar 2).dv dint.dv).dv (dgint (by rfl) M.i__MOST_PARTS).dv)))))) dss_nil)
  (dss_one (ds_ret (de_and (de_call (g_is_paper M) rfl (hr.mono (by omega)) hg (by rfl) M.g_is_paper M.k_is_paper M.b_is_paper rfl (da_cons (dvar 0) (da_cons (dvar 2) da_nil))) (de_one (de_cmp (od_eq rfl hu) (de_bi (ca_len rfl) (by rfl) M.n_len (by decide +kernel) (dav_cons (dvar 2).dv dav_nil)).dv (de_bi (ca_len rfl) (by rfl) M.n_len (by decide +kernel) (dav_cons (dvar 0).dv dav_nil)).dv (nomark _))))))))))
def m_is_field : List D → M D := runFn 3 b_is_field
theorem g_is_field (M : Md L mg f fd fI co tb) : FG L P w mg base 3 (f 14) (fd 14) ["names", "place", "thing"] m_is_field := fg_of (N := N_is_field) M.F_is_field sc_is_field fun cdv A outer s H E hr hg => d_is_field M hr hg
abbrev N_Rule___init__ : List Str := ["self", "names", "seats", "quota", "over", "hand", "order", "place", "thing"]
abbrev s_Rule___init__ : Stmt := (clsS 25 0)
theorem sc_Rule___init__ : FnScope N_Rule___init__ ["self", "names", "seats", "quota", "over", "hand", "order"] (defScope s_Rule___init__) := ⟨rfl, rfl, rfl, by decide +kernel, rfl, by decide +kernel, by decide +kernel⟩
def b_Rule___init__ : IS := (sSeq (sExpr (iCall (m_need_names) [(iVar 1)]))
  (sSeq (sFor (gT [(gN 7), (gN 8)]) (iiZT [("seats" : Str), ("quota" : Str), ("over" : Str), ("hand" : Str), ("order" : Str)] (iTup [(iVar 2), (iVar 3), (iVar 4), (iVar 5), (iVar 6)])) (sIf (notB (asB (iCall (m_is_field) [(iVar 1), (iVar 7), (iVar 8)]))) (sRaise 4 (iVar 7)) sPass))
  (sSeq (sSelf (fun c => decide (c = 6)) 0 "names" (iVar 1))
  (sSeq (sSelf (fun c => decide (c = 6)) 0 "seats" (iVar 2))
  (sSeq (sSelf (fun c => decide (c = 6)) 0 "quota" (iVar 3))
  (sSeq (sSelf (fun c => decide (c = 6)) 0 "over" (iVar 4))
  (sSeq (sSelf (fun c => decide (c = 6)) 0 "hand" (iVar 5))
  (sSelf (fun c => decide (c = 6)) 0 "order" (iVar 6)))))))))
theorem d_Rule___init__ (M0 : Md L mg f fd fI co tb) (a : Addr) {f' : Addr} {cdv : Value} {A : Around} {outer : List PySem.Env} {s : Shared} {H : Hp} {E : XK} (hr : Room (3) (A.deeper (PyProof.Rows.envOfC "Rule.__init__" (defScope s_Rule___init__) s.heap.objs.size f' cdv))) (hg : A.guards = some []) :
    DSs (L.ms a) (cxOf (L2.CX P w) P w L.K mg base N_Rule___init__ "Rule.__init__" (defScope s_Rule___init__) f' cdv A outer s H E) b_Rule___init__ (defBody s_Rule___init__) := by
  have M := M0.ms a
  have hu : (A.deeper (PyProof.Rows.envOfC "Rule.__init__" (defScope s_Rule___init__) s.heap.objs.size f' cdv)).units + 64 < cLine := hr.units
  exact (dss_cons (ds_expr (de_call (g_need_names M) rfl (hr.mono (by omega)) hg (by rfl) M.g_need_names M.k_need_names M.b_need_names rfl (da_cons (dvar 1) da_nil)).dv)
  (dss_cons (ds_for (passes_of rfl) rfl (di_zipTop rfl (by rfl) M.n_zip (by rfl) M.zs_FIELDS (de_tup (da_cons (dvar 2) (da_cons (dvar 3) (da_cons (dvar 4) (da_cons (dvar 5) (da_cons (dvar 6) da_nil))))))) (dg_tup rfl rfl (dgs_cons (dg_name (n := 7) sc_Rule___init__.nd rfl (Or.inl rfl)) (dgs_cons (dg_name (n := 8) sc_Rule___init__.nd rfl (Or.inl rfl)) dgs_nil))) (dss_one (ds_if (dt_not (dt_val (de_call (g_is_field M) rfl (hr.mono (by omega)) hg (by rfl) M.g_is_field M.k_is_field M.b_is_field rfl (da_cons (dvar 1) (da_cons (dvar 7) (da_cons (dvar 8) da_nil)))))) (dss_one (ds_raise rfl M.x4 rfl M.h4 (dep1 hr) (by rfl) M.c4 (dvar 7))) dss_nil)))
  (dss_cons (ds_self (ok := fun c => decide (c = 6)) rfl (fun c hc => by obtain rfl := of_decide_eq_true hc; exact ⟨M.cl6, M.na6 _ (by decide)⟩) (pv 0) (dvar 1))
  (dss_cons (ds_self (ok := fun c => decide (c = 6)) rfl (fun c hc => by obtain rfl := of_decide_eq_true hc; exact ⟨M.cl6, M.na6 _ (by decide)⟩) (pv 0) (dvar 2))
  (dss_cons (ds_self (ok := fun c => decide (c = 6)) rfl (fun c hc => by obtain rfl := of_decide_eq_true hc; exact ⟨M.cl6, M.na6 _ (by decide)⟩) (pv 0) (dvar 3))
  (dss_cons (ds_self (ok := fun c => decide (c = 6)) rfl (fun c hc => by obtain rfl := of_decide_eq_true hc; exact ⟨M.cl6, M.na6 _ (by decide)⟩) (pv 0) (dvar 4))
  (dss_cons (ds_self (ok := fun c => decide (c = 6)) rfl (fun c hc => by obtain rfl := of_decide_eq_true hc; exact ⟨M.cl6, M.na6 _ (by decide)⟩) (pv 0) (dvar 5))
  (dss_one (ds_self (ok := fun c => decide (c = 6)) rfl (fun c hc => by obtain rfl := of_decide_eq_true hc; exact ⟨M.cl6, M.na6 _ (by decide)⟩) (pv 0) (dvar 6))))))))))
def m_Rule___init__ : List D → M (List (Str × D)) := runIn 9 b_Rule___init__ 6
theorem g_Rule___init__ (M : Md L mg f fd fI co tb) : FGI L P w mg base 4 (f 15) (fd 15) ["self", "names", "seats", "quota", "over", "hand", "order"] 6 m_Rule___init__ := fgi_of (N := N_Rule___init__) M.F_Rule___init__ sc_Rule___init__ fun a cdv A outer s H E hr hg => d_Rule___init__ M a hr hg
abbrev N_need_same_names : List Str := ["rule", "roll"]
abbrev s_need_same_names : Stmt := (topS 40)
theorem sc_need_same_names : FnScope N_need_same_names ["rule", "roll"] (defScope s_need_same_names) := ⟨rfl, rfl, rfl, by decide +kernel, rfl, by decide +kernel, by decide +kernel⟩
def b_need_same_names : IS := (sIf (asB (iOp fNeD (iFld at_names (iVar 1)) (iFld at_names (iVar 0)))) (sRaise 1 (iFld at_names (iVar 1))) sPass)
theorem d_need_same_names (M : Md L mg f fd fI co tb) {f' : Addr} {cdv : Value} {A : Around} {outer : List PySem.Env} {s : Shared} {H : Hp} {E : XK} (hr : Room (0) (A.deeper (PyProof.Rows.envOfC "need_same_names" (defScope s_need_same_names) s.heap.objs.size f' cdv))) (hg : A.guards = some []) :
    DSs L (cxOf (L2.CX P w) P w L.K mg base N_need_same_names "need_same_names" (defScope s_need_same_names) f' cdv A outer s H E) (b_need_same_names) (defBody s_need_same_names) := by
  have hu : (A.deeper (PyProof.Rows.envOfC "need_same_names" (defScope s_need_same_names) s.heap.objs.size f' cdv)).units + 64 < cLine := hr.units
  exact (dss_one (ds_if (dt_cmp (od_ne0 rfl hu) (de_fld (at_ := at_names) (dvar 1) rfl M.f_names).dv (de_fld (at_ := at_names) (dvar 0) rfl M.f_names).dv (nomark _)) (dss_one (ds_raise rfl M.x1 rfl M.h1 (dep1 hr) (by rfl) M.c1 (de_fld (at_ := at_names) (dvar 1) rfl M.f_names))) dss_nil))
def m_need_same_names : List D → M D := runFn 2 b_need_same_names
theorem g_need_same_names (M : Md L mg f fd fI co tb) : FG L P w mg base 1 (f 16) (fd 16) ["rule", "roll"] m_need_same_names := fg_of (N := N_need_same_names) M.F_need_same_names sc_need_same_names fun cdv A outer s H E hr hg => d_need_same_names M hr hg
abbrev N_units : List Str := ["rule", "worth", "_"]
abbrev s_units : Stmt := (topS 27)
theorem sc_units : FnScope N_units ["rule"] (defScope s_units) := ⟨rfl, rfl, rfl, by decide +kernel, rfl, by decide +kernel, by decide +kernel⟩
def b_units : IS := (sSeq (sSet 1 (iLit (.int 1)))
  (sSeq (sFor (gN 2) (iiR1 (iFld at_seats (iVar 0))) (sSet 1 (iOp fMul (iVar 1) (iOp fIx (iFld at_hand (iVar 0)) (iLit (.int 1))))))
  (sRet (iVar 1))))
theorem d_units (M : Md L mg f fd fI co tb) {f' : Addr} {cdv : Value} {A : Around} {outer : List PySem.Env} {s : Shared} {H : Hp} {E : XK} (hr : Room (0) (A.deeper (PyProof.Rows.envOfC "units" (defScope s_units) s.heap.objs.size f' cdv))) (hg : A.guards = some []) :
    DSs L (cxOf (L2.CX P w) P w L.K mg base N_units "units" (defScope s_units) f' cdv A outer s H E) (b_units) (defBody s_units) := by
  have hu : (A.deeper (PyProof.Rows.envOfC "units" (defScope s_units) s.heap.objs.size f' cdv)).units + 64 < cLine := hr.units
  exact (dss_cons (ds_set (n := 1) sc_units.nd rfl (Or.inl rfl) dint)
  (dss_cons (ds_for (passes_of rfl) rfl (di_range1 (by rfl) M.n_range (da_cons (de_fld (at_ := at_seats) (dvar 0) rfl M.f_seats) da_nil)) (dg_name (n := 2) sc_units.nd rfl (Or.inl rfl)) (dss_one (ds_set (n := 1) sc_units.nd rfl (Or.inl rfl) (de_bin (od_mul rfl) (dvar 1).dv (de_ix (ixd rfl) (de_fld (at_ := at_hand) (dvar 0) rfl M.f_hand).dv dint.dv).dv))))
  (dss_one (ds_ret (dvar 1)))))
def m_units : List D → M D := runFn 3 b_units
theorem g_units (M : Md L mg f fd fI co tb) : FG L P w mg base 1 (f 17) (fd 17) ["rule"] m_units := fg_of (N := N_units) M.F_units sc_units fun cdv A outer s H E hr hg => d_units M hr hg
end Lw
namespace Lw
open PySem PySem.Spec L2 DL
variable {L : Lx} {P : Program} {w : World} {mg : Str → Option Value} {base : Heap} {f : Nat → Addr} {fd : Nat → FuncData} {fI co tb : Nat → Addr}
abbrev N_first_worths : List Str := ["rule", "papers", "worth", "paper"]
abbrev s_first_worths : Stmt := (topS 32)
theorem sc_first_worths : FnScope N_first_worths ["rule", "papers"] (defScope s_first_worths) := ⟨rfl, rfl, rfl, by decide +kernel, rfl, by decide +kernel, by decide +kernel⟩
def b_first_worths : IS := (sSeq (sSet 2 (iCall (m_units) [(iVar 0)]))
  (sRet (iLc (gN 3) (iiA (iVar 1)) cYes (iIf (asB (iNeZ (iVar 3))) (iVar 2) (iLit (.int 0))) [3])))
theorem d_first_worths (M : Md L mg f fd fI co tb) {f' : Addr} {cdv : Value} {A : Around} {outer : List PySem.Env} {s : Shared} {H : Hp} {E : XK} (hr : Room (1) (A.deeper (PyProof.Rows.envOfC "first_worths" (defScope s_first_worths) s.heap.objs.size f' cdv))) (hg : A.guards = some []) :
    DSs L (cxOf (L2.CX P w) P w L.K mg base N_first_worths "first_worths" (defScope s_first_worths) f' cdv A outer s H E) (b_first_worths) (defBody s_first_worths) := by
  have hu : (A.deeper (PyProof.Rows.envOfC "first_worths" (defScope s_first_worths) s.heap.objs.size f' cdv)).units + 64 < cLine := hr.units
  exact (dss_cons (ds_set (n := 2) sc_first_worths.nd rfl (Or.inr rfl) (de_call (g_units M) rfl (hr.mono (by omega)) hg (by rfl) M.g_units M.k_units M.b_units rfl (da_cons (dvar 0) da_nil)))
  (dss_one (ds_ret (df_lc (own := [("paper", 3)]) rfl sc_first_worths.nd (di_any rfl (dvar 1)) (show BlkOk N_first_worths (defScope s_first_worths) _ [("paper", 3)] from ⟨rfl, by decide +kernel, by decide +kernel, by decide +kernel, by decide +kernel⟩) (fun s H C cl fp => (pg_name (i := 3) sc_first_worths.nd rfl (by first | exact .inl rfl | exact .inr rfl))) (gk_name (by decide)) (fun s H C cl fp => pts_nil) tk_yes (fun s H C cl fp => (de_if (dt_neZ rfl (u1 hu) (dvar 3) (by rfl) M.z_NO_PAPER) (dvar 2) dint))).de)))
def m_first_worths : List D → M D := runFn 4 b_first_worths
theorem g_first_worths (M : Md L mg f fd fI co tb) : FG L P w mg base 2 (f 18) (fd 18) ["rule", "papers"] m_first_worths := fg_of (N := N_first_worths) M.F_first_worths sc_first_worths fun cdv A outer s H E hr hg => d_first_worths M hr hg
abbrev N__first_going : List Str := ["paper", "going", "name"]
abbrev s__first_going : Stmt := (topS 35)
theorem sc__first_going : FnScope N__first_going ["paper", "going"] (defScope s__first_going) := ⟨rfl, rfl, rfl, by decide +kernel, rfl, by decide +kernel, by decide +kernel⟩
def b__first_going : IS := (sSeq (sFor (gN 2) (iiA (iVar 0)) (sIf (asB (iOp fInA (iVar 2) (iVar 1))) (sRet (iVar 2)) sPass))
  (sRet (iLit .non)))
theorem d__first_going (M : Md L mg f fd fI co tb) {f' : Addr} {cdv : Value} {A : Around} {outer : List PySem.Env} {s : Shared} {H : Hp} {E : XK} (hr : Room (0) (A.deeper (PyProof.Rows.envOfC "_first_going" (defScope s__first_going) s.heap.objs.size f' cdv))) (hg : A.guards = some []) :
    DSs L (cxOf (L2.CX P w) P w L.K mg base N__first_going "_first_going" (defScope s__first_going) f' cdv A outer s H E) (b__first_going) (defBody s__first_going) := by
  have hu : (A.deeper (PyProof.Rows.envOfC "_first_going" (defScope s__first_going) s.heap.objs.size f' cdv)).units + 64 < cLine := hr.units
  exact (dss_cons (ds_for (passes_of rfl) rfl (di_any rfl (dvar 0)) (dg_name (n := 2) sc__first_going.nd rfl (Or.inl rfl)) (dss_one (ds_if (dt_cmp (od_inA rfl (u65 hr)) (dvar 2).dv (dvar 1).dv (by with_unfolding_all rfl)) (dss_one (ds_ret (dvar 2))) dss_nil)))
  (dss_one (ds_ret dnon)))
def m__first_going : List D → M D := runFn 3 b__first_going
theorem g__first_going (M : Md L mg f fd fI co tb) : FG L P w mg base 1 (f 19) (fd 19) ["paper", "going"] m__first_going := fg_of (N := N__first_going) M.F__first_going sc__first_going fun cdv A outer s H E hr hg => d__first_going M hr hg
abbrev N_stands : List Str := ["papers", "going", "paper"]
abbrev s_stands : Stmt := (topS 33)
theorem sc_stands : FnScope N_stands ["papers", "going"] (defScope s_stands) := ⟨rfl, rfl, rfl, by decide +kernel, rfl, by decide +kernel, by decide +kernel⟩
def b_stands : IS := (sRet (iLc (gN 2) (iiA (iVar 0)) cYes (iCall (m__first_going) [(iVar 2), (iVar 1)]) [2]))
theorem d_stands (M : Md L mg f fd fI co tb) {f' : Addr} {cdv : Value} {A : Around} {outer : List PySem.Env} {s : Shared} {H : Hp} {E : XK} (hr : Room (1) (A.deeper (PyProof.Rows.envOfC "stands" (defScope s_stands) s.heap.objs.size f' cdv))) (hg : A.guards = some []) :
    DSs L (cxOf (L2.CX P w) P w L.K mg base N_stands "stands" (defScope s_stands) f' cdv A outer s H E) (b_stands) (defBody s_stands) := by
  have hu : (A.deeper (PyProof.Rows.envOfC "stands" (defScope s_stands) s.heap.objs.size f' cdv)).units + 64 < cLine := hr.units
  exact (dss_one (ds_ret (df_lc (own := [("paper", 2)]) rfl sc_stands.nd (di_any rfl (dvar 0)) (show BlkOk N_stands (defScope s_stands) _ [("paper", 2)] from ⟨rfl, by decide +kernel, by decide +kernel, by decide +kernel, by decide +kernel⟩) (fun s H C cl fp => (pg_name (i := 2) sc_stands.nd rfl (by first | exact .inl rfl | exact .inr rfl))) (gk_name (by decide)) (fun s H C cl fp => pts_nil) tk_yes (fun s H C cl fp => (de_call (g__first_going M) rfl (hr.mono (by omega)) hg (by rfl) M.g__first_going M.k__first_going M.b__first_going rfl (da_cons (dvar 2) (da_cons (dvar 1) da_nil))))).de))
def m_stands : List D → M D := runFn 3 b_stands
theorem g_stands (M : Md L mg f fd fI co tb) : FG L P w mg base 2 (f 20) (fd 20) ["papers", "going"] m_stands := fg_of (N := N_stands) M.F_stands sc_stands fun cdv A outer s H E hr hg => d_stands M hr hg
abbrev N_Count___init__ : List Str := ["self", "rule", "roll", "paper", "many"]
abbrev s_Count___init__ : Stmt := (clsS 37 0)
theorem sc_Count___init__ : FnScope N_Count___init__ ["self", "rule", "roll"] (defScope s_Count___init__) := ⟨rfl, rfl, rfl, by decide +kernel, rfl, by decide +kernel, by decide +kernel⟩
def b_Count___init__ : IS := (sSeq (sExpr (iCall (m_need_same_names) [(iVar 1), (iVar 2)]))
  (sSeq (sSelf (fun c => decide (c = 7)) 0 "rule" (iVar 1))
  (sSeq (sSelf (fun c => decide (c = 7)) 0 "papers" (iLc (gT [gN 3, gN 4]) (iiA (iFld at_papers (iVar 2))) cYes (iVar 3) [3, 4]))
  (sSeq (sSelf (fun c => decide (c = 7)) 0 "numbers" (iLc (gT [gN 3, gN 4]) (iiA (iFld at_papers (iVar 2))) cYes (iVar 4) [3, 4]))
  (sSeq (sSelf (fun c => decide (c = 7)) 0 "worths" (iCall (m_first_worths) [(iVar 1), (iOFld (fun c => decide (c = 7)) 0 "papers")]))
  (sSeq (sSelf (fun c => decide (c = 7)) 0 "going" (iFld at_names (iVar 1)))
  (sSeq (sSelf (fun c => decide (c = 7)) 0 "seats" (iFld at_seats (iVar 1)))
  (sSelf (fun c => decide (c = 7)) 0 "standing" (iCall (m_stands) [(iOFld (fun c => decide (c = 7)) 0 "papers"), (iOFld (fun c => decide (c = 7)) 0 "going")])))))))))
theorem d_Count___init__ (M0 : Md L mg f fd fI co tb) (a : Addr) {f' : Addr} {cdv : Value} {A : Around} {outer : List PySem.Env} {s : Shared} {H : Hp} {E : XK} (hr : Room (2) (A.deeper (PyProof.Rows.envOfC "Count.__init__" (defScope s_Count___init__) s.heap.objs.size f' cdv))) (hg : A.guards = some []) :
    DSs (L.ms a) (cxOf (L2.CX P w) P w L.K mg base N_Count___init__ "Count.__init__" (defScope s_Count___init__) f' cdv A outer s H E) b_Count___init__ (defBody s_Count___init__) := by
  have M := M0.ms a
  have hu : (A.deeper (PyProof.Rows.envOfC "Count.__init__" (defScope s_Count___init__) s.heap.objs.size f' cdv)).units + 64 < cLine := hr.units
  exact (dss_cons (ds_expr (de_call (g_need_same_names M) rfl (hr.mono (by omega)) hg (by rfl) M.g_need_same_names M.k_need_same_names M.b_need_same_names rfl (da_cons (dvar 1) (da_cons (dvar 2) da_nil))).dv)
  (dss_cons (ds_self (ok := fun c => decide (c = 7)) rfl (fun c hc => by obtain rfl := of_decide_eq_true hc; exact ⟨M.cl7, M.na7 _ (by decide)⟩) (pv 0) (dvar 1))
  (dss_cons (ds_self (ok := fun c => decide (c = 7)) rfl (fun c hc => by obtain rfl := of_decide_eq_true hc; exact ⟨M.cl7, M.na7 _ (by decide)⟩) (pv 0) (df_lc (own := [("paper", 3), ("many", 4)]) rfl sc_Count___init__.nd (di_any rfl (de_fld (at_ := at_papers) (dvar 2) rfl M.f_papers)) (show BlkOk N_Count___init__ (defScope s_Count___init__) _ [("paper", 3), ("many", 4)] from ⟨rfl, by decide +kernel, by decide +kernel, by decide +kernel, by decide +kernel⟩) (fun s H C cl fp => (pg_tup rfl (pgs_cons (pg_name (i := 3) sc_Count___init__.nd rfl (by first | exact .inl rfl | exact .inr rfl)) (pgs_cons (pg_name (i := 4) sc_Count___init__.nd rfl (by first | exact .inl rfl | exact .inr rfl)) pgs_nil)))) (gk_tup (ns := [3, 4]) (by decide)) (fun s H C cl fp => pts_nil) tk_yes (fun s H C cl fp => (dvar 3))).de)
  (dss_cons (ds_self (ok := fun c => decide (c = 7)) rfl (fun c hc => by obtain rfl := of_decide_eq_true hc; exact ⟨M.cl7, M.na7 _ (by decide)⟩) (pv 0) (df_lc (own := [("paper", 3), ("many", 4)]) rfl sc_Count___init__.nd (di_any rfl (de_fld (at_ := at_papers) (dvar 2) rfl M.f_papers)) (show BlkOk N_Count___init__ (defScope s_Count___init__) _ [("paper", 3), ("many", 4)] from ⟨rfl, by decide +kernel, by decide +kernel, by decide +kernel, by decide +kernel⟩) (fun s H C cl fp => (pg_tup rfl (pgs_cons (pg_name (i := 3) sc_Count___init__.nd rfl (by first | exact .inl rfl | exact .inr rfl)) (pgs_cons (pg_name (i := 4) sc_Count___init__.nd rfl (by first | exact .inl rfl | exact .inr rfl)) pgs_nil)))) (gk_tup (ns := [3, 4]) (by decide)) (fun s H C cl fp => pts_nil) tk_yes (fun s H C cl fp => (dvar 4))).de)
  (dss_cons (ds_self (ok := fun c => decide (c = 7)) rfl (fun c hc => by obtain rfl := of_decide_eq_true hc; exact ⟨M.cl7, M.na7 _ (by decide)⟩) (pv 0) (de_call (g_first_worths M) rfl (hr.mono (by omega)) hg (by rfl) M.g_first_worths M.k_first_worths M.b_first_worths rfl (da_cons (dvar 1) (da_cons (de_ofld (ok := fun c => decide (c = 7)) rfl (fun c hc => by obtain rfl := of_decide_eq_true hc; exact ⟨M.cl7, M.na7 _ (by decide)⟩) (pv 0)) da_nil))))
  (dss_cons (ds_self (ok := fun c => decide (c = 7)) rfl (fun c hc => by obtain rfl := of_decide_eq_true hc; exact ⟨M.cl7, M.na7 _ (by decide)⟩) (pv 0) (de_fld (at_ := at_names) (dvar 1) rfl M.f_names))
  (dss_cons (ds_self (ok := fun c => decide (c = 7)) rfl (fun c hc => by obtain rfl := of_decide_eq_true hc; exact ⟨M.cl7, M.na7 _ (by decide)⟩) (pv 0) (de_fld (at_ := at_seats) (dvar 1) rfl M.f_seats))
  (dss_one (ds_self (ok := fun c => decide (c = 7)) rfl (fun c hc => by obtain rfl := of_decide_eq_true hc; exact ⟨M.cl7, M.na7 _ (by decide)⟩) (pv 0) (de_call (g_stands M) rfl (hr.mono (by omega)) hg (by rfl) M.g_stands M.k_stands M.b_stands rfl (da_cons (de_ofld (ok := fun c => decide (c = 7)) rfl (fun c hc => by obtain rfl := of_decide_eq_true hc; exact ⟨M.cl7, M.na7 _ (by decide)⟩) (pv 0)) (da_cons (de_ofld (ok := fun c => decide (c = 7)) rfl (fun c hc => by obtain rfl := of_decide_eq_true hc; exact ⟨M.cl7, M.na7 _ (by decide)⟩) (pv 0)) da_nil))))))))))))
def m_Count___init__ : List D → M (List (Str × D)) := runIn 5 b_Count___init__ 7
theorem g_Count___init__ (M : Md L mg f fd fI co tb) : FGI L P w mg base 3 (f 21) (fd 21) ["self", "rule", "roll"] 7 m_Count___init__ := fgi_of (N := N_Count___init__) M.F_Count___init__ sc_Count___init__ fun a cdv A outer s H E hr hg => d_Count___init__ M a hr hg
abbrev N_has_ended : List Str := ["going", "seats"]
abbrev s_has_ended : Stmt := (topS 28)
theorem sc_has_ended : FnScope N_has_ended ["going", "seats"] (defScope s_has_ended) := ⟨rfl, rfl, rfl, by decide +kernel, rfl, by decide +kernel, by decide +kernel⟩
def b_has_ended : IS := (sRet (iOr (iOp fEq (iVar 1) (iLit (.int 0))) (iOp fLe (iBi fLen [(iVar 0)]) (iVar 1))))
theorem d_has_ended (M : Md L mg f fd fI co tb) {f' : Addr} {cdv : Value} {A : Around} {outer : List PySem.Env} {s : Shared} {H : Hp} {E : XK} (hr : Room (0) (A.deeper (PyProof.Rows.envOfC "has_ended" (defScope s_has_ended) s.heap.objs.size f' cdv))) (hg : A.guards = some []) :
    DSs L (cxOf (L2.CX P w) P w L.K mg base N_has_ended "has_ended" (defScope s_has_ended) f' cdv A outer s H E) (b_has_ended) (defBody s_has_ended) := by
  have hu : (A.deeper (PyProof.Rows.envOfC "has_ended" (defScope s_has_ended) s.heap.objs.size f' cdv)).units + 64 < cLine := hr.units
  exact (dss_one (ds_ret (de_or (de_cmp (od_eq rfl hu) (dvar 1).dv dint.dv (nomark _)) (de_one (de_cmp (od_le rfl hu) (de_bi (ca_len rfl) (by rfl) M.n_len (by decide +kernel) (dav_cons (dvar 0).dv dav_nil)).dv (dvar 1).dv (nomark _))))))
def m_has_ended : List D → M D := runFn 2 b_has_ended
theorem g_has_ended (M : Md L mg f fd fI co tb) : FG L P w mg base 1 (f 22) (fd 22) ["going", "seats"] m_has_ended := fg_of (N := N_has_ended) M.F_has_ended sc_has_ended fun cdv A outer s H E hr hg => d_has_ended M hr hg
abbrev N_Count_is_over : List Str := ["self"]
abbrev s_Count_is_over : Stmt := (clsS 37 1)
theorem sc_Count_is_over : FnScope N_Count_is_over ["self"] (defScope s_Count_is_over) := ⟨rfl, rfl, rfl, by decide +kernel, rfl, by decide +kernel, by decide +kernel⟩
def b_Count_is_over : IS := (sRet (iCall (m_has_ended) [(iFld at_going (iVar 0)), (iFld at_seats (iVar 0))]))
theorem d_Count_is_over (M : Md L mg f fd fI co tb) {f' : Addr} {cdv : Value} {A : Around} {outer : List PySem.Env} {s : Shared} {H : Hp} {E : XK} (hr : Room (1) (A.deeper (PyProof.Rows.envOfC "Count.is_over" (defScope s_Count_is_over) s.heap.objs.size f' cdv))) (hg : A.guards = some []) :
    DSs L (cxOf (L2.CX P w) P w L.K mg base N_Count_is_over "Count.is_over" (defScope s_Count_is_over) f' cdv A outer s H E) (b_Count_is_over) (defBody s_Count_is_over) := by
  have hu : (A.deeper (PyProof.Rows.envOfC "Count.is_over" (defScope s_Count_is_over) s.heap.objs.size f' cdv)).units + 64 < cLine := hr.units
  exact (dss_one (ds_ret (de_call (g_has_ended M) rfl (hr.mono (by omega)) hg (by rfl) M.g_has_ended M.k_has_ended M.b_has_ended rfl (da_cons (de_fld (at_ := at_going) (dvar 0) rfl M.f_going) (da_cons (de_fld (at_ := at_seats) (dvar 0) rfl M.f_seats) da_nil)))))
def m_Count_is_over : List D → M D := runFn 1 b_Count_is_over
theorem g_Count_is_over (M : Md L mg f fd fI co tb) : FG L P w mg base 2 (f 23) (fd 23) ["self"] m_Count_is_over := fg_of (N := N_Count_is_over) M.F_Count_is_over sc_Count_is_over fun cdv A outer s H E hr hg => d_Count_is_over M hr hg
end Lw
namespace Lw
open PySem PySem.Spec L2 DL
variable {L : Lx} {P : Program} {w : World} {mg : Str → Option Value} {base : Heap} {f : Nat → Addr} {fd : Nat → FuncData} {fI co tb : Nat → Addr}
abbrev N_Count_piles : List Str := ["self", "table", "name", "many", "worth"]
abbrev s_Count_piles : Stmt := (clsS 37 2)
theorem sc_Count_piles : FnScope N_Count_piles ["self"] (defScope s_Count_piles) := ⟨rfl, rfl, rfl, by decide +kernel, rfl, by decide +kernel, by decide +kernel⟩
def b_Count_piles : IS := (sSeq (sOwnD 1 (iDc (gN 2) (iiA (iFld at_going (iVar 0))) cYes (iVar 2) (iLit (.int 0)) [2]))
  (sSeq (sFor (gT [(gN 2), (gN 3), (gN 4)]) (iiZ3 (iFld at_standing (iVar 0)) (iFld at_numbers (iVar 0)) (iFld at_worths (iVar 0))) (sIf (asB (iOp fIsNot (iVar 2) (iLit .non))) (sPut 1 (iVar 2) (iOp fAdd (iOp fIxK (iUse 1) (iVar 2)) (iOp fMul (iVar 3) (iVar 4)))) sPass))
  (sRet (iTupItems (iUse 1)))))
theorem d_Count_piles (M : Md L mg f fd fI co tb) {f' : Addr} {cdv : Value} {A : Around} {outer : List PySem.Env} {s : Shared} {H : Hp} {E : XK} (hr : Room (0) (A.deeper (PyProof.Rows.envOfC "Count.piles" (defScope s_Count_piles) s.heap.objs.size f' cdv))) (hg : A.guards = some []) :
    DSs L (cxOf (L2.CX P w) P w L.K mg base N_Count_piles "Count.piles" (defScope s_Count_piles) f' cdv A outer s H E) (b_Count_piles) (defBody s_Count_piles) := by
  have hu : (A.deeper (PyProof.Rows.envOfC "Count.piles" (defScope s_Count_piles) s.heap.objs.size f' cdv)).units + 64 < cLine := hr.units
  exact (dss_cons (ds_ownDc (n := 1) (own := [("name", 2)]) rfl sc_Count_piles.nd rfl rfl (sw_dict rfl rfl rfl (by decide +kernel)) (di_any rfl (de_fld (at_ := at_going) (dvar 0) rfl M.f_going)) (show BlkOk N_Count_piles (defScope s_Count_piles) _ [("name", 2)] from ⟨rfl, by decide +kernel, by decide +kernel, by decide +kernel, by decide +kernel⟩) (fun s H C cl fp => (pg_name (i := 2) sc_Count_piles.nd rfl (by first | exact .inl rfl | exact .inr rfl))) (gk_name (by decide)) (fun s H C cl fp => pts_nil) tk_yes (fun s H C cl fp => (dvar 2)) (fun s H C cl fp => dint))
  (dss_cons (ds_for (passes_of rfl) rfl (di_zip3 (by rfl) M.n_zip (da_cons (de_fld (at_ := at_standing) (dvar 0) rfl M.f_standing) (da_cons (de_fld (at_ := at_numbers) (dvar 0) rfl M.f_numbers) (da_cons (de_fld (at_ := at_worths) (dvar 0) rfl M.f_worths) da_nil)))) (dg_tup rfl rfl (dgs_cons (dg_name (n := 2) sc_Count_piles.nd rfl (Or.inl rfl)) (dgs_cons (dg_name (n := 3) sc_Count_piles.nd rfl (Or.inl rfl)) (dgs_cons (dg_name (n := 4) sc_Count_piles.nd rfl (Or.inl rfl)) dgs_nil)))) (dss_one (ds_if (dt_cmp od_isNot (dvar 2).dv dnon.dv (nomark _)) (dss_one (ds_put (n := 1) M.ks (u1 hu) (pv 1) (dvar 2) (de_bin (od_add rfl) (de_ix (ixd_dict M.ks (u1 hu)) (duse 1) (dvar 2).dv).dv (de_bin (od_mul rfl) (dvar 3).dv (dvar 4).dv).dv))) dss_nil)))
  (dss_one (ds_ret (de_tupItems M.ks.2 rfl (by rfl) M.n_tuple (duse 1))))))
def m_Count_piles : List D → M D := runFn 5 b_Count_piles
theorem g_Count_piles (M : Md L mg f fd fI co tb) : FG L P w mg base 1 (f 24) (fd 24) ["self"] m_Count_piles := fg_of (N := N_Count_piles) M.F_Count_piles sc_Count_piles fun cdv A outer s H E hr hg => d_Count_piles M hr hg
abbrev N_Count_has_quota : List Str := ["self", "pile", "low", "high", "over"]
abbrev s_Count_has_quota : Stmt := (clsS 37 4)
theorem sc_Count_has_quota : FnScope N_Count_has_quota ["self", "pile"] (defScope s_Count_has_quota) := ⟨rfl, rfl, rfl, by decide +kernel, rfl, by decide +kernel, by decide +kernel⟩
def b_Count_has_quota : IS := (sSeq (sAsg (gT [(gN 2), (gN 3)]) (iFld at_quota (iFld at_rule (iVar 0))))
  (sSeq (sSet 4 (iOp fSubI (iOp fMul (iVar 1) (iVar 3)) (iOp fMul (iOp fMul (iVar 2) (iBi fSum [(iFld at_numbers (iVar 0))])) (iCall (m_units) [(iFld at_rule (iVar 0))]))))
  (sRet (iIf (asB (iFld at_over (iFld at_rule (iVar 0)))) (iOp fGt (iVar 4) (iLit (.int 0))) (iOp fGe (iVar 4) (iLit (.int 0)))))))
theorem d_Count_has_quota (M : Md L mg f fd fI co tb) {f' : Addr} {cdv : Value} {A : Around} {outer : List PySem.Env} {s : Shared} {H : Hp} {E : XK} (hr : Room (1) (A.deeper (PyProof.Rows.envOfC "Count.has_quota" (defScope s_Count_has_quota) s.heap.objs.size f' cdv))) (hg : A.guards = some []) :
    DSs L (cxOf (L2.CX P w) P w L.K mg base N_Count_has_quota "Count.has_quota" (defScope s_Count_has_quota) f' cdv A outer s H E) (b_Count_has_quota) (defBody s_Count_has_quota) := by
  have hu : (A.deeper (PyProof.Rows.envOfC "Count.has_quota" (defScope s_Count_has_quota) s.heap.objs.size f' cdv)).units + 64 < cLine := hr.units
  exact (dss_cons (ds_asg (de_fld (at_ := at_quota) (de_fld (at_ := at_rule) (dvar 0) rfl M.f_rule) rfl M.f_quota) (dg_tup rfl rfl (dgs_cons (dg_name (n := 2) sc_Count_has_quota.nd rfl (Or.inl rfl)) (dgs_cons (dg_name (n := 3) sc_Count_has_quota.nd rfl (Or.inl rfl)) dgs_nil))))
  (dss_cons (ds_set (n := 4) sc_Count_has_quota.nd rfl (Or.inl rfl) (de_bin od_subI (de_bin (od_mul rfl) (dvar 1).dv (dvar 3).dv).dv (de_bin (od_mul rfl) (de_bin (od_mul rfl) (dvar 2).dv (de_bi (ca_sum rfl) (by rfl) M.n_sum (by decide +kernel) (dav_cons (de_fld (at_ := at_numbers) (dvar 0) rfl M.f_numbers).dv dav_nil)).dv).dv (de_call (g_units M) rfl (hr.mono (by omega)) hg (by rfl) M.g_units M.k_units M.b_units rfl (da_cons (de_fld (at_ := at_rule) (dvar 0) rfl M.f_rule) da_nil)).dv).dv))
  (dss_one (ds_ret (de_if (dt_val (de_fld (at_ := at_over) (de_fld (at_ := at_rule) (dvar 0) rfl M.f_rule) rfl M.f_over)) (de_cmp (od_gt rfl hu) (dvar 4).dv dint.dv (nomark _)) (de_cmp (od_ge rfl hu) (dvar 4).dv dint.dv (nomark _)))))))
def m_Count_has_quota : List D → M D := runFn 5 b_Count_has_quota
theorem g_Count_has_quota (M : Md L mg f fd fI co tb) : FG L P w mg base 2 (f 25) (fd 25) ["self", "pile"] m_Count_has_quota := fg_of (N := N_Count_has_quota) M.F_Count_has_quota sc_Count_has_quota fun cdv A outer s H E hr hg => d_Count_has_quota M hr hg
abbrev N_Count_next_step : List Str := ["self", "table", "going", "greatest", "name"]
abbrev s_Count_next_step : Stmt := (clsS 37 3)
theorem sc_Count_next_step : FnScope N_Count_next_step ["self"] (defScope s_Count_next_step) := ⟨rfl, rfl, rfl, by decide +kernel, rfl, by decide +kernel, by decide +kernel⟩
def b_Count_next_step : IS := (sSeq (sSet 1 (iBi fDictK [(iMth 7 m_Count_piles (iVar 0) [])]))
  (sSeq (sSet 2 (iLc (gN 4) (iiA (iFld at_order (iFld at_rule (iVar 0)))) (asB (iOp (fInK false) (iVar 4) (iVar 1))) (iVar 4) [4]))
  (sSeq (sSet 3 (iKey true 4 (iVar 2) (iOp fIxK (iVar 1) (iVar 4))))
  (sSeq (sIf (asB (iMth 7 m_Count_has_quota (iVar 0) [(iOp fIxK (iVar 1) (iVar 3))])) (sRet (iTup [(iLit (.str (PySem.Str.ofString "in"))), (iVar 3)])) sPass)
  (sRet (iTup [(iLit (.str (PySem.Str.ofString "out"))), (iKey false 4 (iRev (iVar 2)) (iOp fIxK (iVar 1) (iVar 4)))]))))))
theorem d_Count_next_step (M : Md L mg f fd fI co tb) (B : Tbs mg base co tb) {f' : Addr} {A : Around} {outer : List PySem.Env} {s : Shared} {H : Hp} {E : XK} (hr : Room (2) (A.deeper (PyProof.Rows.envOfC "Count.next_step" (defScope s_Count_next_step) s.heap.objs.size f' (.ref (co 26))))) (hg : A.guards = some []) :
    DSs L (cxOf (L2.CX P w) P w L.K mg base N_Count_next_step "Count.next_step" (defScope s_Count_next_step) f' (.ref (co 26)) A outer s H E) (b_Count_next_step) (defBody s_Count_next_step) := by
  have hu : (A.deeper (PyProof.Rows.envOfC "Count.next_step" (defScope s_Count_next_step) s.heap.objs.size f' (.ref (co 26)))).units + 64 < cLine := hr.units
  exact (dss_cons (ds_set (n := 1) sc_Count_next_step.nd rfl (Or.inr rfl) (dfd_ty (ca_dictK rfl rfl) (by rfl) M.n_dict (by decide +kernel) (dav_cons (de_meth0 (c := 7) (cal_fn (g_Count_piles M) rfl (hr.mono (by omega)) hg M.b_Count_piles rfl) M.o_Count_piles rfl (dvar 0)).dv dav_nil)).de)
  (dss_cons (ds_setLc (n := 2) (own := [("name", 4)]) rfl sc_Count_next_step.nd rfl rfl (sw_true rfl rfl rfl (by decide +kernel)) (di_any rfl (de_fld (at_ := at_order) (de_fld (at_ := at_rule) (dvar 0) rfl M.f_rule) rfl M.f_order)) (show BlkOk N_Count_next_step (defScope s_Count_next_step) _ [("name", 4)] from ⟨rfl, by decide +kernel, by decide +kernel, by decide +kernel, by decide +kernel⟩) (fun s H C cl fp => (pg_name (i := 4) sc_Count_next_step.nd rfl (by first | exact .inl rfl | exact .inr rfl))) (gk_name (by decide)) (fun s H C cl fp => (pts_of (dt_cmp (od_inK M.ks (u1 hu)) (dvar 4).dv (dvar 1).dv (by with_unfolding_all rfl)))) tk_one (fun s H C cl fp => (dvar 4)))
  (dss_cons (ds_set (n := 3) sc_Count_next_step.nd rfl (Or.inl rfl) (de_maxK (k := 0) (n := 4) (y := "name") rfl rfl (by rfl) M.n_max (dvar 2) (by exact B.t_Count_next_step) (by rfl) (by exact M.T_Count_next_step) (by exact M.U_Count_next_step) (hr.mono (by omega)) hg (by exact lamD_by (show lamDB (defScope s_Count_next_step) _ "name" = true from (by decide +kernel))) sc_Count_next_step.nd (by rfl) (by rfl) (by exact fun _ _ _ _ _ _ => rfl) (by exact fun A outer s H E fl cl hr hg => have hu := hr.units; (de_ix (ixd_dict M.ks (u1 hu)) (dvar 1).dv (dvar 4).dv))))
  (dss_cons (ds_if (dt_val (de_meth (c := 7) (is := [(iOp fIxK (iVar 1) (iVar 3))]) (cal_fn (g_Count_has_quota M) rfl (hr.mono (by omega)) hg M.b_Count_has_quota rfl) M.o_Count_has_quota rfl (dvar 0) (da_cons (de_ix (ixd_dict M.ks (u1 hu)) (dvar 1).dv (dvar 3).dv) da_nil))) (dss_one (ds_ret (de_tup (da_cons dstr (da_cons (dvar 3) da_nil))))) dss_nil)
  (dss_one (ds_ret (de_tup (da_cons dstr (da_cons (de_minK (k := 0) (n := 4) (y := "name") rfl rfl (by rfl) M.n_min (de_rev rfl (dvar 2).dv) (by exact B.t_Count_next_step) (by rfl) (by exact M.T_Count_next_step) (by exact M.U_Count_next_step) (hr.mono (by omega)) hg (by exact lamD_by (show lamDB (defScope s_Count_next_step) _ "name" = true from (by decide +kernel))) sc_Count_next_step.nd (by rfl) (by rfl) (by exact fun _ _ _ _ _ _ => rfl) (by exact fun A outer s H E fl cl hr hg => have hu := hr.units; (de_ix (ixd_dict M.ks (u1 hu)) (dvar 1).dv (dvar 4).dv))) da_nil)))))))))
def m_Count_next_step : List D → M D := runFn 5 b_Count_next_step
theorem g_Count_next_step (M : Md L mg f fd fI co tb) (B : Tbs mg base co tb) : FG L P w mg base 3 (f 26) (fd 26) ["self"] m_Count_next_step := fg_ofC (N := N_Count_next_step) M.F_Count_next_step sc_Count_next_step M.cd_Count_next_step fun A outer s H E hr hg => d_Count_next_step M B hr hg
abbrev N_handed_on : List Str := ["rule", "worths", "standing", "step", "word", "name", "low", "high", "worth", "other"]
abbrev s_handed_on : Stmt := (topS 34)
theorem sc_handed_on : FnScope N_handed_on ["rule", "worths", "standing", "step"] (defScope s_handed_on) := ⟨rfl, rfl, rfl, by decide +kernel, rfl, by decide +kernel, by decide +kernel⟩
def b_handed_on : IS := (sSeq (sAsg (gT [(gN 4), (gN 5)]) (iVar 3))
  (sSeq (sIf (asB (iOp fEq (iVar 4) (iLit (.str (PySem.Str.ofString "out"))))) (sRet (iVar 1)) sPass)
  (sSeq (sAsg (gT [(gN 6), (gN 7)]) (iFld at_hand (iVar 0)))
  (sRet (iLc (gT [gN 8, gN 9]) (iiZ (iVar 1) (iVar 2)) cYes (iIf (asB (iOp fEq (iVar 9) (iVar 5))) (iOp fDivI (iOp fMul (iVar 8) (iVar 6)) (iVar 7)) (iVar 8)) [8, 9])))))
theorem d_handed_on (M : Md L mg f fd fI co tb) {f' : Addr} {cdv : Value} {A : Around} {outer : List PySem.Env} {s : Shared} {H : Hp} {E : XK} (hr : Room (0) (A.deeper (PyProof.Rows.envOfC "handed_on" (defScope s_handed_on) s.heap.objs.size f' cdv))) (hg : A.guards = some []) :
    DSs L (cxOf (L2.CX P w) P w L.K mg base N_handed_on "handed_on" (defScope s_handed_on) f' cdv A outer s H E) (b_handed_on) (defBody s_handed_on) := by
  have hu : (A.deeper (PyProof.Rows.envOfC "handed_on" (defScope s_handed_on) s.heap.objs.size f' cdv)).units + 64 < cLine := hr.units
  exact (dss_cons (ds_asg (dvar 3) (dg_tup rfl rfl (dgs_cons (dg_name (n := 4) sc_handed_on.nd rfl (Or.inl rfl)) (dgs_cons (dg_name (n := 5) sc_handed_on.nd rfl (Or.inr rfl)) dgs_nil))))
  (dss_cons (ds_if (dt_cmp (od_eq rfl hu) (dvar 4).dv dstr.dv (nomark _)) (dss_one (ds_ret (dvar 1))) dss_nil)
  (dss_cons (ds_asg (de_fld (at_ := at_hand) (dvar 0) rfl M.f_hand) (dg_tup rfl rfl (dgs_cons (dg_name (n := 6) sc_handed_on.nd rfl (Or.inr rfl)) (dgs_cons (dg_name (n := 7) sc_handed_on.nd rfl (Or.inr rfl)) dgs_nil))))
  (dss_one (ds_ret (df_lc (own := [("worth", 8), ("other", 9)]) rfl sc_handed_on.nd (di_zip rfl (by rfl) M.n_zip (da_cons (dvar 1) (da_cons (dvar 2) da_nil))) (show BlkOk N_handed_on (defScope s_handed_on) _ [("worth", 8), ("other", 9)] from ⟨rfl, by decide +kernel, by decide +kernel, by decide +kernel, by decide +kernel⟩) (fun s H C cl fp => (pg_tup rfl (pgs_cons (pg_name (i := 8) sc_handed_on.nd rfl (by first | exact .inl rfl | exact .inr rfl)) (pgs_cons (pg_name (i := 9) sc_handed_on.nd rfl (by first | exact .inl rfl | exact .inr rfl)) pgs_nil)))) (gk_tup (ns := [8, 9]) (by decide)) (fun s H C cl fp => pts_nil) tk_yes (fun s H C cl fp => (de_if (dt_cmp (od_eq rfl hu) (dvar 9).dv (dvar 5).dv (nomark _)) (de_bin od_divI (de_bin (od_mul rfl) (dvar 8).dv (dvar 6).dv).dv (dvar 7).dv) (dvar 8)))).de)))))
def m_handed_on : List D → M D := runFn 10 b_handed_on
theorem g_handed_on (M : Md L mg f fd fI co tb) : FG L P w mg base 1 (f 27) (fd 27) ["rule", "worths", "standing", "step"] m_handed_on := fg_of (N := N_handed_on) M.F_handed_on sc_handed_on fun cdv A outer s H E hr hg => d_handed_on M hr hg
abbrev N_without_name : List Str := ["going", "name", "other"]
abbrev s_without_name : Stmt := (topS 29)
theorem sc_without_name : FnScope N_without_name ["going", "name"] (defScope s_without_name) := ⟨rfl, rfl, rfl, by decide +kernel, rfl, by decide +kernel, by decide +kernel⟩
def b_without_name : IS := (sRet (iBi fTuple [(iLc (gN 2) (iiA (iVar 0)) (asB (iOp fNeD (iVar 2) (iVar 1))) (iVar 2) [2])]))
theorem d_without_name (M : Md L mg f fd fI co tb) {f' : Addr} {cdv : Value} {A : Around} {outer : List PySem.Env} {s : Shared} {H : Hp} {E : XK} (hr : Room (0) (A.deeper (PyProof.Rows.envOfC "without_name" (defScope s_without_name) s.heap.objs.size f' cdv))) (hg : A.guards = some []) :
    DSs L (cxOf (L2.CX P w) P w L.K mg base N_without_name "without_name" (defScope s_without_name) f' cdv A outer s H E) (b_without_name) (defBody s_without_name) := by
  have hu : (A.deeper (PyProof.Rows.envOfC "without_name" (defScope s_without_name) s.heap.objs.size f' cdv)).units + 64 < cLine := hr.units
  exact (dss_one (ds_ret (de_ty (ca_tuple rfl) (by rfl) M.n_tuple (by decide +kernel) (dav_cons (df_lc (own := [("other", 2)]) rfl sc_without_name.nd (di_any rfl (dvar 0)) (show BlkOk N_without_name (defScope s_without_name) _ [("other", 2)] from ⟨rfl, by decide +kernel, by decide +kernel, by decide +kernel, by decide +kernel⟩) (fun s H C cl fp => (pg_name (i := 2) sc_without_name.nd rfl (by first | exact .inl rfl | exact .inr rfl))) (gk_name (by decide)) (fun s H C cl fp => (pts_of (dt_cmp (od_ne0 rfl hu) (dvar 2).dv (dvar 1).dv (nomark _)))) tk_one (fun s H C cl fp => (dvar 2))).de.dv dav_nil))))
def m_without_name : List D → M D := runFn 3 b_without_name
theorem g_without_name (M : Md L mg f fd fI co tb) : FG L P w mg base 1 (f 28) (fd 28) ["going", "name"] m_without_name := fg_of (N := N_without_name) M.F_without_name sc_without_name fun cdv A outer s H E hr hg => d_without_name M hr hg
abbrev N_Count_take : List Str := ["self", "step"]
abbrev s_Count_take : Stmt := (clsS 37 5)
theorem sc_Count_take : FnScope N_Count_take ["self", "step"] (defScope s_Count_take) := ⟨rfl, rfl, rfl, by decide +kernel, rfl, by decide +kernel, by decide +kernel⟩
def b_Count_take : IS := (sSeq (sSelfU (fun c => decide (c = 7)) 0 "worths" (iCall (m_handed_on) [(iOFld (fun c => decide (c = 7)) 0 "rule"), (iOFld (fun c => decide (c = 7)) 0 "worths"), (iOFld (fun c => decide (c = 7)) 0 "standing"), (iVar 1)]))
  (sSeq (sSelfU (fun c => decide (c = 7)) 0 "going" (iCall (m_without_name) [(iOFld (fun c => decide (c = 7)) 0 "going"), (iOp fIx (iVar 1) (iLit (.int 1)))]))
  (sSeq (sSelfU (fun c => decide (c = 7)) 0 "standing" (iCall (m_stands) [(iOFld (fun c => decide (c = 7)) 0 "papers"), (iOFld (fun c => decide (c = 7)) 0 "going")]))
  (sIf (asB (iOp fEq (iOp fIx (iVar 1) (iLit (.int 0))) (iLit (.str (PySem.Str.ofString "in"))))) (sSelfU (fun c => decide (c = 7)) 0 "seats" (iOp fSubI (iOFld (fun c => decide (c = 7)) 0 "seats") (iLit (.int 1)))) sPass))))
theorem d_Count_take (M0 : Md L mg f fd fI co tb) (a : Addr) {f' : Addr} {cdv : Value} {A : Around} {outer : List PySem.Env} {s : Shared} {H : Hp} {E : XK} (hr : Room (2) (A.deeper (PyProof.Rows.envOfC "Count.take" (defScope s_Count_take) s.heap.objs.size f' cdv))) (hg : A.guards = some []) :
    DSs (L.ms a) (cxOf (L2.CX P w) P w L.K mg base N_Count_take "Count.take" (defScope s_Count_take) f' cdv A outer s H E) b_Count_take (defBody s_Count_take) := by
  have M := M0.ms a
  have hu : (A.deeper (PyProof.Rows.envOfC "Count.take" (defScope s_Count_take) s.heap.objs.size f' cdv)).units + 64 < cLine := hr.units
  exact (dss_cons (ds_selfU (ok := fun c => decide (c = 7)) rfl (fun c hc => by obtain rfl := of_decide_eq_true hc; exact ⟨M.cl7, M.na7 _ (by decide)⟩) (pv 0) (de_call (g_handed_on M) rfl (hr.mono (by omega)) hg (by rfl) M.g_handed_on M.k_handed_on M.b_handed_on rfl (da_cons (de_ofld (ok := fun c => decide (c = 7)) rfl (fun c hc => by obtain rfl := of_decide_eq_true hc; exact ⟨M.cl7, M.na7 _ (by decide)⟩) (pv 0)) (da_cons (de_ofld (ok := fun c => decide (c = 7)) rfl (fun c hc => by obtain rfl := of_decide_eq_true hc; exact ⟨M.cl7, M.na7 _ (by decide)⟩) (pv 0)) (da_cons (de_ofld (ok := fun c => decide (c = 7)) rfl (fun c hc => by obtain rfl := of_decide_eq_true hc; exact ⟨M.cl7, M.na7 _ (by decide)⟩) (pv 0)) (da_cons (dvar 1) da_nil))))))
  (dss_cons (ds_selfU (ok := fun c => decide (c = 7)) rfl (fun c hc => by obtain rfl := of_decide_eq_true hc; exact ⟨M.cl7, M.na7 _ (by decide)⟩) (pv 0) (de_call (g_without_name M) rfl (hr.mono (by omega)) hg (by rfl) M.g_without_name M.k_without_name M.b_without_name rfl (da_cons (de_ofld (ok := fun c => decide (c = 7)) rfl (fun c hc => by obtain rfl := of_decide_eq_true hc; exact ⟨M.cl7, M.na7 _ (by decide)⟩) (pv 0)) (da_cons (de_ix (ixd rfl) (dvar 1).dv dint.dv) da_nil))))
  (dss_cons (ds_selfU (ok := fun c => decide (c = 7)) rfl (fun c hc => by obtain rfl := of_decide_eq_true hc; exact ⟨M.cl7, M.na7 _ (by decide)⟩) (pv 0) (de_call (g_stands M) rfl (hr.mono (by omega)) hg (by rfl) M.g_stands M.k_stands M.b_stands rfl (da_cons (de_ofld (ok := fun c => decide (c = 7)) rfl (fun c hc => by obtain rfl := of_decide_eq_true hc; exact ⟨M.cl7, M.na7 _ (by decide)⟩) (pv 0)) (da_cons (de_ofld (ok := fun c => decide (c = 7)) rfl (fun c hc => by obtain rfl := of_decide_eq_true hc; exact ⟨M.cl7, M.na7 _ (by decide)⟩) (pv 0)) da_nil))))
  (dss_one (ds_if (dt_cmp (od_eq rfl hu) (de_ix (ixd rfl) (dvar 1).dv dint.dv).dv dstr.dv (nomark _)) (dss_one (ds_selfU (ok := fun c => decide (c = 7)) rfl (fun c hc => by obtain rfl := of_decide_eq_true hc; exact ⟨M.cl7, M.na7 _ (by decide)⟩) (pv 0) (de_bin od_subI (de_ofld (ok := fun c => decide (c = 7)) rfl (fun c hc => by obtain rfl := of_decide_eq_true hc; exact ⟨M.cl7, M.na7 _ (by decide)⟩) (pv 0)).dv dint.dv))) dss_nil)))))
def m_Count_take : List (Str × D) → List D → M (List (Str × D)) := runTk 2 b_Count_take 7
theorem g_Count_take (M : Md L mg f fd fI co tb) : FGU L P w mg base 3 (f 29) (fd 29) ["self", "step"] 7 m_Count_take := fgu_of (N := N_Count_take) M.F_Count_take sc_Count_take fun a cdv A outer s H E hr hg => d_Count_take M a hr hg
end Lw
namespace Lw
open PySem PySem.Spec L2 DL
variable {L : Lx} {P : Program} {w : World} {mg : Str → Option Value} {base : Heap} {f : Nat → Addr} {fd : Nat → FuncData} {fI co tb : Nat → Addr}
abbrev N_stages : List Str := ["rule", "roll", "found", "count", "step"]
abbrev s_stages : Stmt := (topS 38)
theorem sc_stages : FnScope N_stages ["rule", "roll"] (defScope s_stages) := ⟨rfl, rfl, rfl, by decide +kernel, rfl, by decide +kernel, by decide +kernel⟩
def b_stages : IS := (sSeq (sOwn 2 (iLst []))
  (sSeq (sOwnC 7 fields7 3 (iCal (mInit 7 fields7 m_Count___init__) [(iVar 0), (iVar 1)]))
  (sSeq (sWhile 200 (notB (asB (iLendC 7 fields7 3 (iMth 7 m_Count_is_over (iVar 3) [])))) (sSeq (sSet 4 (iLendC 7 fields7 3 (iMth 7 m_Count_next_step (iVar 3) [])))
  (sSeq (sApp 2 (iTup [(iLendC 7 fields7 3 (iMth 7 m_Count_piles (iVar 3) [])), (iVar 4)]))
  (sTakeC 7 fields7 3 m_Count_take [(iVar 4)]))))
  (sRet (iBi fTuple [(iUse 2)])))))
theorem d_stages (M : Md L mg f fd fI co tb) (B : Tbs mg base co tb) (z : L.sf = none) {f' : Addr} {cdv : Value} {A : Around} {outer : List PySem.Env} {s : Shared} {H : Hp} {E : XK} (hr : Room (4) (A.deeper (PyProof.Rows.envOfC "stages" (defScope s_stages) s.heap.objs.size f' cdv))) (hg : A.guards = some []) :
    DSs L (cxOf (L2.CX P w) P w L.K mg base N_stages "stages" (defScope s_stages) f' cdv A outer s H E) (b_stages) (defBody s_stages) := by
  have hu : (A.deeper (PyProof.Rows.envOfC "stages" (defScope s_stages) s.heap.objs.size f' cdv)).units + 64 < cLine := hr.units
  exact (dss_cons (ds_own (n := 2) sc_stages.nd rfl (Or.inl rfl) (df_lst da_nil))
  (dss_cons (ds_ownC (n := 3) z M.h7 sc_stages.nd rfl (Or.inl rfl) (dfi_cal (M.h7 ▸ cali_cls (c := 7) (n := 2) M.mk7 (g_Count___init__ M) rfl rfl (hr.mono (by omega)) hg M.b_Count___init__ rfl) M.kc7 (by rfl) M.c7 (da_cons (dvar 0) (da_cons (dvar 1) da_nil))))
  (dss_cons (ds_while 200 (passes_of rfl) (dt_not (dt_val (de_lendC (n := 3) M.h7 (de_meth0 (c := 7) (cal_fn (g_Count_is_over M) rfl (hr.mono (by omega)) hg M.b_Count_is_over rfl) M.o_Count_is_over rfl (dvar 3))))) (dss_cons (ds_set (n := 4) sc_stages.nd rfl (Or.inl rfl) (de_lendC (n := 3) M.h7 (de_meth0 (c := 7) (cal_fn (g_Count_next_step M B) rfl (hr.mono (by omega)) hg M.b_Count_next_step rfl) M.o_Count_next_step rfl (dvar 3))))
  (dss_cons (ds_app (n := 2) (fun W tk => pe_bm PySem.F.plainAttrs_list PySem.F.slot_list_append PySem.F.type_list_append mt_append (pv 2) (pa_cons ((de_tup (da_cons (de_lendC (n := 3) M.h7 (de_meth0 (c := 7) (cal_fn (g_Count_piles M) rfl (hr.mono (by omega)) hg M.b_Count_piles rfl) M.o_Count_piles rfl (dvar 3))) (da_cons (dvar 4) da_nil))) W tk) pa_nil)))
  (dss_one (ds_takeC (n := 3) (is := [(iVar 4)]) M.h7 (g_Count_take M) (hr.mono (by omega)) hg M.b_Count_take rfl M.o_Count_take rfl (pv 3) (da_cons (dvar 4) da_nil))))))
  (dss_one (ds_ret (de_ty (ca_tuple rfl) (by rfl) M.n_tuple (by decide +kernel) (dav_cons (duse 2) dav_nil)))))))
def m_stages : List D → M D := runFn 5 b_stages
theorem g_stages (M : Md L mg f fd fI co tb) (B : Tbs mg base co tb) (z : L.sf = none) : FG L P w mg base 5 (f 30) (fd 30) ["rule", "roll"] m_stages := fg_of (N := N_stages) M.F_stages sc_stages fun cdv A outer s H E hr hg => d_stages M B z hr hg
abbrev N_course : List Str := ["rule", "roll", "piles", "step"]
abbrev s_course : Stmt := (topS 39)
theorem sc_course : FnScope N_course ["rule", "roll"] (defScope s_course) := ⟨rfl, rfl, rfl, by decide +kernel, rfl, by decide +kernel, by decide +kernel⟩
def b_course : IS := (sRet (iBi fTuple [(iLc (gT [gN 2, gN 3]) (iiA (iCall (m_stages) [(iVar 0), (iVar 1)])) cYes (iVar 3) [2, 3])]))
theorem d_course (M : Md L mg f fd fI co tb) (B : Tbs mg base co tb) (z : L.sf = none) {f' : Addr} {cdv : Value} {A : Around} {outer : List PySem.Env} {s : Shared} {H : Hp} {E : XK} (hr : Room (5) (A.deeper (PyProof.Rows.envOfC "course" (defScope s_course) s.heap.objs.size f' cdv))) (hg : A.guards = some []) :
    DSs L (cxOf (L2.CX P w) P w L.K mg base N_course "course" (defScope s_course) f' cdv A outer s H E) (b_course) (defBody s_course) := by
  have hu : (A.deeper (PyProof.Rows.envOfC "course" (defScope s_course) s.heap.objs.size f' cdv)).units + 64 < cLine := hr.units
  exact (dss_one (ds_ret (de_ty (ca_tuple rfl) (by rfl) M.n_tuple (by decide +kernel) (dav_cons (df_lc (own := [("piles", 2), ("step", 3)]) rfl sc_course.nd (di_any rfl (de_call (g_stages M B z) rfl (hr.mono (by omega)) hg (by rfl) M.g_stages M.k_stages M.b_stages rfl (da_cons (dvar 0) (da_cons (dvar 1) da_nil)))) (show BlkOk N_course (defScope s_course) _ [("piles", 2), ("step", 3)] from ⟨rfl, by decide +kernel, by decide +kernel, by decide +kernel, by decide +kernel⟩) (fun s H C cl fp => (pg_tup rfl (pgs_cons (pg_name (i := 2) sc_course.nd rfl (by first | exact .inl rfl | exact .inr rfl)) (pgs_cons (pg_name (i := 3) sc_course.nd rfl (by first | exact .inl rfl | exact .inr rfl)) pgs_nil)))) (gk_tup (ns := [2, 3]) (by decide)) (fun s H C cl fp => pts_nil) tk_yes (fun s H C cl fp => (dvar 3))).de.dv dav_nil))))
def m_course : List D → M D := runFn 4 b_course
theorem g_course (M : Md L mg f fd fI co tb) (B : Tbs mg base co tb) (z : L.sf = none) : FG L P w mg base 6 (f 31) (fd 31) ["rule", "roll"] m_course := fg_of (N := N_course) M.F_course sc_course fun cdv A outer s H E hr hg => d_course M B z hr hg
abbrev N__need_paper : List Str := ["names", "thing"]
abbrev s__need_paper : Stmt := (topS 43)
theorem sc__need_paper : FnScope N__need_paper ["names", "thing"] (defScope s__need_paper) := ⟨rfl, rfl, rfl, by decide +kernel, rfl, by decide +kernel, by decide +kernel⟩
def b__need_paper : IS := (sSeq (sIf (notB (asB (iCall (m_is_paper) [(iVar 0), (iVar 1)]))) (sRaise 2 (iVar 1)) sPass)
  (sRet (iVar 1)))
theorem d__need_paper (M : Md L mg f fd fI co tb) {f' : Addr} {cdv : Value} {A : Around} {outer : List PySem.Env} {s : Shared} {H : Hp} {E : XK} (hr : Room (1) (A.deeper (PyProof.Rows.envOfC "_need_paper" (defScope s__need_paper) s.heap.objs.size f' cdv))) (hg : A.guards = some []) :
    DSs L (cxOf (L2.CX P w) P w L.K mg base N__need_paper "_need_paper" (defScope s__need_paper) f' cdv A outer s H E) (b__need_paper) (defBody s__need_paper) := by
  have hu : (A.deeper (PyProof.Rows.envOfC "_need_paper" (defScope s__need_paper) s.heap.objs.size f' cdv)).units + 64 < cLine := hr.units
  exact (dss_cons (ds_if (dt_not (dt_val (de_call (g_is_paper M) rfl (hr.mono (by omega)) hg (by rfl) M.g_is_paper M.k_is_paper M.b_is_paper rfl (da_cons (dvar 0) (da_cons (dvar 1) da_nil))))) (dss_one (ds_raise rfl M.x2 rfl M.h2 (dep1 hr) (by rfl) M.c2 (dvar 1))) dss_nil)
  (dss_one (ds_ret (dvar 1))))
def m__need_paper : List D → M D := runFn 2 b__need_paper
theorem g__need_paper (M : Md L mg f fd fI co tb) : FG L P w mg base 2 (f 32) (fd 32) ["names", "thing"] m__need_paper := fg_of (N := N__need_paper) M.F__need_paper sc__need_paper fun cdv A outer s H E hr hg => d__need_paper M hr hg
abbrev N_Roll___getitem__ : List Str := ["self", "at"]
abbrev s_Roll___getitem__ : Stmt := (clsS 42 1)
theorem sc_Roll___getitem__ : FnScope N_Roll___getitem__ ["self", "at"] (defScope s_Roll___getitem__) := ⟨rfl, rfl, rfl, by decide +kernel, rfl, by decide +kernel, by decide +kernel⟩
def b_Roll___getitem__ : IS := (sRet (iGet (iBi fDictT [(iFld at_papers (iVar 0))]) (iCall (m__need_paper) [(iFld at_names (iVar 0)), (iVar 1)]) (iLit (.int 0))))
theorem d_Roll___getitem__ (M : Md L mg f fd fI co tb) {f' : Addr} {cdv : Value} {A : Around} {outer : List PySem.Env} {s : Shared} {H : Hp} {E : XK} (hr : Room (2) (A.deeper (PyProof.Rows.envOfC "Roll.__getitem__" (defScope s_Roll___getitem__) s.heap.objs.size f' cdv))) (hg : A.guards = some []) :
    DSs L (cxOf (L2.CX P w) P w L.K mg base N_Roll___getitem__ "Roll.__getitem__" (defScope s_Roll___getitem__) f' cdv A outer s H E) (b_Roll___getitem__) (defBody s_Roll___getitem__) := by
  have hu : (A.deeper (PyProof.Rows.envOfC "Roll.__getitem__" (defScope s_Roll___getitem__) s.heap.objs.size f' cdv)).units + 64 < cLine := hr.units
  exact (dss_one (ds_ret (de_get M.ks (u1 hu) (dfd_ty (ca_dictT rfl M.ks rfl (u2 hu)) (by rfl) M.n_dict (by decide +kernel) (dav_cons (de_fld (at_ := at_papers) (dvar 0) rfl M.f_papers).dv dav_nil)).de.dv (de_call (g__need_paper M) rfl (hr.mono (by omega)) hg (by rfl) M.g__need_paper M.k__need_paper M.b__need_paper rfl (da_cons (de_fld (at_ := at_names) (dvar 0) rfl M.f_names) (da_cons (dvar 1) da_nil))) dint ⟨by rfl, by rfl, by rfl, by rfl⟩)))
def m_Roll___getitem__ : List D → M D := runFn 2 b_Roll___getitem__
theorem g_Roll___getitem__ (M : Md L mg f fd fI co tb) : FG L P w mg base 3 (f 33) (fd 33) ["self", "at"] m_Roll___getitem__ := fg_of (N := N_Roll___getitem__) M.F_Roll___getitem__ sc_Roll___getitem__ fun cdv A outer s H E hr hg => d_Roll___getitem__ M hr hg
abbrev N_Roll__changed : List Str := ["self", "changes", "numbers", "paper", "change", "many"]
abbrev s_Roll__changed : Stmt := (clsS 42 10)
theorem sc_Roll__changed : FnScope N_Roll__changed ["self", "changes"] (defScope s_Roll__changed) := ⟨rfl, rfl, rfl, by decide +kernel, rfl, by decide +kernel, by decide +kernel⟩
def b_Roll__changed : IS := (sSeq (sOwnD 2 (iBi fDictT [(iFld at_papers (iVar 0))]))
  (sSeq (sFor (gT [(gN 3), (gN 4)]) (iiA (iVar 1)) (sPut 2 (iVar 3) (iOp fAdd (iGet (iUse 2) (iVar 3) (iLit (.int 0))) (iVar 4))))
  (sFrzA 2 (sRet (iCal (mInit 8 fields8 m_Roll___init__) [(iFld at_names (iVar 0)), (iLc (gT [gN 3, gN 5]) (iiI (iVar 2)) (asB (iOp fGt (iVar 5) (iLit (.int 0)))) (iTup [(iVar 3), (iVar 5)]) [3, 5])])))))
theorem d_Roll__changed (M : Md L mg f fd fI co tb) {f' : Addr} {cdv : Value} {A : Around} {outer : List PySem.Env} {s : Shared} {H : Hp} {E : XK} (hr : Room (5) (A.deeper (PyProof.Rows.envOfC "Roll._changed" (defScope s_Roll__changed) s.heap.objs.size f' cdv))) (hg : A.guards = some []) :
    DSs L (cxOf (L2.CX P w) P w L.K mg base N_Roll__changed "Roll._changed" (defScope s_Roll__changed) f' cdv A outer s H E) (b_Roll__changed) (defBody s_Roll__changed) := by
  have hu : (A.deeper (PyProof.Rows.envOfC "Roll._changed" (defScope s_Roll__changed) s.heap.objs.size f' cdv)).units + 64 < cLine := hr.units
  exact (dss_cons (ds_ownD (n := 2) sc_Roll__changed.nd rfl (Or.inl rfl) (dfd_ty (ca_dictT rfl M.ks rfl (u2 hu)) (by rfl) M.n_dict (by decide +kernel) (dav_cons (de_fld (at_ := at_papers) (dvar 0) rfl M.f_papers).dv dav_nil)))
  (dss_cons (ds_for (passes_of rfl) rfl (di_any rfl (dvar 1)) (dg_tup rfl rfl (dgs_cons (dg_name (n := 3) sc_Roll__changed.nd rfl (Or.inl rfl)) (dgs_cons (dg_name (n := 4) sc_Roll__changed.nd rfl (Or.inl rfl)) dgs_nil))) (dss_one (ds_put (n := 2) M.ks (u1 hu) (pv 2) (dvar 3) (de_bin (od_add rfl) (de_get M.ks (u1 hu) (duse 2) (dvar 3) dint ⟨by rfl, by rfl, by rfl, by rfl⟩).dv (dvar 4).dv))))
  (dss_one (ds_frzA (n := 2) (ds_ret (de_cal (M.h8 ▸ cal_cls (c := 8) (n := 2) M.mk8 (g_Roll___init__ M) rfl rfl (hr.mono (by omega)) hg M.b_Roll___init__ rfl) M.kc8 (by rfl) M.c8 (da_cons (de_fld (at_ := at_names) (dvar 0) rfl M.f_names) (da_cons (df_lc (own := [("paper", 3), ("many", 5)]) rfl sc_Roll__changed.nd (di_items M.ks.2 (dvar 2)) (show BlkOk N_Roll__changed (defScope s_Roll__changed) _ [("paper", 3), ("many", 5)] from ⟨rfl, by decide +kernel, by decide +kernel, by decide +kernel, by decide +kernel⟩) (fun s H C cl fp => (pg_tup rfl (pgs_cons (pg_name (i := 3) sc_Roll__changed.nd rfl (by first | exact .inl rfl | exact .inr rfl)) (pgs_cons (pg_name (i := 5) sc_Roll__changed.nd rfl (by first | exact .inl rfl | exact .inr rfl)) pgs_nil)))) (gk_tup (ns := [3, 5]) (by decide)) (fun s H C cl fp => (pts_of (dt_cmp (od_gt rfl hu) (dvar 5).dv dint.dv (nomark _)))) tk_one (fun s H C cl fp => (de_tup (da_cons (dvar 3) (da_cons (dvar 5) da_nil))))).de da_nil))))))))
def m_Roll__changed : List D → M D := runFn 6 b_Roll__changed
theorem g_Roll__changed (M : Md L mg f fd fI co tb) : FG L P w mg base 6 (f 34) (fd 34) ["self", "changes"] m_Roll__changed := fg_of (N := N_Roll__changed) M.F_Roll__changed sc_Roll__changed fun cdv A outer s H E hr hg => d_Roll__changed M hr hg
abbrev N_Roll_exchanged : List Str := ["self", "paper", "other", "many", "there"]
abbrev s_Roll_exchanged : Stmt := (clsS 42 9)
theorem sc_Roll_exchanged : FnScope N_Roll_exchanged ["self", "paper", "other", "many"] (defScope s_Roll_exchanged) := ⟨rfl, rfl, rfl, by decide +kernel, rfl, by decide +kernel, by decide +kernel⟩
def b_Roll_exchanged : IS := (sSeq (sSet 4 (iMth 8 m_Roll___getitem__ (iVar 0) [(iVar 1)]))
  (sSeq (sExpr (iCall (m__need_paper) [(iFld at_names (iVar 0)), (iVar 2)]))
  (sSeq (sIf (notB (asB (iCall (m_is_within) [(iVar 3), (iLit (.int 1)), (iVar 4)]))) (sRaise 5 (iVar 3)) sPass)
  (sRet (iMth 8 m_Roll__changed (iVar 0) [(iLst [(iTup [(iVar 1), (iNeg (iVar 3))]), (iTup [(iVar 2), (iVar 3)])])])))))
theorem d_Roll_exchanged (M : Md L mg f fd fI co tb) {f' : Addr} {cdv : Value} {A : Around} {outer : List PySem.Env} {s : Shared} {H : Hp} {E : XK} (hr : Room (6) (A.deeper (PyProof.Rows.envOfC "Roll.exchanged" (defScope s_Roll_exchanged) s.heap.objs.size f' cdv))) (hg : A.guards = some []) :
    DSs L (cxOf (L2.CX P w) P w L.K mg base N_Roll_exchanged "Roll.exchanged" (defScope s_Roll_exchanged) f' cdv A outer s H E) (b_Roll_exchanged) (defBody s_Roll_exchanged) := by
  have hu : (A.deeper (PyProof.Rows.envOfC "Roll.exchanged" (defScope s_Roll_exchanged) s.heap.objs.size f' cdv)).units + 64 < cLine := hr.units
  exact (dss_cons (ds_set (n := 4) sc_Roll_exchanged.nd rfl (Or.inl rfl) (de_getI (c := 8) (g_Roll___getitem__ M) rfl (hr.mono (by omega)) hg M.b_Roll___getitem__ rfl M.gi8 (dvar 0) (dvar 1)))
  (dss_cons (ds_expr (de_call (g__need_paper M) rfl (hr.mono (by omega)) hg (by rfl) M.g__need_paper M.k__need_paper M.b__need_paper rfl (da_cons (de_fld (at_ := at_names) (dvar 0) rfl M.f_names) (da_cons (dvar 2) da_nil))).dv)
  (dss_cons (ds_if (dt_not (dt_val (de_call (g_is_within M) rfl (hr.mono (by omega)) hg (by rfl) M.g_is_within M.k_is_within M.b_is_within rfl (da_cons (dvar 3) (da_cons dint (da_cons (dvar 4) da_nil)))))) (dss_one (ds_raise rfl M.x5 rfl M.h5 (dep1 hr) (by rfl) M.c5 (dvar 3))) dss_nil)
  (dss_one (ds_ret (de_meth (c := 8) (is := [(iLst [(iTup [(iVar 1), (iNeg (iVar 3))]), (iTup [(iVar 2), (iVar 3)])])]) (cal_fn (g_Roll__changed M) rfl (hr.mono (by omega)) hg M.b_Roll__changed rfl) M.o_Roll__changed rfl (dvar 0) (da_cons (df_lst (da_cons (de_tup (da_cons (dvar 1) (da_cons (de_neg (dvar 3)) da_nil))) (da_cons (de_tup (da_cons (dvar 2) (da_cons (dvar 3) da_nil))) da_nil))).de da_nil)))))))
def m_Roll_exchanged : List D → M D := runFn 5 b_Roll_exchanged
theorem g_Roll_exchanged (M : Md L mg f fd fI co tb) : FG L P w mg base 7 (f 35) (fd 35) ["self", "paper", "other", "many"] m_Roll_exchanged := fg_ofW (N := N_Roll_exchanged) M.F_Roll_exchanged sc_Roll_exchanged fun cdv A outer s H E hr hg => d_Roll_exchanged M hr hg
end Lw
namespace Lw
open PySem PySem.Spec L2 DL
variable {L : Lx} {P : Program} {w : World} {mg : Str → Option Value} {base : Heap} {f : Nat → Addr} {fd : Nat → FuncData} {fI co tb : Nat → Addr}
abbrev N_Roll___eq__ : List Str := ["self", "other"]
abbrev s_Roll___eq__ : Stmt := (clsS 42 4)
theorem sc_Roll___eq__ : FnScope N_Roll___eq__ ["self", "other"] (defScope s_Roll___eq__) := ⟨rfl, rfl, rfl, by decide +kernel, rfl, by decide +kernel, by decide +kernel⟩
def b_Roll___eq__ : IS := (sRet (iAnd (iBi fIsI [(iVar 1), (iLit (.clo 8))]) (iAnd (iOp fEq (iFld at_names (iVar 0)) (iFld at_names (iVar 1))) (iOp fEq (iFld at_papers (iVar 0)) (iFld at_papers (iVar 1))))))
theorem d_Roll___eq__ (M : Md L mg f fd fI co tb) {f' : Addr} {cdv : Value} {A : Around} {outer : List PySem.Env} {s : Shared} {H : Hp} {E : XK} (hr : Room (0) (A.deeper (PyProof.Rows.envOfC "Roll.__eq__" (defScope s_Roll___eq__) s.heap.objs.size f' cdv))) (hg : A.guards = some []) :
    DSs L (cxOf (L2.CX P w) P w L.K mg base N_Roll___eq__ "Roll.__eq__" (defScope s_Roll___eq__) f' cdv A outer s H E) (b_Roll___eq__) (defBody s_Roll___eq__) := by
  have hu : (A.deeper (PyProof.Rows.envOfC "Roll.__eq__" (defScope s_Roll___eq__) s.heap.objs.size f' cdv)).units + 64 < cLine := hr.units
  exact (dss_one (ds_ret (de_and (de_bi (ca_isi M.tab rfl) (by rfl) M.n_isinstance (by decide +kernel) (dav_cons (dvar 1).dv (dav_cons (de_own (n := 8) (by rfl) M.c8).dv dav_nil))) (de_and (de_cmp (od_eq rfl hu) (de_fld (at_ := at_names) (dvar 0) rfl M.f_names).dv (de_fld (at_ := at_names) (dvar 1) rfl M.f_names).dv (nomark _)) (de_one (de_cmp (od_eq rfl hu) (de_fld (at_ := at_papers) (dvar 0) rfl M.f_papers).dv (de_fld (at_ := at_papers) (dvar 1) rfl M.f_papers).dv (nomark _)))))))
def m_Roll___eq__ : List D → M D := runFn 2 b_Roll___eq__
theorem g_Roll___eq__ (M : Md L mg f fd fI co tb) : FG L P w mg base 1 (f 36) (fd 36) ["self", "other"] m_Roll___eq__ := fg_of (N := N_Roll___eq__) M.F_Roll___eq__ sc_Roll___eq__ fun cdv A outer s H E hr hg => d_Roll___eq__ M hr hg
abbrev N_law : List Str := ["script", "m", "turn", "a", "b", "crowd", "way"]
abbrev s_law : Stmt := (topS 49)
theorem sc_law : FnScope N_law ["script"] (defScope s_law) := ⟨rfl, rfl, rfl, by decide +kernel, rfl, by decide +kernel, by decide +kernel⟩
def b_law : IS := (sSeq (sSet 1 (iCall (m__law_begun) [(iVar 0)]))
  (sSeq (sFor (gN 2) (iiR1 (iOp fAdd (iLit (.int 1)) (iBi fMin2 [(iBi fLen [(iVar 0)]), (iLit (.int 5))]))) (sSeq (sPar 3 4 (iOp fIx (iLit (.str (PySem.Str.ofString "abcdefgh"))) (iCall (m__law_next) [(iVar 1), (iLit (.int 8))])) (iOp fIx (iLit (.str (PySem.Str.ofString "stuvwxyz"))) (iCall (m__law_next) [(iVar 1), (iLit (.int 8))])))
  (sSeq (sPar 5 6 (iCal (mInit 8 fields8 m_Roll___init__) [(iTup [(iVar 3), (iVar 4)]), (iLst [(iTup [(iTup [(iVar 3)]), (iLit (.int 3))]), (iTup [(iTup [(iVar 4)]), (iLit (.int 4))])])]) (iCal (mInit 6 fields6 m_Rule___init__) [(iTup [(iVar 3), (iVar 4)]), (iLit (.int 1)), (iTup [(iLit (.int 1)), (iLit (.int 2))]), (iLit (.bl true)), (iTup [(iLit (.int 1)), (iLit (.int 2))]), (iTup [(iVar 3), (iVar 4)])]))
  (sSeq (sIf (asB (iOp fNeD (iCal (mKD 0 (fun us ws => pick .non us (([] : List Int).map D.int) ws [.k 1, .k 0]) m_course) [(iVar 5), (iVar 6)]) (iTup [(iTup [(iLit (.str (PySem.Str.ofString "in"))), (iVar 4)])]))) (sRet (iLit (.bl false))) sPass)
  (sIf (asB (iNeM 8 m_Roll___eq__ (iMth 8 (mKD 1 (fun us ws => pick .non us (([1] : List Int).map D.int) ws [.p 0, .k 1, .k 0, .d 0]) m_Roll_exchanged) (iVar 5) [(iTup [(iVar 3), (iVar 4)]), (iTup [(iVar 3)])]) (iCal (mInit 8 fields8 m_Roll___init__) [(iTup [(iVar 3), (iVar 4)]), (iLst [(iTup [(iTup [(iVar 3), (iVar 4)]), (iLit (.int 1))]), (iTup [(iTup [(iVar 3)]), (iLit (.int 2))]), (iTup [(iTup [(iVar 4)]), (iLit (.int 4))])])]))) (sRet (iLit (.bl false))) sPass)))))
  (sRet (iLit (.bl true)))))
theorem d_law (M : Md L mg f fd fI co tb) (B : Tbs mg base co tb) (z : L.sf = none) {f' : Addr} {cdv : Value} {A : Around} {outer : List PySem.Env} {s : Shared} {H : Hp} {E : XK} (hr : Room (7) (A.deeper (PyProof.Rows.envOfC "law" (defScope s_law) s.heap.objs.size f' cdv))) (hg : A.guards = some []) :
    DSs L (cxOf (L2.CX P w) P w L.K mg base N_law "law" (defScope s_law) f' cdv A outer s H E) (b_law) (defBody s_law) := by
  have hu : (A.deeper (PyProof.Rows.envOfC "law" (defScope s_law) s.heap.objs.size f' cdv)).units + 64 < cLine := hr.units
  exact (dss_cons (ds_set (n := 1) sc_law.nd rfl (Or.inl rfl) (de_call (g__law_begun M) rfl (hr.mono (by omega)) hg (by rfl) M.g__law_begun M.k__law_begun M.b__law_begun rfl (da_cons (dvar 0) da_nil)))
  (dss_cons (ds_for (passes_of rfl) rfl (di_range1 (by rfl) M.n_range (da_cons (de_bin (od_add rfl) dint.dv (de_bi (ca_min2 rfl) (by rfl) M.n_min (by decide +kernel) (dav_cons (de_bi (ca_len rfl) (by rfl) M.n_len (by decide +kernel) (dav_cons (dvar 0).dv dav_nil)).dv (dav_cons dint.dv dav_nil))).dv) da_nil)) (dg_name (n := 2) sc_law.nd rfl (Or.inl rfl)) (dss_cons (ds_par (n := 3) (m := 4) rfl sc_law.nd rfl rfl (by decide) rfl rfl (da_cons (de_ix (ixd rfl) dstr.dv (de_call (g__law_next M) rfl (hr.mono (by omega)) hg (by rfl) M.g__law_next M.k__law_next M.b__law_next rfl (da_cons (dvar 1) (da_cons dint da_nil))).dv) (da_cons (de_ix (ixd rfl) dstr.dv (de_call (g__law_next M) rfl (hr.mono (by omega)) hg (by rfl) M.g__law_next M.k__law_next M.b__law_next rfl (da_cons (dvar 1) (da_cons dint da_nil))).dv) da_nil)) (by rfl))
  (dss_cons (ds_par (n := 5) (m := 6) rfl sc_law.nd rfl rfl (by decide) rfl rfl (da_cons (de_cal (M.h8 ▸ cal_cls (c := 8) (n := 2) M.mk8 (g_Roll___init__ M) rfl rfl (hr.mono (by omega)) hg M.b_Roll___init__ rfl) M.kc8 (by rfl) M.c8 (da_cons (de_tup (da_cons (dvar 3) (da_cons (dvar 4) da_nil))) (da_cons (df_lst (da_cons (de_tup (da_cons (de_tup (da_cons (dvar 3) da_nil)) (da_cons dint da_nil))) (da_cons (de_tup (da_cons (de_tup (da_cons (dvar 4) da_nil)) (da_cons dint da_nil))) da_nil))).de da_nil))) (da_cons (de_cal (M.h6 ▸ cal_cls (c := 6) (n := 6) M.mk6 (g_Rule___init__ M) rfl rfl (hr.mono (by omega)) hg M.b_Rule___init__ rfl) M.kc6 (by rfl) M.c6 (da_cons (de_tup (da_cons (dvar 3) (da_cons (dvar 4) da_nil))) (da_cons dint (da_cons (de_tup (da_cons dint (da_cons dint da_nil))) (da_cons dbool (da_cons (de_tup (da_cons dint (da_cons dint da_nil))) (da_cons (de_tup (da_cons (dvar 3) (da_cons (dvar 4) da_nil))) da_nil))))))) da_nil)) (by rfl))
  (dss_cons (ds_if (dt_cmp (od_ne0 rfl hu) (de_calK0 (cal_fg (g_course M B z) rfl (hr.mono (by omega)) hg (kd_pick M.K0)) M.k_course (by rfl) M.g_course (dk_cons (dvar 5) (dk_cons (dvar 6) dk_nil))).dv (de_tup (da_cons (de_tup (da_cons dstr (da_cons (dvar 4) da_nil))) da_nil)).dv (nomark _)) (dss_one (ds_ret dbool)) dss_nil)
  (dss_one (ds_if (dt_neM (c := 8) M.ne8 (g_Roll___eq__ M) rfl (hr.mono (by omega)) hg M.b_Roll___eq__ rfl (de_methK0 (c := 8) (cal_fg (g_Roll_exchanged M) rfl (hr.mono (by omega)) hg (kd_pick M.K1)) M.o_Roll_exchanged rfl (dvar 5) (dk_cons (de_tup (da_cons (dvar 3) (da_cons (dvar 4) da_nil))) (dk_cons (de_tup (da_cons (dvar 3) da_nil)) dk_nil))) (de_cal (M.h8 ▸ cal_cls (c := 8) (n := 2) M.mk8 (g_Roll___init__ M) rfl rfl (hr.mono (by omega)) hg M.b_Roll___init__ rfl) M.kc8 (by rfl) M.c8 (da_cons (de_tup (da_cons (dvar 3) (da_cons (dvar 4) da_nil))) (da_cons (df_lst (da_cons (de_tup (da_cons (de_tup (da_cons (dvar 3) (da_cons (dvar 4) da_nil))) (da_cons dint da_nil))) (da_cons (de_tup (da_cons (de_tup (da_cons (dvar 3) da_nil)) (da_cons dint da_nil))) (da_cons (de_tup (da_cons (de_tup (da_cons (dvar 4) da_nil)) (da_cons dint da_nil))) da_nil)))).de da_nil))) (nomark _)) (dss_one (ds_ret dbool)) dss_nil))))))
  (dss_one (ds_ret dbool))))
def m_law : List D → M D := runFn 7 b_law
theorem g_law (M : Md L mg f fd fI co tb) (B : Tbs mg base co tb) (z : L.sf = none) : FG L P w mg base 8 (f 37) (fd 37) ["script"] m_law := fg_of (N := N_law) M.F_law sc_law fun cdv A outer s H E hr hg => d_law M B z hr hg
end Lw
namespace Lw
open PySem PySem.Spec L2 DL
def turn : IS := (sSeq (sPar 3 4 (iOp fIx (iLit (.str (PySem.Str.ofString "abcdefgh"))) (iCall (m__law_next) [(iVar 1), (iLit (.int 8))])) (iOp fIx (iLit (.str (PySem.Str.ofString "stuvwxyz"))) (iCall (m__law_next) [(iVar 1), (iLit (.int 8))])))
  (sSeq (sPar 5 6 (iCal (mInit 8 fields8 m_Roll___init__) [(iTup [(iVar 3), (iVar 4)]), (iLst [(iTup [(iTup [(iVar 3)]), (iLit (.int 3))]), (iTup [(iTup [(iVar 4)]), (iLit (.int 4))])])]) (iCal (mInit 6 fields6 m_Rule___init__) [(iTup [(iVar 3), (iVar 4)]), (iLit (.int 1)), (iTup [(iLit (.int 1)), (iLit (.int 2))]), (iLit (.bl true)), (iTup [(iLit (.int 1)), (iLit (.int 2))]), (iTup [(iVar 3), (iVar 4)])]))
  (sSeq (sIf (asB (iOp fNeD (iCal (mKD 0 (fun us ws => pick .non us (([] : List Int).map D.int) ws [.k 1, .k 0]) m_course) [(iVar 5), (iVar 6)]) (iTup [(iTup [(iLit (.str (PySem.Str.ofString "in"))), (iVar 4)])]))) (sRet (iLit (.bl false))) sPass)
  (sIf (asB (iNeM 8 m_Roll___eq__ (iMth 8 (mKD 1 (fun us ws => pick .non us (([1] : List Int).map D.int) ws [.p 0, .k 1, .k 0, .d 0]) m_Roll_exchanged) (iVar 5) [(iTup [(iVar 3), (iVar 4)]), (iTup [(iVar 3)])]) (iCal (mInit 8 fields8 m_Roll___init__) [(iTup [(iVar 3), (iVar 4)]), (iLst [(iTup [(iTup [(iVar 3), (iVar 4)]), (iLit (.int 1))]), (iTup [(iTup [(iVar 3)]), (iLit (.int 2))]), (iTup [(iTup [(iVar 4)]), (iLit (.int 4))])])]))) (sRet (iLit (.bl false))) sPass))))
def good : Fl → Bool
  | .nx [_, some (.fz .rnd), _, _, _, _, _] => true
  | _ => false
theorem turn_all (a0 x2 x3 x4 x5 x6 : Option B) : okM good 2 (turn [a0, some (.fz .rnd), x2, x3, x4, x5, x6]) = true := by
  kernel_rfl
/-- a law that begins, walks, and tells True -/
theorem law_shape {n kk c : Nat} {it : II} {t : IS} {ns : List Int} {G : DL.Env} (h1 : ns.length ≤ 63) (h2 : ∀ z ∈ ns, bitsOk z) (e0 : env0 n [D.scr ns] = some (.fz (.scr ns)) :: none :: G) (I : DL.Env → Prop)
    (hit : ∃ j, j ≤ kk ∧ it (some (.fz (.scr ns)) :: some (.fz .rnd) :: G) = .ret (rngD 0 j)) (h0 : I (some (.fz (.scr ns)) :: some (.fz .rnd) :: G)) (hs : ∀ d Γ, I Γ → Yl ((gN 2 d Γ).bind t) c fun fl => ∃ Γ', fl = .nx Γ' ∧ I Γ') (hc : c * kk ≤ 2 ^ 40) :
    (runFn n (DL.sSeq (DL.sSet 1 (iCall mBegun [iVar 0])) (DL.sSeq (DL.sFor (gN 2) it t) (DL.sRet (iLit (.bl true))))) [.scr ns]).wpB (lim + 1) (fun d _ => d = .bl true) (fun _ _ => False) := by
  unfold runFn
  refine (M.wpB_bind _ _).mpr ?_
  rw [e0]
  have e1 : mBegun [.scr ns] = .begun (.ret .rnd) := by
    unfold mBegun
    exact if_pos ⟨h1, h2⟩
  have e2 : DL.sSet 1 (iCall mBegun [iVar 0]) (some (.fz (.scr ns)) :: none :: G) = .begun (.ret (.nx (some (.fz (.scr ns)) :: some (.fz .rnd) :: G))) := by
    unfold DL.sSet
    rw [call0 (a := .scr ns) rfl, e1]
    rfl
  unfold DL.sSeq
  rw [e2]
  refine ⟨rfl, ?_⟩
  obtain ⟨j, hj, ej⟩ := hit
  have hl : (rngD 0 j).length = j := by unfold rngD; simp
  have hw : Yl (DL.sFor (gN 2) it t (some (.fz (.scr ns)) :: some (.fz .rnd) :: G)) (c * kk) fun fl => ∃ Γ', fl = .nx Γ' ∧ I Γ' := by
    unfold DL.sFor
    rw [ej, M.ret_bind]
    exact (Yl.loop (rngD 0 j) (fun _ => I) (fun _ d Γ _ hI => hs d Γ hI) h0).mono (by rw [hl]; exact Nat.mul_le_mul_left _ hj) fun _ x => x
  rw [M.ret_bind]
  refine (M.wpB_bind _ _).mp ?_
  simp only []
  rw [M.bind_assoc]
  refine Yl.at rfl hw (lim_big hc) ?_
  rintro fl ⟨Γ, rfl, _⟩
  rfl
theorem law_m {ns : List Int} (h1 : ns.length ≤ 63) (h2 : ∀ z ∈ ns, bitsOk z) : (m_law [.scr ns]).wpB (lim + 1) (fun d _ => d = .bl true) (fun _ _ => False) := by
  refine law_shape (kk := 6) (c := 2) (t := turn) (G := [none, none, none, none, none]) h1 h2 rfl (fun Γ => ∃ a0 x2 x3 x4 x5 x6, Γ = [a0, some (.fz .rnd), x2, x3, x4, x5, x6]) (walk_ok (k := 1) (l := 5) rfl (by decide)) ⟨_, _, _, _, _, _, rfl⟩ ?_ (by decide)
  rintro d Γ ⟨a0, x2, x3, x4, x5, x6, rfl⟩
  rw [gN_bind (h := rfl)]
  refine (okM_yl (turn_all a0 (some (.fz d)) x3 x4 x5 x6)).mono (Nat.le_refl _) fun fl h => ?_
  unfold good at h
  split at h
  · exact ⟨_, rfl, _, _, _, _, _, _, rfl⟩
  · cases h
end Lw
namespace Lw
open PySem PySem.Spec L2 DL DLH
def clsName : Nat → Str
  | 1 => "BadNames"
  | 2 => "BadPaper"
  | 3 => "BadRoll"
  | 4 => "BadRule"
  | 5 => "BadNumber"
  | 6 => "Rule"
  | 7 => "Count"
  | 8 => "Roll"
  | _ => "BadNames"
def clsFld : Nat → List Str
  | 1 => ["value"]
  | 2 => ["value"]
  | 3 => ["place"]
  | 4 => ["place"]
  | 5 => ["value"]
  | 6 => fields6
  | 7 => fields7
  | 8 => fields8
  | _ => []
def Lk (K : PySem.W.Frag) : Lx := ⟨K, [((He.cT K ("Count", some "next_step")).2, lamQ "Count.next_step")], fun n => He.ga K (clsName n), clsFld, none, none, false, []⟩
def initOf (i : Nat) : Stmt := match topS i with
  | .ClassDef (body := body) .. => (body.find? fun s => match s with
    | .FunctionDef .. => true
    | _ => false).getD (.Pass ⟨0, 0, 0, 0⟩)
  | _ => .Pass ⟨0, 0, 0, 0⟩
def dOf (x : Str) (st : Stmt) : He.DefD := ⟨(x, none), x, x, defArgs st, defBody st, defScope st, [], []⟩
def dOfD (x : Str) (st : Stmt) (l : List He.Dv) : He.DefD := ⟨(x, none), x, x, defArgs st, defBody st, defScope st, l, []⟩
def dMeD (C m q : Str) (st : Stmt) (l : List He.Dv) : He.DefD := ⟨(C, some m), m, q, defArgs st, defBody st, defScope st, l, []⟩
def dMe (C m q : Str) (st : Stmt) : He.DefD := ⟨(C, some m), m, q, defArgs st, defBody st, defScope st, [], []⟩
def fn : List He.DefD := [dOf "_law_begun" (topS 47), dOf "_law_next" (topS 48), dOf "_is_word" (topS 21), dOf "is_ascending" (topS 13), dOf "are_names" (topS 19), dOf "need_names" (topS 18), dOf "is_pair" (topS 11), dOf "is_paper" (topS 20), dOf "is_integer" (topS 9), dOf "_is_item" (topS 45), dOf "_need_papers" (topS 44), dMe "Roll" "__init__" "Roll.__init__" (clsS 42 0), dOf "is_within" (topS 10), dOf "is_integer_pair" (topS 12), dOf "is_field" (topS 26), dMe "Rule" "__init__" "Rule.__init__" (clsS 25 0), dOf "need_same_names" (topS 40), dOf "units" (topS 27), dOf "first_worths" (topS 32), dOf "_first_going" (topS 35), dOf "stands" (topS 33), dMe "Count" "__init__" "Count.__init__" (clsS 37 0), dOf "has_ended" (topS 28), dMe "Count" "is_over" "Count.is_over" (clsS 37 1), dMe "Count" "piles" "Count.piles" (clsS 37 2), dMe "Count" "has_quota" "Count.has_quota" (clsS 37 4), dMe "Count" "next_step" "Count.next_step" (clsS 37 3), dOf "handed_on" (topS 34), dOf "without_name" (topS 29), dMe "Count" "take" "Count.take" (clsS 37 5), dOf "stages" (topS 38), dOf "course" (topS 39), dOf "_need_paper" (topS 43), dMe "Roll" "__getitem__" "Roll.__getitem__" (clsS 42 1), dMe "Roll" "_changed" "Roll._changed" (clsS 42 10), dMeD "Roll" "exchanged" "Roll.exchanged" (clsS 42 9) [.int 1], dMe "Roll" "__eq__" "Roll.__eq__" (clsS 42 4), dOf "law" (topS 49), dMe "BadNames" "__init__" "BadNames.__init__" (initOf 3), dMe "BadPaper" "__init__" "BadPaper.__init__" (initOf 4)] ++ [dMe "BadRoll" "__init__" "BadRoll.__init__" (initOf 5), dMe "BadRule" "__init__" "BadRule.__init__" (initOf 6), dMe "BadNumber" "__init__" "BadNumber.__init__" (initOf 7)]
def fa : List He.Fa := [.glo "_law_begun", .glo "_law_next", .glo "_is_word", .glo "is_ascending", .glo "are_names", .glo "need_names", .glo "is_pair", .glo "is_paper", .glo "is_integer", .glo "_is_item", .glo "_need_papers", .glo "is_within", .glo "is_integer_pair", .glo "is_field", .glo "need_same_names", .glo "units", .glo "first_worths", .glo "_first_going", .glo "stands", .glo "has_ended", .glo "handed_on", .glo "without_name", .glo "stages", .glo "course", .glo "_need_paper", .glo "law", .free "all", .free "bool", .free "dict", .free "enumerate", .free "int", .free "isinstance", .free "len", .free "list", .free "max", .free "min", .free "range", .free "set", .free "sorted", .free "str"] ++ [.free "sum", .free "tuple", .free "zip", .int "MOST_NAMES" 4, .int "_FEWEST_NAMES" 2, .int "_MOST_LETTERS" 8, .int "_MOST_PARTS" 100, .glo "NO_PAPER", .glo "FIELDS", .glo "BadNames", .glo "BadPaper", .glo "BadRoll", .glo "BadRule", .glo "BadNumber", .glo "Rule", .glo "Count", .glo "Roll", .cls "Rule", .mkr "Rule", .noat "Rule" "names", .noat "Rule" "seats", .noat "Rule" "quota", .noat "Rule" "over", .noat "Rule" "hand", .noat "Rule" "order", .cls "Count", .mkr "Count", .noat "Count" "rule", .noat "Count" "papers", .noat "Count" "numbers", .noat "Count" "worths", .noat "Count" "going", .noat "Count" "seats", .noat "Count" "standing", .cls "Roll", .mkr "Roll", .noat "Roll" "names", .noat "Roll" "papers", .meth "Roll" "exchanged", .meth "Count" "is_over"] ++ [.meth "Count" "next_step", .meth "Count" "piles", .meth "Count" "take", .meth "Count" "has_quota", .meth "Roll" "_changed", .meth "Roll" "__eq__", .meth "Roll" "__getitem__", .exm "BadNames" "BadNames" true, .exm "BadNames" "BadPaper" false, .exm "BadNames" "BadRoll" false, .exm "BadNames" "BadRule" false, .exm "BadNames" "BadNumber" false, .exm "BadPaper" "BadNames" false, .exm "BadPaper" "BadPaper" true, .exm "BadPaper" "BadRoll" false, .exm "BadPaper" "BadRule" false, .exm "BadPaper" "BadNumber" false, .exm "BadRoll" "BadNames" false, .exm "BadRoll" "BadPaper" false, .exm "BadRoll" "BadRoll" true, .exm "BadRoll" "BadRule" false, .exm "BadRoll" "BadNumber" false, .exm "BadRule" "BadNames" false, .exm "BadRule" "BadPaper" false, .exm "BadRule" "BadRoll" false, .exm "BadRule" "BadRule" true, .exm "BadRule" "BadNumber" false, .exm "BadNumber" "BadNames" false, .exm "BadNumber" "BadPaper" false, .exm "BadNumber" "BadRoll" false, .exm "BadNumber" "BadRule" false, .exm "BadNumber" "BadNumber" true]
/-- what isinstance asks of an own class -/
def insB (K : PySem.W.Frag) (C : Addr) : Bool :=
  He.eqO (PySem.W.findIn K (.ref C) "__class__") (some (some (.builtin "object.__class__"))) && (He.eqO (PySem.W.specialIn K (.builtin "object.__class__") "__get__") (some (some (.builtin "getset_descriptor.__get__"))) &&
  (decide (PySem.W.takesIn K (.builtin "object.__class__") = some true) && decide (PySem.W.mroIn K C (.type "object") = some true)))
theorem insB_ok {K : PySem.W.Frag} {C : Addr} (c : Cls K C) (h : insB K C = true) : InsC K C := by
  obtain ⟨h1, h⟩ := He.ba h
  obtain ⟨h2, h⟩ := He.ba h
  obtain ⟨h3, h4⟩ := He.ba h
  exact ⟨c, He.eqO_ok h1, He.eqO_ok h2, of_decide_eq_true h3, of_decide_eq_true h4⟩
def neB (K : PySem.W.Frag) (C : Addr) : Bool := He.eqO (PySem.W.findIn K (.ref C) "__ne__") (some (some (.builtin "object.__ne__"))) && decide (PySem.W.mroIn K C (.type "object") = some true)
def xb (K : PySem.W.Frag) : Bool := exB K (He.ga K "BadNames") "value" [.type "ValueError", .type "Exception", .type "BaseException", .type "object"] "ValueError.__new__" && (exB K (He.ga K "BadPaper") "value" [.type "ValueError", .type "Exception", .type "BaseException", .type "object"] "ValueError.__new__" && (exB K (He.ga K "BadRoll") "place" [.type "ValueError", .type "Exception", .type "BaseException", .type "object"] "ValueError.__new__" && (exB K (He.ga K "BadRule") "place" [.type "ValueError", .type "Exception", .type "BaseException", .type "object"] "ValueError.__new__" && (exB K (He.ga K "BadNumber") "value" [.type "ValueError", .type "Exception", .type "BaseException", .type "object"] "ValueError.__new__" && (gtB K (He.ga K "NO_PAPER") [] && (gtB K (He.ga K "FIELDS") ["seats", "quota", "over", "hand", "order"] && (neB K (He.ga K "Roll") && (insB K (He.ga K "Rule") && (insB K (He.ga K "Count") && (insB K (He.ga K "Roll") && ((tabB.all fun e => decide (PySem.W.kitOne K (.type e.1) ((Lk K).tv e.2.1) = some e.2.2)) && ((tabI.all fun e => decide (PySem.W.kitOne K (.ref ((Lk K).cA e.1)) ((Lk K).tv e.2.1) = some e.2.2))))))))))))))
abbrev R : PySem.W.OpenRow := PySem.W.OpenLaw.row PySem.Challenge.rw_handedvotes_k73_more_calls_by_names
def tf : List He.Defn := [("Count", some "next_step")]
abbrev hk : PySem.W.Hook := He.hookX 5 fa fn [] tf xb
def ob (s : PySem.W.SharedT) : He.AlX := He.obsX 5 fa fn [] tf xb (HandSHeadRun.getT s)
theorem ob_eq (s : PySem.W.SharedT) : ob s = hk.obs s.abs := He.obsX_eq (HandSHeadRun.getT_eq s)
def loose : List PySem.Str := [("_wall" : PySem.Str), ("VoteError" : PySem.Str), ("BadNames" : PySem.Str), ("BadPaper" : PySem.Str), ("BadRoll" : PySem.Str), ("BadRule" : PySem.Str), ("BadNumber" : PySem.Str), ("is_integer" : PySem.Str), ("is_within" : PySem.Str), ("is_pair" : PySem.Str), ("is_integer_pair" : PySem.Str), ("is_ascending" : PySem.Str), ("MOST_NAMES" : PySem.Str), ("_FEWEST_NAMES" : PySem.Str), ("_MOST_LETTERS" : PySem.Str), ("need_names" : PySem.Str), ("are_names" : PySem.Str), ("is_paper" : PySem.Str), ("_is_word" : PySem.Str), ("FIELDS" : PySem.Str), ("_MOST_PARTS" : PySem.Str), ("Rule" : PySem.Str), ("is_field" : PySem.Str), ("units" : PySem.Str), ("has_ended" : PySem.Str), ("without_name" : PySem.Str), ("NO_PAPER" : PySem.Str), ("first_worths" : PySem.Str), ("stands" : PySem.Str), ("handed_on" : PySem.Str), ("_first_going" : PySem.Str), ("Count" : PySem.Str), ("stages" : PySem.Str), ("course" : PySem.Str), ("need_same_names" : PySem.Str), ("Roll" : PySem.Str), ("_need_paper" : PySem.Str), ("_need_papers" : PySem.Str), ("_is_item" : PySem.Str), ("_law_begun" : PySem.Str)] ++ [("_law_next" : PySem.Str)]
theorem run (w : World) : HandSHeadRun.RunEq R (PySem.W.view R.prog [49]) hk ob 20000 loose w := by
  intro os
  kernel_rfl
end Lw
namespace Lw
open PySem PySem.Spec L2 DL DLH
def coL (K : PySem.W.Frag) : Nat → Addr := fun i => match i with | 26 => (He.cT K ("Count", some "next_step")).1 | _ => 0
def tbL (K : PySem.W.Frag) : Nat → Addr := fun i => match i with | 26 => (He.cT K ("Count", some "next_step")).2 | _ => 0
theorem facts {K : PySem.W.Frag} {h : Heap} {mg : Str → Option Value} (X : K.In h) (G : h.Ns mainGlobals mg) (hb : xb K = true) (c : He.SaysD fa fn K) :
    ∃ (f : Nat → Addr) (fd : Nat → FuncData) (fI : Nat → Addr), Md (Lk K) mg f fd fI (coL K) (tbL K) ∧ f 37 = He.ga K "law" ∧ ∀ (s : Shared) (u : Value), BindsTo s (fd 37) ⟨[u], []⟩ [("script", u)] := by
  unfold xb at hb
  obtain ⟨e0, hb⟩ := He.ba hb
  obtain ⟨e1, hb⟩ := He.ba hb
  obtain ⟨e2, hb⟩ := He.ba hb
  obtain ⟨e3, hb⟩ := He.ba hb
  obtain ⟨e4, hb⟩ := He.ba hb
  obtain ⟨e5, hb⟩ := He.ba hb
  obtain ⟨e6, hb⟩ := He.ba hb
  obtain ⟨e7, hb⟩ := He.ba hb
  obtain ⟨e8, hb⟩ := He.ba hb
  obtain ⟨e9, hb⟩ := He.ba hb
  obtain ⟨e10, hb⟩ := He.ba hb
  obtain ⟨e11, hb⟩ := He.ba hb
  obtain ⟨fd0, F0⟩ := c.def_ 0 (d := dOf "_law_begun" (topS 47)) rfl
  obtain ⟨fd1, F1⟩ := c.def_ 1 (d := dOf "_law_next" (topS 48)) rfl
  obtain ⟨fd2, F2⟩ := c.def_ 2 (d := dOf "_is_word" (topS 21)) rfl
  obtain ⟨fd3, F3⟩ := c.def_ 3 (d := dOf "is_ascending" (topS 13)) rfl
  obtain ⟨fd4, F4⟩ := c.def_ 4 (d := dOf "are_names" (topS 19)) rfl
  obtain ⟨fd5, F5⟩ := c.def_ 5 (d := dOf "need_names" (topS 18)) rfl
  obtain ⟨fd6, F6⟩ := c.def_ 6 (d := dOf "is_pair" (topS 11)) rfl
  obtain ⟨fd7, F7⟩ := c.def_ 7 (d := dOf "is_paper" (topS 20)) rfl
  obtain ⟨fd8, F8⟩ := c.def_ 8 (d := dOf "is_integer" (topS 9)) rfl
  obtain ⟨fd9, F9⟩ := c.def_ 9 (d := dOf "_is_item" (topS 45)) rfl
  obtain ⟨fd10, F10⟩ := c.def_ 10 (d := dOf "_need_papers" (topS 44)) rfl
  obtain ⟨fd11, F11⟩ := c.def_ 11 (d := dMe "Roll" "__init__" "Roll.__init__" (clsS 42 0)) rfl
  obtain ⟨fd12, F12⟩ := c.def_ 12 (d := dOf "is_within" (topS 10)) rfl
  obtain ⟨fd13, F13⟩ := c.def_ 13 (d := dOf "is_integer_pair" (topS 12)) rfl
  obtain ⟨fd14, F14⟩ := c.def_ 14 (d := dOf "is_field" (topS 26)) rfl
  obtain ⟨fd15, F15⟩ := c.def_ 15 (d := dMe "Rule" "__init__" "Rule.__init__" (clsS 25 0)) rfl
  obtain ⟨fd16, F16⟩ := c.def_ 16 (d := dOf "need_same_names" (topS 40)) rfl
  obtain ⟨fd17, F17⟩ := c.def_ 17 (d := dOf "units" (topS 27)) rfl
  obtain ⟨fd18, F18⟩ := c.def_ 18 (d := dOf "first_worths" (topS 32)) rfl
  obtain ⟨fd19, F19⟩ := c.def_ 19 (d := dOf "_first_going" (topS 35)) rfl
  obtain ⟨fd20, F20⟩ := c.def_ 20 (d := dOf "stands" (topS 33)) rfl
  obtain ⟨fd21, F21⟩ := c.def_ 21 (d := dMe "Count" "__init__" "Count.__init__" (clsS 37 0)) rfl
  obtain ⟨fd22, F22⟩ := c.def_ 22 (d := dOf "has_ended" (topS 28)) rfl
  obtain ⟨fd23, F23⟩ := c.def_ 23 (d := dMe "Count" "is_over" "Count.is_over" (clsS 37 1)) rfl
  obtain ⟨fd24, F24⟩ := c.def_ 24 (d := dMe "Count" "piles" "Count.piles" (clsS 37 2)) rfl
  obtain ⟨fd25, F25⟩ := c.def_ 25 (d := dMe "Count" "has_quota" "Count.has_quota" (clsS 37 4)) rfl
  obtain ⟨fd26, F26⟩ := c.def_ 26 (d := dMe "Count" "next_step" "Count.next_step" (clsS 37 3)) rfl
  obtain ⟨fd27, F27⟩ := c.def_ 27 (d := dOf "handed_on" (topS 34)) rfl
  obtain ⟨fd28, F28⟩ := c.def_ 28 (d := dOf "without_name" (topS 29)) rfl
  obtain ⟨fd29, F29⟩ := c.def_ 29 (d := dMe "Count" "take" "Count.take" (clsS 37 5)) rfl
  obtain ⟨fd30, F30⟩ := c.def_ 30 (d := dOf "stages" (topS 38)) rfl
  obtain ⟨fd31, F31⟩ := c.def_ 31 (d := dOf "course" (topS 39)) rfl
  obtain ⟨fd32, F32⟩ := c.def_ 32 (d := dOf "_need_paper" (topS 43)) rfl
  obtain ⟨fd33, F33⟩ := c.def_ 33 (d := dMe "Roll" "__getitem__" "Roll.__getitem__" (clsS 42 1)) rfl
  obtain ⟨fd34, F34⟩ := c.def_ 34 (d := dMe "Roll" "_changed" "Roll._changed" (clsS 42 10)) rfl
  obtain ⟨fd35, F35⟩ := c.def_ 35 (d := dMeD "Roll" "exchanged" "Roll.exchanged" (clsS 42 9) [.int 1]) rfl
  obtain ⟨fd36, F36⟩ := c.def_ 36 (d := dMe "Roll" "__eq__" "Roll.__eq__" (clsS 42 4)) rfl
  obtain ⟨fd37, F37⟩ := c.def_ 37 (d := dOf "law" (topS 49)) rfl
  obtain ⟨fd38, F38⟩ := c.def_ 38 (d := dMe "BadNames" "__init__" "BadNames.__init__" (initOf 3)) rfl
  obtain ⟨fd39, F39⟩ := c.def_ 39 (d := dMe "BadPaper" "__init__" "BadPaper.__init__" (initOf 4)) rfl
  obtain ⟨fd40, F40⟩ := c.def_ 40 (d := dMe "BadRoll" "__init__" "BadRoll.__init__" (initOf 5)) rfl
  obtain ⟨fd41, F41⟩ := c.def_ 41 (d := dMe "BadRule" "__init__" "BadRule.__init__" (initOf 6)) rfl
  obtain ⟨fd42, F42⟩ := c.def_ 42 (d := dMe "BadNumber" "__init__" "BadNumber.__init__" (initOf 7)) rfl
  refine ⟨fun i => match i with | 0 => He.ga K "_law_begun" | 1 => He.ga K "_law_next" | 2 => He.ga K "_is_word" | 3 => He.ga K "is_ascending" | 4 => He.ga K "are_names" | 5 => He.ga K "need_names" | 6 => He.ga K "is_pair" | 7 => He.ga K "is_paper" | 8 => He.ga K "is_integer" | 9 => He.ga K "_is_item" | 10 => He.ga K "_need_papers" | 11 => He.ma K (He.ga K "Roll") "__init__" | 12 => He.ga K "is_within" | 13 => He.ga K "is_integer_pair" | 14 => He.ga K "is_field" | 15 => He.ma K (He.ga K "Rule") "__init__" | 16 => He.ga K "need_same_names" | 17 => He.ga K "units" | 18 => He.ga K "first_worths" | 19 => He.ga K "_first_going" | 20 => He.ga K "stands" | 21 => He.ma K (He.ga K "Count") "__init__" | 22 => He.ga K "has_ended" | 23 => He.ma K (He.ga K "Count") "is_over" | 24 => He.ma K (He.ga K "Count") "piles" | 25 => He.ma K (He.ga K "Count") "has_quota" | 26 => He.ma K (He.ga K "Count") "next_step" | 27 => He.ga K "handed_on" | 28 => He.ga K "without_name" | 29 => He.ma K (He.ga K "Count") "take" | 30 => He.ga K "stages" | 31 => He.ga K "course" | 32 => He.ga K "_need_paper" | 33 => He.ma K (He.ga K "Roll") "__getitem__" | 34 => He.ma K (He.ga K "Roll") "_changed" | 35 => He.ma K (He.ga K "Roll") "exchanged" | 36 => He.ma K (He.ga K "Roll") "__eq__" | 37 => He.ga K "law" | _ => 0, fun i => match i with | 0 => fd0 | 1 => fd1 | 2 => fd2 | 3 => fd3 | 4 => fd4 | 5 => fd5 | 6 => fd6 | 7 => fd7 | 8 => fd8 | 9 => fd9 | 10 => fd10 | 11 => fd11 | 12 => fd12 | 13 => fd13 | 14 => fd14 | 15 => fd15 | 16 => fd16 | 17 => fd17 | 18 => fd18 | 19 => fd19 | 20 => fd20 | 21 => fd21 | 22 => fd22 | 23 => fd23 | 24 => fd24 | 25 => fd25 | 26 => fd26 | 27 => fd27 | 28 => fd28 | 29 => fd29 | 30 => fd30 | 31 => fd31 | 32 => fd32 | 33 => fd33 | 34 => fd34 | 35 => fd35 | 36 => fd36 | 37 => fd37 | _ => fd0, fun n => He.ma K (He.ga K (clsName n)) "__init__", ?_, rfl, ?_⟩
  · refine {
      F__law_begun := fun_of F0
      g__law_begun := He.glo_ok X G (c.fact 0 rfl)
      k__law_begun := F0.kp
      b__law_begun := F0.bindsN fun _ _ _ _ _ _ us hl => match us, hl with | [_], _ => rfl
      F__law_next := fun_of F1
      g__law_next := He.glo_ok X G (c.fact 1 rfl)
      k__law_next := F1.kp
      b__law_next := F1.bindsN fun _ _ _ _ _ _ us hl => match us, hl with | [_, _], _ => rfl
      F__is_word := fun_of F2
      g__is_word := He.glo_ok X G (c.fact 2 rfl)
      k__is_word := F2.kp
      b__is_word := F2.bindsN fun _ _ _ _ _ _ us hl => match us, hl with | [_], _ => rfl
      F_is_ascending := fun_of F3
      g_is_ascending := He.glo_ok X G (c.fact 3 rfl)
      k_is_ascending := F3.kp
      b_is_ascending := F3.bindsN fun _ _ _ _ _ _ us hl => match us, hl with | [_], _ => rfl
      F_are_names := fun_of F4
      g_are_names := He.glo_ok X G (c.fact 4 rfl)
      k_are_names := F4.kp
      b_are_names := F4.bindsN fun _ _ _ _ _ _ us hl => match us, hl with | [_], _ => rfl
      F_need_names := fun_of F5
      g_need_names := He.glo_ok X G (c.fact 5 rfl)
      k_need_names := F5.kp
      b_need_names := F5.bindsN fun _ _ _ _ _ _ us hl => match us, hl with | [_], _ => rfl
      F_is_pair := fun_of F6
      g_is_pair := He.glo_ok X G (c.fact 6 rfl)
      k_is_pair := F6.kp
      b_is_pair := F6.bindsN fun _ _ _ _ _ _ us hl => match us, hl with | [_], _ => rfl
      F_is_paper := fun_of F7
      g_is_paper := He.glo_ok X G (c.fact 7 rfl)
      k_is_paper := F7.kp
      b_is_paper := F7.bindsN fun _ _ _ _ _ _ us hl => match us, hl with | [_, _], _ => rfl
      F_is_integer := fun_of F8
      g_is_integer := He.glo_ok X G (c.fact 8 rfl)
      k_is_integer := F8.kp
      b_is_integer := F8.bindsN fun _ _ _ _ _ _ us hl => match us, hl with | [_], _ => rfl
      F__is_item := fun_of F9
      g__is_item := He.glo_ok X G (c.fact 9 rfl)
      k__is_item := F9.kp
      b__is_item := F9.bindsN fun _ _ _ _ _ _ us hl => match us, hl with | [_, _], _ => rfl
      F__need_papers := fun_of F10
      g__need_papers := He.glo_ok X G (c.fact 10 rfl)
      k__need_papers := F10.kp
      b__need_papers := F10.bindsN fun _ _ _ _ _ _ us hl => match us, hl with | [_, _], _ => rfl
      F_Roll___init__ := fun_of F11
      b_Roll___init__ := F11.bindsN fun _ _ _ _ _ _ us hl => match us, hl with | [_, _, _], _ => rfl
      F_is_within := fun_of F12
      g_is_within := He.glo_ok X G (c.fact 11 rfl)
      k_is_within := F12.kp
      b_is_within := F12.bindsN fun _ _ _ _ _ _ us hl => match us, hl with | [_, _, _], _ => rfl
      F_is_integer_pair := fun_of F13
      g_is_integer_pair := He.glo_ok X G (c.fact 12 rfl)
      k_is_integer_pair := F13.kp
      b_is_integer_pair := F13.bindsN fun _ _ _ _ _ _ us hl => match us, hl with | [_], _ => rfl
      F_is_field := fun_of F14
      g_is_field := He.glo_ok X G (c.fact 13 rfl)
      k_is_field := F14.kp
      b_is_field := F14.bindsN fun _ _ _ _ _ _ us hl => match us, hl with | [_, _, _], _ => rfl
      F_Rule___init__ := fun_of F15
      b_Rule___init__ := F15.bindsN fun _ _ _ _ _ _ us hl => match us, hl with | [_, _, _, _, _, _, _], _ => rfl
      F_need_same_names := fun_of F16
      g_need_same_names := He.glo_ok X G (c.fact 14 rfl)
      k_need_same_names := F16.kp
      b_need_same_names := F16.bindsN fun _ _ _ _ _ _ us hl => match us, hl with | [_, _], _ => rfl
      F_units := fun_of F17
      g_units := He.glo_ok X G (c.fact 15 rfl)
      k_units := F17.kp
      b_units := F17.bindsN fun _ _ _ _ _ _ us hl => match us, hl with | [_], _ => rfl
      F_first_worths := fun_of F18
      g_first_worths := He.glo_ok X G (c.fact 16 rfl)
      k_first_worths := F18.kp
      b_first_worths := F18.bindsN fun _ _ _ _ _ _ us hl => match us, hl with | [_, _], _ => rfl
      F__first_going := fun_of F19
      g__first_going := He.glo_ok X G (c.fact 17 rfl)
      k__first_going := F19.kp
      b__first_going := F19.bindsN fun _ _ _ _ _ _ us hl => match us, hl with | [_, _], _ => rfl
      F_stands := fun_of F20
      g_stands := He.glo_ok X G (c.fact 18 rfl)
      k_stands := F20.kp
      b_stands := F20.bindsN fun _ _ _ _ _ _ us hl => match us, hl with | [_, _], _ => rfl
      F_Count___init__ := fun_of F21
      b_Count___init__ := F21.bindsN fun _ _ _ _ _ _ us hl => match us, hl with | [_, _, _], _ => rfl
      F_has_ended := fun_of F22
      g_has_ended := He.glo_ok X G (c.fact 19 rfl)
      k_has_ended := F22.kp
      b_has_ended := F22.bindsN fun _ _ _ _ _ _ us hl => match us, hl with | [_, _], _ => rfl
      F_Count_is_over := fun_of F23
      b_Count_is_over := F23.bindsN fun _ _ _ _ _ _ us hl => match us, hl with | [_], _ => rfl
      F_Count_piles := fun_of F24
      b_Count_piles := F24.bindsN fun _ _ _ _ _ _ us hl => match us, hl with | [_], _ => rfl
      F_Count_has_quota := fun_of F25
      b_Count_has_quota := F25.bindsN fun _ _ _ _ _ _ us hl => match us, hl with | [_, _], _ => rfl
      F_Count_next_step := fun_of F26
      b_Count_next_step := F26.bindsN fun _ _ _ _ _ _ us hl => match us, hl with | [_], _ => rfl
      F_handed_on := fun_of F27
      g_handed_on := He.glo_ok X G (c.fact 20 rfl)
      k_handed_on := F27.kp
      b_handed_on := F27.bindsN fun _ _ _ _ _ _ us hl => match us, hl with | [_, _, _, _], _ => rfl
      F_without_name := fun_of F28
      g_without_name := He.glo_ok X G (c.fact 21 rfl)
      k_without_name := F28.kp
      b_without_name := F28.bindsN fun _ _ _ _ _ _ us hl => match us, hl with | [_, _], _ => rfl
      F_Count_take := fun_of F29
      b_Count_take := F29.bindsN fun _ _ _ _ _ _ us hl => match us, hl with | [_, _], _ => rfl
      F_stages := fun_of F30
      g_stages := He.glo_ok X G (c.fact 22 rfl)
      k_stages := F30.kp
      b_stages := F30.bindsN fun _ _ _ _ _ _ us hl => match us, hl with | [_, _], _ => rfl
      F_course := fun_of F31
      g_course := He.glo_ok X G (c.fact 23 rfl)
      k_course := F31.kp
      b_course := F31.bindsN fun _ _ _ _ _ _ us hl => match us, hl with | [_, _], _ => rfl
      F__need_paper := fun_of F32
      g__need_paper := He.glo_ok X G (c.fact 24 rfl)
      k__need_paper := F32.kp
      b__need_paper := F32.bindsN fun _ _ _ _ _ _ us hl => match us, hl with | [_, _], _ => rfl
      F_Roll___getitem__ := fun_of F33
      b_Roll___getitem__ := F33.bindsN fun _ _ _ _ _ _ us hl => match us, hl with | [_, _], _ => rfl
      F_Roll__changed := fun_of F34
      b_Roll__changed := F34.bindsN fun _ _ _ _ _ _ us hl => match us, hl with | [_, _], _ => rfl
      F_Roll_exchanged := funW_of F35
      F_Roll___eq__ := fun_of F36
      b_Roll___eq__ := F36.bindsN fun _ _ _ _ _ _ us hl => match us, hl with | [_, _], _ => rfl
      F_law := fun_of F37
      b_law := F37.bindsN fun _ _ _ _ _ _ us hl => match us, hl with | [_], _ => rfl
      n_all := He.free_ok X G (c.fact 26 rfl)
      n_bool := He.free_ok X G (c.fact 27 rfl)
      n_dict := He.free_ok X G (c.fact 28 rfl)
      n_enumerate := He.free_ok X G (c.fact 29 rfl)
      n_int := He.free_ok X G (c.fact 30 rfl)
      n_isinstance := He.free_ok X G (c.fact 31 rfl)
      n_len := He.free_ok X G (c.fact 32 rfl)
      n_list := He.free_ok X G (c.fact 33 rfl)
      n_max := He.free_ok X G (c.fact 34 rfl)
      n_min := He.free_ok X G (c.fact 35 rfl)
      n_range := He.free_ok X G (c.fact 36 rfl)
      n_set := He.free_ok X G (c.fact 37 rfl)
      n_sorted := He.free_ok X G (c.fact 38 rfl)
      n_str := He.free_ok X G (c.fact 39 rfl)
      n_sum := He.free_ok X G (c.fact 40 rfl)
      n_tuple := He.free_ok X G (c.fact 41 rfl)
      n_zip := He.free_ok X G (c.fact 42 rfl)
      i_MOST_NAMES := He.int_ok X G (c.fact 43 rfl)
      i__FEWEST_NAMES := He.int_ok X G (c.fact 44 rfl)
      i__MOST_LETTERS := He.int_ok X G (c.fact 45 rfl)
      i__MOST_PARTS := He.int_ok X G (c.fact 46 rfl)
      cd_Count_next_step := code_of (p := ("Count", some "next_step")) F26
      T_Count_next_step := .head _
      U_Count_next_step := fun p hp he => by
        unfold Lk at hp
        simp only [List.mem_cons, List.not_mem_nil, or_false] at hp
        rcases hp with rfl
        · exact rfl
      o_Roll_exchanged := ⟨He.cls_ok (c.fact 74 (f := .cls "Roll") rfl), He.meth_ok (c.fact 78 (f := .meth "Roll" "exchanged") rfl), show ("exchanged" : Str) ∉ fields8 by decide +kernel⟩
      o_Count_is_over := ⟨He.cls_ok (c.fact 65 (f := .cls "Count") rfl), He.meth_ok (c.fact 79 (f := .meth "Count" "is_over") rfl), show ("is_over" : Str) ∉ fields7 by decide +kernel⟩
      o_Count_next_step := ⟨He.cls_ok (c.fact 65 (f := .cls "Count") rfl), He.meth_ok (c.fact 80 (f := .meth "Count" "next_step") rfl), show ("next_step" : Str) ∉ fields7 by decide +kernel⟩
      o_Count_piles := ⟨He.cls_ok (c.fact 65 (f := .cls "Count") rfl), He.meth_ok (c.fact 81 (f := .meth "Count" "piles") rfl), show ("piles" : Str) ∉ fields7 by decide +kernel⟩
      o_Count_take := ⟨He.cls_ok (c.fact 65 (f := .cls "Count") rfl), He.meth_ok (c.fact 82 (f := .meth "Count" "take") rfl), show ("take" : Str) ∉ fields7 by decide +kernel⟩
      o_Count_has_quota := ⟨He.cls_ok (c.fact 65 (f := .cls "Count") rfl), He.meth_ok (c.fact 83 (f := .meth "Count" "has_quota") rfl), show ("has_quota" : Str) ∉ fields7 by decide +kernel⟩
      o_Roll__changed := ⟨He.cls_ok (c.fact 74 (f := .cls "Roll") rfl), He.meth_ok (c.fact 84 (f := .meth "Roll" "_changed") rfl), show ("_changed" : Str) ∉ fields8 by decide +kernel⟩
      ne8 := ⟨(He.meth_ok (c.fact 85 (f := .meth "Roll" "__eq__") rfl)).at_, (He.meth_ok (c.fact 85 (f := .meth "Roll" "__eq__") rfl)).fn, He.eqO_ok (He.ba e7).1, of_decide_eq_true (He.ba e7).2⟩
      gi8 := ⟨(He.meth_ok (c.fact 86 (f := .meth "Roll" "__getitem__") rfl)).at_, (He.meth_ok (c.fact 86 (f := .meth "Roll" "__getitem__") rfl)).fn, fnIn_of (x := "__getitem__") (qual := "Roll.__getitem__") (st := (clsS 42 1)) (fun_of F33)⟩
      z_NO_PAPER := ztop_ok e5 (He.glo_ok X G (c.fact 47 rfl))
      zs_FIELDS := topS_ok e6 (He.glo_ok X G (c.fact 48 rfl))
      K0 := pick0 F31 rfl fun _ _ _ _ _ _ us ws h1 h2 => match us, ws, h1, h2 with | [], [_, _], _, _ => rfl
      K1 := pick1 (ds := [1]) F35 rfl (by decide) fun _ _ _ _ _ _ _ us its ws h1 h2 h3 => match us, its, ws, h1, h2, h3 with | [_], [_], [_, _], _, _, _ => ⟨_, rfl, rfl⟩
      c1 := He.glo_ok X G (c.fact 49 rfl)
      h1 := rfl
      x1 := exB_ok (bm := [.type "ValueError", .type "Exception", .type "BaseException", .type "object"]) PySem.F.excBase_ValueError PySem.F.store_ValueError e0 (.inl rfl) (by decide +kernel) F38
      c2 := He.glo_ok X G (c.fact 50 rfl)
      h2 := rfl
      x2 := exB_ok (bm := [.type "ValueError", .type "Exception", .type "BaseException", .type "object"]) PySem.F.excBase_ValueError PySem.F.store_ValueError e1 (.inl rfl) (by decide +kernel) F39
      c3 := He.glo_ok X G (c.fact 51 rfl)
      h3 := rfl
      x3 := exB_ok (bm := [.type "ValueError", .type "Exception", .type "BaseException", .type "object"]) PySem.F.excBase_ValueError PySem.F.store_ValueError e2 (.inr (.inl rfl)) (by decide +kernel) F40
      c4 := He.glo_ok X G (c.fact 52 rfl)
      h4 := rfl
      x4 := exB_ok (bm := [.type "ValueError", .type "Exception", .type "BaseException", .type "object"]) PySem.F.excBase_ValueError PySem.F.store_ValueError e3 (.inr (.inl rfl)) (by decide +kernel) F41
      c5 := He.glo_ok X G (c.fact 53 rfl)
      h5 := rfl
      x5 := exB_ok (bm := [.type "ValueError", .type "Exception", .type "BaseException", .type "object"]) PySem.F.excBase_ValueError PySem.F.store_ValueError e4 (.inl rfl) (by decide +kernel) F42
      c6 := He.glo_ok X G (c.fact 54 rfl)
      h6 := rfl
      cl6 := He.cls_ok (c.fact 57 (f := .cls "Rule") rfl)
      na6 := fun x hx => by
        unfold fields6 at hx
        simp only [List.mem_cons, List.not_mem_nil, or_false] at hx
        rcases hx with rfl | rfl | rfl | rfl | rfl | rfl
        · exact He.noat_ok (c.fact 59 (f := .noat "Rule" "names") rfl)
        · exact He.noat_ok (c.fact 60 (f := .noat "Rule" "seats") rfl)
        · exact He.noat_ok (c.fact 61 (f := .noat "Rule" "quota") rfl)
        · exact He.noat_ok (c.fact 62 (f := .noat "Rule" "over") rfl)
        · exact He.noat_ok (c.fact 63 (f := .noat "Rule" "hand") rfl)
        · exact He.noat_ok (c.fact 64 (f := .noat "Rule" "order") rfl)
      mk6 := He.mkr_ok (c.fact 58 (f := .mkr "Rule") rfl)
      kc6 := (He.mkr_ok (c.fact 58 (f := .mkr "Rule") rfl)).kp
      c7 := He.glo_ok X G (c.fact 55 rfl)
      h7 := rfl
      cl7 := He.cls_ok (c.fact 65 (f := .cls "Count") rfl)
      na7 := fun x hx => by
        unfold fields7 at hx
        simp only [List.mem_cons, List.not_mem_nil, or_false] at hx
        rcases hx with rfl | rfl | rfl | rfl | rfl | rfl | rfl
        · exact He.noat_ok (c.fact 67 (f := .noat "Count" "rule") rfl)
        · exact He.noat_ok (c.fact 68 (f := .noat "Count" "papers") rfl)
        · exact He.noat_ok (c.fact 69 (f := .noat "Count" "numbers") rfl)
        · exact He.noat_ok (c.fact 70 (f := .noat "Count" "worths") rfl)
        · exact He.noat_ok (c.fact 71 (f := .noat "Count" "going") rfl)
        · exact He.noat_ok (c.fact 72 (f := .noat "Count" "seats") rfl)
        · exact He.noat_ok (c.fact 73 (f := .noat "Count" "standing") rfl)
      mk7 := He.mkr_ok (c.fact 66 (f := .mkr "Count") rfl)
      kc7 := (He.mkr_ok (c.fact 66 (f := .mkr "Count") rfl)).kp
      c8 := He.glo_ok X G (c.fact 56 rfl)
      h8 := rfl
      cl8 := He.cls_ok (c.fact 74 (f := .cls "Roll") rfl)
      na8 := fun x hx => by
        unfold fields8 at hx
        simp only [List.mem_cons, List.not_mem_nil, or_false] at hx
        rcases hx with rfl | rfl
        · exact He.noat_ok (c.fact 76 (f := .noat "Roll" "names") rfl)
        · exact He.noat_ok (c.fact 77 (f := .noat "Roll" "papers") rfl)
      mk8 := He.mkr_ok (c.fact 75 (f := .mkr "Roll") rfl)
      kc8 := (He.mkr_ok (c.fact 75 (f := .mkr "Roll") rfl)).kp
      f_papers := fun n j hj => by
        unfold at_papers at hj
        split at hj
        · rename_i e
          subst e
          cases hj
          exact ⟨(show (fields7 : List Str).Nodup by decide +kernel), rfl, He.cls_ok (c.fact 65 (f := .cls "Count") rfl), He.noat_ok (c.fact 68 (f := .noat "Count" "papers") rfl)⟩
        split at hj
        · rename_i e
          subst e
          cases hj
          exact ⟨(show (fields8 : List Str).Nodup by decide +kernel), rfl, He.cls_ok (c.fact 74 (f := .cls "Roll") rfl), He.noat_ok (c.fact 77 (f := .noat "Roll" "papers") rfl)⟩
        cases hj
      f_names := fun n j hj => by
        unfold at_names at hj
        split at hj
        · rename_i e
          subst e
          cases hj
          exact ⟨(show (fields6 : List Str).Nodup by decide +kernel), rfl, He.cls_ok (c.fact 57 (f := .cls "Rule") rfl), He.noat_ok (c.fact 59 (f := .noat "Rule" "names") rfl)⟩
        split at hj
        · rename_i e
          subst e
          cases hj
          exact ⟨(show (fields8 : List Str).Nodup by decide +kernel), rfl, He.cls_ok (c.fact 74 (f := .cls "Roll") rfl), He.noat_ok (c.fact 76 (f := .noat "Roll" "names") rfl)⟩
        cases hj
      f_seats := fun n j hj => by
        unfold at_seats at hj
        split at hj
        · rename_i e
          subst e
          cases hj
          exact ⟨(show (fields6 : List Str).Nodup by decide +kernel), rfl, He.cls_ok (c.fact 57 (f := .cls "Rule") rfl), He.noat_ok (c.fact 60 (f := .noat "Rule" "seats") rfl)⟩
        split at hj
        · rename_i e
          subst e
          cases hj
          exact ⟨(show (fields7 : List Str).Nodup by decide +kernel), rfl, He.cls_ok (c.fact 65 (f := .cls "Count") rfl), He.noat_ok (c.fact 72 (f := .noat "Count" "seats") rfl)⟩
        cases hj
      f_hand := fun n j hj => by
        unfold at_hand at hj
        split at hj
        · rename_i e
          subst e
          cases hj
          exact ⟨(show (fields6 : List Str).Nodup by decide +kernel), rfl, He.cls_ok (c.fact 57 (f := .cls "Rule") rfl), He.noat_ok (c.fact 63 (f := .noat "Rule" "hand") rfl)⟩
        cases hj
      f_going := fun n j hj => by
        unfold at_going at hj
        split at hj
        · rename_i e
          subst e
          cases hj
          exact ⟨(show (fields7 : List Str).Nodup by decide +kernel), rfl, He.cls_ok (c.fact 65 (f := .cls "Count") rfl), He.noat_ok (c.fact 71 (f := .noat "Count" "going") rfl)⟩
        cases hj
      f_rule := fun n j hj => by
        unfold at_rule at hj
        split at hj
        · rename_i e
          subst e
          cases hj
          exact ⟨(show (fields7 : List Str).Nodup by decide +kernel), rfl, He.cls_ok (c.fact 65 (f := .cls "Count") rfl), He.noat_ok (c.fact 67 (f := .noat "Count" "rule") rfl)⟩
        cases hj
      f_order := fun n j hj => by
        unfold at_order at hj
        split at hj
        · rename_i e
          subst e
          cases hj
          exact ⟨(show (fields6 : List Str).Nodup by decide +kernel), rfl, He.cls_ok (c.fact 57 (f := .cls "Rule") rfl), He.noat_ok (c.fact 64 (f := .noat "Rule" "order") rfl)⟩
        cases hj
      f_standing := fun n j hj => by
        unfold at_standing at hj
        split at hj
        · rename_i e
          subst e
          cases hj
          exact ⟨(show (fields7 : List Str).Nodup by decide +kernel), rfl, He.cls_ok (c.fact 65 (f := .cls "Count") rfl), He.noat_ok (c.fact 73 (f := .noat "Count" "standing") rfl)⟩
        cases hj
      f_numbers := fun n j hj => by
        unfold at_numbers at hj
        split at hj
        · rename_i e
          subst e
          cases hj
          exact ⟨(show (fields7 : List Str).Nodup by decide +kernel), rfl, He.cls_ok (c.fact 65 (f := .cls "Count") rfl), He.noat_ok (c.fact 69 (f := .noat "Count" "numbers") rfl)⟩
        cases hj
      f_worths := fun n j hj => by
        unfold at_worths at hj
        split at hj
        · rename_i e
          subst e
          cases hj
          exact ⟨(show (fields7 : List Str).Nodup by decide +kernel), rfl, He.cls_ok (c.fact 65 (f := .cls "Count") rfl), He.noat_ok (c.fact 70 (f := .noat "Count" "worths") rfl)⟩
        cases hj
      f_quota := fun n j hj => by
        unfold at_quota at hj
        split at hj
        · rename_i e
          subst e
          cases hj
          exact ⟨(show (fields6 : List Str).Nodup by decide +kernel), rfl, He.cls_ok (c.fact 57 (f := .cls "Rule") rfl), He.noat_ok (c.fact 61 (f := .noat "Rule" "quota") rfl)⟩
        cases hj
      f_over := fun n j hj => by
        unfold at_over at hj
        split at hj
        · rename_i e
          subst e
          cases hj
          exact ⟨(show (fields6 : List Str).Nodup by decide +kernel), rfl, He.cls_ok (c.fact 57 (f := .cls "Rule") rfl), He.noat_ok (c.fact 62 (f := .noat "Rule" "over") rfl)⟩
        cases hj
      tab := ⟨fun e he => of_decide_eq_true (List.all_eq_true.mp e11 e he), fun e he => (by cases he), fun e he => ⟨?_, of_decide_eq_true (List.all_eq_true.mp hb e he)⟩⟩
      sb := ?_
      er := rfl
      ks := ⟨rfl, rfl⟩ }
    · have h : e.1 ∈ tabI.map (·.1) := List.mem_map.mpr ⟨e, he, rfl⟩
      have h2 : ∀ n ∈ tabI.map (·.1), InsC K ((Lk K).cA n) := by
        have hd : ∀ n ∈ tabI.map (·.1), n = 6 ∨ n = 7 ∨ n = 8 := by decide
        intro n hn
        rcases hd n hn with rfl | rfl | rfl
        · exact insB_ok (He.cls_ok (c.fact 57 (f := .cls "Rule") rfl)) e8
        · exact insB_ok (He.cls_ok (c.fact 65 (f := .cls "Count") rfl)) e9
        · exact insB_ok (He.cls_ok (c.fact 74 (f := .cls "Roll") rfl)) e10
      exact h2 _ h
    · intro e he
      unfold subT at he
      simp only [List.mem_cons, List.not_mem_nil, or_false] at he
      rcases he with rfl | rfl | rfl | rfl | rfl | rfl | rfl | rfl | rfl | rfl | rfl | rfl | rfl | rfl | rfl | rfl | rfl | rfl | rfl | rfl | rfl | rfl | rfl | rfl | rfl
      · exact He.exm_ok (c.fact 87 (f := .exm "BadNames" "BadNames" true) rfl)
      · exact He.exm_ok (c.fact 88 (f := .exm "BadNames" "BadPaper" false) rfl)
      · exact He.exm_ok (c.fact 89 (f := .exm "BadNames" "BadRoll" false) rfl)
      · exact He.exm_ok (c.fact 90 (f := .exm "BadNames" "BadRule" false) rfl)
      · exact He.exm_ok (c.fact 91 (f := .exm "BadNames" "BadNumber" false) rfl)
      · exact He.exm_ok (c.fact 92 (f := .exm "BadPaper" "BadNames" false) rfl)
      · exact He.exm_ok (c.fact 93 (f := .exm "BadPaper" "BadPaper" true) rfl)
      · exact He.exm_ok (c.fact 94 (f := .exm "BadPaper" "BadRoll" false) rfl)
      · exact He.exm_ok (c.fact 95 (f := .exm "BadPaper" "BadRule" false) rfl)
      · exact He.exm_ok (c.fact 96 (f := .exm "BadPaper" "BadNumber" false) rfl)
      · exact He.exm_ok (c.fact 97 (f := .exm "BadRoll" "BadNames" false) rfl)
      · exact He.exm_ok (c.fact 98 (f := .exm "BadRoll" "BadPaper" false) rfl)
      · exact He.exm_ok (c.fact 99 (f := .exm "BadRoll" "BadRoll" true) rfl)
      · exact He.exm_ok (c.fact 100 (f := .exm "BadRoll" "BadRule" false) rfl)
      · exact He.exm_ok (c.fact 101 (f := .exm "BadRoll" "BadNumber" false) rfl)
      · exact He.exm_ok (c.fact 102 (f := .exm "BadRule" "BadNames" false) rfl)
      · exact He.exm_ok (c.fact 103 (f := .exm "BadRule" "BadPaper" false) rfl)
      · exact He.exm_ok (c.fact 104 (f := .exm "BadRule" "BadRoll" false) rfl)
      · exact He.exm_ok (c.fact 105 (f := .exm "BadRule" "BadRule" true) rfl)
      · exact He.exm_ok (c.fact 106 (f := .exm "BadRule" "BadNumber" false) rfl)
      · exact He.exm_ok (c.fact 107 (f := .exm "BadNumber" "BadNames" false) rfl)
      · exact He.exm_ok (c.fact 108 (f := .exm "BadNumber" "BadPaper" false) rfl)
      · exact He.exm_ok (c.fact 109 (f := .exm "BadNumber" "BadRoll" false) rfl)
      · exact He.exm_ok (c.fact 110 (f := .exm "BadNumber" "BadRule" false) rfl)
      · exact He.exm_ok (c.fact 111 (f := .exm "BadNumber" "BadNumber" true) rfl)
  · exact fun s u => FunD.bindsA (ps := ["script"]) F37 (fun _ _ _ _ _ _ us hl => match us, hl with | [_], _ => rfl) s [u] rfl
end Lw
open PySem PySem.W PySem.Calls PyProof.Rows
theorem Lw.tbs {K : PySem.W.Frag} {mg : PySem.Str → Option Value} {base : Heap} (h : ∀ p ∈ Lw.tf.map (He.cT K), LamX.TabB base mg p.1 p.2) : Lw.Tbs mg base (Lw.coL K) (Lw.tbL K) := ⟨h _ (List.mem_map.mpr ⟨("Count", some "next_step"), .head _, rfl⟩)⟩
theorem Lw.lT {K : PySem.W.Frag} : ∀ q ∈ (Lw.Lk K).T, q.1 ∈ (Lw.tf.map (He.cT K)).map (·.2) := by
  intro q hq
  unfold Lw.Lk at hq
  simp only [List.mem_cons, List.not_mem_nil, or_false] at hq
  rcases hq with rfl
  · exact .head _

theorem Lw.bits_ok {z : Int} (h : Builtin.Int.intBits z ≤ 1048576) : DL.bitsOk z := by
  unfold DL.bitsOk
  by_cases e : z = 0
  · subst e
    exact Nat.pow_pos (by decide)
  · have h2 : z.natAbs.log2 + 1 ≤ 1048576 := by
      unfold Builtin.Int.intBits at h
      rw [if_neg (by simpa using e)] at h
      exact h
    exact Nat.lt_of_lt_of_le Nat.lt_log2_self (Nat.pow_le_pow_right (by decide) (by omega))
theorem PySem.Challenge.cw_handedvotes_k73_more_calls_by_names_holds : PySem.Challenge.rw_handedvotes_k73_more_calls_by_names.Holds := by
  w_on; o_law
  refine HandSHeadRun.head_any (r := OpenLaw.row PySem.Challenge.rw_handedvotes_k73_more_calls_by_names) (q := view (OpenLaw.row PySem.Challenge.rw_handedvotes_k73_more_calls_by_names).prog [49]) (H := Lw.hk) (ob := Lw.ob) (M := 20000) (loose := Lw.loose) (d := HandSHeadRun.topDef (OpenLaw.row PySem.Challenge.rw_handedvotes_k73_more_calls_by_names).prog 49) (kwd := []) Lw.ob_eq
    (by kernel_rfl) (fun s => by kernel_rfl) Lw.run (by kernel_rfl) (by kernel_rfl) (by kernel_rfl) (by rfl) (by first | assumption | decide +kernel) (by decide +kernel) ⟨rfl, rfl, rfl, rfl, rfl, by decide +kernel⟩ ?hw ?hc
  case hw => w_witness2
  case hc =>
    refine Att.attach_callB (l := PySem.Challenge.rw_handedvotes_k73_more_calls_by_names) (n := 63) rfl (by kernel_rfl) fun w s₀ s₁ mg mb fa o pm cd doc a vs ns G Y ho hd hcd hmg hobj hints hlen hbits hg => ?_
    obtain ⟨K, KX, S⟩ := Y
    have hb := S.more
    have c := S.t.d
    obtain ⟨f, fd, fI, M, e5, b5⟩ := Lw.facts KX G.T.g hb c
    have hmg2 : mg ("law" : PySem.Str) = some (.ref fa) := by
      have e : (HandSHeadRun.topDef (OpenLaw.row PySem.Challenge.rw_handedvotes_k73_more_calls_by_names).prog 49).name = ("law" : PySem.Str) := by kernel_rfl
      rw [← e]
      exact hmg
    have e := hmg2.symm.trans (He.glo_ok KX G.T.g (c.fact 25 (f := .glo "law") rfl))
    have ea : fa = f 37 := by rw [e5]; exact Value.ref.inj (Option.some.inj e)
    subst ea
    exact DL.law_callGT (L := Lw.Lk K) (k := 8) (m := Lw.m_law) (x := "script") (cs := Lw.tf.map (He.cT K)) rfl Lw.lT KX G.T.g G.T.b G.T.builtins G.T.nolimit hg (fun p hp => by obtain ⟨d, hd, rfl⟩ := List.mem_map.mp hp; exact S.empty d hd) (fun p hp => by obtain ⟨d, hd, rfl⟩ := List.mem_map.mp hp; exact S.out d hd) (fun p hp => by obtain ⟨d, hd, rfl⟩ := List.mem_map.mp hp; exact PySem.W.codeHd_of_K KX (S.hd d hd)) G.T.bmain hobj hints (Nat.le_trans hlen (by decide)) ⟨rfl, by decide, by decide⟩ (fun base _ _ h => Lw.g_law M (Lw.tbs h) rfl) b5
      (Lw.law_m hlen fun z hz => Lw.bits_ok (hbits z hz))
