import PyProof.Rows.All
import Wide.All
import OpenK.AllK
import Wide.FinOn
import HandS.ForMost
import HandS.ForExc
import HandS.Lambda
import HandS.EndTab
import HandS.ExcInit
import HandS.TupAny
import HandS.TupMul
import HandS.Wide
import KE.DataEq
import KE.DataFind
import HandS.Text
import HandS.Deep
import HandS.IsInst
import HandS.Iter
import PyProof.ReprRoads
import HandS.Exc
import HandS.ExcField
import HandS.ExcIs
import KE.KExcInit
import HandS.EndBits
import HandS.Head0
import HandS.Head1
import HandS.Head2
import HandS.HeadEnd
import HandS.HeadHook1
import HandS.HeadHook2
import KE.KStateDown
import HandS.TryMany
import HandS.Defaults
import KE.DataCmp
import HandS.Style
import PyProof.StrBlock2
import KE.SortData
import KE.KEqNest
import HandS.Zip
import HandS.Strs
import HandS.Dict
import KE.KDflt
import HandS.OwnEq
import HandS.HeadHook3
import HandS.HeadHook4
import HandS.ReCall
import Open.SpecLaws
import PySem.Challenge.RW_handedvotes_k01_whole_papers_and_ranges
set_option Elab.async false
set_option linter.all false
set_option maxRecDepth 100000
set_option maxHeartbeats 0
/-! Data as trees, over the hand layer: what values denote, runs with free choices, the ghost state. -/
namespace DL
open PySem PySem.Spec L2

inductive D where
  | non | bl (b : Bool) | int (i : Int) | str (s : Str)
  | tup (xs : List D) | lst (xs : List D) | dct (t : Bool) (kvs : List (D × D))
  | ins (c : Nat) (fs : List D)
  | exc (c : Nat) (v : D) | err (c : Nat) (v : D)
  | ty (n : String) | clo (n : Nat)
  | rnd
  | scr (ns : List Int)
  | pr (xs : List D)

/-- an exception that flies: its class, its one field -/
structure Ex where
  c : Nat
  v : D

inductive M (α : Type) where
  | ret (a : α) | exc (x : Ex) | stuck | choose (n : Nat) (k : Nat → M α) | begun (k : M α)
def lim : Nat := 2 ^ 100000
namespace M
def bind {α β : Type} : M α → (α → M β) → M β
  | ret a, f => f a
  | exc x, _ => exc x
  | stuck, _ => stuck
  | choose n k, f => choose n fun i => (k i).bind f
  | begun k, f => begun (k.bind f)
def wp {α : Type} : M α → (α → Prop) → (Ex → Prop) → Prop
  | ret a, Q, _ => Q a
  | exc x, _, E => E x
  | stuck, _, _ => False
  | choose n k, Q, E => ∀ i, i < n → (k i).wp Q E
  | begun k, Q, E => k.wp Q E
theorem wp_mono {α : Type} {Q Q' : α → Prop} {E E' : Ex → Prop} (hQ : ∀ a, Q a → Q' a) (hE : ∀ x, E x → E' x) : ∀ (m : M α), m.wp Q E → m.wp Q' E'
  | ret a, h => hQ a h
  | exc x, h => hE x h
  | stuck, h => h.elim
  | choose _ k, h => fun i hi => wp_mono hQ hE (k i) (h i hi)
  | begun k, h => wp_mono hQ hE k h
/-- with a number of choices that are left -/
def wpB {α : Type} : M α → Nat → (α → Nat → Prop) → (Ex → Nat → Prop) → Prop
  | ret a, b, Q, _ => Q a b
  | exc x, b, _, E => E x b
  | stuck, _, _, _ => False
  | choose _ _, 0, _, _ => False
  | choose n k, b + 1, Q, E => ∀ i, i < n → (k i).wpB b Q E
  | begun k, b, Q, E => b = lim + 1 ∧ k.wpB lim Q E
theorem wpB_mono {α : Type} {Q Q' : α → Nat → Prop} {E E' : Ex → Nat → Prop} (hQ : ∀ a b, Q a b → Q' a b) (hE : ∀ x b, E x b → E' x b) : ∀ (m : M α) (b : Nat), m.wpB b Q E → m.wpB b Q' E'
  | ret a, b, h => hQ a b h
  | exc x, b, h => hE x b h
  | stuck, _, h => h.elim
  | choose _ _, 0, h => h.elim
  | choose _ k, b + 1, h => fun i hi => wpB_mono hQ hE (k i) b (h i hi)
  | begun k, _, h => ⟨h.1, wpB_mono hQ hE k lim h.2⟩
theorem wpB_bind {α β : Type} {Q : β → Nat → Prop} {E : Ex → Nat → Prop} {f : α → M β} : ∀ (m : M α) (b : Nat), (m.bind f).wpB b Q E ↔ m.wpB b (fun a c => (f a).wpB c Q E) E
  | ret _, _ => Iff.rfl
  | exc _, _ => Iff.rfl
  | stuck, _ => Iff.rfl
  | choose _ _, 0 => Iff.rfl
  | choose _ k, b + 1 => forall_congr' fun i => forall_congr' fun _ => wpB_bind (k i) b
  | begun k, _ => and_congr_right' (wpB_bind k lim)
/-- nothing may be raised -/
def noX {α : Type} : M α → M α
  | ret a => ret a
  | exc _ => stuck
  | stuck => stuck
  | choose n k => choose n fun i => (k i).noX
  | begun k => begun k.noX
theorem wpB_noX {α : Type} {Q : α → Nat → Prop} {E E' : Ex → Nat → Prop} : ∀ (m : M α) (b : Nat), m.noX.wpB b Q E → m.wpB b Q E'
  | ret _, _, h => h
  | exc _, _, h => h.elim
  | stuck, _, h => h
  | choose _ _, 0, h => h
  | choose _ k, b + 1, h => fun i hi => wpB_noX (k i) b (h i hi)
  | begun k, _, h => ⟨h.1, wpB_noX k lim h.2⟩
/-- at most so many choices -/
def fin {α : Type} : M α → Nat → Prop
  | ret _, _ => True
  | exc _, _ => True
  | stuck, _ => True
  | choose _ _, 0 => False
  | choose n k, b + 1 => ∀ i, i < n → (k i).fin b
  | begun k, b => b = lim + 1 ∧ k.fin lim
theorem wpB_of {α : Type} {Q : α → Prop} {E : Ex → Prop} : ∀ (m : M α) (b : Nat), m.fin b → m.wp Q E → m.wpB b (fun a _ => Q a) (fun x _ => E x)
  | ret _, _, _, h => h
  | exc _, _, _, h => h
  | stuck, _, _, h => h
  | choose _ _, 0, f, _ => f.elim
  | choose _ k, b + 1, f, h => fun i hi => wpB_of (k i) b (f i hi) (h i hi)
  | begun k, _, f, h => ⟨f.1, wpB_of k lim f.2 h⟩
theorem wp_bind {α β : Type} {Q : β → Prop} {E : Ex → Prop} {f : α → M β} : ∀ (m : M α), (m.bind f).wp Q E ↔ m.wp (fun a => (f a).wp Q E) E
  | ret _ => Iff.rfl
  | exc _ => Iff.rfl
  | stuck => Iff.rfl
  | choose _ k => forall_congr' fun i => forall_congr' fun _ => wp_bind (k i)
  | begun k => wp_bind k
end M

/-- what a law's text is proved over: the written part, the tables of code objects, the own classes and their fields -/
structure Lx where
  K : PySem.W.Frag
  T : List (Addr × Str)
  cA : Nat → Addr
  cF : Nat → List Str
  /-- an error that a suite holds: where it stands, its class, its dict, what the dict holds -/
  er : Option (Addr × Nat × Addr × V)
  /-- the instance that is being made -/
  sf : Option Addr
  /-- all tuples keep their object (no tuple is a key) -/
  fz : Bool := false

/-- the ghost: what is frozen for good, the law's own m -/
structure Gh where
  F : Hp
  mu : Option Addr
  bud : Nat
  nt : ∀ a ps, F a ≠ some (.tbl ps)

def keyD : Key → D
  | .inl i => .int i
  | .inr s => .str s

/-- no key of a dict -/
def notKey : V → Bool
  | .int _ | .str _ => false
  | _ => true
/-- a tuple that is the run's own, or written at the top, or the run's own with a known object -/
def SqD (fz : Bool) (K : PySem.W.Frag) (F : Hp) (a : Addr) (xs : List V) : Prop :=
  ((fz || xs.any notKey) = false ∧ F a = some (.tup xs)) ∨ (∃ (o : Obj) (its : Array Value) (n : Nat), K.lookup a = some o ∧ o.cls = .type "tuple" ∧ o.data = .seq its n ∧ its.size ≤ sizeLine ∧ o.dict = none ∧ Vals xs its.toList) ∨ ∃ o : Obj, F a = some (.frz o (.tup xs)) ∧ o.cls = .type "tuple" ∧ o.dict = none ∧ (fz || xs.any notKey) = true
theorem SqD.sq {fz : Bool} {K : PySem.W.Frag} {F : Hp} {a : Addr} {xs : List V} : SqD fz K F a xs → SqT K F a xs
  | .inl e => .inl (.inl e.2)
  | .inr (.inl ⟨o, its, n, h1, h2, h3, h4, _, h5⟩) => .inr ⟨o, its, n, h1, h2, h3, h4, h5⟩
  | .inr (.inr ⟨o, e, _⟩) => .inl (.inr ⟨o, e⟩)
theorem SqD.mono {fz : Bool} {K : PySem.W.Frag} {F F' : Hp} {a : Addr} {vs : List V} (h : ∀ a o, F a = some o → F' a = some o) : SqD fz K F a vs → SqD fz K F' a vs
  | .inl ⟨z, e⟩ => .inl ⟨z, h _ _ e⟩
  | .inr (.inl e) => .inr (.inl e)
  | .inr (.inr ⟨o, e, r⟩) => .inr (.inr ⟨o, h _ _ e, r⟩)
/-- how a new tuple is laid -/
def newT (fz : Bool) (o : Obj) (xs : List V) : HO := if (fz || xs.any notKey) = true then .frz o (.tup xs) else .tup xs
theorem newT_nt {fz : Bool} {o : Obj} {xs : List V} (ps : Array Value) : newT fz o xs ≠ .tbl ps := by
  unfold newT
  split <;> exact fun h => nomatch h
theorem newT_sq {fz : Bool} {K : PySem.W.Frag} {F : Hp} {a : Addr} {o : Obj} {xs : List V} (h : F a = some (newT fz o xs)) (hc : o.cls = .type "tuple") (hd : o.dict = none) : SqD fz K F a xs := by
  unfold newT at h
  split at h
  · rename_i z
    exact .inr (.inr ⟨o, h, hc, hd, z⟩)
  · rename_i z
    exact .inl ⟨eq_false_of_ne_true z, h⟩
mutual
inductive Den (L : Lx) (g : Gh) : V → D → Prop
  | non : Den L g .non .non
  | bl (b : Bool) : Den L g (.bl b) (.bl b)
  | int (i : Int) : Den L g (.int i) (.int i)
  | str (s : Str) : Den L g (.str s) (.str s)
  | tup {a : Addr} {vs : List V} {ds : List D} : SqD L.fz L.K g.F a vs → DenL L g vs ds → Den L g (.ref a) (.tup ds)
  | lst {a : Addr} {vs : List V} {ds : List D} : g.F a = some (.lst vs) → DenL L g vs ds → Den L g (.ref a) (.lst ds)
  | dK {a : Addr} {ks : List Key} {vs : List V} {ds : List D} : g.F a = some (.dK (ks.zip vs)) → ks.length = vs.length → DenL L g vs ds → Den L g (.ref a) (.dct false ((ks.map keyD).zip ds))
  | dT {a : Addr} {ks : List (List Key)} {vs : List V} {ds : List D} : g.F a = some (.dT (ks.zip vs)) → ks.length = vs.length → DenL L g vs ds → Den L g (.ref a) (.dct true ((ks.map fun k => D.tup (k.map keyD)).zip ds))
  | ins {a c dx : Addr} {n : Nat} {vs : List V} {ds : List D} : g.F a = some (.ins (L.cA n) dx ((L.cF n).zip vs)) → (L.cF n).length = vs.length → DenL L g vs ds → Den L g (.ref a) (.ins n ds)
  | exc {a d : Addr} {n : Nat} {f : Str} {v : V} {x : D} : g.F a = some (exo a (L.cA n) (some d)) → g.F d = some (exd d [(f, v)]) → L.cF n = [f] → Den L g v x → Den L g (.ref a) (.exc n x)
  | err {a d : Addr} {n : Nat} {u : V} {x : D} : L.er = some (a, n, d, u) → Den L g u x → Den L g (.ref a) (.err n x)
  | ty (n : String) : Den L g (.ty n) (.ty n)
  | clo (n : Nat) : Den L g (.ref (L.cA n)) (.clo n)
  | rnd {a : Addr} : g.mu = some a → Den L g (.ref a) .rnd
  | scr {a : Addr} {ns : List Int} : SqL L.K g.F a (ns.map V.int) → Den L g (.ref a) (.scr ns)
  | pr {a : Addr} {vs : List V} {ds : List D} : g.F a = some (.tup vs) → DenL L g vs ds → Den L g (.ref a) (.pr ds)
inductive DenL (L : Lx) (g : Gh) : List V → List D → Prop
  | nil : DenL L g [] []
  | cons {v : V} {vs : List V} {d : D} {ds : List D} : Den L g v d → DenL L g vs ds → DenL L g (v :: vs) (d :: ds)
end

section
variable {L : Lx} {g g' : Gh}
theorem sqT_mono {K : PySem.W.Frag} {F F' : Hp} {a : Addr} {vs : List V} (h : ∀ a o, F a = some o → F' a = some o) : SqT K F a vs → SqT K F' a vs
  | .inl (.inl e) => .inl (.inl (h _ _ e))
  | .inl (.inr ⟨o, e⟩) => .inl (.inr ⟨o, h _ _ e⟩)
  | .inr e => .inr e
theorem sqL_mono {K : PySem.W.Frag} {F F' : Hp} {a : Addr} {vs : List V} (h : ∀ a o, F a = some o → F' a = some o) : SqL K F a vs → SqL K F' a vs
  | .inl (.inl e) => .inl (.inl (h _ _ e))
  | .inl (.inr ⟨o, e⟩) => .inl (.inr ⟨o, h _ _ e⟩)
  | .inr e => .inr e
theorem rd_mono {F F' : Hp} {a : Addr} {o : HO} (h : ∀ a o, F a = some o → F' a = some o) : Rd F a o → Rd F' a o
  | .inl e => .inl (h _ _ e)
  | .inr ⟨o, e⟩ => .inr ⟨o, h _ _ e⟩
mutual
theorem Den.mono (h : ∀ a o, g.F a = some o → g'.F a = some o) (hm : ∀ a, g.mu = some a → g'.mu = some a) : ∀ {v : V} {d : D}, Den L g v d → Den L g' v d
  | _, _, .non => .non
  | _, _, .bl b => .bl b
  | _, _, .int i => .int i
  | _, _, .str s => .str s
  | _, _, .tup e l => .tup (e.mono h) (DenL.mono h hm l)
  | _, _, .lst e l => .lst (h _ _ e) (DenL.mono h hm l)
  | _, _, .dK e z l => .dK (h _ _ e) z (DenL.mono h hm l)
  | _, _, .dT e z l => .dT (h _ _ e) z (DenL.mono h hm l)
  | _, _, .ins (c := c) e z l => .ins (c := c) (h _ _ e) z (DenL.mono h hm l)
  | _, _, .exc (n := n) a b c l => .exc (n := n) (h _ _ a) (h _ _ b) c (Den.mono h hm l)
  | _, _, .err (n := n) a l => .err (n := n) a (Den.mono h hm l)
  | _, _, .ty n => .ty n
  | _, _, .clo n => .clo n
  | _, _, .rnd e => .rnd (hm _ e)
  | _, _, .scr e => .scr (sqL_mono h e)
  | _, _, .pr e l => .pr (h _ _ e) (DenL.mono h hm l)
theorem DenL.mono (h : ∀ a o, g.F a = some o → g'.F a = some o) (hm : ∀ a, g.mu = some a → g'.mu = some a) : ∀ {vs : List V} {ds : List D}, DenL L g vs ds → DenL L g' vs ds
  | _, _, .nil => .nil
  | _, _, .cons a l => .cons (Den.mono h hm a) (DenL.mono h hm l)
end
theorem DenL.length : ∀ {vs : List V} {ds : List D}, DenL L g vs ds → vs.length = ds.length
  | _, _, .nil => rfl
  | _, _, .cons _ l => congrArg (· + 1) (DenL.length l)
theorem DenL.append : ∀ {vs : List V} {ds : List D} {ws : List V} {es : List D}, DenL L g vs ds → DenL L g ws es → DenL L g (vs ++ ws) (ds ++ es)
  | _, _, _, _, .nil, r => r
  | _, _, _, _, .cons a l, r => .cons a (DenL.append l r)
theorem DenL.get : ∀ {vs : List V} {ds : List D} {i : Nat} {d : D}, DenL L g vs ds → ds[i]? = some d → ∃ v, vs[i]? = some v ∧ Den L g v d
  | _, _, _, _, .nil, e => by simp at e
  | _, _, 0, _, .cons a _, e => by simp at e; subst e; exact ⟨_, rfl, a⟩
  | _, _, i + 1, d, .cons _ l, e => by
    obtain ⟨v, h1, h2⟩ := DenL.get (i := i) (d := d) l (by simpa using e)
    exact ⟨v, by simpa using h1, h2⟩
theorem DenL.get' : ∀ {vs : List V} {ds : List D} {i : Nat} {v : V}, DenL L g vs ds → vs[i]? = some v → ∃ d, ds[i]? = some d ∧ Den L g v d
  | _, _, _, _, .nil, e => by simp at e
  | _, _, 0, _, .cons a _, e => by simp at e; subst e; exact ⟨_, rfl, a⟩
  | _, _, i + 1, v, .cons _ l, e => by
    obtain ⟨d, h1, h2⟩ := DenL.get' (i := i) (v := v) l (by simpa using e)
    exact ⟨d, by simpa using h1, h2⟩
theorem DenL.take : ∀ {vs : List V} {ds : List D} (n : Nat), DenL L g vs ds → DenL L g (vs.take n) (ds.take n)
  | _, _, 0, _ => .nil
  | _, _, _ + 1, .nil => .nil
  | _, _, n + 1, .cons a l => .cons a (DenL.take n l)
theorem DenL.drop : ∀ {vs : List V} {ds : List D} (n : Nat), DenL L g vs ds → DenL L g (vs.drop n) (ds.drop n)
  | _, _, 0, l => l
  | _, _, _ + 1, .nil => .nil
  | _, _, n + 1, .cons _ l => DenL.drop n l
theorem DenL.reverse : ∀ {vs : List V} {ds : List D}, DenL L g vs ds → DenL L g vs.reverse ds.reverse
  | _, _, .nil => .nil
  | _, _, .cons a l => by rw [List.reverse_cons, List.reverse_cons]; exact DenL.append (DenL.reverse l) (.cons a .nil)
end

/-! ### the law's m, the steps of a run -/
/-- a stands in m -/
def InM (mu : Option Addr) (H : Hp) (a : Addr) : Prop := ∃ m, mu = some m ∧ (a = m ∨ ∃ kvs k, H m = some (.dK kvs) ∧ (k, V.ref a) ∈ kvs)
def bitsOk (z : Int) : Prop := z.natAbs < 2 ^ 1048600
def MOk (b : Nat) (H : Hp) (m : Addr) : Prop := ∃ (c l : Addr) (cs ls : List Int) (at_ : Int), H m = some (.dK [(Sum.inr "cells", .ref c), (Sum.inr "left", .ref l), (Sum.inr "at", .int at_)]) ∧
  H c = some (.lst (cs.map V.int)) ∧ H l = some (.lst (ls.map V.int)) ∧ c ≠ l ∧ cs.length ≤ 63 ∧ ls.length ≤ 63 ∧ (∀ z ∈ cs, bitsOk z) ∧ (∀ z ∈ ls, bitsOk z ∧ 0 ≤ z) ∧ 0 ≤ at_ ∧ at_.toNat + b ≤ lim
def RndOk (g : Gh) (H : Hp) : Prop := (g.mu = none → g.bud = lim + 1) ∧ ∀ m, g.mu = some m → MOk g.bud H m

/-- what stands whatever is done: the tables of code objects, a held error's dict -/
def TabX (L : Lx) (H : Hp) : Prop := LamX.Tabs L.T H ∧ ∀ a n d u, L.er = some (a, n, d, u) → ∃ f, L.cF n = [f] ∧ H d = some (.xd [(f, u)])
theorem TabX.ext {L : Lx} {H H' : Hp} (t : TabX L H) (e : ∀ b o, H b = some o → H' b = some o) : TabX L H' :=
  ⟨t.1.ext e, fun a n d u h => let ⟨f, h1, h2⟩ := t.2 a n d u h; ⟨f, h1, e _ _ h2⟩⟩
/-- from (g, H) to (g', H'): what is frozen stays, what is not m's stays -/
structure Stp (L : Lx) (g : Gh) (H : Hp) (g' : Gh) (H' : Hp) : Prop where
  le : ∀ a o, g.F a = some o → g'.F a = some o
  mu : ∀ m, g.mu = some m → g'.mu = some m
  sub : ∀ a o, g'.F a = some o → H' a = some o
  keep : ∀ a o, H a = some o → (∀ ps, o ≠ .tbl ps) → ¬ InM g.mu H a → H' a = some o ∧ ¬ InM g'.mu H' a
  nf : ∀ a, H a ≠ none → H' a ≠ none ∧ (g.F a = none → g'.F a = none)
  nm : ∀ a o, g'.F a = some o → ¬ InM g'.mu H' a
  rnd : RndOk g' H'
  bud : g'.bud ≤ g.bud
  tab : TabX L H'
end DL
/-! The frame's slots as data, readings of expressions by runs. -/
namespace DL
open PySem PySem.Spec L2

/-- a slot: data, or a list or dict of one's own that is changed -/
inductive B where
  | fz (d : D) | ol (ds : List D) | od (t : Bool) (kvs : List (D × D)) | os (n : Nat) (fs : List (Str × D))
abbrev Env := List (Option B)
abbrev IE := Env → M D

section
variable {L : Lx} {g g' g'' : Gh} {H H' H'' : Hp} {σ σ' : L2.St} {Γ : Env}

/-- a dict at a, as data -/
def DctAt (L : Lx) (g : Gh) (H : Hp) (p : Addr) (t : Bool) (kvs : List (D × D)) : Prop :=
  (∃ (ks : List Key) (vs : List V) (ds : List D), H p = some (.dK (ks.zip vs)) ∧ ks.length = vs.length ∧ DenL L g vs ds ∧ kvs = (ks.map keyD).zip ds ∧ t = false) ∨
  (∃ (ks : List (List Key)) (vs : List V) (ds : List D), H p = some (.dT (ks.zip vs)) ∧ ks.length = vs.length ∧ DenL L g vs ds ∧ kvs = (ks.map fun k => D.tup (k.map keyD)).zip ds ∧ t = true)
theorem DctAt.step {t : Bool} (h : DctAt L g H a t kvs) (e : H' a = H a) (le : ∀ a o, g.F a = some o → g'.F a = some o) (mu : ∀ m, g.mu = some m → g'.mu = some m) : DctAt L g' H' a t kvs := by
  rcases h with ⟨ks, vs, ds, h1, h2, h3, h4⟩ | ⟨ks, vs, ds, h1, h2, h3, h4⟩
  · exact .inl ⟨ks, vs, ds, e.trans h1, h2, h3.mono le mu, h4⟩
  · exact .inr ⟨ks, vs, ds, e.trans h1, h2, h3.mono le mu, h4⟩
def Bind1 (L : Lx) (g : Gh) (H : Hp) (x : Option V) : B → Prop
  | .fz d => ∃ v, x = some v ∧ Den L g v d
  | .ol ds => ∃ p vs, x = some (.ref p) ∧ H p = some (.lst vs) ∧ DenL L g vs ds ∧ g.F p = none ∧ ¬ InM g.mu H p
  | .od t kvs => ∃ p, x = some (.ref p) ∧ g.F p = none ∧ ¬ InM g.mu H p ∧ DctAt L g H p t kvs
  | .os n fs => ∃ p dx vs, x = some (.ref p) ∧ L.sf = some p ∧ H p = some (.ins (L.cA n) dx ((fs.map (·.1)).zip vs)) ∧ DenL L g vs (fs.map (·.2)) ∧ g.F p = none ∧ ¬ InM g.mu H p
def B.own : B → Bool
  | .fz _ => false
  | _ => true

structure Rep (L : Lx) (Γ : Env) (g : Gh) (σ : L2.St) (H : Hp) : Prop where
  sub : ∀ a o, g.F a = some o → H a = some o
  rnd : RndOk g H
  tab : TabX L H
  loc : ∀ (i : Nat) (b : B), Γ[i]? = some (some b) → ∃ x, σ[i]? = some x ∧ Bind1 L g H x b
  dis : ∀ (i j : Nat) (b c : B) (p : Addr), Γ[i]? = some (some b) → Γ[j]? = some (some c) → b.own = true → c.own = true → σ[i]? = some (some (.ref p)) → σ[j]? = some (some (.ref p)) → i = j
  nF : ∀ a o, g.F a = some o → ¬ InM g.mu H a
  len : Γ.length = σ.length

theorem Stp.refl (r : Rep L Γ g σ H) : Stp L g H g H :=
  ⟨fun _ _ e => e, fun _ e => e, r.sub, fun _ _ e _ n => ⟨e, n⟩, fun _ n => ⟨n, fun e => e⟩, r.nF, r.rnd, Nat.le_refl _, r.tab⟩
theorem Stp.trans (a : Stp L g H g' H') (b : Stp L g' H' g'' H'') : Stp L g H g'' H'' :=
  ⟨fun x o e => b.le x o (a.le x o e), fun m e => b.mu m (a.mu m e), b.sub, fun x o e n h => let ⟨e1, h1⟩ := a.keep x o e n h; b.keep x o e1 n h1,
   fun x e => let ⟨e1, h1⟩ := a.nf x e; let ⟨e2, h2⟩ := b.nf x e1; ⟨e2, fun q => h2 (h1 q)⟩, b.nm, b.rnd, Nat.le_trans b.bud a.bud, b.tab⟩
theorem Bind1.step {x : Option V} {b : B} (h : Bind1 L g H x b) (s : Stp L g H g' H') : Bind1 L g' H' x b := by
  cases b with
  | fz d => obtain ⟨v, e, h⟩ := h; exact ⟨v, e, h.mono s.le s.mu⟩
  | ol ds =>
    obtain ⟨p, vs, e, hp, hd, hf, hm⟩ := h
    obtain ⟨e1, m1⟩ := s.keep p _ hp (fun _ z => nomatch z) hm
    exact ⟨p, vs, e, e1, hd.mono s.le s.mu, (s.nf p (by rw [hp]; simp)).2 hf, m1⟩
  | od t kvs =>
    obtain ⟨p, e, hf, hm, hd⟩ := h
    have hp : ∃ o, H p = some o ∧ ∀ ps, o ≠ .tbl ps := by
      rcases hd with ⟨_, _, _, h1, _⟩ | ⟨_, _, _, h1, _⟩
      · exact ⟨_, h1, fun _ z => nomatch z⟩
      · exact ⟨_, h1, fun _ z => nomatch z⟩
    obtain ⟨o, h1, h2⟩ := hp
    obtain ⟨e1, m1⟩ := s.keep p _ h1 h2 hm
    exact ⟨p, e, (s.nf p (by rw [h1]; simp)).2 hf, m1, hd.step (e1.trans h1.symm) s.le s.mu⟩
  | os n fs =>
    obtain ⟨p, dx, vs, e, es, hp, hd, hf, hm⟩ := h
    obtain ⟨e1, m1⟩ := s.keep p _ hp (fun _ z => nomatch z) hm
    exact ⟨p, dx, vs, e, es, e1, hd.mono s.le s.mu, (s.nf p (by rw [hp]; simp)).2 hf, m1⟩
theorem Rep.step (r : Rep L Γ g σ H) (s : Stp L g H g' H') : Rep L Γ g' σ H' :=
  ⟨s.sub, s.rnd, s.tab, fun i b e => let ⟨x, e1, h⟩ := r.loc i b e; ⟨x, e1, h.step s⟩, r.dis, s.nm, r.len⟩

/-- a value to be looked at: frozen data, or a list or dict of one's own -/
def Vw (L : Lx) (g : Gh) (H : Hp) (v : V) (d : D) : Prop :=
  Den L g v d ∨ (∃ p vs ds, v = .ref p ∧ d = .lst ds ∧ H p = some (.lst vs) ∧ DenL L g vs ds ∧ ¬ InM g.mu H p) ∨ (∃ p t kvs, v = .ref p ∧ d = .dct t kvs ∧ ¬ InM g.mu H p ∧ DctAt L g H p t kvs)
theorem Vw.step {v : V} {d : D} (h : Vw L g H v d) (s : Stp L g H g' H') : Vw L g' H' v d := by
  rcases h with h | ⟨p, vs, ds, e1, e2, h1, h2, h3⟩ | ⟨p, t, kvs, e1, e2, hm, hd⟩
  · exact .inl (h.mono s.le s.mu)
  · obtain ⟨e, m⟩ := s.keep p _ h1 (fun _ z => nomatch z) h3
    exact .inr (.inl ⟨p, vs, ds, e1, e2, e, h2.mono s.le s.mu, m⟩)
  · have hp : ∃ o, H p = some o ∧ ∀ ps, o ≠ .tbl ps := by
      rcases hd with ⟨_, _, _, h1, _⟩ | ⟨_, _, _, h1, _⟩
      · exact ⟨_, h1, fun _ z => nomatch z⟩
      · exact ⟨_, h1, fun _ z => nomatch z⟩
    obtain ⟨o, h1, h2⟩ := hp
    obtain ⟨e, m⟩ := s.keep p _ h1 h2 hm
    exact .inr (.inr ⟨p, t, kvs, e1, e2, m, hd.step (e.trans h1.symm) s.le s.mu⟩)

/-- how an exception of a run lies in the hand layer: its class, its own dict -/
def ExAt (L : Lx) (g : Gh) (H : Hp) (x : Ex) (cls : Value) (d : Option Addr) : Prop :=
  cls = .ref (L.cA x.c) ∧ ∃ da f v, d = some da ∧ L.cF x.c = [f] ∧ H da = some (.xd [(f, v)]) ∧ Den L g v x.v
/-- the wish about exceptions, from where the run began -/
def XW (L : Lx) (W : WX) (g : Gh) (σ : L2.St) (H : Hp) (x : Ex) (b : Nat) : Prop :=
  ∀ cls d g' H', Stp L g H g' H' → g'.bud = b → ExAt L g' H' x cls d → W cls d σ H'
/-- what an expression's run says of its value: v says how it is told -/
abbrev TT1 := Lx → Hp → Gh → Hp → V → D → Prop
def Rd1 (L : Lx) (T : TT1) (W : WX) (i : IE) : TE := fun σ H Q => ∃ Γ g, Rep L Γ g σ H ∧
  (i Γ).wpB g.bud (fun d b => ∀ v g' H', Stp L g H g' H' → g'.bud = b → T L H g' H' v d → Q v H') (XW L W g σ H)
abbrev DenT : TT1 := fun L _ g _ v d => Den L g v d
abbrev VwT : TT1 := fun L _ g H v d => Vw L g H v d
/-- a new list of one's own -/
def FrT : TT1 := fun L H₀ g H v d => ∃ p vs ds, v = .ref p ∧ d = .lst ds ∧ H p = some (.lst vs) ∧ DenL L g vs ds ∧ g.F p = none ∧ ¬ InM g.mu H p ∧ H₀ p = none
/-- DE: the expression does what the run says, its value is frozen data; DV: .. is to be looked at -/
def DE (L : Lx) (X : Cx) (i : IE) (e : Expr) : Prop := ∀ W, Takes X W → PE X e (Rd1 L DenT W i)
def DV (L : Lx) (X : Cx) (i : IE) (e : Expr) : Prop := ∀ W, Takes X W → PE X e (Rd1 L VwT W i)
def DF (L : Lx) (X : Cx) (i : IE) (e : Expr) : Prop := ∀ W, Takes X W → PE X e (Rd1 L FrT W i)
theorem Rd1.weak {T T' : TT1} {W : WX} {i : IE} {Q : VK} (h : ∀ H₀ g H v d, T L H₀ g H v d → T' L H₀ g H v d) (r : Rd1 L T' W i σ H Q) : Rd1 L T W i σ H Q := by
  obtain ⟨Γ, g, rp, w⟩ := r
  exact ⟨Γ, g, rp, M.wpB_mono (fun d b k v g' H' s e t => k v g' H' s e (h _ _ _ _ _ t)) (fun _ _ x => x) _ _ w⟩
theorem DE.dv {X : Cx} {i : IE} {e : Expr} (h : DE L X i e) : DV L X i e := fun W tk =>
  ⟨fun pins s σ H Q I r => (h W tk).run pins s σ H Q I (r.weak fun _ _ _ _ _ t => .inl t)⟩
end
end DL
/-! Expressions. -/
namespace DL
open PySem PySem.Spec L2
theorem PE.imp {X : Cx} {e : Expr} {t t' : TE} (h : PE X e t) (k : ∀ σ H Q, t' σ H Q → t σ H Q) : PE X e t' := ⟨fun pins s σ H Q I r => h.run pins s σ H Q I (k _ _ _ r)⟩
section
variable {L : Lx} {X : Cx} {i j : IE} {a b e : Expr} {pos : Pos} {W : WX} {σ : L2.St} {H : Hp} {Q : VK}
theorem XW.of {g g' : Gh} {H' : Hp} {x : Ex} {b : Nat} (h : XW L W g σ H x b) (s : Stp L g H g' H') : XW L W g' σ H' x b := fun cls d g2 H2 s2 e q => h cls d g2 H2 (s.trans s2) e q
/-- what is wanted of a run's value, from (g, H) -/
abbrev Wn (L : Lx) (T : TT1) (g : Gh) (H : Hp) (Q : VK) : D → Nat → Prop := fun d b => ∀ v g' H', Stp L g H g' H' → g'.bud = b → T L H g' H' v d → Q v H'
/-- one run behind another -/
theorem Rd1.go {α : Type} {T : TT1} {Γ : Env} {g : Gh} {f : D → M α} {R : α → Nat → Prop} {Q : VK} (r : Rep L Γ g σ H) (h : ((i Γ).bind f).wpB g.bud R (XW L W g σ H))
    (k : ∀ v H1 d g1, Rep L Γ g1 σ H1 → Stp L g H g1 H1 → T L H g1 H1 v d → (f d).wpB g1.bud R (XW L W g1 σ H1) → Q v H1) : Rd1 L T W i σ H Q := by
  refine ⟨Γ, g, r, M.wpB_mono (fun d b h v g' H' s e t => ?_) (fun _ _ x => x) _ _ ((M.wpB_bind _ _).mp h)⟩
  subst e
  exact k v H' d g' (r.step s) s t (M.wpB_mono (fun _ _ x => x) (fun _ _ x => x.of s) _ _ h)

def iVar (n : Nat) : IE := fun Γ => match Γ[n]? with
  | some (some (.fz d)) => .ret d
  | _ => .stuck
def iUse (n : Nat) : IE := fun Γ => match Γ[n]? with
  | some (some (.fz d)) => .ret d
  | some (some (.ol ds)) => .ret (.lst ds)
  | some (some (.od t kvs)) => .ret (.dct t kvs)
  | _ => .stuck
def iLit (d : D) : IE := fun _ => .ret d
theorem de_var {n : Nat} {x : Str} (h : ∀ Y : Cx, Y.env = X.env → Y.N = X.N → PE Y (.Name x pos) (tVar n)) : DE L X (iVar n) (.Name x pos) := fun W _ => by
  refine PE.imp (h X rfl rfl) fun σ H Q r => ?_
  obtain ⟨Γ, g, rp, w⟩ := r
  unfold iVar at w
  split at w
  · rename_i d e
    obtain ⟨x, e1, v, e2, h⟩ := rp.loc _ _ e
    subst e2
    exact ⟨v, e1, w v g H (Stp.refl rp) rfl h⟩
  · exact w.elim
theorem dv_use {n : Nat} {x : Str} (h : PE X (.Name x pos) (tVar n)) : DV L X (iUse n) (.Name x pos) := fun W _ => by
  refine PE.imp h fun σ H Q r => ?_
  obtain ⟨Γ, g, rp, w⟩ := r
  unfold iUse at w
  split at w
  · rename_i d e
    obtain ⟨x, e1, v, e2, h⟩ := rp.loc _ _ e
    subst e2
    exact ⟨v, e1, w v g H (Stp.refl rp) rfl (.inl h)⟩
  · rename_i d e
    obtain ⟨x, e1, p, vs, e2, h1, h2, _, h3⟩ := rp.loc _ _ e
    subst e2
    exact ⟨.ref p, e1, w _ g H (Stp.refl rp) rfl (.inr (.inl ⟨p, vs, d, rfl, rfl, h1, h2, h3⟩))⟩
  · rename_i t d e
    obtain ⟨x, e1, p, e2, _, h3, h4⟩ := rp.loc _ _ e
    subst e2
    exact ⟨.ref p, e1, w _ g H (Stp.refl rp) rfl (.inr (.inr ⟨p, t, d, rfl, rfl, h3, h4⟩))⟩
  · exact w.elim
theorem de_c {v : V} {d : D} (h : PE X e (tC v)) (hd : ∀ g, Den L g v d) : DE L X (iLit d) e := fun W _ => by
  refine PE.imp h fun σ H Q r => ?_
  obtain ⟨Γ, g, rp, w⟩ := r
  exact w v g H (Stp.refl rp) rfl (hd g)

/-! argument lists -/
def evs : List IE → Env → M (List D)
  | [], _ => .ret []
  | i :: r, Γ => (i Γ).bind fun d => (evs r Γ).bind fun ds => .ret (d :: ds)
def RdA (L : Lx) (W : WX) (is : List IE) : TA := fun σ H Q => ∃ Γ g, Rep L Γ g σ H ∧
  (evs is Γ).wpB g.bud (fun ds b => ∀ vs g' H', Stp L g H g' H' → g'.bud = b → DenL L g' vs ds → Q vs H') (XW L W g σ H)
def DA (L : Lx) (X : Cx) (is : List IE) (es : List Expr) : Prop := ∀ W, Takes X W → PA X es (RdA L W is)
theorem PA.imp {es : List Expr} {t t' : TA} (h : PA X es t) (k : ∀ σ H Q, t' σ H Q → t σ H Q) : PA X es t' := ⟨fun pos pins s σ H Q I r => h.run pos pins s σ H Q I (k _ _ _ r)⟩
theorem RdA.go {α : Type} {Γ : Env} {g : Gh} {is : List IE} {f : List D → M α} {R : α → Nat → Prop} {Q : List V → Hp → Prop} (r : Rep L Γ g σ H) (h : ((evs is Γ).bind f).wpB g.bud R (XW L W g σ H))
    (k : ∀ vs H1 ds g1, Rep L Γ g1 σ H1 → Stp L g H g1 H1 → DenL L g1 vs ds → (f ds).wpB g1.bud R (XW L W g1 σ H1) → Q vs H1) : RdA L W is σ H Q := by
  refine ⟨Γ, g, r, M.wpB_mono (fun d b h v g' H' s e t => ?_) (fun _ _ x => x) _ _ ((M.wpB_bind _ _).mp h)⟩
  subst e
  exact k v H' d g' (r.step s) s t (M.wpB_mono (fun _ _ x => x) (fun _ _ x => x.of s) _ _ h)
theorem da_nil : DA L X [] [] := fun W _ => PA.imp pa_nil fun σ H Q ⟨Γ, g, rp, w⟩ => w [] g H (Stp.refl rp) rfl .nil
theorem da_cons {is : List IE} {es : List Expr} (h : DE L X i e) (hr : DA L X is es) (hs : starEach (e :: es) X.env = (false, eval e X.env) :: starEach es X.env := by rfl) : DA L X (i :: is) (e :: es) := fun W tk => by
  refine PA.imp (pa_cons (h W tk) (hr W tk) hs) fun σ H Q ⟨Γ, g, rp, w⟩ => ?_
  refine ⟨Γ, g, rp, M.wpB_mono (fun d b h v g1 H1 s e t => ?_) (fun _ _ x => x) _ _ ((M.wpB_bind _ _).mp w)⟩
  subst e
  refine ⟨Γ, g1, rp.step s, M.wpB_mono (fun ds b h vs g2 H2 s2 e2 t2 => ?_) (fun _ _ x => x.of s) _ _ ((M.wpB_bind _ _).mp h)⟩
  exact h (v :: vs) g2 H2 (s.trans s2) e2 (.cons (t.mono s2.le s2.mu) t2)
end
end DL
/-! New objects. -/
namespace DL
open PySem PySem.Spec L2
section
variable {L : Lx} {g : Gh} {H : Hp} {σ : L2.St} {Γ : Env} {p : Addr} {o : HO}
theorem upd_keep {H : Hp} {p b : Addr} {o u : HO} (n : H p = none) (e : H b = some u) : upd H p o b = some u := by rw [upd_ne (ne_of_none e n)]; exact e
theorem InM.there {mu : Option Addr} {H : Hp} {a : Addr} (h : ∀ m, mu = some m → ∃ b, MOk b H m) (i : InM mu H a) : H a ≠ none := by
  obtain ⟨m, e, h1⟩ := i
  obtain ⟨b, c, l, cs, ls, at_, e1, e2, e3, _⟩ := h m e
  rcases h1 with rfl | ⟨kvs, k, e4, hm⟩
  · rw [e1]; simp
  · rw [e1] at e4
    cases e4
    simp only [List.mem_cons, Prod.mk.injEq, V.ref.injEq, List.not_mem_nil, or_false] at hm
    rcases hm with ⟨_, rfl⟩ | ⟨_, rfl⟩ | ⟨_, h⟩
    · rw [e2]; simp
    · rw [e3]; simp
    · cases h
theorem MOk.new {b : Nat} {m : Addr} (n : H p = none) (h : MOk b H m) : MOk b (upd H p o) m := by
  obtain ⟨c, l, cs, ls, at_, e1, e2, e3, r⟩ := h
  exact ⟨c, l, cs, ls, at_, upd_keep n e1, upd_keep n e2, upd_keep n e3, r⟩
theorem InM.new {mu : Option Addr} {a : Addr} (n : H p = none) (h : ∀ m, mu = some m → ∃ b, MOk b H m) (i : InM mu (upd H p o) a) : InM mu H a := by
  obtain ⟨m, e, h1⟩ := i
  refine ⟨m, e, ?_⟩
  rcases h1 with h1 | ⟨kvs, k, e4, hm⟩
  · exact .inl h1
  · obtain ⟨b, c, l, cs, ls, at_, e1, _⟩ := h m e
    rw [upd_keep n e1] at e4
    exact .inr ⟨kvs, k, e1.trans e4, hm⟩
theorem RndOk.ok (r : RndOk g H) : ∀ m, g.mu = some m → ∃ b, MOk b H m := fun m e => ⟨_, r.2 m e⟩
theorem put_nt {g : Gh} {p : Addr} {o : HO} (ho : ∀ ps, o ≠ .tbl ps) (a : Addr) (ps : Array Value) : upd g.F p o a ≠ some (.tbl ps) := fun e => by
  by_cases h : a = p
  · subst h
    rw [upd_same] at e
    exact ho ps (Option.some.inj e)
  · rw [upd_ne h] at e
    exact g.nt a ps e
def Gh.put (g : Gh) (p : Addr) (o : HO) (ho : ∀ ps, o ≠ .tbl ps := by intro _ z; cases z) : Gh := { g with F := upd g.F p o, nt := put_nt ho }
/-- a new object is laid -/
theorem stp_new (r : Rep L Γ g σ H) (n : H p = none) (f : Bool) (ho : ∀ ps, o ≠ .tbl ps := by intro _ z; cases z) : Stp L g H (if f then g.put p o ho else g) (upd H p o) := by
  have nF : g.F p = none := by
    cases e : g.F p with
    | none => rfl
    | some u => rw [r.sub _ _ e] at n; cases n
  have nM : ¬ InM g.mu (upd H p o) p := fun i => (InM.there r.rnd.ok (i.new n r.rnd.ok)) n
  have emu : (if f then g.put p o ho else g).mu = g.mu := by cases f <;> rfl
  have ebud : (if f then g.put p o ho else g).bud = g.bud := by cases f <;> rfl
  have hF : ∀ a u, (if f then g.put p o ho else g).F a = some u → (a = p ∧ u = o) ∨ g.F a = some u := fun a u e => by
    cases f with
    | false => exact .inr e
    | true =>
      by_cases h : a = p
      · subst h
        have e' : upd g.F a o a = some u := e
        rw [upd_same] at e'
        exact .inl ⟨rfl, (Option.some.inj e').symm⟩
      · have e' : upd g.F p o a = some u := e
        rw [upd_ne h] at e'
        exact .inr e'
  refine ⟨fun a u e => ?_, fun m e => emu.trans e, fun a u e => ?_, fun a u e _ nm => ⟨upd_keep n e, fun i => nm (by rw [emu] at i; exact i.new n r.rnd.ok)⟩, fun a h => ⟨?_, fun e => ?_⟩, fun a u e i => ?_, ⟨by rw [ebud, emu]; exact r.rnd.1, fun m e => ?_⟩, Nat.le_of_eq ebud, r.tab.ext fun b u e => upd_keep n e⟩
  · cases f with
    | false => exact e
    | true => exact upd_keep nF e
  · rcases hF a u e with ⟨rfl, rfl⟩ | e
    · exact upd_same
    · exact upd_keep n (r.sub _ _ e)
  · by_cases q : a = p
    · rw [q]; rw [upd_same]; simp
    · rw [upd_ne q]; exact h
  · have q : a ≠ p := fun z => h (by rw [z]; exact n)
    cases f with
    | false => exact e
    | true => exact (upd_ne q).trans e
  · rw [emu] at i
    rcases hF a u e with ⟨rfl, rfl⟩ | e
    · exact nM i
    · exact r.nF _ _ e (i.new n r.rnd.ok)
  · rw [emu] at e
    rw [ebud]
    exact (r.rnd.2 m e).new n
theorem stp_put (r : Rep L Γ g σ H) (n : H p = none) (ho : ∀ ps, o ≠ .tbl ps := by intro _ z; cases z) : Stp L g H (g.put p o ho) (upd H p o) := stp_new r n true ho
theorem put_F {ho : ∀ ps, o ≠ .tbl ps} : (g.put p o ho).F p = some o := upd_same

theorem none_back {g' : Gh} {H' : Hp} {p : Addr} (s : Stp L g H g' H') (n : H' p = none) : H p = none := by
  cases e : H p with
  | none => rfl
  | some o => exact absurd n (s.nf p (by rw [e]; simp)).1
theorem nF_of (r : Rep L Γ g σ H) (n : H p = none) : g.F p = none := by
  cases e : g.F p with
  | none => rfl
  | some u => rw [r.sub _ _ e] at n; cases n
/-- a list that was laid just now -/
theorem FrT.new {g1 : Gh} {H1 : Hp} {vs : List V} {ds : List D} (r1 : Rep L Γ g1 σ H1) (s : Stp L g H g1 H1) (n : H1 p = none) (t : DenL L g1 vs ds) : FrT L H g1 (upd H1 p (.lst vs)) (.ref p) (.lst ds) :=
  ⟨p, vs, ds, rfl, rfl, upd_same, t, nF_of r1 n, fun i => (InM.there r1.rnd.ok (i.new n r1.rnd.ok)) n, none_back s n⟩
/-- it is frozen -/
theorem stp_frz {H₀ : Hp} {g₀ : Gh} {v : V} {d : D} (s : Stp L g₀ H₀ g H) (t : FrT L H₀ g H v d) : ∃ g', Stp L g₀ H₀ g' H ∧ g'.bud = g.bud ∧ Den L g' v d := by
  obtain ⟨p, vs, ds, rfl, rfl, h1, h2, h3, h4, h5⟩ := t
  have le : ∀ a o, g.F a = some o → (g.put p (.lst vs)).F a = some o := fun a o e => upd_keep h3 e
  have hF : ∀ a u, (g.put p (.lst vs)).F a = some u → (a = p ∧ u = .lst vs) ∨ g.F a = some u := fun a u e => by
    by_cases h : a = p
    · subst h
      have e' : upd g.F a (.lst vs) a = some u := e
      rw [upd_same] at e'
      exact .inl ⟨rfl, (Option.some.inj e').symm⟩
    · have e' : upd g.F p (.lst vs) a = some u := e
      rw [upd_ne h] at e'
      exact .inr e'
  refine ⟨g.put p (.lst vs), ⟨fun a o e => le a o (s.le a o e), s.mu, fun a o e => ?_, s.keep, fun a n => ⟨(s.nf a n).1, fun e => ?_⟩, fun a o e => ?_, s.rnd, s.bud, s.tab⟩, rfl, .lst put_F (h2.mono le fun _ e => e)⟩
  · rcases hF a o e with ⟨rfl, rfl⟩ | e
    · exact h1
    · exact s.sub _ _ e
  · have q : a ≠ p := fun z => n (by rw [z]; exact h5)
    exact (upd_ne q).trans ((s.nf a n).2 e)
  · rcases hF a o e with ⟨rfl, rfl⟩ | e
    · exact h4
    · exact s.nm _ _ e
theorem DF.de {X : Cx} {i : IE} {e : Expr} (h : DF L X i e) : DE L X i e := fun W tk => by
  refine PE.imp (h W tk) fun σ H Q ⟨Γ, g, rp, w⟩ => ⟨Γ, g, rp, M.wpB_mono (fun d b k v g' H' s e t => ?_) (fun _ _ x => x) _ _ w⟩
  obtain ⟨g2, s2, e2, t2⟩ := stp_frz s t
  exact k v g2 H' s2 (e2.trans e) t2

/-! displays -/
variable {X : Cx} {W : WX} {is : List IE} {es : List Expr} {pos : Pos}
def iTup (is : List IE) : IE := fun Γ => (evs is Γ).bind fun ds => if ds.length ≤ sizeLine then .ret (.tup ds) else .stuck
def iLst (is : List IE) : IE := fun Γ => (evs is Γ).bind fun ds => if ds.length ≤ sizeLine then .ret (.lst ds) else .stuck
/-- a tuple's display, its object known -/
theorem pe_tupF {es : List Expr} {t : TA} {fz : Bool} {x1} (h : PA X es t) : PE X (.Tuple es x1 pos) (fun σ H Q => t σ H fun xs H1 => xs.length ≤ sizeLine ∧ ∀ p o, H1 p = none → o.cls = .type "tuple" → o.dict = none → Q (.ref p) (upd H1 p (newT fz o xs))) := by
  refine ⟨fun pins s σ H Q I hq => ?_⟩
  refine PySem.wpAny_Tuple_spliced (thn (h.run pos pins s σ H _ I hq) fun us s1 ⟨xs, H1, I1, r, z, q⟩ => ⟨by rw [← r.length]; exact z, ?_⟩)
  have hf := I1.hok.fresh (a := s1.heap.objs.size) (Nat.le_refl _)
  refine ⟨.ref s1.heap.objs.size, upd H1 s1.heap.objs.size (newT fz { cls := .type "tuple", data := .seq us.toArray } xs), I1.laid (t' := s1.toks) (fun b u e => Heap.get?_push_of_some _ e) (Nat.le_refl _) ?_, rfl, q _ { cls := .type "tuple", data := .seq us.toArray } hf rfl rfl⟩
  have k : ObjOk X.prog X.w (upd H1 s1.heap.objs.size (newT fz { cls := .type "tuple", data := .seq us.toArray } xs)) (s1.heap.push { cls := .type "tuple", data := .seq us.toArray }) s1.heap.objs.size (.tup xs) := ⟨z, us, r, ⟨_, Heap.get?_push_size _ rfl, rfl, _, rfl⟩⟩
  unfold newT at k ⊢
  split
  · rename_i c
    rw [if_pos c] at k
    exact ⟨Heap.get?_push_size _ rfl, k⟩
  · rename_i c
    rw [if_neg c] at k
    exact k
theorem de_tup {x1} (h : DA L X is es) : DE L X (iTup is) (.Tuple es x1 pos) := fun W tk => by
  refine PE.imp (pe_tupF (fz := L.fz) (h W tk)) fun σ H Q ⟨Γ, g, rp, w⟩ => RdA.go rp w fun xs H1 ds g1 r1 s t w => ?_
  split at w
  · rename_i z
    refine ⟨by rw [t.length]; exact z, fun p o n hc hd => w _ _ _ (s.trans (stp_put r1 n newT_nt)) rfl (.tup (newT_sq put_F hc hd) ?_)⟩
    exact t.mono (stp_put r1 n newT_nt).le (stp_put (o := newT L.fz o xs) r1 n newT_nt).mu
  · exact w.elim
theorem df_lst (h : DA L X is es) : DF L X (iLst is) (.List es pos) := fun W tk => by
  refine PE.imp (pe_lst (h W tk)) fun σ H Q ⟨Γ, g, rp, w⟩ => RdA.go rp w fun xs H1 ds g1 r1 s t w => ?_
  split at w
  · rename_i z
    refine ⟨by rw [t.length]; exact z, fun p n => w _ _ _ (s.trans (stp_new r1 n false)) rfl (FrT.new r1 s n t)⟩
  · exact w.elim
end
end DL
/-! Operators. -/
namespace DL
open PySem PySem.Spec L2

mutual
def D.py : D → PyData
  | .non => .none
  | .bl b => .bool b
  | .int i => .int i
  | .str s => .str s
  | .tup xs => .tuple (D.pyL xs)
  | .lst xs => .list (D.pyL xs)
  | .dct _ _ | .ins _ _ | .exc _ _ | .err _ _ | .ty _ | .clo _ | .rnd | .scr _ | .pr _ => .none
def D.pyL : List D → List PyData
  | [] => []
  | x :: r => D.py x :: D.pyL r
end
mutual
def D.pl : D → Bool
  | .non | .bl _ | .int _ | .str _ => true
  | .tup xs | .lst xs => D.plL xs
  | .dct _ _ | .ins _ _ | .exc _ _ | .err _ _ | .ty _ | .clo _ | .rnd | .scr _ | .pr _ => false
def D.plL : List D → Bool
  | [] => true
  | x :: r => D.pl x && D.plL r
end
mutual
def D.dep : D → Nat
  | .tup xs | .lst xs => D.depL xs + 1
  | .non | .bl _ | .int _ | .str _ | .dct _ _ | .ins _ _ | .exc _ _ | .err _ _ | .ty _ | .clo _ | .rnd | .scr _ | .pr _ => 0
def D.depL : List D → Nat
  | [] => 0
  | x :: r => max (D.dep x) (D.depL r)
end
mutual
theorem D.plain_py : ∀ d : D, d.pl = true → d.py.plain = true
  | .non, _ | .bl _, _ | .int _, _ | .str _, _ => rfl
  | .tup xs, h => by simp only [D.py, PyData.plain]; exact D.plain_pyL xs (by simpa only [D.pl] using h)
  | .lst xs, h => by simp only [D.py, PyData.plain]; exact D.plain_pyL xs (by simpa only [D.pl] using h)
  | .dct _ _, h | .ins _ _, h | .exc _ _, h | .err _ _, h | .ty _, h | .clo _, h | .rnd, h | .scr _, h | .pr _, h => by simp only [D.pl] at h; cases h
theorem D.plain_pyL : ∀ ds : List D, D.plL ds = true → PyData.plainAll (D.pyL ds) = true
  | [], _ => rfl
  | x :: r, h => by
    simp only [D.plL, Bool.and_eq_true] at h
    simp only [D.pyL, PyData.plainAll, D.plain_py x h.1, D.plain_pyL r h.2, Bool.and_self]
end
mutual
theorem D.depth_py : ∀ d : D, d.py.depth = d.dep
  | .non | .bl _ | .int _ | .str _ | .dct _ _ | .ins _ _ | .exc _ _ | .err _ _ | .ty _ | .clo _ | .rnd | .scr _ | .pr _ => by simp only [D.py, PyData.depth, D.dep]
  | .tup xs => by simp only [D.py, PyData.depth, D.dep, D.depth_pyL xs]
  | .lst xs => by simp only [D.py, PyData.depth, D.dep, D.depth_pyL xs]
theorem D.depth_pyL : ∀ ds : List D, PyData.depthAll (D.pyL ds) = D.depL ds
  | [] => rfl
  | x :: r => by simp only [D.pyL, PyData.depthAll, D.depL, D.depth_py x, D.depth_pyL r]
end

section
variable {L : Lx} {X : Cx} {g : Gh} {H : Hp} {σ : L2.St} {Γ : Env}
theorem rd_sub {F H : Hp} {a : Addr} {o : HO} (h : ∀ a o, F a = some o → H a = some o) (r : Rd F a o) : Rd H a o := rd_mono h r
mutual
theorem Den.dp (sub : ∀ a o, g.F a = some o → H a = some o) : ∀ {v : V} {d : D}, Den L g v d → d.pl = true → Dp L.K H v d.py
  | _, _, .non, _ => .non
  | _, _, .bl b, _ => .bl b
  | _, _, .int i, _ => .int i
  | _, _, .str s, _ => .str s
  | _, _, .tup e l, h => by simp only [D.py]; exact .tup (sqT_mono sub e.sq) (DenL.dp sub l (by simpa only [D.pl] using h))
  | _, _, .lst e l, h => by simp only [D.py]; exact (.lst (.inl (.inl (sub _ _ e))) (DenL.dp sub l (by simpa only [D.pl] using h)))
  | _, _, .dK _ _ _, h => by simp only [D.pl] at h; cases h
  | _, _, .dT _ _ _, h => by simp only [D.pl] at h; cases h
  | _, _, .ins _ _ _, h => by simp only [D.pl] at h; cases h
  | _, _, .exc _ _ _ _, h => by simp only [D.pl] at h; cases h
  | _, _, .err _ _, h => by simp only [D.pl] at h; cases h
  | _, _, .ty _, h => by simp only [D.pl] at h; cases h
  | _, _, .clo _, h => by simp only [D.pl] at h; cases h
  | _, _, .rnd _, h => by simp only [D.pl] at h; cases h
  | _, _, .scr _, h => by simp only [D.pl] at h; cases h
  | _, _, .pr _ _, h => by simp only [D.pl] at h; cases h
theorem DenL.dp (sub : ∀ a o, g.F a = some o → H a = some o) : ∀ {vs : List V} {ds : List D}, DenL L g vs ds → D.plL ds = true → DpAll L.K H vs (D.pyL ds)
  | _, _, .nil, _ => .nil
  | _, _, .cons a l, h => by
    simp only [D.plL, Bool.and_eq_true] at h
    exact .cons (Den.dp sub a h.1) (DenL.dp sub l h.2)
end
theorem Vw.dp (sub : ∀ a o, g.F a = some o → H a = some o) {v : V} {d : D} (h : Vw L g H v d) (p : d.pl = true) : Dp L.K H v d.py := by
  rcases h with h | ⟨q, vs, ds, rfl, rfl, h1, h2, _⟩ | ⟨q, t, kvs, rfl, rfl, _, _⟩
  · exact h.dp sub p
  · simp only [D.py]
    exact .lst (.inl (.inl h1)) (h2.dp sub (by simpa only [D.pl] using p))
  · simp only [D.pl] at p
    cases p

/-- a two-place operation on values, by what it says of data; it raises nothing -/
def RdO (L : Lx) (f : D → D → Option D) : R2 := fun x y H Q => ∃ Γ g σ dx dy d, Rep L Γ g σ H ∧ Vw L g H x dx ∧ Vw L g H y dy ∧ f dx dy = some d ∧ Wn L DenT g H Q d g.bud
def OpD (L : Lx) (X : Cx) (s : Value → Value → Sem Value) (f : D → D → Option D) : Prop := OpR X s (RdO L f)
def orD (f f' : D → D → Option D) : D → D → Option D := fun x y => match f x y with
  | some d => some d
  | none => f' x y
theorem OpD.or {s : Value → Value → Sem Value} {f f' : D → D → Option D} (h : OpD L X s f) (h' : OpD L X s f') : OpD L X s (orD f f') := by
  intro pins st σ H x y v u Q I rx ry ⟨Γ, g, σ', dx, dy, d, rp, vx, vy, e, w⟩
  unfold orD at e
  split at e
  · rename_i d' e'
    cases e
    exact h pins st σ H x y v u Q I rx ry ⟨Γ, g, σ', dx, dy, d, rp, vx, vy, e', w⟩
  · exact h' pins st σ H x y v u Q I rx ry ⟨Γ, g, σ', dx, dy, d, rp, vx, vy, e, w⟩
def iOp (f : D → D → Option D) (i j : IE) : IE := fun Γ => (i Γ).bind fun x => (j Γ).bind fun y => match f x y with
  | some d => .ret d
  | none => .stuck
theorem Rd1.op {T T' : TT1} {i j : IE} {f : D → D → Option D} {W : WX} {Q : VK} (hT : ∀ H₀ g H v d, T L H₀ g H v d → Vw L g H v d) (hT' : ∀ H₀ g H v d, T' L H₀ g H v d → Vw L g H v d) (h : Rd1 L DenT W (iOp f i j) σ H Q) : tOp (RdO L f) (Rd1 L T W i) (Rd1 L T' W j) σ H Q := by
  obtain ⟨Γ, g, rp, w⟩ := h
  refine Rd1.go rp w fun x H1 dx g1 r1 s1 t1 w => Rd1.go r1 w fun y H2 dy g2 r2 s2 t2 w => ?_
  skip
  split at w
  · rename_i d e
    exact ⟨Γ, g2, σ, dx, dy, d, r2, (hT _ _ _ _ _ t1).step s2, hT' _ _ _ _ _ t2, e, fun v g' H' s eb t => w v g' H' (s1.trans (s2.trans s)) eb t⟩
  · exact w.elim
theorem de_bin {o : Operator} {f : D → D → Option D} {i j : IE} {a b : Expr} {pos : Pos} (ho : OpD L X (binaryOp o) f) (ha : DV L X i a) (hb : DV L X j b) : DE L X (iOp f i j) (.BinOp a o b pos) := fun W tk =>
  PE.imp (pe_op ho (ha W tk) (hb W tk)) fun σ H Q h => h.op (fun _ _ _ _ _ t => t) fun _ _ _ _ _ t => t
theorem de_cmp {o : CmpOp} {f : D → D → Option D} {i j : IE} {a b : Expr} {pos : Pos} (ho : OpD L X (compareOp o) f) (ha : DV L X i a) (hb : DV L X j b) (hm : behindInMarks o b = false) : DE L X (iOp f i j) (.Compare a [o] [b] pos) := fun W tk =>
  PE.imp (pe_cmpR ho (ha W tk) (hb W tk) hm) fun σ H Q h => h.op (fun _ _ _ _ _ t => t) fun _ _ _ _ _ t => t

/-! the operations -/
theorem Vw.int {v : V} {i : Int} (h : Vw L g H v (.int i)) : v = .int i := by
  rcases h with h | ⟨_, _, _, _, e, _⟩ | ⟨_, _, _, _, e, _⟩
  · cases h; rfl
  · cases e
  · cases e
theorem Vw.str {v : V} {i : Str} (h : Vw L g H v (.str i)) : v = .str i := by
  rcases h with h | ⟨_, _, _, _, e, _⟩ | ⟨_, _, _, _, e, _⟩
  · cases h; rfl
  · cases e
  · cases e
theorem Vw.bl {v : V} {i : Bool} (h : Vw L g H v (.bl i)) : v = .bl i := by
  rcases h with h | ⟨_, _, _, _, e, _⟩ | ⟨_, _, _, _, e, _⟩
  · cases h; rfl
  · cases e
  · cases e
theorem Vw.tup {v : V} {ds : List D} (sub : ∀ a o, g.F a = some o → H a = some o) (h : Vw L g H v (.tup ds)) : ∃ a vs, v = .ref a ∧ SqT L.K H a vs ∧ DenL L g vs ds ∧ Den L g v (.tup ds) := by
  rcases h with h | ⟨_, _, _, _, e, _⟩ | ⟨_, _, _, _, e, _⟩
  · cases id h with
    | tup e l => exact ⟨_, _, rfl, sqT_mono sub e.sq, l, h⟩
  · cases e
  · cases e
theorem Vw.lst {v : V} {ds : List D} (sub : ∀ a o, g.F a = some o → H a = some o) (h : Vw L g H v (.lst ds)) : ∃ a vs, v = .ref a ∧ H a = some (.lst vs) ∧ DenL L g vs ds := by
  rcases h with h | ⟨p, vs, ds', rfl, e, h1, h2, _⟩ | ⟨_, _, _, _, e, _⟩
  · cases id h with
    | lst e l => exact ⟨_, _, rfl, sub _ _ e, l⟩
  · cases e
    exact ⟨p, vs, rfl, h1, h2⟩
  · cases e
def fII (c : Int → Int → Bool) (k : Int → Int → D) : D → D → Option D
  | .int i, .int j => if c i j then some (k i j) else none
  | _, _ => none
theorem opd_ii {s : Value → Value → Sem Value} {C : Int → Int → Prop} {k : Int → Int → V} {kd : Int → Int → D} {c : Int → Int → Bool} (h : OpR X s (rI C k)) (hc : ∀ i j, c i j = true → C i j) (hk : ∀ g i j, Den L g (k i j) (kd i j)) : OpD L X s (fII c kd) := by
  intro pins st σ H x y v u Q I rx ry ⟨Γ, g, σ', dx, dy, d, rp, vx, vy, e, w⟩
  unfold fII at e
  split at e
  · split at e
    · rename_i z
      cases e
      cases vx.int
      cases vy.int
      exact h pins st σ H _ _ v u Q I rx ry ⟨_, _, rfl, rfl, hc _ _ z, w _ g H (Stp.refl rp) rfl (hk g _ _)⟩
    · cases e
  · cases e

def fAddI := fII (fun _ _ => true) fun i j => .int (i + j)
def fSubI := fII (fun _ _ => true) fun i j => .int (i - j)
theorem od_addI : OpD L X (binaryOp .Add) fAddI := opd_ii (C := fun _ _ => True) (k := fun i j => .int (i + j)) (fun pins s σ H x y v u Q I rx ry ⟨i, j, e1, e2, _, q⟩ => op_add pins s σ H x y v u Q I rx ry ⟨i, j, e1, e2, q⟩) (fun _ _ _ => trivial) fun _ _ _ => .int _
theorem od_subI : OpD L X (binaryOp .Sub) fSubI := opd_ii (C := fun _ _ => True) (k := fun i j => .int (i - j)) (fun pins s σ H x y v u Q I rx ry ⟨i, j, e1, e2, _, q⟩ => op_sub pins s σ H x y v u Q I rx ry ⟨i, j, e1, e2, q⟩) (fun _ _ _ => trivial) fun _ _ _ => .int _
def fMulI := fII (fun i j => decide (i.natAbs.log2 + j.natAbs.log2 < 1000000)) fun i j => .int (i * j)
theorem od_mulI : OpD L X (binaryOp .Mult) fMulI := opd_ii op_mulW (fun _ _ h => by simpa [CMulW] using h) fun _ _ _ => .int _
def fDivI := fII (fun _ j => decide (0 < j) && decide (j.natAbs.log2 < 9000)) fun i j => .int (i / j)
theorem od_divI : OpD L X (binaryOp .FloorDiv) fDivI := opd_ii op_fdivW (fun _ _ h => by simpa [CDivW] using h) fun _ _ _ => .int _
def fModI := fII (fun _ j => decide (0 < j)) fun i j => .int (i % j)
theorem od_modI : OpD L X (binaryOp .Mod) fModI := opd_ii op_mod (fun _ _ h => of_decide_eq_true h) fun _ _ _ => .int _
def fLtI := fII (fun _ _ => true) fun i j => .bl (decide (i < j))
def fLeI := fII (fun _ _ => true) fun i j => .bl (decide (i ≤ j))
def fGtI := fII (fun _ _ => true) fun i j => .bl (decide (j < i))
def fGeI := fII (fun _ _ => true) fun i j => .bl (decide (j ≤ i))
theorem od_ltI : OpD L X (compareOp .Lt) fLtI := opd_ii (C := fun _ _ => True) (k := fun i j => .bl (decide (i < j))) (fun pins s σ H x y v u Q I rx ry ⟨i, j, e1, e2, _, q⟩ => op_lt pins s σ H x y v u Q I rx ry ⟨i, j, e1, e2, q⟩) (fun _ _ _ => trivial) fun _ _ _ => .bl _
theorem od_leI : OpD L X (compareOp .LtE) fLeI := opd_ii (C := fun _ _ => True) (k := fun i j => .bl (decide (i ≤ j))) (fun pins s σ H x y v u Q I rx ry ⟨i, j, e1, e2, _, q⟩ => op_le pins s σ H x y v u Q I rx ry ⟨i, j, e1, e2, q⟩) (fun _ _ _ => trivial) fun _ _ _ => .bl _
theorem od_gtI : OpD L X (compareOp .Gt) fGtI := opd_ii (C := fun _ _ => True) (k := fun i j => .bl (decide (j < i))) (fun pins s σ H x y v u Q I rx ry ⟨i, j, e1, e2, _, q⟩ => op_gt pins s σ H x y v u Q I rx ry ⟨i, j, e1, e2, q⟩) (fun _ _ _ => trivial) fun _ _ _ => .bl _
theorem od_geI : OpD L X (compareOp .GtE) fGeI := opd_ii (C := fun _ _ => True) (k := fun i j => .bl (decide (j ≤ i))) (fun pins s σ H x y v u Q I rx ry ⟨i, j, e1, e2, _, q⟩ => op_ge pins s σ H x y v u Q I rx ry ⟨i, j, e1, e2, q⟩) (fun _ _ _ => trivial) fun _ _ _ => .bl _
def fAddS : D → D → Option D
  | .str x, .str y => if x.length + y.length ≤ sizeLine then some (.str (x ++ y)) else none
  | _, _ => none
theorem od_addS : OpD L X (binaryOp .Add) fAddS := by
  intro pins st σ H x y v u Q I rx ry ⟨Γ, g, σ', dx, dy, d, rp, vx, vy, e, w⟩
  unfold fAddS at e
  split at e
  · split at e
    · rename_i z
      cases e
      cases vx.str
      cases vy.str
      exact op_add_str pins st σ H _ _ v u Q I rx ry ⟨_, _, rfl, rfl, z, w _ g H (Stp.refl rp) rfl (.str _)⟩
    · cases e
  · cases e
def fAddL : D → D → Option D
  | .lst x, .lst y => if x.length + y.length ≤ sizeLine then some (.lst (x ++ y)) else none
  | _, _ => none
theorem od_addL : OpD L X (binaryOp .Add) fAddL := by
  intro pins st σ H x y v u Q I rx ry ⟨Γ, g, σ', dx, dy, d, rp, vx, vy, e, w⟩
  unfold fAddL at e
  split at e
  · split at e
    · rename_i z
      cases e
      obtain ⟨a, vs, rfl, h1, l1⟩ := vx.lst rp.sub
      obtain ⟨b, ws, rfl, h2, l2⟩ := vy.lst rp.sub
      refine op_cat pins st σ H _ _ v u Q I rx ry ⟨a, b, vs, ws, rfl, rfl, h1, h2, by rw [l1.length, l2.length]; exact z, fun p n => ?_⟩
      have s := stp_put (o := .lst (vs ++ ws)) rp n
      exact w _ _ _ s rfl (.lst put_F ((l1.append l2).mono s.le s.mu))
    · cases e
  · cases e
def fAddT : D → D → Option D
  | .tup x, .tup y => if x.length + y.length ≤ sizeLine then some (.tup (x ++ y)) else none
  | _, _ => none
/-- t + u, the new tuple's object known -/
theorem op_catF {fz : Bool} : OpR X (binaryOp .Add) (fun x y H Q => ∃ a b xs ys, x = .ref a ∧ y = .ref b ∧ SqT X.K H a xs ∧ SqT X.K H b ys ∧ xs.length + ys.length ≤ sizeLine ∧ (xs = [] → Q (.ref b) H) ∧ (ys = [] → Q (.ref a) H) ∧
    ∀ p o, H p = none → o.cls = .type "tuple" → o.dict = none → Q (.ref p) (upd H p (newT fz o (xs ++ ys)))) := by
  intro pins s σ H x y v u Q I rx ry h
  obtain ⟨a, b, xs, ys, rfl, rfl, sa, sb, fit, g0, g1, g2⟩ := h
  cases rx
  cases ry
  obtain ⟨ws1, e1, t1, _⟩ := I.tuple sa
  obtain ⟨ws2, e2, t2, _⟩ := I.tuple sb
  by_cases hx : xs = []
  · subst hx
    cases e1
    exact cat_tup0 t1 t2 ⟨.ref b, H, I, rfl, g0 rfl⟩
  · refine HT.cat_tup t1 t2 (fun z => hx (e1.nil_iff.mp z)) (fun z => ⟨.ref a, H, I, rfl, g1 (e2.nil_iff.mp z)⟩) (fun z => ?_) (by rw [← e1.length, ← e2.length]; exact fit)
    refine ⟨.ref s.heap.objs.size, _, I.laid (t' := s.toks) (o := newT fz { cls := .type "tuple", data := .seq (ws1 ++ ws2).toArray } (xs ++ ys)) (fun b ob q => Heap.get?_push_of_some _ q) (Nat.le_refl _) ?_, rfl, g2 _ _ (I.hok.fresh (Nat.le_refl _)) rfl rfl⟩
    have k : ∀ H', ObjOk X.prog X.w H' (s.heap.push { cls := .type "tuple", data := .seq (ws1 ++ ws2).toArray }) s.heap.objs.size (.tup (xs ++ ys)) := fun _ => ⟨by rw [List.length_append]; exact fit, _, e1.append e2, PyProof.Rows.IsTup.new _ _⟩
    unfold newT
    split
    · exact ⟨Heap.get?_push_size _ rfl, k _⟩
    · exact k _
theorem od_addT (hK : X.K = L.K) : OpD L X (binaryOp .Add) fAddT := by
  intro pins st σ H x y v u Q I rx ry ⟨Γ, g, σ', dx, dy, d, rp, vx, vy, e, w⟩
  unfold fAddT at e
  split at e
  · split at e
    · rename_i z
      cases e
      obtain ⟨a, vs, rfl, h1, l1, d1⟩ := vx.tup rp.sub
      obtain ⟨b, ws, rfl, h2, l2, d2⟩ := vy.tup rp.sub
      rw [← hK] at h1 h2
      refine op_catF (fz := L.fz) pins st σ H _ _ v u Q I rx ry ⟨a, b, vs, ws, rfl, rfl, h1, h2, by rw [l1.length, l2.length]; exact z, fun q => ?_, fun q => ?_, fun p o n hc hd => ?_⟩
      · subst q
        cases l1
        exact w _ g H (Stp.refl rp) rfl d2
      · subst q
        cases l2
        rw [List.append_nil] at w
        exact w _ g H (Stp.refl rp) rfl d1
      · have s := stp_put (o := newT L.fz o (vs ++ ws)) rp n newT_nt
        exact w _ _ _ s rfl (.tup (newT_sq put_F hc hd) ((l1.append l2).mono s.le s.mu))
    · cases e
  · cases e
/-- == of data -/
def dEq (x y : D) : Bool := PyData.eqv x.py y.py
def okEq (x y : D) : Bool := x.pl && y.pl && decide (min x.dep y.dep ≤ 60)
def fEqD (x y : D) : Option D := if okEq x y then some (.bl (dEq x y)) else none
def fNeD (x y : D) : Option D := if okEq x y then some (.bl (!dEq x y)) else none
theorem od_eqD (hK : X.K = L.K) (hu : X.A.units + 64 < cLine) : OpD L X (compareOp .Eq) fEqD := by
  intro pins st σ H x y v u Q I rx ry ⟨Γ, g, σ', dx, dy, d, rp, vx, vy, e, w⟩
  unfold fEqD at e
  split at e
  · rename_i z
    cases e
    unfold okEq at z
    simp only [Bool.and_eq_true, decide_eq_true_eq] at z
    obtain ⟨as, r1⟩ := Dp.reads I dx.py x v (hK ▸ vx.dp rp.sub z.1.1) rx
    obtain ⟨bs, r2⟩ := Dp.reads I dy.py y u (hK ▸ vy.dp rp.sub z.1.2) ry
    exact SeqAt.eq_plain r1 r2 (D.plain_py _ z.1.1) (D.plain_py _ z.1.2) (by rw [D.depth_py, D.depth_py]; omega) ⟨.bl _, H, I, rfl, w _ g H (Stp.refl rp) rfl (.bl _)⟩
  · cases e
theorem od_neD (hK : X.K = L.K) (hu : X.A.units + 64 < cLine) : OpD L X (compareOp .NotEq) fNeD := by
  intro pins st σ H x y v u Q I rx ry ⟨Γ, g, σ', dx, dy, d, rp, vx, vy, e, w⟩
  unfold fNeD at e
  split at e
  · rename_i z
    cases e
    unfold okEq at z
    simp only [Bool.and_eq_true, decide_eq_true_eq] at z
    obtain ⟨as, r1⟩ := Dp.reads I dx.py x v (hK ▸ vx.dp rp.sub z.1.1) rx
    obtain ⟨bs, r2⟩ := Dp.reads I dy.py y u (hK ▸ vy.dp rp.sub z.1.2) ry
    exact SeqAt.ne_plain r1 r2 (D.plain_py _ z.1.1) (D.plain_py _ z.1.2) (by rw [D.depth_py, D.depth_py]; omega) ⟨.bl _, H, I, rfl, w _ g H (Stp.refl rp) rfl (.bl _)⟩
  · cases e
end
end DL
/-! Statements. -/
namespace DL
open PySem PySem.Spec L2

inductive Fl where
  | nx (Γ : Env) | bk (Γ : Env) | ct (Γ : Env) | rt (d : D)
abbrev IS := Env → M Fl
abbrev IT := Env → M Bool
/-- the ghost grows -/
structure FLe (g g' : Gh) : Prop where
  F : ∀ a o, g.F a = some o → g'.F a = some o
  mu : ∀ m, g.mu = some m → g'.mu = some m
theorem FLe.refl (g : Gh) : FLe g g := ⟨fun _ _ e => e, fun _ e => e⟩
theorem FLe.trans {g g' g'' : Gh} (a : FLe g g') (b : FLe g' g'') : FLe g g'' := ⟨fun x o e => b.F x o (a.F x o e), fun m e => b.mu m (a.mu m e)⟩
section
variable {L : Lx} {X : Cx} {g0 g g' : Gh} {H0 H H' : Hp} {σ σ' : L2.St} {Γ Γ' : Env} {W : WX}
theorem Stp.fle (s : Stp L g H g' H') : FLe g g' := ⟨s.le, s.mu⟩

structure RepS (L : Lx) (g0 : Gh) (H0 : Hp) (Γ : Env) (g : Gh) (σ : L2.St) (H : Hp) : Prop where
  rep : Rep L Γ g σ H
  base : Stp L g0 H0 g H
  new : ∀ (i : Nat) (b : B) (p : Addr), Γ[i]? = some (some b) → b.own = true → σ[i]? = some (some (.ref p)) → H0 p = none
theorem RepS.step (r : RepS L g0 H0 Γ g σ H) (s : Stp L g H g' H') : RepS L g0 H0 Γ g' σ H' := ⟨r.rep.step s, r.base.trans s, r.new⟩
theorem set_at {n : Nat} {d : D} {i : Nat} {b : B} {v : V} (hl : Γ.length = σ.length) (e : (Γ.set n (some (.fz d)))[i]? = some (some b)) :
    (i = n ∧ b = .fz d ∧ (σ.set n (some v))[i]? = some (some v)) ∨ (i ≠ n ∧ Γ[i]? = some (some b) ∧ (σ.set n (some v))[i]? = σ[i]?) := by
  by_cases h : i = n
  · subst h
    by_cases hl' : i < Γ.length
    · rw [List.getElem?_set_self hl'] at e
      cases e
      exact .inl ⟨rfl, rfl, List.getElem?_set_self (by rw [← hl]; exact hl')⟩
    · rw [List.getElem?_eq_none (by simpa using hl')] at e; cases e
  · rw [List.getElem?_set_ne (Ne.symm h)] at e
    exact .inr ⟨h, e, List.getElem?_set_ne (Ne.symm h)⟩
/-- a slot is given frozen data -/
theorem Rep.set {n : Nat} {v : V} {d : D} (r : Rep L Γ g σ H) (h : Den L g v d) : Rep L (Γ.set n (some (.fz d))) g (σ.set n (some v)) H := by
  refine ⟨r.sub, r.rnd, r.tab, fun i b e => ?_, fun i j b c p e1 e2 o1 o2 s1 s2 => ?_, r.nF, by rw [List.length_set, List.length_set]; exact r.len⟩
  · rcases set_at (v := v) r.len e with ⟨rfl, rfl, s⟩ | ⟨_, e, s⟩
    · exact ⟨_, s, v, rfl, h⟩
    · rw [s]; exact r.loc i b e
  · rcases set_at (v := v) r.len e1 with ⟨_, rfl, _⟩ | ⟨_, e1, t1⟩
    · cases o1
    rcases set_at (v := v) r.len e2 with ⟨_, rfl, _⟩ | ⟨_, e2, t2⟩
    · cases o2
    exact r.dis i j b c p e1 e2 o1 o2 (t1 ▸ s1) (t2 ▸ s2)
theorem RepS.set {n : Nat} {v : V} {d : D} (r : RepS L g0 H0 Γ g σ H) (h : Den L g v d) : RepS L g0 H0 (Γ.set n (some (.fz d))) g (σ.set n (some v)) H :=
  ⟨r.rep.set h, r.base, fun i b p e o s => by
    rcases set_at (v := v) r.rep.len e with ⟨_, rfl, _⟩ | ⟨_, e, t⟩
    · cases o
    · exact r.new i b p e o (t ▸ s)⟩

/-- what is wanted behind a statement's run; gs: the ghost where it began -/
def FlT (L : Lx) (g0 : Gh) (H0 : Hp) (gs : Gh) (Dn : Ends) : Fl → Nat → Prop
  | .nx Γ, b => ∀ g σ H, RepS L g0 H0 Γ g σ H → FLe gs g → g.bud = b → Dn.nx σ H
  | .bk Γ, b => ∀ g σ H, RepS L g0 H0 Γ g σ H → FLe gs g → g.bud = b → Dn.bk σ H
  | .ct Γ, b => ∀ g σ H, RepS L g0 H0 Γ g σ H → FLe gs g → g.bud = b → Dn.ct σ H
  | .rt d, b => ∀ g v H, Stp L g0 H0 g H → g.bud = b → Den L g v d → Dn.rt v H
theorem FlT.of {gs gs' : Gh} {Dn : Ends} {fl : Fl} {b : Nat} (h : FlT L g0 H0 gs Dn fl b) (f : FLe gs gs') : FlT L g0 H0 gs' Dn fl b := by
  cases fl with
  | nx Γ => exact fun g σ H r k e => h g σ H r (f.trans k) e
  | bk Γ => exact fun g σ H r k e => h g σ H r (f.trans k) e
  | ct Γ => exact fun g σ H r k e => h g σ H r (f.trans k) e
  | rt d => exact h
def XS (L : Lx) (W : WX) (g0 : Gh) (H0 : Hp) (x : Ex) (b : Nat) : Prop := ∀ cls d g σ H, Stp L g0 H0 g H → g.bud = b → ExAt L g H x cls d → W cls d σ H
def RdS (L : Lx) (W : WX) (g0 : Gh) (H0 : Hp) (s : IS) : TS := fun Dn σ H => ∃ Γ g, RepS L g0 H0 Γ g σ H ∧ (s Γ).wpB g.bud (FlT L g0 H0 g Dn) (XS L W g0 H0)
def DS (L : Lx) (X : Cx) (s : IS) (st : Stmt) : Prop := ∀ W g0 H0, Takes X W → PS X st (RdS L W g0 H0 s)
def DSs (L : Lx) (X : Cx) (s : IS) (sts : List Stmt) : Prop := ∀ W g0 H0, Takes X W → PSs X sts (RdS L W g0 H0 s)
theorem PS.imp {st : Stmt} {t t' : TS} (h : PS X st t) (k : ∀ Dn σ H, t' Dn σ H → t Dn σ H) : PS X st t' := ⟨fun pins s σ H Dn I r => h.run pins s σ H Dn I (k _ _ _ r)⟩
theorem PSs.imp {st : List Stmt} {t t' : TS} (h : PSs X st t) (k : ∀ Dn σ H, t' Dn σ H → t Dn σ H) : PSs X st t' := ⟨fun pins s σ H Dn I r => h.run pins s σ H Dn I (k _ _ _ r)⟩
theorem XS.xw {x : Ex} {b : Nat} (s : Stp L g0 H0 g H) (h : XS L W g0 H0 x b) : XW L W g σ H x b := fun cls d g' H' s' e q => h cls d g' σ H' (s.trans s') e q
/-- an expression's run, then on -/
theorem Rd1.goS {T : TT1} {i : IE} {f : D → M Fl} {R : Fl → Nat → Prop} {Q : VK} (r : RepS L g0 H0 Γ g σ H) (h : ((i Γ).bind f).wpB g.bud R (XS L W g0 H0))
    (k : ∀ v H1 d g1, RepS L g0 H0 Γ g1 σ H1 → Stp L g H g1 H1 → T L H g1 H1 v d → (f d).wpB g1.bud R (XS L W g0 H0) → Q v H1) : Rd1 L T W i σ H Q := by
  refine ⟨Γ, g, r.rep, M.wpB_mono (fun d b h v g' H' s e t => ?_) (fun _ _ x => x.xw r.base) _ _ ((M.wpB_bind _ _).mp h)⟩
  subst e
  exact k v H' d g' (r.step s) s t h

/-! small statements -/
variable {e : Expr} {i : IE} {pos : Pos} {s t : IS} {st : Stmt} {sts : List Stmt}
def sSet (n : Nat) (i : IE) : IS := fun Γ => (i Γ).bind fun d => .ret (.nx (Γ.set n (some (.fz d))))
def sRet (i : IE) : IS := fun Γ => (i Γ).bind fun d => .ret (.rt d)
def sExpr (i : IE) : IS := fun Γ => (i Γ).bind fun _ => .ret (.nx Γ)
def sPass : IS := fun Γ => .ret (.nx Γ)
def sSeq (s t : IS) : IS := fun Γ => (s Γ).bind fun fl => match fl with
  | .nx Γ' => t Γ'
  | f => .ret f
theorem ds_set {n : Nat} {x : Str} {pos' : Pos} (hN : X.N.Nodup) (hi : X.N[n]? = some x) (hx : Loc X.env.scope x) (h : DE L X i e) (hs : swapsWith e (some (.Name x pos')) pos.line X.env = pure false := by rfl)
    (hf : X.fn x = true ∨ X.env.scope.names.lookup x = some .local := by first | exact .inl rfl | exact .inr rfl) : DS L X (sSet n i) (.Assign [.Name x pos'] e pos) := fun W g0 H0 tk => by
  refine PS.imp (ps_set hN hi hx (h W tk) hs hf) fun Dn σ H ⟨Γ, g, r, w⟩ => Rd1.goS r w fun v H1 d g1 r1 s t w => ?_
  exact w g1 _ H1 (r1.set t) s.fle rfl
theorem ds_ret (h : DE L X i e) : DS L X (sRet i) (.Return (some e) pos) := fun W g0 H0 tk => by
  refine PS.imp (ps_ret (h W tk)) fun Dn σ H ⟨Γ, g, r, w⟩ => Rd1.goS r w fun v H1 d g1 r1 s t w => ?_
  exact w g1 v H1 r1.base rfl t
def sRetN : IS := fun _ => .ret (.rt .non)
theorem ds_retN : DS L X sRetN (.Return none pos) := fun W g0 H0 tk => PS.imp ps_retN fun Dn σ H ⟨Γ, g, r, w⟩ => w g .non H r.base rfl .non
theorem ds_expr (h : DV L X i e) (hs : swapsWith e none pos.line X.env = pure false := by rfl) : DS L X (sExpr i) (.Expr e pos) := fun W g0 H0 tk => by
  refine PS.imp (ps_expr (h W tk) hs) fun Dn σ H ⟨Γ, g, r, w⟩ => Rd1.goS r w fun v H1 d g1 r1 s t w => ?_
  exact w g1 σ H1 r1 s.fle rfl
theorem ds_pass : DS L X sPass (.Pass pos) := fun W g0 H0 tk => PS.imp ps_pass fun Dn σ H ⟨Γ, g, r, w⟩ => w g σ H r (FLe.refl g) rfl
theorem ds_doc {x j} {pos pos' : Pos} : DS L X sPass (.Expr (.Constant (.str x) j pos) pos') := fun W g0 H0 tk => PS.imp ps_doc fun Dn σ H ⟨Γ, g, r, w⟩ => w g σ H r (FLe.refl g) rfl
theorem dss_nil : DSs L X sPass [] := fun W g0 H0 tk => PSs.imp pss_nil fun Dn σ H ⟨Γ, g, r, w⟩ => w g σ H r (FLe.refl g) rfl
theorem dss_one (h : DS L X s st) : DSs L X s [st] := fun W g0 H0 tk => pss_one (h W g0 H0 tk)
theorem dss_cons (h : DS L X s st) (hr : DSs L X t sts) : DSs L X (sSeq s t) (st :: sts) := fun W g0 H0 tk => by
  refine PSs.imp (pss_cons (h W g0 H0 tk) (hr W g0 H0 tk)) fun Dn σ H ⟨Γ, g, r, w⟩ => ⟨Γ, g, r, M.wpB_mono (fun fl b k => ?_) (fun _ _ x => x) _ _ ((M.wpB_bind _ _).mp w)⟩
  cases fl with
  | nx Γ' =>
    intro g' σ' H' r' f e
    subst e
    exact ⟨Γ', g', r', M.wpB_mono (fun _ _ z => z.of f) (fun _ _ x => x) _ _ k⟩
  | bk Γ' => exact k
  | ct Γ' => exact k
  | rt d => exact k
def sBrk : IS := fun Γ => .ret (.bk Γ)
def sCnt : IS := fun Γ => .ret (.ct Γ)
theorem ds_brk : DS L X sBrk (.Break pos) := fun W g0 H0 tk => PS.imp ps_break fun Dn σ H ⟨Γ, g, r, w⟩ => w g σ H r (FLe.refl g) rfl
theorem ds_cnt : DS L X sCnt (.Continue pos) := fun W g0 H0 tk => PS.imp ps_continue fun Dn σ H ⟨Γ, g, r, w⟩ => w g σ H r (FLe.refl g) rfl

/-! tests -/
def RdT (L : Lx) (W : WX) (t : IT) : TT := fun σ H Q => ∃ Γ g, Rep L Γ g σ H ∧ (t Γ).wpB g.bud (fun c b => ∀ g' H', Stp L g H g' H' → g'.bud = b → Q c H') (XW L W g σ H)
def DT (L : Lx) (X : Cx) (t : IT) (e : Expr) : Prop := ∀ W, Takes X W → PT X e (RdT L W t)
theorem PT.imp {e : Expr} {t t' : TT} (h : PT X e t) (k : ∀ σ H Q, t' σ H Q → t σ H Q) : PT X e t' := ⟨fun pins s σ H Q I r => h.run pins s σ H Q I (k _ _ _ r)⟩
def asB (i : IE) : IT := fun Γ => (i Γ).bind fun d => match d with
  | .bl k => .ret k
  | _ => .stuck
theorem dt_val (h : DE L X i e) (he : ∀ whole, isTrue e X.env whole = (do let v ← whole; standAt e.pos; holding [v] (truthy v)) := by intro _; rfl) : DT L X (asB i) e := fun W tk => by
  refine PT.imp (pt_val (h W tk) he) fun σ H Q ⟨Γ, g, r, w⟩ => Rd1.go r w fun v H1 d g1 r1 s t w => ?_
  cases d with
  | bl k =>
    cases t
    exact ⟨k, rfl, w g1 H1 s rfl⟩
  | _ => exact w.elim
theorem dt_cmp {o : CmpOp} {f : D → D → Option D} {i j : IE} {a b : Expr} (ho : OpD L X (compareOp o) f) (ha : DV L X i a) (hb : DV L X j b) (hm : behindInMarks o b = false) : DT L X (asB (iOp f i j)) (.Compare a [o] [b] pos) := fun W tk => by
  refine PT.imp (pt_cmpR ho (ha W tk) (hb W tk) hm) fun σ H Q ⟨Γ, g, r, w⟩ => Rd1.op (fun _ _ _ _ _ t => t) (fun _ _ _ _ _ t => t) ⟨Γ, g, r, M.wpB_mono (fun d b k v g' H' s e t => ?_) (fun _ _ x => x) _ _ ((M.wpB_bind _ _).mp w)⟩
  cases d with
  | bl c =>
    cases t
    exact ⟨c, rfl, k g' H' s e⟩
  | _ => exact k.elim
def notB (t : IT) : IT := fun Γ => (t Γ).bind fun c => .ret (!c)
theorem dt_not {t : IT} (h : DT L X t e) : DT L X (notB t) (.UnaryOp .Not e pos) := fun W tk =>
  PT.imp (pt_not (h W tk)) fun σ H Q ⟨Γ, g, r, w⟩ => ⟨Γ, g, r, (M.wpB_bind _ _).mp w⟩
def DW (L : Lx) (X : Cx) (t : IT) (e : Expr) : Prop := ∀ W, Takes X W → PW X e (RdT L W t)
theorem PW.imp {e : Expr} {t t' : TT} (h : PW X e t) (k : ∀ σ H Q, t' σ H Q → t σ H Q) : PW X e t' := ⟨fun wh pins s σ H Q I r => h.run wh pins s σ H Q I (k _ _ _ r)⟩
def andB (t u : IT) : IT := fun Γ => (t Γ).bind fun c => if c = true then u Γ else .ret false
def orB (t u : IT) : IT := fun Γ => (t Γ).bind fun c => if c = true then .ret true else u Γ
theorem RdT.go {t : IT} {f : Bool → M Bool} {Q : Bool → Hp → Prop} {R : Bool → Nat → Prop} (r : Rep L Γ g σ H) (h : ((t Γ).bind f).wpB g.bud R (XW L W g σ H))
    (k : ∀ c H1 g1, Rep L Γ g1 σ H1 → Stp L g H g1 H1 → (f c).wpB g1.bud R (XW L W g1 σ H1) → Q c H1) : RdT L W t σ H Q := by
  refine ⟨Γ, g, r, M.wpB_mono (fun c b h g' H' s e => ?_) (fun _ _ x => x) _ _ ((M.wpB_bind _ _).mp h)⟩
  subst e
  exact k c H' g' (r.step s) s (M.wpB_mono (fun _ _ x => x) (fun _ _ x => x.of s) _ _ h)
theorem dw_and1 {t : IT} {a : Expr} (h : DT L X t a) : DW L X t (.BoolOp .And [a] pos) := fun W tk => pw_and1 (h W tk)
theorem dw_or1 {t : IT} {a : Expr} (h : DT L X t a) : DW L X t (.BoolOp .Or [a] pos) := fun W tk => pw_or1 (h W tk)
theorem dw_and {t u : IT} {a b : Expr} {rest : List Expr} (h : DT L X t a) (h2 : DW L X u (.BoolOp .And (b :: rest) pos)) : DW L X (andB t u) (.BoolOp .And (a :: b :: rest) pos) := fun W tk => by
  refine PW.imp (pw_and (h W tk) (h2 W tk)) fun σ H Q ⟨Γ, g, r, w⟩ => RdT.go r w fun c H1 g1 r1 s w => ?_
  cases c with
  | true => exact iteT ⟨Γ, g1, r1, M.wpB_mono (fun c b k g' H' s' e => k g' H' (s.trans s') e) (fun _ _ x => x) _ _ w⟩
  | false => exact iteF (w g1 H1 s rfl)
theorem dw_or {t u : IT} {a b : Expr} {rest : List Expr} (h : DT L X t a) (h2 : DW L X u (.BoolOp .Or (b :: rest) pos)) : DW L X (orB t u) (.BoolOp .Or (a :: b :: rest) pos) := fun W tk => by
  refine PW.imp (pw_or (h W tk) (h2 W tk)) fun σ H Q ⟨Γ, g, r, w⟩ => RdT.go r w fun c H1 g1 r1 s w => ?_
  cases c with
  | false => exact iteF ⟨Γ, g1, r1, M.wpB_mono (fun c b k g' H' s' e => k g' H' (s.trans s') e) (fun _ _ x => x) _ _ w⟩
  | true => exact iteT (w g1 H1 s rfl)
theorem DW.dt {t : IT} (h : DW L X t e) : DT L X t e := fun W tk => (h W tk).pt
/-- if -/
def sIf (c : IT) (s t : IS) : IS := fun Γ => (c Γ).bind fun b => if b = true then s Γ else t Γ
theorem ds_if {c : IT} {ce : Expr} {sa sb : List Stmt} (hc : DT L X c ce) (ha : DSs L X s sa) (hb : DSs L X t sb) : DS L X (sIf c s t) (.If ce sa sb pos) := fun W g0 H0 tk => by
  refine PS.imp (ps_if (hc W tk) (ha W g0 H0 tk) (hb W g0 H0 tk)) fun Dn σ H ⟨Γ, g, r, w⟩ => ⟨Γ, g, r.rep, M.wpB_mono (fun c b k g' H' sp e => ?_) (fun _ _ x => x.xw r.base) _ _ ((M.wpB_bind _ _).mp w)⟩
  subst e
  cases c with
  | true => exact iteT ⟨Γ, g', r.step sp, M.wpB_mono (fun _ _ z => z.of sp.fle) (fun _ _ x => x) _ _ k⟩
  | false => exact iteF ⟨Γ, g', r.step sp, M.wpB_mono (fun _ _ z => z.of sp.fle) (fun _ _ x => x) _ _ k⟩
/-- a if c else b; and, or as values -/
def iIf (c : IT) (i j : IE) : IE := fun Γ => (c Γ).bind fun b => if b = true then i Γ else j Γ
theorem de_if {c : IT} {i j : IE} {ce a b : Expr} (hc : DT L X c ce) (ha : DE L X i a) (hb : DE L X j b) : DE L X (iIf c i j) (.IfExp ce a b pos) := fun W tk => by
  refine PE.imp (pe_ifExp (hc W tk) (ha W tk) (hb W tk)) fun σ H Q ⟨Γ, g, r, w⟩ => ⟨Γ, g, r, M.wpB_mono (fun c b k g' H' s e => ?_) (fun _ _ x => x) _ _ ((M.wpB_bind _ _).mp w)⟩
  subst e
  cases c with
  | true => exact iteT ⟨Γ, g', r.step s, M.wpB_mono (fun d b k v g2 H2 s2 e t => k v g2 H2 (s.trans s2) e t) (fun _ _ x => x.of s) _ _ k⟩
  | false => exact iteF ⟨Γ, g', r.step s, M.wpB_mono (fun d b k v g2 H2 s2 e t => k v g2 H2 (s.trans s2) e t) (fun _ _ x => x.of s) _ _ k⟩
def iAnd (i j : IE) : IE := fun Γ => (asB i Γ).bind fun c => if c = true then j Γ else .ret (.bl false)
def iOr (i j : IE) : IE := fun Γ => (asB i Γ).bind fun c => if c = true then .ret (.bl true) else j Γ
def iNot (i : IE) : IE := fun Γ => (asB i Γ).bind fun c => .ret (.bl (!c))
theorem asB_bind {α : Type} {f : Bool → M α} : ((asB i Γ).bind f) = (i Γ).bind fun d => match d with
  | .bl k => f k
  | _ => .stuck := by
  unfold asB
  generalize i Γ = m
  induction m with
  | ret d => cases d <;> rfl
  | exc x => rfl
  | stuck => rfl
  | choose n k ih => exact congrArg (M.choose n) (funext ih)
  | begun k ih => exact congrArg M.begun ih
theorem de_one {o} {a : Expr} (h : DE L X i a) : DE L X i (.BoolOp o [a] pos) := fun W tk => pe_one (h W tk)
theorem de_and {i j : IE} {a b : Expr} {rest : List Expr} (ha : DE L X i a) (hb : DE L X j (.BoolOp .And (b :: rest) pos)) : DE L X (iAnd i j) (.BoolOp .And (a :: b :: rest) pos) := fun W tk => by
  refine PE.imp (pe_and (ha W tk) (hb W tk)) fun σ H Q ⟨Γ, g, r, w⟩ => ?_
  unfold iAnd at w
  rw [asB_bind] at w
  refine Rd1.go r w fun v H1 d g1 r1 s t w => ?_
  cases d with
  | bl c =>
    cases t
    refine ⟨c, rfl, ?_⟩
    cases c with
    | true => exact iteT ⟨Γ, g1, r1, M.wpB_mono (fun d b k v g2 H2 s2 e t => k v g2 H2 (s.trans s2) e t) (fun _ _ x => x) _ _ w⟩
    | false => exact iteF (w _ g1 H1 s rfl (.bl _))
  | _ => exact w.elim
theorem de_or {i j : IE} {a b : Expr} {rest : List Expr} (ha : DE L X i a) (hb : DE L X j (.BoolOp .Or (b :: rest) pos)) : DE L X (iOr i j) (.BoolOp .Or (a :: b :: rest) pos) := fun W tk => by
  refine PE.imp (pe_or (ha W tk) (hb W tk)) fun σ H Q ⟨Γ, g, r, w⟩ => ?_
  unfold iOr at w
  rw [asB_bind] at w
  refine Rd1.go r w fun v H1 d g1 r1 s t w => ?_
  cases d with
  | bl c =>
    cases t
    refine ⟨c, rfl, ?_⟩
    cases c with
    | false => exact iteF ⟨Γ, g1, r1, M.wpB_mono (fun d b k v g2 H2 s2 e t => k v g2 H2 (s.trans s2) e t) (fun _ _ x => x) _ _ w⟩
    | true => exact iteT (w _ g1 H1 s rfl (.bl _))
  | _ => exact w.elim
theorem de_not {a : Expr} (ha : DE L X i a) : DE L X (iNot i) (.UnaryOp .Not a pos) := fun W tk => by
  refine PE.imp (pe_not (ha W tk)) fun σ H Q ⟨Γ, g, r, w⟩ => ?_
  unfold iNot at w
  rw [asB_bind] at w
  refine Rd1.go r w fun v H1 d g1 r1 s t w => ?_
  cases d with
  | bl c =>
    cases t
    exact ⟨c, rfl, w _ g1 H1 s rfl (.bl _)⟩
  | _ => exact w.elim
end
end DL
/-! Targets, walks, loops, comprehensions. -/
namespace DL
open PySem PySem.Spec L2
section
variable {L : Lx} {X : Cx} {g0 g g' : Gh} {H0 H H' : Hp} {σ σ' : L2.St} {Γ Γ' : Env} {W : WX} {pos : Pos}

/-! targets -/
abbrev IG := D → Env → M Env
def RdG (L : Lx) (W : WX) (g0 : Gh) (H0 : Hp) (t : IG) : TG := fun v σ H Q => ∃ Γ g d, RepS L g0 H0 Γ g σ H ∧ Den L g v d ∧
  (t d Γ).wpB g.bud (fun Γ' b => ∀ g' σ' H', RepS L g0 H0 Γ' g' σ' H' → FLe g g' → g'.bud = b → Q σ' H') (XS L W g0 H0)
def DG (L : Lx) (X : Cx) (t : IG) (e : Expr) : Prop := ∀ W g0 H0, Takes X W → PG X e (RdG L W g0 H0 t)
theorem PG.imp {e : Expr} {t t' : TG} (h : PG X e t) (k : ∀ v σ H Q, t' v σ H Q → t v σ H Q) : PG X e t' := ⟨fun pins s σ H v u Q I r q => h.run pins s σ H v u Q I r (k _ _ _ _ q)⟩
def gN (n : Nat) : IG := fun d Γ => .ret (Γ.set n (some (.fz d)))
theorem dg_name {n : Nat} {x : Str} (hN : X.N.Nodup) (hi : X.N[n]? = some x) (hx : Loc X.env.scope x) (hf : X.fn x = true ∨ X.env.scope.names.lookup x = some .local := by first | exact .inl rfl | exact .inr rfl) : DG L X (gN n) (.Name x pos) := fun W g0 H0 tk =>
  PG.imp (pg_name hN hi hx hf) fun v σ H Q ⟨Γ, g, d, r, t, w⟩ => w g _ H (r.set t) (FLe.refl g) rfl
def gTs : List IG → List D → Env → M Env
  | [], [], Γ => .ret Γ
  | t :: ts, d :: ds, Γ => (t d Γ).bind fun Γ' => gTs ts ds Γ'
  | _, _, _ => .stuck
def gT (ts : List IG) : IG := fun d Γ => match d with
  | .tup ds => if ds.length = ts.length then gTs ts ds Γ else .stuck
  | .pr ds => if ds.length = ts.length then gTs ts ds Γ else .stuck
  | _ => .stuck
def RdGs (L : Lx) (W : WX) (g0 : Gh) (H0 : Hp) (ts : List IG) : TGs := fun vs σ H Q => ∃ Γ g ds, RepS L g0 H0 Γ g σ H ∧ DenL L g vs ds ∧
  (gTs ts ds Γ).wpB g.bud (fun Γ' b => ∀ g' σ' H', RepS L g0 H0 Γ' g' σ' H' → FLe g g' → g'.bud = b → Q σ' H') (XS L W g0 H0)
def DGs (L : Lx) (X : Cx) (ts : List IG) (es : List Expr) : Prop := ∀ W g0 H0, Takes X W → PGs X es (RdGs L W g0 H0 ts)
theorem PGs.imp {e : List Expr} {t t' : TGs} (h : PGs X e t) (k : ∀ v σ H Q, t' v σ H Q → t v σ H Q) : PGs X e t' := ⟨fun pins s σ H v u Q I r q => h.run pins s σ H v u Q I r (k _ _ _ _ q)⟩
theorem dgs_nil : DGs L X [] [] := fun W g0 H0 tk => PGs.imp pgs_nil fun v σ H Q ⟨Γ, g, ds, r, t, w⟩ => by
  cases ds with
  | nil => cases t; exact ⟨rfl, w g σ H r (FLe.refl g) rfl⟩
  | cons d ds => exact w.elim
theorem dgs_cons {t : IG} {ts : List IG} {e : Expr} {es : List Expr} (h : DG L X t e) (hr : DGs L X ts es)
    (hs : (assignEach (e :: es) X.env).map (·.2) = assign e X.env :: (assignEach es X.env).map (·.2) := by rfl) : DGs L X (t :: ts) (e :: es) := fun W g0 H0 tk => PGs.imp (pgs_cons (h W g0 H0 tk) (hr W g0 H0 tk) hs) fun vs σ H Q ⟨Γ, g, ds, r, l, w⟩ => by
  cases ds with
  | nil => exact w.elim
  | cons d ds =>
    cases l with
    | cons a l =>
      refine ⟨_, _, rfl, Γ, g, d, r, a, M.wpB_mono (fun Γ' b k g' σ' H' r' f e => ?_) (fun _ _ x => x) _ _ ((M.wpB_bind _ _).mp w)⟩
      subst e
      exact ⟨Γ', g', ds, r', l.mono f.F f.mu, M.wpB_mono (fun Γ2 b k g2 σ2 H2 r2 f2 e => k g2 σ2 H2 r2 (f.trans f2) e) (fun _ _ x => x) _ _ k⟩
theorem dg_tup (hK : X.K = L.K) {ts : List IG} {es : List Expr} {k : Nat} (hc : X.calm = true) (h : DGs L X ts es) (hl : ts.length = es.length := by rfl) (hn : (assignEach es X.env).length = es.length := by rfl) (hst : (assignEach es X.env).findIdx? (·.1) = none := by rfl) : DG L X (gT ts) (.Tuple es k pos) := fun W g0 H0 tk =>
  PG.imp (pg_tup hc (h W g0 H0 tk) hn hst) fun v σ H Q ⟨Γ, g, d, r, t, w⟩ => by
  unfold gT at w
  split at w
  · rename_i ds
    split at w
    · rename_i z
      cases t with
      | tup e l => exact ⟨_, _, rfl, hK ▸ sqT_mono r.rep.sub e.sq, by rw [l.length, z, hl], Γ, g, ds, r, l, w⟩
    · exact w.elim
  · rename_i ds
    split at w
    · rename_i z
      cases t with
      | pr e l => exact ⟨_, _, rfl, .inl (.inl (r.rep.sub _ _ e)), by rw [l.length, z, hl], Γ, g, ds, r, l, w⟩
    · exact w.elim
  · exact w.elim
/-- a, b = e -/
def sAsg (t : IG) (i : IE) : IS := fun Γ => (i Γ).bind fun d => (t d Γ).bind fun Γ' => .ret (.nx Γ')
theorem ds_asg {t : IG} {i : IE} {tg e : Expr} (he : DE L X i e) (hg : DG L X t tg) (hs : swapsWithSole [tg] e pos.line X.env = pure false := by rfl) (hw : swappedStores [tg] e X.env = pure none := by rfl)
    (h1 : (assignEach [tg] X.env).map (·.2) = [assign tg X.env] := by rfl) : DS L X (sAsg t i) (.Assign [tg] e pos) := fun W g0 H0 tk => by
  refine PS.imp (ps_asg (he W tk) (hg W g0 H0 tk) hs hw h1) fun Dn σ H ⟨Γ, g, r, w⟩ => Rd1.goS r w fun v H1 d g1 r1 s t w => ?_
  exact ⟨Γ, g1, d, r1, t, M.wpB_mono (fun Γ' b k g' σ' H' r' f e => k g' σ' H' r' (s.fle.trans f) e) (fun _ _ x => x) _ _ ((M.wpB_bind _ _).mp w)⟩
/-- a, b = x, y -/
def sPar (n m : Nat) (i j : IE) : IS := fun Γ => (evs [i, j] Γ).bind fun ds => match ds with
  | [d, e] => .ret (.nx ((Γ.set n (some (.fz d))).set m (some (.fz e))))
  | _ => .stuck
theorem ds_par {n m : Nat} {x y : Str} {i j : IE} {a b : Expr} {px py pt : Pos} {kt k2 pt2} (hc : X.calm = true) (hN : X.N.Nodup) (hi : X.N[n]? = some x) (hj : X.N[m]? = some y) (hij : n ≠ m)
    (hx : X.env.scope.names.lookup x = some .local) (hy : X.env.scope.names.lookup y = some .local) (ha : DA L X [i, j] [a, b])
    (hw : swappedStores [.Tuple [.Name x px, .Name y py] kt pt] (.Tuple [a, b] k2 pt2) X.env = pure (some [x, y]))
    (hs : swapsWithSole [.Tuple [.Name x px, .Name y py] kt pt] (.Tuple [a, b] k2 pt2) pos.line X.env = pure false := by rfl) :
    DS L X (sPar n m i j) (.Assign [.Tuple [.Name x px, .Name y py] kt pt] (.Tuple [a, b] k2 pt2) pos) := fun W g0 H0 tk => by
  refine PS.imp (ps_par hc hN hi hj hij hx hy (ha W tk) hw hs) fun Dn σ H ⟨Γ, g, r, w⟩ => ?_
  refine ⟨Γ, g, r.rep, M.wpB_mono (fun ds b k vs g1 H1 s e t => ?_) (fun _ _ x => x.xw r.base) _ _ ((M.wpB_bind _ _).mp w)⟩
  subst e
  cases t with
  | nil => exact k.elim
  | cons t1 l =>
    cases l with
    | nil => exact k.elim
    | cons t2 l =>
      cases l with
      | nil => exact ⟨_, _, rfl, k g1 _ H1 (((r.step s).set t1).set t2) s.fle rfl⟩
      | cons _ _ => exact k.elim

/-! walks -/
structure Wk (L : Lx) (J : It) (gs : Gh) (ds : List D) : Prop where
  step : ∀ (i : Nat) (d : D) (Γ : Env) (g : Gh) (σ : L2.St) (H : Hp), ds[i]? = some d → Rep L Γ g σ H → FLe gs g → J.go i H ∧ ∀ x H', J.yld i H x H' → ∃ g', Stp L g H g' H' ∧ g'.bud = g.bud ∧ Den L g' x d
  stop : ∀ (Γ : Env) (g : Gh) (σ : L2.St) (H : Hp), Rep L Γ g σ H → FLe gs g → J.stop ds.length H
abbrev II := Env → M (List D)
def RdI (L : Lx) (W : WX) (t : II) : TI := fun σ H R => ∃ Γ g, Rep L Γ g σ H ∧ (t Γ).wpB g.bud (fun ds b => ∀ g' H' J, Stp L g H g' H' → g'.bud = b → Wk L J g' ds → R J H') (XW L W g σ H)
def DI (L : Lx) (X : Cx) (t : II) (tg iter : Expr) : Prop := ∀ W, Takes X W → PI X tg iter (RdI L W t)
theorem PI.imp {tg e : Expr} {t t' : TI} (h : PI X tg e t) (k : ∀ σ H Q, t' σ H Q → t σ H Q) : PI X tg e t' := ⟨fun pins s σ H R I r => h.run pins s σ H R I (k _ _ _ r)⟩
theorem PI.or {tg e : Expr} {t t' : TI} (h : PI X tg e t) (h' : PI X tg e t') : PI X tg e (fun σ H R => t σ H R ∨ t' σ H R) := ⟨fun pins s σ H R I r => r.elim (h.run pins s σ H R I) (h'.run pins s σ H R I)⟩
def itL (d : D) : M (List D) := match d with
  | .lst ds => .ret ds
  | _ => .stuck
def itT (d : D) : M (List D) := match d with
  | .tup ds => .ret ds
  | _ => .stuck
def iiL (i : IE) : II := fun Γ => (i Γ).bind itL
def iiT (i : IE) : II := fun Γ => (i Γ).bind itT
theorem wk_list {a : Addr} {vs : List V} {ds : List D} (h : g.F a = some (.lst vs)) (l : DenL L g vs ds) : Wk L (Itl L.K a) g ds where
  step := fun i d Γ g' σ H e r f => by
    obtain ⟨v, hv, t⟩ := (l.mono f.F f.mu).get e
    have hH := r.sub _ _ (f.F _ _ h)
    refine ⟨⟨vs, v, .inl (.inl hH), hv⟩, fun x H' ⟨e1, y⟩ => ?_⟩
    subst e1
    have e2 := y vs (.inl (.inl hH))
    rw [hv] at e2
    cases e2
    exact ⟨g', Stp.refl r, rfl, t⟩
  stop := fun Γ g' σ H r f => ⟨vs, .inl (.inl (r.sub _ _ (f.F _ _ h))), Nat.le_of_eq l.length⟩
theorem wk_tup {a : Addr} {vs : List V} {ds : List D} (h : SqT L.K g.F a vs) (l : DenL L g vs ds) : Wk L (Itt L.K a) g ds where
  step := fun i d Γ g' σ H e r f => by
    obtain ⟨v, hv, t⟩ := (l.mono f.F f.mu).get e
    have hH := sqT_mono r.sub (sqT_mono f.F h)
    refine ⟨⟨vs, v, hH, hv⟩, fun x H' ⟨e1, y⟩ => ?_⟩
    subst e1
    have e2 := y vs hH
    rw [hv] at e2
    cases e2
    exact ⟨g', Stp.refl r, rfl, t⟩
  stop := fun Γ g' σ H r f => ⟨vs, sqT_mono r.sub (sqT_mono f.F h), Nat.le_of_eq l.length⟩
theorem RdI.go {i : IE} {it : D → M (List D)} {Q : VK} {R : It → Hp → Prop} {Γ : Env} {T : TT1} (r : Rep L Γ g σ H) (h : ((i Γ).bind it).wpB g.bud (fun ds b => ∀ g' H' J, Stp L g H g' H' → g'.bud = b → Wk L J g' ds → R J H') (XW L W g σ H))
    (k : ∀ v H1 d g1, Rep L Γ g1 σ H1 → Stp L g H g1 H1 → T L H g1 H1 v d → (it d).wpB g1.bud (fun ds b => ∀ g' H' J, Stp L g1 H1 g' H' → g'.bud = b → Wk L J g' ds → R J H') (XW L W g1 σ H1) → Q v H1) : Rd1 L T W i σ H Q := by
  refine Rd1.go r h fun v H1 d g1 r1 s t w => k v H1 d g1 r1 s t (M.wpB_mono (fun ds b k g' H' J s' e q => k g' H' J (s.trans s') e q) (fun _ _ x => x) _ _ w)
theorem di_list (hK : X.K = L.K) {i : IE} {tg e : Expr} (h : DE L X i e) : DI L X (iiL i) tg e := fun W tk => by
  refine PI.imp (pi_list (h W tk)) fun σ H R ⟨Γ, g, r, w⟩ => RdI.go (T := DenT) r w fun v H1 d g1 r1 s t w => ?_
  cases d with
  | lst ds =>
    cases id t with
    | lst e l => exact ⟨_, rfl, ⟨_, .inl (.inl (r1.sub _ _ e))⟩, w g1 H1 _ (Stp.refl r1) rfl (hK ▸ wk_list e l)⟩
  | _ => exact w.elim
theorem di_tup (hK : X.K = L.K) {i : IE} {tg e : Expr} (h : DE L X i e) : DI L X (iiT i) tg e := fun W tk => by
  refine PI.imp (pi_tup (h W tk)) fun σ H R ⟨Γ, g, r, w⟩ => RdI.go (T := DenT) r w fun v H1 d g1 r1 s t w => ?_
  cases d with
  | tup ds =>
    cases id t with
    | tup e l => exact ⟨_, rfl, ⟨_, hK ▸ sqT_mono r1.sub e.sq⟩, w g1 H1 _ (Stp.refl r1) rfl (hK ▸ wk_tup e.sq l)⟩
  | _ => exact w.elim
/-- range(n), range(a, b) -/
def rngD (lo : Int) (n : Nat) : List D := (List.range n).map fun k => D.int (lo + (k : Nat))
/-- a bound that range takes -/
def rOk (j : Int) : Bool := decide (-(2 ^ 62) ≤ j) && decide (j < 2 ^ 62)
def iiR1 (i : IE) : II := fun Γ => (evs [i] Γ).bind fun ds => match ds with
  | [.int j] => if rOk j = true then .ret (rngD 0 j.toNat) else .stuck
  | _ => .stuck
def iiR2 (i j : IE) : II := fun Γ => (evs [i, j] Γ).bind fun ds => match ds with
  | [.int a, .int b] => if decide (-(2 ^ 62) ≤ a) && decide (a < 2 ^ 62) && decide (-(2 ^ 62) ≤ b) && decide (b < 2 ^ 62) then .ret (rngD a (b - a).toNat) else .stuck
  | _ => .stuck
theorem wk_range {lo : Int} {n : Nat} : Wk L (Itr lo n) g (rngD lo n) where
  step := fun i d Γ g' σ H e r f => by
    unfold rngD at e
    rw [List.getElem?_map] at e
    by_cases h : i < n
    · rw [List.getElem?_range h] at e
      cases e
      refine ⟨h, fun x H' ⟨e1, y⟩ => ?_⟩
      subst e1 y
      exact ⟨g', Stp.refl r, rfl, .int _⟩
    · rw [List.getElem?_eq_none (by simpa using h)] at e; cases e
  stop := fun Γ g' σ H r f => by
    show n ≤ (rngD lo n).length
    unfold rngD
    simp
theorem di_range1 {i : IE} {tg a : Expr} {p : Pos} (hg : Gl X "range") (hm : X.mg "range" = none) (ha : DA L X [i] [a]) (hs : starEach [a] X.env = [(false, eval a X.env)] := by rfl) : DI L X (iiR1 i) tg (.Call (.Name "range" p) [a] [] pos) := fun W tk => by
  refine PI.imp (pi_range1 hg hm (ha W tk) hs) fun σ H R ⟨Γ, g, r, w⟩ => RdA.go r w fun vs H1 ds g1 r1 s t w => ?_
  split at w
  · rename_i j
    cases t with
    | cons a l =>
      cases a
      cases l
      split at w
      · rename_i z
        unfold rOk at z
        simp only [Bool.and_eq_true, decide_eq_true_eq] at z
        exact ⟨j, rfl, z.1, z.2, w g1 H1 _ s rfl wk_range⟩
      · exact w.elim
  · exact w.elim
theorem di_range2 {i j : IE} {tg a b : Expr} {p : Pos} (hg : Gl X "range") (hm : X.mg "range" = none) (ha : DA L X [i, j] [a, b]) (hs : starEach [a, b] X.env = [(false, eval a X.env), (false, eval b X.env)] := by rfl) (hs2 : starEach [b] X.env = [(false, eval b X.env)] := by rfl) : DI L X (iiR2 i j) tg (.Call (.Name "range" p) [a, b] [] pos) := fun W tk => by
  refine PI.imp (pi_range2 hg hm (ha W tk) hs hs2) fun σ H R ⟨Γ, g, r, w⟩ => RdA.go r w fun vs H1 ds g1 r1 s t w => ?_
  split at w
  · rename_i a b
    cases t with
    | cons x l =>
      cases x
      cases l with
      | cons x l =>
        cases x
        cases l
        split at w
        · rename_i z
          simp only [Bool.and_eq_true, decide_eq_true_eq] at z
          exact ⟨a, b, rfl, ⟨z.1.1.1, z.1.1.2, z.1.2, z.2⟩, w g1 H1 _ s rfl wk_range⟩
        · exact w.elim
  · exact w.elim

/-! for -/
def loop (t : IG) (s : IS) : List D → Env → M Fl
  | [], Γ => .ret (.nx Γ)
  | d :: r, Γ => (t d Γ).bind fun Γ1 => (s Γ1).bind fun fl => match fl with
    | .nx Γ2 => loop t s r Γ2
    | .ct Γ2 => loop t s r Γ2
    | .bk Γ2 => .ret (.nx Γ2)
    | .rt d => .ret (.rt d)
def sFor (t : IG) (it : II) (s : IS) : IS := fun Γ => (it Γ).bind fun ds => loop t s ds Γ
theorem ds_for {t : IG} {it : II} {s : IS} {tg iter : Expr} {body : List Stmt} (hp : PassesOwn (model X.prog X.w) X.A X.env X.xe) (hc : X.calm = true) (hi : DI L X it tg iter) (hg : DG L X t tg) (hb : DSs L X s body)
    (hs : ∀ x, foldedSetIterable iter X.env x = pure x := by intro _; rfl) : DS L X (sFor t it s) (.For tg iter body [] pos) := fun W g0 H0 tk => by
  refine PS.imp (ps_for hp hc (hi W tk) (hg W g0 H0 tk) (hb W g0 H0 tk) hs) fun Dn σ H ⟨Γ, g, r, w⟩ => ?_
  refine ⟨Γ, g, r.rep, M.wpB_mono (fun ds b k g1 H1 J sp e wk => ?_) (fun _ _ x => x.xw r.base) _ _ ((M.wpB_bind _ _).mp w)⟩
  subst e
  refine ⟨fun i m σ H => i ≤ ds.length ∧ m = ds.length - i ∧ ∃ Γ g2, RepS L g0 H0 Γ g2 σ H ∧ FLe g1 g2 ∧ (loop t s (ds.drop i) Γ).wpB g2.bud (FlT L g0 H0 g Dn) (XS L W g0 H0), ⟨ds.length, Nat.zero_le _, by simp, Γ, g1, r.step sp, FLe.refl g1, k⟩, ?_⟩
  rintro i m σ H ⟨hi, rfl, Γ, g2, r2, f2, w2⟩
  by_cases hlt : i < ds.length
  · have ed : ds.drop i = ds[i] :: ds.drop (i + 1) := List.drop_eq_getElem_cons hlt
    rw [ed] at w2
    obtain ⟨go, yl⟩ := wk.step i ds[i] Γ g2 σ H (List.getElem?_eq_getElem hlt) r2.rep f2
    refine .inr ⟨go, fun σ H => ∃ Γ g3, RepS L g0 H0 Γ g3 σ H ∧ FLe g1 g3 ∧ (loop t s (ds.drop (i + 1)) Γ).wpB g3.bud (FlT L g0 H0 g Dn) (XS L W g0 H0), fun σ' H' ⟨Γ', g', r', f', w'⟩ => ⟨ds.length - (i + 1), by omega, hlt, rfl, Γ', g', r', f', w'⟩, fun x H' y => ?_⟩
    obtain ⟨g3, s3, b3, t3⟩ := yl x H' y
    rw [← b3] at w2
    refine ⟨Γ, g3, ds[i], r2.step s3, t3, M.wpB_mono (fun Γ' b k g4 σ4 H4 r4 f4 e4 => ?_) (fun _ _ x => x) _ _ ((M.wpB_bind _ _).mp w2)⟩
    subst e4
    have fl4 : FLe g1 g4 := f2.trans (s3.fle.trans f4)
    refine ⟨Γ', g4, r4, M.wpB_mono (fun fl b k => ?_) (fun _ _ x => x) _ _ ((M.wpB_bind _ _).mp k)⟩
    cases fl with
    | nx Γ5 => exact fun g5 σ5 H5 r5 f5 e5 => ⟨Γ5, g5, r5, fl4.trans f5, by subst e5; exact k⟩
    | ct Γ5 => exact fun g5 σ5 H5 r5 f5 e5 => ⟨Γ5, g5, r5, fl4.trans f5, by subst e5; exact k⟩
    | bk Γ5 => exact fun g5 σ5 H5 r5 f5 e5 => k g5 σ5 H5 r5 (sp.fle.trans (fl4.trans f5)) e5
    | rt d => exact k
  · have e : i = ds.length := by omega
    subst e
    rw [List.drop_length] at w2
    exact .inl ⟨wk.stop Γ g2 σ H r2.rep f2, w2 g2 σ H r2 (sp.fle.trans f2) rfl⟩

/-! comprehensions of one for -/
def wipeE (Γ : Env) : List Nat → Env
  | [] => Γ
  | v :: vs => (wipeE Γ vs).set v none
def lcRun (t : IG) (c : IT) (i : IE) (own : List Nat) (Γ : Env) : List D → List D → M (List D)
  | acc, [] => .ret acc
  | acc, d :: r => (t d (wipeE Γ own)).bind fun Γ1 => (c Γ1).bind fun b => if b = true then (i Γ1).bind fun x => if acc.length < sizeLine then lcRun t c i own Γ (acc ++ [x]) r else .stuck else lcRun t c i own Γ acc r
def iLc (t : IG) (it : II) (c : IT) (i : IE) (own : List Nat) : IE := fun Γ => (it Γ).bind fun ds => (lcRun t c i own Γ [] ds).noX.bind fun acc => .ret (.lst acc)
/-- a comprehension's target: its stores, and what the block keeps -/
def GK (L : Lx) (gt : TG) (t : IG) (own : List Nat) : Prop := ∀ (v : V) (d : D) (Γ : Env) (g : Gh) (σ : L2.St) (H : Hp) (Q : L2.St → Hp → Prop) (E : Ex → Nat → Prop) (b : Nat), Rep L (wipeE Γ own) g (wipe σ own) H → Den L g v d →
  (t d (wipeE Γ own)).wpB b (fun Γ1 c => c = b → ∀ σ1, Rep L Γ1 g σ1 H → wipe σ1 own = wipe σ own → Q σ1 H) E → gt v (wipe σ own) H Q
def cYes : IT := fun _ => .ret true
/-- the tests' reading -/
def TK (L : Lx) (tt : TT) (c : IT) : Prop := ∀ (σ : L2.St) (H : Hp) (Q : Bool → Hp → Prop), RdT L (fun _ _ _ _ => False) c σ H Q → tt σ H Q
theorem tk_yes : TK L tYes cYes := fun σ H Q ⟨Γ, g, r, w⟩ => w g H (Stp.refl r) rfl
theorem xw_false {x : Ex} {b : Nat} (h : XW L (fun _ _ _ _ => False) g σ H x b) (W : WX) (hx : ∃ cls d g' H', Stp L g H g' H' ∧ g'.bud = b ∧ ExAt L g' H' x cls d) : False := by
  obtain ⟨cls, d, g', H', s, e, a⟩ := hx
  exact h cls d g' H' s e a
theorem wipe_rep {own : List Nat} (r : Rep L Γ g σ H) : Rep L (wipeE Γ own) g (wipe σ own) H := by
  induction own with
  | nil => exact r
  | cons n vs ih =>
    have at_ : ∀ (i : Nat) (b : B), ((wipeE Γ vs).set n none)[i]? = some (some b) → i ≠ n ∧ (wipeE Γ vs)[i]? = some (some b) := fun i b e => by
      by_cases h : i = n
      · subst h
        by_cases hl : i < (wipeE Γ vs).length
        · rw [List.getElem?_set_self hl] at e; cases e
        · rw [List.getElem?_eq_none (by simpa using hl)] at e; cases e
      · rw [List.getElem?_set_ne (Ne.symm h)] at e; exact ⟨h, e⟩
    refine ⟨ih.sub, ih.rnd, ih.tab, fun i b e => ?_, fun i j b c p e1 e2 o1 o2 s1 s2 => ?_, ih.nF, ?_⟩
    · obtain ⟨h, e⟩ := at_ i b e
      show ∃ x, ((wipe σ vs).set n none)[i]? = some x ∧ _
      rw [List.getElem?_set_ne (Ne.symm h)]
      exact ih.loc i b e
    · obtain ⟨h1, e1⟩ := at_ i b e1
      obtain ⟨h2, e2⟩ := at_ j c e2
      have s1 : ((wipe σ vs).set n none)[i]? = some (some (.ref p)) := s1
      have s2 : ((wipe σ vs).set n none)[j]? = some (some (.ref p)) := s2
      rw [List.getElem?_set_ne (Ne.symm h1)] at s1
      rw [List.getElem?_set_ne (Ne.symm h2)] at s2
      exact ih.dis i j b c p e1 e2 o1 o2 s1 s2
    · show ((wipeE Γ vs).set n none).length = ((wipe σ vs).set n none).length
      rw [List.length_set, List.length_set]; exact ih.len
/-- the own list that is being made -/
def AccAt (L : Lx) (g : Gh) (H : Hp) (p : Addr) (acc : List D) : Prop := ∃ vs, H p = some (.lst vs) ∧ DenL L g vs acc ∧ g.F p = none ∧ ¬ InM g.mu H p
theorem AccAt.step {p : Addr} {acc : List D} (a : AccAt L g H p acc) (s : Stp L g H g' H') : AccAt L g' H' p acc := by
  obtain ⟨vs, h1, h2, h3, h4⟩ := a
  obtain ⟨e, m⟩ := s.keep p _ h1 (fun _ z => nomatch z) h4
  exact ⟨vs, e, h2.mono s.le s.mu, (s.nf p (by rw [h1]; simp)).2 h3, m⟩
/-- an own list is changed that the run before did not see: from (gs, Hs), where p was free -/
theorem stp_upd {gs : Gh} {Hs : Hp} {p : Addr} {vs ws : List V} (s : Stp L gs Hs g H) (n : Hs p = none) (h1 : H p = some (.lst vs)) (h3 : g.F p = none) (h4 : ¬ InM g.mu H p) : Stp L gs Hs g (upd H p (.lst ws)) := by
  have im : ∀ a, InM g.mu (upd H p (.lst ws)) a → InM g.mu H a := fun a ⟨m, e, h⟩ => by
    refine ⟨m, e, ?_⟩
    rcases h with h | ⟨kvs, k, e4, hm⟩
    · exact .inl h
    · have q : m ≠ p := fun z => by rw [z, upd_same] at e4; cases e4
      rw [upd_ne q] at e4
      exact .inr ⟨kvs, k, e4, hm⟩
  have ne : ∀ a, Hs a ≠ none → a ≠ p := fun a h z => h (by rw [z]; exact n)
  refine ⟨s.le, s.mu, fun a o e => ?_, fun a o e nt nm => ?_, fun a h => ?_, fun a o e i => s.nm a o e (im a i), ⟨s.rnd.1, fun m e => ?_⟩, s.bud, ⟨fun q hq => ?_, fun ea en ed eu he => ?_⟩⟩
  · have q : a ≠ p := fun z => by rw [z, h3] at e; cases e
    rw [upd_ne q]; exact s.sub a o e
  · obtain ⟨e1, m1⟩ := s.keep a o e nt nm
    rw [upd_ne (ne a (by rw [e]; simp))]
    exact ⟨e1, fun i => m1 (im a i)⟩
  · rw [upd_ne (ne a h)]; exact s.nf a h
  · obtain ⟨c, l, cs, ls, at_, e1, e2, e3, r⟩ := s.rnd.2 m e
    have q : ∀ a, InM g.mu H a → a ≠ p := fun a i z => h4 (z ▸ i)
    have em : upd H p (.lst ws) m = H m := upd_ne (q m ⟨m, e, .inl rfl⟩)
    have ec : upd H p (.lst ws) c = H c := upd_ne (q c ⟨m, e, .inr ⟨_, Sum.inr "cells", e1, by simp⟩⟩)
    have el : upd H p (.lst ws) l = H l := upd_ne (q l ⟨m, e, .inr ⟨_, Sum.inr "left", e1, by simp⟩⟩)
    exact ⟨c, l, cs, ls, at_, em.trans e1, ec.trans e2, el.trans e3, r⟩
  · obtain ⟨ps, e1, e2, e3⟩ := s.tab.1 q hq
    have n1 : q.1 ≠ p := fun z => by rw [z, h1] at e1; cases e1
    refine ⟨ps, by rw [upd_ne n1]; exact e1, e2, fun pos cv hc => ?_⟩
    obtain ⟨c, z1, z2⟩ := e3 pos cv hc
    have n2 : c ≠ p := fun z => by rw [z, h1] at z2; unfold LamX.CodeO at z2; cases z2
    exact ⟨c, z1, by rw [upd_ne n2]; exact z2⟩
  · obtain ⟨f, e1, e2⟩ := s.tab.2 ea en ed eu he
    have n1 : ed ≠ p := fun z => by rw [z, h1] at e2; cases e2
    exact ⟨f, e1, by rw [upd_ne n1]; exact e2⟩
theorem inM_upd {mu : Option Addr} {p : Addr} {ws : List V} {a : Addr} (h : InM mu (upd H p (.lst ws)) a) : InM mu H a := by
  obtain ⟨m, e, h⟩ := h
  refine ⟨m, e, ?_⟩
  rcases h with h | ⟨kvs, k, e4, hm⟩
  · exact .inl h
  · have q : m ≠ p := fun z => by rw [z, upd_same] at e4; cases e4
    rw [upd_ne q] at e4
    exact .inr ⟨kvs, k, e4, hm⟩
theorem acc_upd {p : Addr} {vs : List V} {acc : List D} {v : V} {d : D} (h2 : DenL L g vs acc) (h3 : g.F p = none) (h4 : ¬ InM g.mu H p) (h : Den L g v d) : AccAt L g (upd H p (.lst (vs ++ [v]))) p (acc ++ [d]) :=
  ⟨_, upd_same, h2.append (.cons h .nil), h3, fun i => h4 (inM_upd i)⟩
theorem lc_read {t : IG} {it : II} {c : IT} {i : IE} {own : List Nat} {gt : TG} {tt : TT} {Q : VK} (gk : GK L gt t own) (tk : TK L tt c) (r : Rep L Γ g σ H)
    (w : (iLc t it c i own Γ).wpB g.bud (Wn L FrT g H Q) (XW L W g σ H)) : tLc (RdI L W it) gt tt (Rd1 L DenT (fun _ _ _ _ => False) i) own σ H Q := by
  refine ⟨Γ, g, r, M.wpB_mono (fun ds b k g1 H1 J sp e wk => ?_) (fun _ _ x => x) _ _ ((M.wpB_bind _ _).mp w)⟩
  subst e
  intro Dd nD
  replace k : ((lcRun t c i own Γ [] ds).bind fun acc => M.ret (D.lst acc)).wpB g1.bud (Wn L FrT g H Q) (XW L (fun _ _ _ _ => False) g σ H) := (M.wpB_bind _ _).mpr (M.wpB_noX (Q := fun acc c => Wn L FrT g H Q (.lst acc) c) _ _ ((M.wpB_bind _ _).mp k))
  have r1 := r.step sp
  have s2 : Stp L g1 H1 g1 (upd H1 Dd (.lst [])) := stp_new (o := .lst []) r1 nD false
  have xw : ∀ {g2 : Gh} {H2 : Hp} {σ2 : L2.St} {x : Ex} {b : Nat}, Stp L g1 H1 g2 H2 → XW L (fun _ _ _ _ => False) g σ H x b → XW L (fun _ _ _ _ => False) g2 σ2 H2 x b := fun s h cls d g' H' s' e a => h cls d g' H' (sp.trans (s.trans s')) e a
  have nM0 : ¬ InM g1.mu H1 Dd := fun i => (InM.there r1.rnd.ok i) nD
  refine ⟨fun j m Hj => j ≤ ds.length ∧ m = ds.length - j ∧ ∃ g2 acc, Stp L g1 H1 g2 Hj ∧ AccAt L g2 Hj Dd acc ∧ ((lcRun t c i own Γ acc (ds.drop j)).bind fun acc => M.ret (D.lst acc)).wpB g2.bud (Wn L FrT g H Q) (XW L (fun _ _ _ _ => False) g σ H),
    ⟨ds.length, Nat.zero_le _, by simp, g1, [], s2, ⟨[], upd_same, .nil, nF_of r1 nD, fun i => nM0 (inM_upd i)⟩, k⟩, ?_⟩
  rintro j m Hj ⟨hj, rfl, g2, acc, s, a, w2⟩
  have r2 := r1.step s
  by_cases hlt : j < ds.length
  · have ed : ds.drop j = ds[j] :: ds.drop (j + 1) := List.drop_eq_getElem_cons hlt
    rw [ed] at w2
    obtain ⟨go, yl⟩ := wk.step j ds[j] Γ g2 σ Hj (List.getElem?_eq_getElem hlt) r2 s.fle
    refine .inr ⟨go, fun Hn => ∃ g2 acc, Stp L g1 H1 g2 Hn ∧ AccAt L g2 Hn Dd acc ∧ ((lcRun t c i own Γ acc (ds.drop (j + 1))).bind fun acc => M.ret (D.lst acc)).wpB g2.bud (Wn L FrT g H Q) (XW L (fun _ _ _ _ => False) g σ H), fun H' ⟨g', acc', s', a', w'⟩ => ⟨ds.length - (j + 1), by omega, hlt, rfl, g', acc', s', a', w'⟩, fun x H' y => ?_⟩
    obtain ⟨g3, s3, b3, t3⟩ := yl x H' y
    rw [← b3] at w2
    have s13 := s.trans s3
    have w3 := (M.wpB_bind _ _).mp w2
    refine gk x ds[j] Γ g3 σ H' _ (XW L (fun _ _ _ _ => False) g σ H) g3.bud (wipe_rep (r2.step s3)) t3 (M.wpB_mono (fun Γ1 c' k eb σ1 rp1 wi => ?_) (fun _ _ x => x) _ _ ((M.wpB_bind _ _).mp w3))
    subst eb
    refine ⟨wi, tk σ1 H' _ ⟨Γ1, g3, rp1, M.wpB_mono (fun b c' k g4 H4 s4 e4 => ?_) (fun _ _ x => xw s13 x) _ _ ((M.wpB_bind _ _).mp k)⟩⟩
    subst e4
    have s14 := s13.trans s4
    have a4 := (a.step s3).step s4
    cases b with
    | false => exact iteF ⟨g4, acc, s14, a4, (M.wpB_bind _ _).mpr k⟩
    | true =>
      refine iteT ⟨Γ1, g4, rp1.step s4, M.wpB_mono (fun d b k v g5 H5 s5 e5 t5 => ?_) (fun _ _ x => xw s14 x) _ _ ((M.wpB_bind _ _).mp k)⟩
      subst e5
      split at k
      · rename_i z
        obtain ⟨vs, h1, h2, h3, h4⟩ := a4.step s5
        exact ⟨vs, h1, by rw [h2.length]; exact z, g5, acc ++ [d], stp_upd (s14.trans s5) nD h1 h3 h4, acc_upd h2 h3 h4 t5, (M.wpB_bind _ _).mpr k⟩
      · exact k.elim
  · have e : j = ds.length := by omega
    subst e
    rw [List.drop_length] at w2
    obtain ⟨vs, h1, h2, h3, h4⟩ := a
    exact .inl ⟨wk.stop Γ g2 σ Hj r2 s.fle, w2 (.ref Dd) g2 Hj (sp.trans s) rfl ⟨Dd, vs, acc, rfl, rfl, h1, h2, h3, h4, none_back sp nD⟩⟩
theorem df_lc {t : IG} {it : II} {c : IT} {i : IE} {own : List (Str × Nat)} {gt : TG} {tt : TT} {elt tg iter : Expr} {ifs : List Expr} {scope : Scope} (hc : X.calm = true) (hN : X.N.Nodup) (hi : DI L X it tg iter) (ok : BlkOk X.N X.env.scope scope own)
    (hg : ∀ (s : Shared) (H : Hp) (C : Addr) (cl : List (Str × Addr)) (fp : List Addr), PG (X.blk s H scope (compEnvC scope cl C X.env) fp) tg gt) (gk : GK L gt t (own.map (·.2)))
    (ht : ∀ (s : Shared) (H : Hp) (C : Addr) (cl : List (Str × Addr)) (fp : List Addr), PTs (X.blk s H scope (compEnvC scope cl C X.env) fp) ifs tt) (tk : TK L tt c)
    (he : ∀ (s : Shared) (H : Hp) (C : Addr) (cl : List (Str × Addr)) (fp : List Addr), DE L (X.blk s H scope (compEnvC scope cl C X.env) fp) i elt) (hs : ∀ x, foldedSetIterable iter X.env x = pure x := by intro _; rfl) :
    DF L X (iLc t it c i (own.map (·.2))) (.ListComp elt [⟨tg, iter, ifs, 0⟩] scope pos) := fun W tk' => by
  exact PE.imp (pe_lc hc hN (hi W tk') ok hg ht (fun s H C cl fp => he s H C cl fp _ LamX.takes0) hs) fun σ H Q ⟨Γ, g, r, w⟩ => lc_read gk tk r w
/-- y = [.. for ..], y a plain local -/
theorem ds_setLc {n : Nat} {y : Str} {py spos : Pos} {t : IG} {it : II} {c : IT} {i : IE} {own : List (Str × Nat)} {gt : TG} {tt : TT} {elt tg iter : Expr} {ifs : List Expr} {scope : Scope} (hc : X.calm = true) (hN : X.N.Nodup) (hy : X.N[n]? = some y) (hyl : X.env.scope.names.lookup y = some .local)
    (hsw : swapsWith (.ListComp elt [⟨tg, iter, ifs, 0⟩] scope pos) (some (.Name y py)) spos.line X.env = pure true) (hi : DI L X it tg iter) (ok : BlkOk X.N X.env.scope scope own)
    (hg : ∀ (s : Shared) (H : Hp) (C : Addr) (cl : List (Str × Addr)) (fp : List Addr), PG (X.blk s H scope (compEnvC scope cl C X.env) fp) tg gt) (gk : GK L gt t (own.map (·.2)))
    (ht : ∀ (s : Shared) (H : Hp) (C : Addr) (cl : List (Str × Addr)) (fp : List Addr), PTs (X.blk s H scope (compEnvC scope cl C X.env) fp) ifs tt) (tk : TK L tt c)
    (he : ∀ (s : Shared) (H : Hp) (C : Addr) (cl : List (Str × Addr)) (fp : List Addr), DE L (X.blk s H scope (compEnvC scope cl C X.env) fp) i elt) (hs : ∀ x, foldedSetIterable iter X.env x = pure x := by intro _; rfl) :
    DS L X (sSet n (iLc t it c i (own.map (·.2)))) (.Assign [.Name y py] (.ListComp elt [⟨tg, iter, ifs, 0⟩] scope pos) spos) := fun W g0 H0 tk' => by
  refine PS.imp (ps_setLc hc hN hy hyl hsw (hi W tk') ok hg ht (fun s H C cl fp => he s H C cl fp _ LamX.takes0) hs) fun Dn σ H ⟨Γ, g, r, w⟩ => ?_
  refine lc_read (Q := fun x H1 => gName n x σ H1 Dn.nx) gk tk r.rep (M.wpB_mono (fun d b k v g' H' s e fr => ?_) (fun _ _ x => x.xw r.base) _ _ ((M.wpB_bind _ _).mp w))
  obtain ⟨g2, s2, e2, t2⟩ := stp_frz s fr
  exact k g2 _ H' ((r.step s2).set t2) s2.fle (e2.trans e)
/-- wiping forgets what was stored at a wiped slot -/
theorem wipe_set {n : Nat} {x : Option V} : ∀ {vs : List Nat} {σ : L2.St}, n ∈ vs → wipe (σ.set n x) vs = wipe σ vs := by
  have out : ∀ (vs : List Nat) (σ : L2.St), n ∉ vs → wipe (σ.set n x) vs = (wipe σ vs).set n x := fun vs σ => by
    induction vs with
    | nil => intro _; rfl
    | cons b vs ih =>
      intro hq
      simp only [List.mem_cons, not_or] at hq
      show (wipe (σ.set n x) vs).set b none = ((wipe σ vs).set b none).set n x
      rw [ih hq.2, List.set_comm _ _ hq.1]
  intro vs σ
  induction vs with
  | nil => intro h; cases h
  | cons a vs ih =>
    intro h
    show (wipe (σ.set n x) vs).set a none = (wipe σ vs).set a none
    by_cases q : n ∈ vs
    · rw [ih q]
    · have e : n = a := (List.mem_cons.mp h).resolve_right q
      subst e
      rw [out vs σ q, List.set_set]
theorem wipe_wipe {vs : List Nat} {σ : L2.St} : wipe (wipe σ vs) vs = wipe σ vs := by
  have gen : ∀ (us : List Nat) (τ : L2.St), (∀ x ∈ us, x ∈ vs) → wipe (wipe τ us) vs = wipe τ vs := fun us => by
    induction us with
    | nil => intro τ _; rfl
    | cons a us ih =>
      intro τ hs
      show wipe ((wipe τ us).set a none) vs = wipe τ vs
      rw [wipe_set (hs a List.mem_cons_self), ih τ fun x hx => hs x (List.mem_cons_of_mem _ hx)]
  exact gen vs σ fun _ h => h
theorem gk_name {n : Nat} {own : List Nat} (h : n ∈ own) : GK L (gName n) (gN n) own := fun v d Γ g σ H Q E b r t w =>
  w rfl _ (r.set t) (by rw [wipe_set h, wipe_wipe])
/-- (a, b, ..) with plain names -/
def gNs : List Nat → TGs
  | [] => gNil
  | n :: ns => gCons (gName n) (gNs ns)
theorem gk_tup {ns own : List Nat} (h : ∀ n ∈ ns, n ∈ own) : GK L (gTup L.K ns.length (gNs ns)) (gT (ns.map gN)) own := fun v d Γ g σ H Q E b r t w => by
  have go : ∀ (ns : List Nat) (vs : List V) (ds : List D) (Γ1 : Env) (σ1 : L2.St), (∀ n ∈ ns, n ∈ own) → DenL L g vs ds → Rep L Γ1 g σ1 H → wipe σ1 own = wipe σ own → (gTs (ns.map gN) ds Γ1).wpB b (fun Γ1 c => c = b → ∀ σ1, Rep L Γ1 g σ1 H → wipe σ1 own = wipe σ own → Q σ1 H) E → gNs ns vs σ1 H Q := fun ns => by
    induction ns with
    | nil =>
      intro vs ds Γ1 σ1 _ l r1 e1 w
      cases l with
      | nil => exact ⟨rfl, w rfl σ1 r1 e1⟩
      | cons _ _ => exact w.elim
    | cons n ns ih =>
      intro vs ds Γ1 σ1 hn l r1 e1 w
      cases l with
      | nil => exact w.elim
      | cons t l => exact ⟨_, _, rfl, ih _ _ _ _ (fun m hm => hn m (List.mem_cons_of_mem _ hm)) l (r1.set t) (by rw [wipe_set (hn n List.mem_cons_self), e1]) w⟩
  unfold gT at w
  split at w
  · rename_i ds
    split at w
    · rename_i z
      rw [List.length_map] at z
      cases t with
      | @tup a vs _ e l => exact ⟨a, vs, rfl, sqT_mono r.sub e.sq, by rw [l.length, z], go ns vs ds _ _ h l r wipe_wipe w⟩
    · exact w.elim
  · rename_i ds
    split at w
    · rename_i z
      rw [List.length_map] at z
      cases t with
      | @pr a vs _ e l => exact ⟨a, vs, rfl, .inl (.inl (r.sub _ _ e)), by rw [l.length, z], go ns vs ds _ _ h l r wipe_wipe w⟩
    · exact w.elim
  · exact w.elim
/-- one test -/
theorem tk_one {c : IT} : TK L (RdT L (fun _ _ _ _ => False) c) c := fun σ H Q h => h
end
end DL
/-! Defs and their calls. -/
namespace DL
open PySem PySem.Spec L2
/-- a def's run over data: its slots begin with its arguments -/
def env0 (n : Nat) (ds : List D) : Env := ds.map (fun d => some (.fz d)) ++ List.replicate (n - ds.length) none
def runFn (n : Nat) (body : IS) (ds : List D) : M D := (body (env0 n ds)).bind fun fl => match fl with
  | .rt d => .ret d
  | .nx _ => .ret .non
  | _ => .stuck
section
variable {L : Lx} {X : Cx} {g g' : Gh} {H H' : Hp} {σ : L2.St} {Γ : Env} {W : WX} {pos : Pos}
def XF (L : Lx) (E : XK) (g : Gh) (H : Hp) (x : Ex) (b : Nat) : Prop := ∀ cls d g' H', Stp L g H g' H' → g'.bud = b → ExAt L g' H' x cls d → E cls d H'
/-- a def's promise by its run -/
def SpD (L : Lx) (m : List D → M D) (vs : List V) (H : Hp) (Q : VK) (E : XK) : Prop := ∃ Γ g σ ds, Rep L Γ g σ H ∧ DenL L g vs ds ∧ (m ds).wpB g.bud (Wn L DenT g H Q) (XF L E g H)
/-- at f stands a def whose calls do what m says, from depth k on -/
structure FG (L : Lx) (P : Program) (w : World) (mg : Str → Option Value) (base : Heap) (k : Nat) (f : Addr) (fd : FuncData) (ps : List Str) (m : List D → M D) : Prop where
  go : ∀ (A : Around) (outer : List PySem.Env) (s : Shared) (H : Hp) (args : Args) (us : List Value) (vs : List V) (Q : VK) (E : XK), Room k A → A.guards = some [] → Env0 P w L.K mg base A outer s H → BindsTo s fd args (ps.zip us) → Vals vs us → us.length = ps.length → SpD L m vs H Q E →
    codeAny (model P w) A (.call (.ref f) args) (CR (L2.CX P w) outer P w H s Q E) s
theorem FG.mono {P : Program} {w : World} {mg : Str → Option Value} {base : Heap} {j k : Nat} {f : Addr} {fd : FuncData} {ps : List Str} {m : List D → M D} (F : FG L P w mg base j f fd ps m) (h : j ≤ k) : FG L P w mg base k f fd ps m :=
  ⟨fun A outer s H args us vs Q E hr => F.go A outer s H args us vs Q E (hr.mono h)⟩
theorem rep_start {N : List Str} {ds : List D} {vs : List V} (r : Rep L Γ g σ H) (l : DenL L g vs ds) (hn : vs.length ≤ N.length) : RepS L g H (env0 N.length ds) g (L2.start N vs) H := by
  have at_ : ∀ (i : Nat) (b : B), (env0 N.length ds)[i]? = some (some b) → ∃ d, ds[i]? = some d ∧ b = .fz d := fun i b e => by
    unfold env0 at e
    by_cases h : i < ds.length
    · rw [List.getElem?_append_left (by simpa using h), List.getElem?_map] at e
      cases q : ds[i]? with
      | none => rw [q] at e; cases e
      | some d => rw [q] at e; cases e; exact ⟨d, rfl, rfl⟩
    · rw [List.getElem?_append_right (by simpa using h), List.getElem?_replicate] at e
      split at e <;> cases e
  refine ⟨⟨r.sub, r.rnd, r.tab, fun i b e => ?_, fun i j b c p e1 e2 o1 o2 s1 s2 => ?_, r.nF, ?_⟩, Stp.refl r, fun i b p e o s => ?_⟩
  · obtain ⟨d, hd, rfl⟩ := at_ i b e
    obtain ⟨v, hv, t⟩ := l.get hd
    refine ⟨some v, ?_, v, rfl, t⟩
    unfold L2.start
    rw [List.getElem?_append_left (by rw [List.length_map]; exact (List.getElem?_eq_some_iff.mp hv).1), List.getElem?_map, hv]
    rfl
  · obtain ⟨d, _, rfl⟩ := at_ i b e1
    cases o1
  · unfold env0 L2.start
    rw [List.length_append, List.length_append, List.length_map, List.length_map, List.length_replicate, List.length_replicate, l.length]
  · obtain ⟨d, _, rfl⟩ := at_ i b e
    cases o
/-- a def of the text by its body -/
theorem fg_of {P : Program} {w : World} {mg : Str → Option Value} {base : Heap} {x qual : Str} {st : Stmt} {f : Addr} {fd : FuncData} {N ps : List Str} {k : Nat} {body : IS} (F : Fun L.K x qual st f fd) (S : FnScope N ps (defScope st))
    (hb : ∀ (cdv : Value) (A : Around) (outer : List PySem.Env) (s : Shared) (H : Hp) (E : XK), Room k (A.deeper (PyProof.Rows.envOfC qual (defScope st) s.heap.objs.size f cdv)) → A.guards = some [] →
      DSs L (cxOf (L2.CX P w) P w L.K mg base N qual (defScope st) f cdv A outer s H E) body (defBody st)) : FG L P w mg base (k + 1) f fd ps (runFn N.length body) := by
  refine ⟨fun A outer s H args us vs Q E hr hg e0 bt r hl ⟨Γ, g, σ, ds, rp, l, w⟩ => ?_⟩
  obtain ⟨oc, od, kV, doc, pm, an, cdv, ct, osl, rfl, lk, hcd⟩ := F.ex
  refine LamX.run_ofS lk hcd S hr e0 bt r (r.length.trans hl) fun hr' => ⟨_, hb cdv A outer s H E hr' hg (fun cls d _ H => E cls d H) g H (takes_of rfl rfl rfl rfl), ?_⟩
  have hpl : ps.length ≤ N.length := by have := congrArg List.length S.pre; rw [List.length_take] at this; omega
  refine ⟨env0 N.length ds, g, rep_start rp l (by rw [r.length, hl]; exact hpl), M.wpB_mono (fun fl b k => ?_) (fun _ _ x => fun cls d g σ H s e a => x cls d g H s e a) _ _ ((M.wpB_bind _ _).mp w)⟩
  cases fl with
  | nx Γ' => exact fun g' σ' H' r' _ e => k .non g' H' r'.base e .non
  | rt d => exact fun g' v H' s' e t => k v g' H' s' e t
  | bk Γ' => exact k.elim
  | ct Γ' => exact k.elim

/-! calls -/
variable {k : Nat} {f : Addr} {fd : FuncData} {ps : List Str} {m : List D → M D} {x : Str} {p : Pos} {e : Expr} {es : List Expr} {is : List IE} {i : IE}
def iCall (m : List D → M D) (is : List IE) : IE := fun Γ => (evs is Γ).bind m
theorem run_fg {pins : List (Addr × Obj)} {s : Shared} {Q : VK} {us : List Value} {vs : List V} {args : Args} (F : FG L X.prog X.w X.mg X.base k f fd ps m) (hK : X.K = L.K) (hr : Room k X.A) (hgd : X.A.guards = some []) (tk : Takes X W) (I : Inv X pins σ H s) (r : Vals vs us)
    (hb : BindsTo s fd args (ps.zip us)) (hl : us.length = ps.length) (h : SpD L m vs H Q (WE W σ)) : codeAny (model X.prog X.w) X.A (.call (.ref f) args) (fun r s' => match r with
      | .ok (.ret u) => EP X pins σ Q u s'
      | .ok _ => False
      | .error e => X.xe e s') s := by
  refine codeAny_mono (F.go X.A X.stack s H args us vs Q (WE W σ) hr hgd (hK ▸ I.env0) hb r hl h) fun r s' hq => ?_
  cases r with
  | error e => exact passAt tk σ pins H s e s' I hq
  | ok fl =>
    cases fl with
    | ret u => exact I.after hq
    | next => exact hq
    | brk => exact hq
    | cont => exact hq
theorem spd_of {Γ : Env} {Q : VK} {vs : List V} {ds : List D} (r : Rep L Γ g σ H) (l : DenL L g vs ds) (w : (m ds).wpB g.bud (Wn L DenT g H Q) (XW L W g σ H)) : SpD L m vs H Q (WE W σ) := ⟨Γ, g, σ, ds, r, l, w⟩
theorem call_fg {pins : List (Addr × Obj)} {s : Shared} {Q : VK} {us : List Value} {args : Args} (h : codeAny (model X.prog X.w) X.A (.call (.ref f) args) (fun r s' => match r with
      | .ok (.ret u) => EP X pins σ Q u s'
      | .ok _ => False
      | .error e => X.xe e s') s) (ha : args = ⟨us, []⟩) : wpAny (model X.prog X.w) X.A (call (.ref f) us) (EP X pins σ Q) X.xe s := by
  subst ha
  refine wpAny_call (codeAny_mono h fun r s' hq => ?_)
  cases r with
  | error e => exact hq
  | ok fl => cases fl <;> exact hq
theorem evs_len {Q : List D → Nat → Prop} {E : Ex → Nat → Prop} : ∀ (is : List IE) (b : Nat), (evs is Γ).wpB b Q E → (evs is Γ).wpB b (fun ds c => ds.length = is.length ∧ Q ds c) E := fun is => by
  induction is generalizing Q with
  | nil => intro b h; exact ⟨rfl, h⟩
  | cons i is ih =>
    intro b h
    refine (M.wpB_bind _ _).mpr (M.wpB_mono (fun d c k => ?_) (fun _ _ x => x) _ _ ((M.wpB_bind _ _).mp h))
    exact (M.wpB_bind _ _).mpr (M.wpB_mono (fun ds c k => ⟨congrArg (· + 1) k.1, k.2⟩) (fun _ _ x => x) _ _ (ih _ ((M.wpB_bind _ _).mp k)))
/-- a def's arguments, then its run -/
theorem RdA.call {Γ : Env} {Q : VK} (r : Rep L Γ g σ H) (hn : is.length = ps.length) (w : (iCall m is Γ).wpB g.bud (Wn L DenT g H Q) (XW L W g σ H)) : RdA L W is σ H fun vs H1 => vs.length = ps.length ∧ SpD L m vs H1 Q (WE W σ) := by
  refine ⟨Γ, g, r, M.wpB_mono (fun ds b h vs g' H' s e t => ?_) (fun _ _ x => x) _ _ (evs_len is g.bud ((M.wpB_bind _ _).mp w))⟩
  subst e
  refine ⟨t.length.trans (h.1.trans hn), spd_of (r.step s) t (M.wpB_mono (fun d b k v g2 H2 s2 e t => k v g2 H2 (s.trans s2) e t) (fun _ _ x => x.of s) _ _ h.2)⟩
/-- f(e, ..) -/
theorem de_call (F : FG L X.prog X.w X.mg X.base k f fd ps m) (hK : X.K = L.K) (hr : Room k X.A) (hgd : X.A.guards = some []) (gl : Gl X x) (mf : X.mg x = some (.ref f)) (kp : PySem.W.keepIn X.K (.ref f) = true) (bi : Binds X.K fd ps []) (hn : is.length = ps.length)
    (ha : DA L X is (e :: es)) (nd : (x == ("__debug__" : Str)) = false := by decide) (h1 : starEach (e :: es) X.env = (false, eval e X.env) :: starEach es X.env := by rfl) (h2 : (backTo pos (starEach es X.env)).any (·.1) = false := by rfl) :
    DE L X (iCall m is) (.Call (.Name x p) (e :: es) [] pos) := fun W tk => by
  refine ⟨fun pins s σ H Q I ⟨Γ, g, rp, w⟩ => ?_⟩
  refine wpAny_Call_Name_kw (ld_glob I gl mf (PySem.W.callWith_K (h₀ := X.base) I.ok.mod.kin kp (thn ((ha W tk).run pos pins s σ H _ I (RdA.call rp hn w)) fun us s1 ⟨vs, H1, I1, r, hl, q⟩ => ⟨I1.kIn, ?_⟩) h1 h2) nd)
  have hl2 : us.length = ps.length := by rw [← r.length]; exact hl
  have b := bi s1 us I1.kIn (by rw [List.append_nil]; exact hl2)
  rw [List.append_nil] at b
  exact call_fg (run_fg F hK hr hgd tk I1 r b hl2 q) rfl
end
end DL
/-! Subscripts, slices, membership, built-ins. -/
namespace DL
open PySem PySem.Spec L2
section
variable {L : Lx} {X : Cx} {g g' : Gh} {H H' : Hp} {σ : L2.St} {Γ : Env} {W : WX} {pos : Pos}

/-! a[i] -/
def IxD (L : Lx) (X : Cx) (f : D → D → Option D) : Prop := IxR X (RdO L f)
theorem IxD.or {f f' : D → D → Option D} (h : IxD L X f) (h' : IxD L X f') : IxD L X (orD f f') := by
  intro va sl pins st σ H x y v u Q I rx ry ⟨Γ, g, σ', dx, dy, d, rp, vx, vy, e, w⟩ hs
  unfold orD at e
  split at e
  · rename_i d' e'
    cases e
    exact h va sl pins st σ H x y v u Q I rx ry ⟨Γ, g, σ', dx, dy, d, rp, vx, vy, e', w⟩ hs
  · exact h' va sl pins st σ H x y v u Q I rx ry ⟨Γ, g, σ', dx, dy, d, rp, vx, vy, e, w⟩ hs
theorem DenL.atI {vs : List V} {ds : List D} {i : Int} {d : D} (l : DenL L g vs ds) (e : atI ds i = some d) : ∃ v, L2.atI vs i = some v ∧ Den L g v d := by
  unfold L2.atI at e ⊢
  rw [l.length]
  cases q : ixN ds.length i with
  | none => rw [q] at e; cases e
  | some j =>
    rw [q] at e
    exact l.get (i := j) e
def fIxT : D → D → Option D
  | .tup ds, .int i => atI ds i
  | _, _ => none
def fIxL : D → D → Option D
  | .lst ds, .int i => atI ds i
  | _, _ => none
def fIxS : D → D → Option D
  | .str z, .int i => if z.length ≤ sizeLine then (atI z.cps.toList i).map fun c => .str ⟨#[c]⟩ else none
  | _, _ => none
theorem ixd_tup (hK : X.K = L.K) : IxD L X fIxT := by
  intro va sl pins st σ H x y v u Q I rx ry ⟨Γ, g, σ', dx, dy, d, rp, vx, vy, e, w⟩ hs
  unfold fIxT at e
  split at e
  · obtain ⟨a, vs, rfl, h1, l1, _⟩ := vx.tup rp.sub
    cases vy.int
    obtain ⟨z, hz, t⟩ := l1.atI e
    exact ix_tup va sl pins st σ H _ _ v u Q I rx ry ⟨a, vs, _, z, rfl, rfl, hK ▸ h1, hz, w _ g H (Stp.refl rp) rfl t⟩ hs
  · cases e
theorem ixd_list : IxD L X fIxL := by
  intro va sl pins st σ H x y v u Q I rx ry ⟨Γ, g, σ', dx, dy, d, rp, vx, vy, e, w⟩ hs
  unfold fIxL at e
  split at e
  · obtain ⟨a, vs, rfl, h1, l1⟩ := vx.lst rp.sub
    cases vy.int
    obtain ⟨z, hz, t⟩ := l1.atI e
    exact ix_list va sl pins st σ H _ _ v u Q I rx ry ⟨a, vs, _, z, rfl, rfl, SqL.of h1, hz, w _ g H (Stp.refl rp) rfl t⟩ hs
  · cases e
theorem ixd_str : IxD L X fIxS := by
  intro va sl pins st σ H x y v u Q I rx ry ⟨Γ, g, σ', dx, dy, d, rp, vx, vy, e, w⟩ hs
  cases dx with
  | str z =>
    cases dy with
    | int i =>
      replace e : (if z.length ≤ sizeLine then (L2.atI z.cps.toList i).map fun c => D.str ⟨#[c]⟩ else none) = some d := e
      split at e
      · rename_i hz
        cases vx.str
        cases vy.int
        cases q : L2.atI z.cps.toList i with
        | none => rw [q] at e; cases e
        | some c =>
          rw [q] at e
          cases e
          exact ix_str va sl pins st σ H _ _ v u Q I rx ry ⟨z, i, c, rfl, rfl, hz, q, w _ g H (Stp.refl rp) rfl (.str _)⟩ hs
      · cases e
    | _ => cases e
  | _ => cases dy <;> cases e
theorem de_ix {f : D → D → Option D} {i j : IE} {a b : Expr} (ho : IxD L X f) (ha : DV L X i a) (hb : DV L X j b) (hs : PlainIx b := by exact fun _ _ => rfl) : DE L X (iOp f i j) (.Subscript a b pos) := fun W tk =>
  PE.imp (pe_ix ho (ha W tk) (hb W tk) hs) fun σ H Q h => h.op (fun _ _ _ _ _ t => t) fun _ _ _ _ _ t => t

/-! slices -/
abbrev IO := Env → M (Option Int)
def RdPo (L : Lx) (W : WX) (t : IO) : TO := fun σ H Q => ∃ Γ g, Rep L Γ g σ H ∧ (t Γ).wpB g.bud (fun o b => ∀ g' H', Stp L g H g' H' → g'.bud = b → Q o H') (XW L W g σ H)
def DO (L : Lx) (X : Cx) (t : IO) (e : Option Expr) : Prop := ∀ W, Takes X W → PO X e (RdPo L W t)
theorem PO.imp {e : Option Expr} {t t' : TO} (h : PO X e t) (k : ∀ σ H Q, t' σ H Q → t σ H Q) : PO X e t' := ⟨fun pins s σ H Q I r => h.run pins s σ H Q I (k _ _ _ r)⟩
def oNone : IO := fun _ => .ret none
def oSome (i : IE) : IO := fun Γ => (i Γ).bind fun d => match d with
  | .int k => .ret (some k)
  | _ => .stuck
theorem do_none : DO L X oNone none := fun W tk => PO.imp po_none fun σ H Q ⟨Γ, g, r, w⟩ => w g H (Stp.refl r) rfl
theorem do_some {i : IE} {e : Expr} (h : DE L X i e) : DO L X (oSome i) (some e) := fun W tk => PO.imp (po_some (h W tk)) fun σ H Q ⟨Γ, g, r, w⟩ => Rd1.go r w fun v H1 d g1 r1 s t w => by
  cases d with
  | int k => cases t; exact ⟨k, rfl, w g1 H1 s rfl⟩
  | _ => exact w.elim
def cutD (ds : List D) (lo hi : Option Int) : List D := (ds.drop (HT.sIx ds.length 0 lo)).take (HT.sIx ds.length ds.length hi - HT.sIx ds.length 0 lo)
theorem DenL.cut {vs : List V} {ds : List D} {lo hi : Option Int} (l : DenL L g vs ds) : DenL L g (cutV vs lo hi) (cutD ds lo hi) := by
  unfold cutV cutD
  rw [l.length]
  exact (l.drop _).take _
def RdSl (L : Lx) (T : TT1) (f : D → Option Int → Option Int → Option D) : V → Option Int → Option Int → Hp → VK → Prop := fun x lo hi H Q => ∃ Γ g σ dx d, Rep L Γ g σ H ∧ Vw L g H x dx ∧ f dx lo hi = some d ∧ Wn L T g H Q d g.bud
def SlD (L : Lx) (X : Cx) (T : TT1) (f : D → Option Int → Option Int → Option D) : Prop := SlR X (RdSl L T f)
def iSl (f : D → Option Int → Option Int → Option D) (i : IE) (lo hi : IO) : IE := fun Γ => (i Γ).bind fun x => (lo Γ).bind fun l => (hi Γ).bind fun h => match f x l h with
  | some d => .ret d
  | none => .stuck
theorem RdPo.go {α : Type} {t : IO} {f : Option Int → M α} {R : α → Nat → Prop} {Q : Option Int → Hp → Prop} (r : Rep L Γ g σ H) (h : ((t Γ).bind f).wpB g.bud R (XW L W g σ H))
    (k : ∀ o H1 g1, Rep L Γ g1 σ H1 → Stp L g H g1 H1 → (f o).wpB g1.bud R (XW L W g1 σ H1) → Q o H1) : RdPo L W t σ H Q := by
  refine ⟨Γ, g, r, M.wpB_mono (fun d b h g' H' s e => ?_) (fun _ _ x => x) _ _ ((M.wpB_bind _ _).mp h)⟩
  subst e
  exact k d H' g' (r.step s) s (M.wpB_mono (fun _ _ x => x) (fun _ _ x => x.of s) _ _ h)
theorem Rd1.slc {T : TT1} {f : D → Option Int → Option Int → Option D} {i : IE} {lo hi : IO} {Q : VK} (hT : ∀ {g g1 : Gh} {H H1 H2 : Hp} {g2 : Gh} {v : V} {d : D}, Stp L g H g1 H1 → T L H1 g2 H2 v d → T L H g2 H2 v d) (h : Rd1 L T W (iSl f i lo hi) σ H Q) :
    tSl (RdSl L T f) (Rd1 L VwT W i) (RdPo L W lo) (RdPo L W hi) σ H Q := by
  obtain ⟨Γ, g, rp, w⟩ := h
  refine Rd1.go rp w fun x H1 dx g1 r1 s1 t1 w => RdPo.go r1 w fun l H2 g2 r2 s2 w => RdPo.go r2 w fun h H3 g3 r3 s3 w => ?_
  split at w
  · rename_i d e
    exact ⟨Γ, g3, σ, dx, d, r3, (t1.step s2).step s3, e, fun v g' H' s eb t => w v g' H' (s1.trans (s2.trans (s3.trans s))) eb (hT (s1.trans (s2.trans s3)) t)⟩
  · exact w.elim
theorem de_sl {f : D → Option Int → Option Int → Option D} {i : IE} {lo hi : IO} {a : Expr} {l h : Option Expr} {p2 : Pos} (ho : SlD L X DenT f) (ha : DV L X i a) (hl : DO L X lo l) (hh : DO L X hi h) : DE L X (iSl f i lo hi) (.Subscript a (.Slice l h none p2) pos) := fun W tk =>
  PE.imp (pe_slice ho (ha W tk) (hl W tk) (hh W tk)) fun σ H Q h => h.slc fun _ t => t
theorem df_sl {f : D → Option Int → Option Int → Option D} {i : IE} {lo hi : IO} {a : Expr} {l h : Option Expr} {p2 : Pos} (ho : SlD L X FrT f) (ha : DV L X i a) (hl : DO L X lo l) (hh : DO L X hi h) : DF L X (iSl f i lo hi) (.Subscript a (.Slice l h none p2) pos) := fun W tk =>
  PE.imp (pe_slice ho (ha W tk) (hl W tk) (hh W tk)) fun σ H Q h => h.slc fun s ⟨p, vs, ds, e1, e2, h1, h2, h3, h4, h5⟩ => ⟨p, vs, ds, e1, e2, h1, h2, h3, h4, none_back s h5⟩
def fSlT : D → Option Int → Option Int → Option D
  | .tup ds, lo, hi => some (.tup (cutD ds lo hi))
  | _, _, _ => none
def fSlL : D → Option Int → Option Int → Option D
  | .lst ds, lo, hi => some (.lst (cutD ds lo hi))
  | _, _, _ => none
def fSlS : D → Option Int → Option Int → Option D
  | .str z, lo, hi => if z.length ≤ sizeLine then some (.str (cutS z lo hi)) else none
  | _, _, _ => none
def orSl (f f' : D → Option Int → Option Int → Option D) : D → Option Int → Option Int → Option D := fun x l h => match f x l h with
  | some d => some d
  | none => f' x l h
theorem SlD.or {T : TT1} {f f' : D → Option Int → Option Int → Option D} (h : SlD L X T f) (h' : SlD L X T f') : SlD L X T (orSl f f') := by
  intro pins st σ H x v vl vu lo hi sl Q I rx hs pl pu ⟨Γ, g, σ', dx, d, rp, vx, e, w⟩
  unfold orSl at e
  split at e
  · rename_i d' e'
    cases e
    exact h pins st σ H x v vl vu lo hi sl Q I rx hs pl pu ⟨Γ, g, σ', dx, d, rp, vx, e', w⟩
  · exact h' pins st σ H x v vl vu lo hi sl Q I rx hs pl pu ⟨Γ, g, σ', dx, d, rp, vx, e, w⟩
theorem sld_str : SlD L X DenT fSlS := by
  intro pins st σ H x v vl vu lo hi sl Q I rx hs pl pu ⟨Γ, g, σ', dx, d, rp, vx, e, w⟩
  cases dx with
  | str z =>
    replace e : (if z.length ≤ sizeLine then some (D.str (cutS z lo hi)) else none) = some d := e
    split at e
    · rename_i hz
      cases e
      cases vx.str
      exact sl_str pins st σ H _ v vl vu lo hi sl Q I rx hs pl pu ⟨z, rfl, hz, w _ g H (Stp.refl rp) rfl (.str _)⟩
    · cases e
  | _ => cases e
theorem cutD_all {ds : List D} {lo hi : Option Int} (h : HT.sIx ds.length 0 lo = 0 ∧ HT.sIx ds.length ds.length hi = ds.length) : cutD ds lo hi = ds := by
  unfold cutD
  rw [h.1, h.2, List.drop_zero, Nat.sub_zero, List.take_length]
/-- t[lo:hi], the new tuple's object known -/
theorem sl_tupF {fz : Bool} : SlR X (fun x lo hi H Q => ∃ a xs, x = .ref a ∧ SqT X.K H a xs ∧ (HT.sIx xs.length 0 lo = 0 ∧ HT.sIx xs.length xs.length hi = xs.length → Q (.ref a) H) ∧
    ∀ p o, H p = none → o.cls = .type "tuple" → o.dict = none → Q (.ref p) (upd H p (newT fz o (cutV xs lo hi)))) := by
  intro pins s σ H x v vl vu lo hi sl Q I rx hs pl pu wish
  obtain ⟨a, xs, rfl, sx, g1, g2⟩ := wish
  cases rx
  obtain ⟨ws, vs, tt, fit⟩ := I.tuple sx
  have same : ws.toArray.size = xs.length := by rw [List.size_toArray]; exact vs.length.symm
  refine ⟨"tuple", _, PyProof.Rows.slot_tuple_getitem.lookup, tt.typeIs, ?_⟩
  by_cases whole : HT.sIx xs.length 0 lo = 0 ∧ HT.sIx xs.length xs.length hi = xs.length
  · exact getItem_tuple_whole tt hs pl pu (by rw [same]; exact whole) ⟨.ref a, H, I, rfl, g1 whole⟩
  · refine HT.getItem_tuple_cut tt hs pl pu (by rw [same]; exact whole) ?_ (by rw [same]; exact fit)
    rw [same]
    have k : ∀ (H' : Hp) (us : List Value), Vals (cutV xs lo hi) us → ObjOk X.prog X.w H' (s.heap.push { cls := .type "tuple", data := .seq us.toArray }) s.heap.objs.size (.tup (cutV xs lo hi)) := fun _ us hu => ⟨Nat.le_trans (cutV_length xs lo hi) fit, us, hu, PyProof.Rows.IsTup.new _ _⟩
    have r' := (vs.drop (HT.sIx xs.length 0 lo)).take (HT.sIx xs.length xs.length hi - HT.sIx xs.length 0 lo)
    refine ⟨.ref s.heap.objs.size, _, I.laid (t' := s.toks) (o := newT fz { cls := .type "tuple", data := .seq ((ws.drop (HT.sIx xs.length 0 lo)).take (HT.sIx xs.length xs.length hi - HT.sIx xs.length 0 lo)).toArray } (cutV xs lo hi)) (fun b ob q => Heap.get?_push_of_some _ q) (Nat.le_refl _) ?_, rfl, g2 _ _ (I.hok.fresh (Nat.le_refl _)) rfl rfl⟩
    unfold newT
    split
    · exact ⟨Heap.get?_push_size _ rfl, k _ _ r'⟩
    · exact k _ _ r'
theorem sld_tup (hK : X.K = L.K) : SlD L X DenT fSlT := by
  intro pins st σ H x v vl vu lo hi sl Q I rx hs pl pu ⟨Γ, g, σ', dx, d, rp, vx, e, w⟩
  unfold fSlT at e
  split at e
  · cases e
    obtain ⟨a, vs, rfl, h1, l1, d1⟩ := vx.tup rp.sub
    refine sl_tupF (fz := L.fz) pins st σ H _ v vl vu lo hi sl Q I rx hs pl pu ⟨a, vs, rfl, hK ▸ h1, fun z => ?_, fun p o n hc hd => ?_⟩
    · rw [l1.length] at z
      rw [cutD_all z] at w
      exact w _ g H (Stp.refl rp) rfl d1
    · have s := stp_put (o := newT L.fz o (cutV vs lo hi)) rp n newT_nt
      exact w _ _ _ s rfl (.tup (newT_sq put_F hc hd) (l1.cut.mono s.le s.mu))
  · cases e
theorem sld_list : SlD L X FrT fSlL := by
  intro pins st σ H x v vl vu lo hi sl Q I rx hs pl pu ⟨Γ, g, σ', dx, d, rp, vx, e, w⟩
  unfold fSlL at e
  split at e
  · cases e
    obtain ⟨a, vs, rfl, h1, l1⟩ := vx.lst rp.sub
    refine L2.sl_list pins st σ H _ v vl vu lo hi sl Q I rx hs pl pu ⟨a, vs, rfl, SqL.of h1, fun p n => ?_⟩
    exact w _ _ _ (stp_new (o := .lst (cutV vs lo hi)) rp n false) rfl (FrT.new rp (Stp.refl rp) n l1.cut)
  · cases e
theorem SlD.frz {f : D → Option Int → Option Int → Option D} (h : SlD L X FrT f) : SlD L X DenT f := by
  intro pins st σ H x v vl vu lo hi sl Q I rx hs pl pu ⟨Γ, g, σ', dx, d, rp, vx, e, w⟩
  refine h pins st σ H x v vl vu lo hi sl Q I rx hs pl pu ⟨Γ, g, σ', dx, d, rp, vx, e, fun v g' H' s eb fr => ?_⟩
  obtain ⟨g2, s2, e2, t2⟩ := stp_frz s fr
  exact w v g2 H' s2 (e2.trans eb) t2

/-! x in xs -/
def okIn (x : D) (ds : List D) : Bool := x.pl && D.plL ds && decide (min (D.depL ds) x.dep ≤ 60)
def dIn (x : D) (ds : List D) : Bool := ds.any fun y => dEq y x
theorem any_py (x : D) : ∀ ds : List D, ((D.pyL ds).any fun y => PyData.eqv y x.py) = dIn x ds
  | [] => rfl
  | d :: ds => by
    show (PyData.eqv d.py x.py || (D.pyL ds).any fun y => PyData.eqv y x.py) = (dEq d x || ds.any fun y => dEq y x)
    rw [any_py x ds]
    rfl
def itemsD : D → Option (List D)
  | .lst ds => some ds
  | .tup ds => some ds
  | _ => none
def fIn (neg : Bool) (x y : D) : Option D := match itemsD y with
  | some ds => if okIn x ds then some (.bl (if neg then !dIn x ds else dIn x ds)) else none
  | none => none
theorem od_in (hK : X.K = L.K) (hu : X.A.units + 65 < cLine) : OpD L X (compareOp .In) (fIn false) := by
  intro pins st σ H x y v u Q I rx ry ⟨Γ, g, σ', dx, dy, d, rp, vx, vy, e, w⟩
  unfold fIn at e
  split at e
  · rename_i ds q
    split at e
    · rename_i z
      cases e
      unfold okIn at z
      simp only [Bool.and_eq_true, decide_eq_true_eq] at z
      have py : dy.pl = true := by
        cases dy <;> simp only [itemsD, Option.some.injEq, reduceCtorEq] at q
        · subst q; simp only [D.pl]; exact z.1.2
        · subst q; simp only [D.pl]; exact z.1.2
      obtain ⟨as, r1⟩ := Dp.reads I dx.py x v (hK ▸ vx.dp rp.sub z.1.1) rx
      obtain ⟨bs, r2⟩ := Dp.reads I dy.py y u (hK ▸ vy.dp rp.sub py) ry
      have fin : EP X pins σ Q (.bool ((D.pyL ds).any fun y => PyData.eqv y dx.py)) st := ⟨.bl _, H, I, by rw [any_py]; rfl, w _ g H (Stp.refl rp) rfl (.bl _)⟩
      have room : X.A.units + 1 + min (PyData.depthAll (D.pyL ds)) dx.py.depth < cLine := by rw [D.depth_pyL, D.depth_py]; omega
      cases dy <;> simp only [itemsD, Option.some.injEq, reduceCtorEq] at q
      · subst q
        simp only [D.py] at r2
        exact SeqAt.in_tuple_data r2 r1 (D.plain_pyL _ z.1.2) (D.plain_py _ z.1.1) room fin
      · subst q
        simp only [D.py] at r2
        exact SeqAt.in_list_data r2 r1 (D.plain_pyL _ z.1.2) (D.plain_py _ z.1.1) room fin
    · cases e
  · cases e
theorem od_notIn (hK : X.K = L.K) (hu : X.A.units + 65 < cLine) : OpD L X (compareOp .NotIn) (fIn true) := by
  intro pins st σ H x y v u Q I rx ry ⟨Γ, g, σ', dx, dy, d, rp, vx, vy, e, w⟩
  unfold fIn at e
  split at e
  · rename_i ds q
    split at e
    · rename_i z
      cases e
      unfold okIn at z
      simp only [Bool.and_eq_true, decide_eq_true_eq] at z
      have py : dy.pl = true := by
        cases dy <;> simp only [itemsD, Option.some.injEq, reduceCtorEq] at q
        · subst q; simp only [D.pl]; exact z.1.2
        · subst q; simp only [D.pl]; exact z.1.2
      obtain ⟨as, r1⟩ := Dp.reads I dx.py x v (hK ▸ vx.dp rp.sub z.1.1) rx
      obtain ⟨bs, r2⟩ := Dp.reads I dy.py y u (hK ▸ vy.dp rp.sub py) ry
      have fin : EP X pins σ Q (.bool (!(D.pyL ds).any fun y => PyData.eqv y dx.py)) st := ⟨.bl _, H, I, by rw [any_py]; rfl, w _ g H (Stp.refl rp) rfl (.bl _)⟩
      have room : X.A.units + 1 + min (PyData.depthAll (D.pyL ds)) dx.py.depth < cLine := by rw [D.depth_pyL, D.depth_py]; omega
      cases dy <;> simp only [itemsD, Option.some.injEq, reduceCtorEq] at q
      · subst q
        simp only [D.py] at r2
        exact SeqAt.notIn_tuple_data r2 r1 (D.plain_pyL _ z.1.2) (D.plain_py _ z.1.1) room fin
      · subst q
        simp only [D.py] at r2
        exact SeqAt.notIn_list_data r2 r1 (D.plain_pyL _ z.1.2) (D.plain_py _ z.1.1) room fin
    · cases e
  · cases e
/-- one sign in a text -/
def fInS (neg : Bool) : D → D → Option D
  | .str x, .str z => if x.cps.size = 1 then some (.bl (if neg then !decide (x.cps.getD 0 0 ∈ z.cps.toList) else decide (x.cps.getD 0 0 ∈ z.cps.toList))) else none
  | _, _ => none
theorem sign_eq {x : Str} (h : x.cps.size = 1) : x = ⟨#[x.cps.getD 0 0]⟩ := by
  obtain ⟨⟨l⟩⟩ := x
  match l, h with
  | [c], _ => rfl
theorem ins_of {neg : Bool} {dx dy d : D} (e : fInS neg dx dy = some d) : ∃ c z, dx = .str ⟨#[c]⟩ ∧ dy = .str z ∧ d = .bl (if neg then !decide (c ∈ z.cps.toList) else decide (c ∈ z.cps.toList)) := by
  cases dx with
  | str x =>
    cases dy with
    | str z =>
      replace e : (if x.cps.size = 1 then some (D.bl (if neg then !decide (x.cps.getD 0 0 ∈ z.cps.toList) else decide (x.cps.getD 0 0 ∈ z.cps.toList))) else none) = some d := e
      split at e
      · rename_i h
        cases e
        exact ⟨_, z, by rw [← sign_eq h], rfl, rfl⟩
      · cases e
    | _ => cases e
  | _ => cases dy <;> cases e
theorem od_inS : OpD L X (compareOp .In) (fInS false) := by
  intro pins st σ H x y v u Q I rx ry ⟨Γ, g, σ', dx, dy, d, rp, vx, vy, e, w⟩
  obtain ⟨c, z, rfl, rfl, rfl⟩ := ins_of e
  cases vx.str
  cases vy.str
  exact op_in_sign pins st σ H _ _ v u Q I rx ry ⟨_, _, rfl, rfl, w _ g H (Stp.refl rp) rfl (.bl _)⟩
theorem od_notInS : OpD L X (compareOp .NotIn) (fInS true) := by
  intro pins st σ H x y v u Q I rx ry ⟨Γ, g, σ', dx, dy, d, rp, vx, vy, e, w⟩
  obtain ⟨c, z, rfl, rfl, rfl⟩ := ins_of e
  cases vx.str
  cases vy.str
  exact op_notIn_sign pins st σ H _ _ v u Q I rx ry ⟨_, _, rfl, rfl, w _ g H (Stp.refl rp) rfl (.bl _)⟩
/-- is None -/
def fIsN (neg : Bool) : D → D → Option D
  | .non, .non => some (.bl (!neg))
  | .bl _, .non | .int _, .non | .str _, .non | .tup _, .non | .lst _, .non | .dct _ _, .non | .ins _ _, .non => some (.bl neg)
  | _, _ => none
theorem isn_of {dx dy d : D} {neg : Bool} {x y : V} (vx : Vw L g H x dx) (vy : Vw L g H y dy) (e : fIsN neg dx dy = some d) : y = .non ∧ d = .bl (if neg then !decide (x = .non) else decide (x = .non)) := by
  have hy : dy = .non := by unfold fIsN at e; split at e <;> first | rfl | cases e
  subst hy
  have ey : y = .non := by
    rcases vy with h | ⟨_, _, _, _, e, _⟩ | ⟨_, _, _, _, e, _⟩
    · cases h; rfl
    · cases e
    · cases e
  refine ⟨ey, ?_⟩
  unfold fIsN at e
  rcases vx with h | ⟨p, _, _, rfl, rfl, _⟩ | ⟨p, _, _, rfl, rfl, _⟩
  · cases h <;> cases neg <;> simp_all
  · cases neg <;> simp_all
  · cases neg <;> simp_all
theorem od_isN : OpD L X (compareOp .Is) (fIsN false) := by
  intro pins st σ H x y v u Q I rx ry ⟨Γ, g, σ', dx, dy, d, rp, vx, vy, e, w⟩
  obtain ⟨e1, rfl⟩ := isn_of vx vy e
  exact op_isN pins st σ H _ _ v u Q I rx ry ⟨e1, w _ g H (Stp.refl rp) rfl (.bl _)⟩
theorem od_notN : OpD L X (compareOp .IsNot) (fIsN true) := by
  intro pins st σ H x y v u Q I rx ry ⟨Γ, g, σ', dx, dy, d, rp, vx, vy, e, w⟩
  obtain ⟨e1, rfl⟩ := isn_of vx vy e
  exact op_notN pins st σ H _ _ v u Q I rx ry ⟨e1, w _ g H (Stp.refl rp) rfl (.bl _)⟩
end
end DL
/-! Built-in functions and types, called. -/
namespace DL
open PySem PySem.Spec L2
section
variable {L : Lx} {X : Cx} {g g' : Gh} {H H' : Hp} {σ : L2.St} {Γ : Env} {W : WX} {pos : Pos}
inductive VwL (L : Lx) (g : Gh) (H : Hp) : List V → List D → Prop
  | nil : VwL L g H [] []
  | cons {v : V} {vs : List V} {d : D} {ds : List D} : Vw L g H v d → VwL L g H vs ds → VwL L g H (v :: vs) (d :: ds)
def RdAv (L : Lx) (W : WX) (is : List IE) : TA := fun σ H Q => ∃ Γ g, Rep L Γ g σ H ∧
  (evs is Γ).wpB g.bud (fun ds b => ∀ vs g' H', Stp L g H g' H' → g'.bud = b → VwL L g' H' vs ds → Q vs H') (XW L W g σ H)
def DAv (L : Lx) (X : Cx) (is : List IE) (es : List Expr) : Prop := ∀ W, Takes X W → PA X es (RdAv L W is)
theorem dav_nil : DAv L X [] [] := fun W _ => PA.imp pa_nil fun σ H Q ⟨Γ, g, rp, w⟩ => w [] g H (Stp.refl rp) rfl .nil
theorem dav_cons {i : IE} {is : List IE} {e : Expr} {es : List Expr} (h : DV L X i e) (hr : DAv L X is es) (hs : starEach (e :: es) X.env = (false, eval e X.env) :: starEach es X.env := by rfl) : DAv L X (i :: is) (e :: es) := fun W tk => by
  refine PA.imp (pa_cons (h W tk) (hr W tk) hs) fun σ H Q ⟨Γ, g, rp, w⟩ => ?_
  refine ⟨Γ, g, rp, M.wpB_mono (fun d b h v g1 H1 s e t => ?_) (fun _ _ x => x) _ _ ((M.wpB_bind _ _).mp w)⟩
  subst e
  refine ⟨Γ, g1, rp.step s, M.wpB_mono (fun ds b h vs g2 H2 s2 e2 t2 => ?_) (fun _ _ x => x.of s) _ _ ((M.wpB_bind _ _).mp h)⟩
  exact h (v :: vs) g2 H2 (s.trans s2) e2 (.cons (t.step s2) t2)
theorem RdAv.go {α : Type} {is : List IE} {f : List D → M α} {R : α → Nat → Prop} {Q : List V → Hp → Prop} (r : Rep L Γ g σ H) (h : ((evs is Γ).bind f).wpB g.bud R (XW L W g σ H))
    (k : ∀ vs H1 ds g1, Rep L Γ g1 σ H1 → Stp L g H g1 H1 → VwL L g1 H1 vs ds → (f ds).wpB g1.bud R (XW L W g1 σ H1) → Q vs H1) : RdAv L W is σ H Q := by
  refine ⟨Γ, g, r, M.wpB_mono (fun d b h v g' H' s e t => ?_) (fun _ _ x => x) _ _ ((M.wpB_bind _ _).mp h)⟩
  subst e
  exact k v H' d g' (r.step s) s t (M.wpB_mono (fun _ _ x => x) (fun _ _ x => x.of s) _ _ h)
/-- a built-in's call on values, by what it says of data -/
def RdC (L : Lx) (T : TT1) (f : List D → Option D) : List V → Hp → VK → Prop := fun vs H Q => ∃ Γ g σ ds d, Rep L Γ g σ H ∧ VwL L g H vs ds ∧ f ds = some d ∧ Wn L T g H Q d g.bud
def CaD (L : Lx) (X : Cx) (T : TT1) (v : Value) (f : List D → Option D) : Prop := CallR X v (RdC L T f)
def orC (f f' : List D → Option D) : List D → Option D := fun x => match f x with
  | some d => some d
  | none => f' x
theorem CaD.or {T : TT1} {v : Value} {f f' : List D → Option D} (h : CaD L X T v f) (h' : CaD L X T v f') : CaD L X T v (orC f f') := by
  intro pins st σ H xs us Q I r ⟨Γ, g, σ', ds, d, rp, vs, e, w⟩
  unfold orC at e
  split at e
  · rename_i d' e'
    cases e
    exact h pins st σ H xs us Q I r ⟨Γ, g, σ', ds, d, rp, vs, e', w⟩
  · exact h' pins st σ H xs us Q I r ⟨Γ, g, σ', ds, d, rp, vs, e, w⟩
theorem CaD.frz {v : Value} {f : List D → Option D} (h : CaD L X FrT v f) : CaD L X DenT v f := by
  intro pins st σ H xs us Q I r ⟨Γ, g, σ', ds, d, rp, vs, e, w⟩
  refine h pins st σ H xs us Q I r ⟨Γ, g, σ', ds, d, rp, vs, e, fun v g' H' s eb fr => ?_⟩
  obtain ⟨g2, s2, e2, t2⟩ := stp_frz s fr
  exact w v g2 H' s2 (e2.trans eb) t2
def iBi (f : List D → Option D) (is : List IE) : IE := fun Γ => (evs is Γ).bind fun ds => match f ds with
  | some d => .ret d
  | none => .stuck
theorem RdAv.bi {T : TT1} {f : List D → Option D} {is : List IE} {Q : VK} (hT : ∀ {g g1 : Gh} {H H1 H2 : Hp} {g2 : Gh} {v : V} {d : D}, Stp L g H g1 H1 → T L H1 g2 H2 v d → T L H g2 H2 v d) (h : Rd1 L T W (iBi f is) σ H Q) : RdAv L W is σ H fun vs H1 => RdC L T f vs H1 Q := by
  obtain ⟨Γ, g, rp, w⟩ := h
  refine RdAv.go rp w fun vs H1 ds g1 r1 s1 t1 w => ?_
  split at w
  · rename_i d e
    exact ⟨Γ, g1, σ, ds, d, r1, t1, e, fun v g' H' s eb t => w v g' H' (s1.trans s) eb (hT s1 t)⟩
  · exact w.elim
theorem frT_back {g g1 g2 : Gh} {H H1 H2 : Hp} {v : V} {d : D} (s : Stp L g H g1 H1) : FrT L H1 g2 H2 v d → FrT L H g2 H2 v d := fun ⟨p, vs, ds, e1, e2, h1, h2, h3, h4, h5⟩ => ⟨p, vs, ds, e1, e2, h1, h2, h3, h4, none_back s h5⟩
section
variable {x : Str} {p : Pos} {e : Expr} {es : List Expr} {is : List IE} {id : String} {f : List D → Option D}
theorem de_bi (ho : CaD L X DenT (.builtin id) f) (gl : Gl X x) (mn : X.mg x = none) (bv : bootBuiltins x = some (.builtin id)) (ha : DAv L X is (e :: es)) (n1 : x ≠ "__name__" := by decide) (n2 : (x == ("__debug__" : Str)) = false := by decide)
    (h1 : starEach (e :: es) X.env = (false, eval e X.env) :: starEach es X.env := by rfl) (h2 : (backTo pos (starEach es X.env)).any (·.1) = false := by rfl) : DE L X (iBi f is) (.Call (.Name x p) (e :: es) [] pos) := fun W tk =>
  PE.imp (pe_callB ho gl mn bv (ha W tk) n1 n2 h1 h2) fun σ H Q h => RdAv.bi (fun _ t => t) h
theorem df_bi (ho : CaD L X FrT (.builtin id) f) (gl : Gl X x) (mn : X.mg x = none) (bv : bootBuiltins x = some (.builtin id)) (ha : DAv L X is (e :: es)) (n1 : x ≠ "__name__" := by decide) (n2 : (x == ("__debug__" : Str)) = false := by decide)
    (h1 : starEach (e :: es) X.env = (false, eval e X.env) :: starEach es X.env := by rfl) (h2 : (backTo pos (starEach es X.env)).any (·.1) = false := by rfl) : DF L X (iBi f is) (.Call (.Name x p) (e :: es) [] pos) := fun W tk =>
  PE.imp (pe_callB ho gl mn bv (ha W tk) n1 n2 h1 h2) fun σ H Q h => RdAv.bi frT_back h
theorem de_ty (ho : CaD L X DenT (.type id) f) (gl : Gl X x) (mn : X.mg x = none) (bv : bootBuiltins x = some (.type id)) (ha : DAv L X is (e :: es)) (n1 : x ≠ "__name__" := by decide) (n2 : (x == ("__debug__" : Str)) = false := by decide)
    (h1 : starEach (e :: es) X.env = (false, eval e X.env) :: starEach es X.env := by rfl) (h2 : (backTo pos (starEach es X.env)).any (·.1) = false := by rfl) : DE L X (iBi f is) (.Call (.Name x p) (e :: es) [] pos) := fun W tk =>
  PE.imp (pe_callTy ho gl mn bv (ha W tk) n1 n2 h1 h2) fun σ H Q h => RdAv.bi (fun _ t => t) h
theorem df_ty (ho : CaD L X FrT (.type id) f) (gl : Gl X x) (mn : X.mg x = none) (bv : bootBuiltins x = some (.type id)) (ha : DAv L X is (e :: es)) (n1 : x ≠ "__name__" := by decide) (n2 : (x == ("__debug__" : Str)) = false := by decide)
    (h1 : starEach (e :: es) X.env = (false, eval e X.env) :: starEach es X.env := by rfl) (h2 : (backTo pos (starEach es X.env)).any (·.1) = false := by rfl) : DF L X (iBi f is) (.Call (.Name x p) (e :: es) [] pos) := fun W tk =>
  PE.imp (pe_callTy ho gl mn bv (ha W tk) n1 n2 h1 h2) fun σ H Q h => RdAv.bi frT_back h
end

/-! the built-ins -/
theorem VwL.one {vs : List V} {d : D} (h : VwL L g H vs [d]) : ∃ v, vs = [v] ∧ Vw L g H v d := by
  cases h with
  | cons a l => cases l; exact ⟨_, rfl, a⟩
theorem VwL.two {vs : List V} {d e : D} (h : VwL L g H vs [d, e]) : ∃ v u, vs = [v, u] ∧ Vw L g H v d ∧ Vw L g H u e := by
  cases h with
  | cons a l => cases l with
    | cons b l => cases l; exact ⟨_, _, rfl, a, b⟩
def fLen : List D → Option D
  | [.str z] => if z.length ≤ sizeLine then some (.int z.length) else none
  | [.lst ds] => some (.int ds.length)
  | [.tup ds] => some (.int ds.length)
  | [.scr ns] => some (.int ns.length)
  | _ => none
theorem ca_len (hK : X.K = L.K) : CaD L X DenT (.builtin "len") fLen := by
  intro pins st σ H xs us Q I r ⟨Γ, g, σ', ds, d, rp, vs, e, w⟩
  unfold fLen at e
  split at e
  · split at e
    · rename_i z hz
      cases e
      obtain ⟨v, rfl, a⟩ := vs.one
      cases a.str
      exact call_len pins st σ H _ us Q I r ⟨_, z.length, rfl, ⟨hz, rfl⟩, w _ g H (Stp.refl rp) rfl (.int _)⟩
    · cases e
  · rename_i ds
    cases e
    obtain ⟨v, rfl, a⟩ := vs.one
    obtain ⟨p, ws, rfl, h1, l1⟩ := a.lst rp.sub
    exact call_len pins st σ H _ us Q I r ⟨_, ds.length, rfl, .inl ⟨ws, SqL.of h1, l1.length.symm⟩, w _ g H (Stp.refl rp) rfl (.int _)⟩
  · rename_i ds
    cases e
    obtain ⟨v, rfl, a⟩ := vs.one
    obtain ⟨p, ws, rfl, h1, l1, _⟩ := a.tup rp.sub
    exact call_len pins st σ H _ us Q I r ⟨_, ds.length, rfl, .inr ⟨ws, hK ▸ h1, l1.length.symm⟩, w _ g H (Stp.refl rp) rfl (.int _)⟩
  · rename_i ns
    cases e
    obtain ⟨v, rfl, a⟩ := vs.one
    rcases a with h | ⟨_, _, _, _, e, _⟩ | ⟨_, _, _, _, e, _⟩
    · cases h with
      | scr h => exact call_len pins st σ H _ us Q I r ⟨_, ns.length, rfl, .inl ⟨_, hK ▸ sqL_mono rp.sub h, by rw [List.length_map]⟩, w _ g H (Stp.refl rp) rfl (.int _)⟩
    · cases e
    · cases e
  · cases e
def fInt : List D → Option D
  | [.int i] => some (.int i)
  | [.bl k] => some (.int (if k then 1 else 0))
  | _ => none
theorem ca_int : CaD L X DenT (.type "int") fInt := by
  intro pins st σ H xs us Q I r ⟨Γ, g, σ', ds, d, rp, vs, e, w⟩
  unfold fInt at e
  split at e
  · cases e
    obtain ⟨v, rfl, a⟩ := vs.one
    cases a.int
    exact call_int1 pins st σ H _ us Q I r (.inl ⟨_, rfl, w _ g H (Stp.refl rp) rfl (.int _)⟩)
  · cases e
    obtain ⟨v, rfl, a⟩ := vs.one
    cases a.bl
    exact call_int1 pins st σ H _ us Q I r (.inr ⟨_, rfl, w _ g H (Stp.refl rp) rfl (.int _)⟩)
  · cases e
def fMin2 : List D → Option D
  | [.int i, .int j] => some (.int (if j < i then j else i))
  | _ => none
def fMax2 : List D → Option D
  | [.int i, .int j] => some (.int (if j > i then j else i))
  | _ => none
theorem ca_min2 (hc : X.calm = true) : CaD L X DenT (.builtin "min") fMin2 := by
  intro pins st σ H xs us Q I r ⟨Γ, g, σ', ds, d, rp, vs, e, w⟩
  unfold fMin2 at e
  split at e
  · cases e
    obtain ⟨v, u, rfl, a, b⟩ := vs.two
    cases a.int
    cases b.int
    exact call_min2 hc pins st σ H _ us Q I r ⟨_, _, rfl, w _ g H (Stp.refl rp) rfl (.int _)⟩
  · cases e
theorem ca_max2 (hc : X.calm = true) : CaD L X DenT (.builtin "max") fMax2 := by
  intro pins st σ H xs us Q I r ⟨Γ, g, σ', ds, d, rp, vs, e, w⟩
  unfold fMax2 at e
  split at e
  · cases e
    obtain ⟨v, u, rfl, a, b⟩ := vs.two
    cases a.int
    cases b.int
    exact call_max2 hc pins st σ H _ us Q I r ⟨_, _, rfl, w _ g H (Stp.refl rp) rfl (.int _)⟩
  · cases e
/-- tuple(xs), list(xs) -/
def fTuple : List D → Option D
  | [.lst ds] => some (.tup ds)
  | [.tup ds] => some (.tup ds)
  | _ => none
/-- tuple(xs), its object known -/
theorem call_tuple_ofF {fz : Bool} : CallR X (.type "tuple") (fun xs H Q => ∃ p ys, xs = [.ref p] ∧ ((SqL X.K H p ys ∧ ∀ l o, H l = none → o.cls = .type "tuple" → o.dict = none → Q (.ref l) (upd H l (newT fz o ys))) ∨ (SqT X.K H p ys ∧ Q (.ref p) H))) := by
  intro pins s σ H xs us Q I r wish
  obtain ⟨p, ys, rfl, wish⟩ := wish
  obtain ⟨u, rfl, ru⟩ := vals1 r
  cases ru
  rcases wish with ⟨sq, g⟩ | ⟨sq, g⟩
  · obtain ⟨ws, vs, tt, fit⟩ := I.list sq
    have hlen := vs.length
    refine PySem.call_tuple_list tt.isList (fun h' kept => ?_) (by simp only [List.size_toArray] <;> omega)
    have J : Inv X pins σ H { s with heap := h' } := I.kept (t' := s.toks) kept
    have k : ∀ H', ObjOk X.prog X.w H' (h'.push { cls := .type "tuple", data := .seq ws.toArray }) h'.objs.size (.tup ys) := fun _ => ⟨fit, ws, vs, PyProof.Rows.IsTup.new _ _⟩
    have I2 : Inv X pins σ (upd H h'.objs.size (newT fz { cls := .type "tuple", data := .seq ws.toArray } ys)) { s with heap := h'.push { cls := .type "tuple", data := .seq ws.toArray } } :=
      J.laid (t' := s.toks) (fun b o e => Heap.get?_push_of_some _ e) (Nat.le_refl _) (by
        unfold newT
        split
        · exact ⟨Heap.get?_push_size _ rfl, k _⟩
        · exact k _)
    exact ⟨.ref h'.objs.size, _, I2, rfl, g _ { cls := .type "tuple", data := .seq ws.toArray } (J.hok.fresh (Nat.le_refl _)) rfl rfl⟩
  · obtain ⟨ws, vs, tt, fit⟩ := I.tuple sq
    exact PySem.call_tuple_same tt ⟨.ref p, H, I, rfl, g⟩
theorem ca_tuple (hK : X.K = L.K) : CaD L X DenT (.type "tuple") fTuple := by
  intro pins st σ H xs us Q I r ⟨Γ, g, σ', ds, d, rp, vs, e, w⟩
  unfold fTuple at e
  split at e
  · rename_i ds
    cases e
    obtain ⟨v, rfl, a⟩ := vs.one
    obtain ⟨p, ws, rfl, h1, l1⟩ := a.lst rp.sub
    refine call_tuple_ofF (fz := L.fz) pins st σ H _ us Q I r ⟨p, ws, rfl, .inl ⟨SqL.of h1, fun q o n hc hd => ?_⟩⟩
    have s := stp_put (o := newT L.fz o ws) rp n newT_nt
    exact w _ _ _ s rfl (.tup (newT_sq put_F hc hd) (l1.mono s.le s.mu))
  · rename_i ds
    cases e
    obtain ⟨v, rfl, a⟩ := vs.one
    obtain ⟨p, ws, rfl, h1, l1, t⟩ := a.tup rp.sub
    exact call_tuple_of pins st σ H _ us Q I r ⟨p, ws, rfl, .inr ⟨hK ▸ h1, w _ g H (Stp.refl rp) rfl t⟩⟩
  · cases e
def fList : List D → Option D
  | [.lst ds] => some (.lst ds)
  | [.tup ds] => some (.lst ds)
  | _ => none
theorem ca_list (hK : X.K = L.K) : CaD L X FrT (.type "list") fList := by
  intro pins st σ H xs us Q I r ⟨Γ, g, σ', ds, d, rp, vs, e, w⟩
  have fin : ∀ {ws : List V} {ds : List D} {q : Addr}, DenL L g ws ds → H q = none → Wn L FrT g H Q (.lst ds) g.bud → Q (.ref q) (upd H q (.lst ws)) := fun {ws ds q} l n w =>
    w _ g _ (stp_new (o := .lst ws) rp n false) rfl (FrT.new rp (Stp.refl rp) n l)
  unfold fList at e
  split at e
  · rename_i ds
    cases e
    obtain ⟨v, rfl, a⟩ := vs.one
    obtain ⟨p, ws, rfl, h1, l1⟩ := a.lst rp.sub
    exact call_list_of pins st σ H _ us Q I r ⟨p, ws, rfl, .inl (SqL.of h1), fun q n => fin l1 n w⟩
  · rename_i ds
    cases e
    obtain ⟨v, rfl, a⟩ := vs.one
    obtain ⟨p, ws, rfl, h1, l1, _⟩ := a.tup rp.sub
    exact call_list_of pins st σ H _ us Q I r ⟨p, ws, rfl, .inr (hK ▸ h1), fun q n => fin l1 n w⟩
  · cases e
/-- all(xs), any(xs) of truth values -/
def boolsD : List D → Option (List Bool)
  | [] => some []
  | .bl b :: r => (boolsD r).map (b :: ·)
  | _ => none
theorem DenL.bools : ∀ {vs : List V} {ds : List D} {bs : List Bool}, DenL L g vs ds → boolsD ds = some bs → vs = bs.map V.bl
  | _, _, bs, .nil, e => by cases e; rfl
  | _, _, bs, .cons (d := d) a l, e => by
    cases a with
    | bl b =>
      unfold boolsD at e
      cases q : boolsD _ with
      | none => rw [q] at e; cases e
      | some cs =>
        rw [q] at e
        cases e
        rw [l.bools q]
        rfl
    | _ => cases e
def fAll : List D → Option D
  | [.lst ds] => (boolsD ds).map fun bs => .bl (bs.all id)
  | _ => none
theorem ca_all (hc : X.calm = true) : CaD L X DenT (.builtin "all") fAll := by
  intro pins st σ H xs us Q I r ⟨Γ, g, σ', ds, d, rp, vs, e, w⟩
  unfold fAll at e
  split at e
  · rename_i ds
    obtain ⟨v, rfl, a⟩ := vs.one
    obtain ⟨p, ws, rfl, h1, l1⟩ := a.lst rp.sub
    cases q : boolsD ds with
    | none => rw [q] at e; cases e
    | some bs =>
      rw [q] at e
      cases e
      exact cr_all hc pins st σ H _ us Q I r ⟨p, bs, rfl, by rw [← l1.bools q]; exact SqL.of h1, w _ g H (Stp.refl rp) rfl (.bl _)⟩
  · cases e
end
end DL
/-! Lists of one's own, changed in place. -/
namespace DL
open PySem PySem.Spec L2
section
variable {L : Lx} {X : Cx} {g0 g g' : Gh} {H0 H H' : Hp} {σ σ' : L2.St} {Γ Γ' : Env} {W : WX} {pos : Pos}
/-- the frame's data where a list of one's own is changed -/
theorem RepS.upd {n : Nat} {p : Addr} {ds ds' : List D} {vs vs' : List V} (r : RepS L g0 H0 Γ g σ H) (en : Γ[n]? = some (some (.ol ds))) (es : σ[n]? = some (some (.ref p))) (h1 : H p = some (.lst vs)) (h3 : g.F p = none) (h4 : ¬ InM g.mu H p)
    (l : DenL L g vs' ds') : RepS L g0 H0 (Γ.set n (some (.ol ds'))) g σ (L2.upd H p (.lst vs')) := by
  have n0 : H0 p = none := r.new n _ p en rfl es
  have hl : n < Γ.length := (List.getElem?_eq_some_iff.mp en).1
  have s := stp_upd (ws := vs') r.base n0 h1 h3 h4
  have at_ : ∀ (i : Nat) (b : B), (Γ.set n (some (.ol ds')))[i]? = some (some b) → (i = n ∧ b = .ol ds') ∨ (i ≠ n ∧ Γ[i]? = some (some b)) := fun i b e => by
    by_cases h : i = n
    · subst h
      rw [List.getElem?_set_self hl] at e
      cases e
      exact .inl ⟨rfl, rfl⟩
    · rw [List.getElem?_set_ne (Ne.symm h)] at e
      exact .inr ⟨h, e⟩
  refine ⟨⟨s.sub, s.rnd, s.tab, fun i b e => ?_, fun i j b c q e1 e2 o1 o2 s1 s2 => ?_, s.nm, by rw [List.length_set]; exact r.rep.len⟩, s, fun i b q e o sq => ?_⟩
  · rcases at_ i b e with ⟨rfl, rfl⟩ | ⟨hi, e⟩
    · exact ⟨_, es, p, vs', rfl, upd_same, l, h3, fun z => h4 (inM_upd z)⟩
    · obtain ⟨x, ex, hb⟩ := r.rep.loc i b e
      refine ⟨x, ex, ?_⟩
      cases b with
      | fz d => exact hb
      | ol es' =>
        obtain ⟨q, ws, rfl, a1, a2, a3, a4⟩ := hb
        have nq : q ≠ p := fun z => hi (r.rep.dis i n _ _ p e en rfl rfl (z ▸ ex) es)
        exact ⟨q, ws, rfl, by rw [upd_ne nq]; exact a1, a2, a3, fun z => a4 (inM_upd z)⟩
      | od t kvs =>
        obtain ⟨q, rfl, a1, a2, a3⟩ := hb
        have nq : q ≠ p := fun z => hi (r.rep.dis i n _ _ p e en rfl rfl (z ▸ ex) es)
        exact ⟨q, rfl, a1, fun z => a2 (inM_upd z), a3.step (upd_ne nq) (fun _ _ e => e) fun _ e => e⟩
      | os m fs =>
        obtain ⟨q, dx, ws, rfl, sq, a1, a2, a3, a4⟩ := hb
        have nq : q ≠ p := fun z => hi (r.rep.dis i n _ _ p e en rfl rfl (z ▸ ex) es)
        exact ⟨q, dx, ws, rfl, sq, by rw [upd_ne nq]; exact a1, a2, a3, fun z => a4 (inM_upd z)⟩
  · have f : ∀ (i : Nat) (b : B), (Γ.set n (some (.ol ds')))[i]? = some (some b) → b.own = true → ∃ b', Γ[i]? = some (some b') ∧ b'.own = true := fun i b e o => by
      rcases at_ i b e with ⟨rfl, rfl⟩ | ⟨_, e⟩
      · exact ⟨_, en, rfl⟩
      · exact ⟨b, e, o⟩
    obtain ⟨b', e1', o1'⟩ := f i b e1 o1
    obtain ⟨c', e2', o2'⟩ := f j c e2 o2
    exact r.rep.dis i j b' c' q e1' e2' o1' o2' s1 s2
  · rcases at_ i b e with ⟨rfl, rfl⟩ | ⟨_, e⟩
    · rw [es] at sq
      cases sq
      exact n0
    · exact r.new i b q e o sq
/-- a slot is given a new list of one's own -/
theorem RepS.setOwn {n : Nat} {v : V} {ds : List D} {g1 : Gh} {H1 : Hp} (r0 : RepS L g0 H0 Γ g σ H) (s : Stp L g H g1 H1) (h : FrT L H g1 H1 v (.lst ds)) : RepS L g0 H0 (Γ.set n (some (.ol ds))) g1 (σ.set n (some v)) H1 := by
  obtain ⟨p, vs, ds', rfl, e, h1, h2, h3, h4, h5⟩ := h
  cases e
  have r := r0.step s
  have at_ : ∀ (i : Nat) (b : B), (Γ.set n (some (.ol ds)))[i]? = some (some b) → (i = n ∧ b = .ol ds ∧ (σ.set n (some (.ref p)))[i]? = some (some (.ref p))) ∨ (i ≠ n ∧ Γ[i]? = some (some b) ∧ (σ.set n (some (.ref p)))[i]? = σ[i]?) := fun i b e => by
    by_cases h : i = n
    · subst h
      by_cases hl : i < Γ.length
      · rw [List.getElem?_set_self hl] at e
        cases e
        exact .inl ⟨rfl, rfl, List.getElem?_set_self (by rw [← r.rep.len]; exact hl)⟩
      · rw [List.getElem?_eq_none (by simpa using hl)] at e; cases e
    · rw [List.getElem?_set_ne (Ne.symm h)] at e
      exact .inr ⟨h, e, List.getElem?_set_ne (Ne.symm h)⟩
  have old : ∀ (i : Nat) (b : B) (q : Addr), Γ[i]? = some (some b) → b.own = true → σ[i]? = some (some (.ref q)) → q ≠ p := fun i b q e o sq z => by
    subst z
    obtain ⟨x, ex, hb⟩ := r0.rep.loc i b e
    rw [sq] at ex
    cases ex
    cases b with
    | fz d => cases o
    | ol es' => obtain ⟨q, ws, e1, a1, _⟩ := hb; cases e1; rw [h5] at a1; cases a1
    | od t kvs => obtain ⟨q, e1, _, _, a3⟩ := hb; cases e1; rcases a3 with ⟨_, _, _, a, _⟩ | ⟨_, _, _, a, _⟩ <;> rw [h5] at a <;> cases a
    | os m fs => obtain ⟨q, dx, ws, e1, _, a1, _⟩ := hb; cases e1; rw [h5] at a1; cases a1
  refine ⟨⟨r.rep.sub, r.rep.rnd, r.rep.tab, fun i b e => ?_, fun i j b c q e1 e2 o1 o2 s1 s2 => ?_, r.rep.nF, by rw [List.length_set, List.length_set]; exact r.rep.len⟩, r.base, fun i b q e o sq => ?_⟩
  · rcases at_ i b e with ⟨rfl, rfl, t⟩ | ⟨_, e, t⟩
    · exact ⟨_, t, p, vs, rfl, h1, h2, h3, h4⟩
    · rw [t]; exact r.rep.loc i b e
  · rcases at_ i b e1 with ⟨i1, b1, t1⟩ | ⟨n1, f1, t1⟩
    · rcases at_ j c e2 with ⟨j1, c1, t2⟩ | ⟨n2, f2, t2⟩
      · exact i1.trans j1.symm
      · rw [t1] at s1
        cases s1
        rw [t2] at s2
        exact absurd rfl (old j c p f2 o2 s2)
    · rw [t1] at s1
      rcases at_ j c e2 with ⟨j1, c1, t2⟩ | ⟨n2, f2, t2⟩
      · rw [t2] at s2
        cases s2
        exact absurd rfl (old i b p f1 o1 s1)
      · rw [t2] at s2
        exact r.rep.dis i j b c q f1 f2 o1 o2 s1 s2
  · rcases at_ i b e with ⟨rfl, rfl, t⟩ | ⟨_, e, t⟩
    · rw [t] at sq
      cases sq
      exact none_back r0.base h5
    · exact r.new i b q e o (t ▸ sq)

variable {e : Expr} {i : IE}
def sOwn (n : Nat) (i : IE) : IS := fun Γ => (i Γ).bind fun d => match d with
  | .lst ds => .ret (.nx (Γ.set n (some (.ol ds))))
  | _ => .stuck
theorem ds_own {n : Nat} {x : Str} {pos' : Pos} (hN : X.N.Nodup) (hi : X.N[n]? = some x) (hx : Loc X.env.scope x) (h : DF L X i e) (hs : swapsWith e (some (.Name x pos')) pos.line X.env = pure false := by rfl)
    (hf : X.fn x = true ∨ X.env.scope.names.lookup x = some .local := by first | exact .inl rfl | exact .inr rfl) : DS L X (sOwn n i) (.Assign [.Name x pos'] e pos) := fun W g0 H0 tk => by
  refine PS.imp (ps_set hN hi hx (h W tk) hs hf) fun Dn σ H ⟨Γ, g, r, w⟩ => Rd1.goS r w fun v H1 d g1 r1 s t w => ?_
  cases d with
  | lst ds => exact w g1 _ H1 (r.setOwn s t) s.fle rfl
  | _ => exact w.elim
/-- x.append(e), x a local list of one's own -/
def sApp (n : Nat) (i : IE) : IS := fun Γ => match Γ[n]? with
  | some (some (.ol ds)) => (i Γ).bind fun d => if ds.length < sizeLine then .ret (.nx (Γ.set n (some (.ol (ds ++ [d]))))) else .stuck
  | _ => .stuck
theorem ds_app {n : Nat} {e : Expr} (h : ∀ W, Takes X W → PE X e (tBM X.K "list" rAppend (tVar n) (tCons (Rd1 L DenT W i) tNil))) (hs : swapsWith e none pos.line X.env = pure false := by rfl) :
    DS L X (sApp n i) (.Expr e pos) := fun W g0 H0 tk => by
  refine PS.imp (ps_expr (h W tk) hs) fun Dn σ H ⟨Γ, g, r, w⟩ => ?_
  unfold sApp at w
  split at w
  · rename_i ds en
    obtain ⟨xv, es, p, vs, e2, h1, h2, h3, h4⟩ := r.rep.loc _ _ en
    subst e2
    refine ⟨.ref p, es, .inl ⟨rfl, vs, .inl (.inl h1)⟩, Rd1.goS r w fun v H1 d g1 r1 s t w => ?_⟩
    split at w
    · rename_i z
      obtain ⟨e1, m1⟩ := s.keep p _ h1 (fun _ z => nomatch z) h4
      have f1 := (s.nf p (by rw [h1]; simp)).2 h3
      have l1 := h2.mono s.le s.mu
      exact ⟨p, vs, v, rfl, rfl, e1, by rw [h2.length]; exact z, w g1 σ _ (r1.upd en es e1 f1 m1 (l1.append (.cons t .nil))) s.fle rfl⟩
    · exact w.elim
  · exact w.elim
/-- x.extend(ys) -/
def sExt (n : Nat) (i : IE) : IS := fun Γ => match Γ[n]? with
  | some (some (.ol ds)) => (i Γ).bind fun d => match d with
    | .lst es => if ds.length + es.length ≤ sizeLine then .ret (.nx (Γ.set n (some (.ol (ds ++ es))))) else .stuck
    | _ => .stuck
  | _ => .stuck
theorem ds_ext {n : Nat} {e : Expr} (h : ∀ W, Takes X W → PE X e (tBM X.K "list" rExtend (tVar n) (tCons (Rd1 L DenT W i) tNil))) (hs : swapsWith e none pos.line X.env = pure false := by rfl) :
    DS L X (sExt n i) (.Expr e pos) := fun W g0 H0 tk => by
  refine PS.imp (ps_expr (h W tk) hs) fun Dn σ H ⟨Γ, g, r, w⟩ => ?_
  unfold sExt at w
  split at w
  · rename_i ds en
    obtain ⟨xv, es, p, vs, e2, h1, h2, h3, h4⟩ := r.rep.loc _ _ en
    subst e2
    refine ⟨.ref p, es, .inl ⟨rfl, vs, .inl (.inl h1)⟩, Rd1.goS r w fun v H1 d g1 r1 s t w => ?_⟩
    obtain ⟨e1, m1⟩ := s.keep p _ h1 (fun _ z => nomatch z) h4
    have f1 := (s.nf p (by rw [h1]; simp)).2 h3
    have l1 := h2.mono s.le s.mu
    cases d with
    | lst us =>
      replace w : (if ds.length + us.length ≤ sizeLine then M.ret (Fl.nx (Γ.set n (some (.ol (ds ++ us))))) else M.stuck).wpB g1.bud (FlT L g0 H0 g Dn) (XS L W g0 H0) := w
      split at w
      · rename_i z
        cases id t with
        | @lst b ws _ eb lb =>
          exact ⟨p, b, vs, ws, rfl, rfl, e1, r1.rep.sub _ _ eb, by rw [h2.length, lb.length]; exact z, w g1 σ _ (r1.upd en es e1 f1 m1 (l1.append lb)) s.fle rfl⟩
      · exact w.elim
    | _ => exact w.elim
  · exact w.elim
/-- return x, x a list of one's own; x is data from now on -/
def sRetOwn (n : Nat) : IS := fun Γ => match Γ[n]? with
  | some (some (.ol ds)) => .ret (.rt (.lst ds))
  | _ => .stuck
theorem RepS.frzL {n : Nat} {ds : List D} (r : RepS L g0 H0 Γ g σ H) (en : Γ[n]? = some (some (.ol ds))) : ∃ v g1, σ[n]? = some (some v) ∧ RepS L g0 H0 (Γ.set n (some (.fz (.lst ds)))) g1 σ H ∧ FLe g g1 ∧ g1.bud = g.bud ∧ Den L g1 v (.lst ds) := by
  obtain ⟨xv, es, p, vs, e2, h1, h2, h3, h4⟩ := r.rep.loc _ _ en
  subst e2
  have n0 : H0 p = none := r.new n _ p en rfl es
  have le : ∀ a o, g.F a = some o → (g.put p (.lst vs)).F a = some o := fun a o e => upd_keep h3 e
  have hF : ∀ a u, (g.put p (.lst vs)).F a = some u → (a = p ∧ u = .lst vs) ∨ g.F a = some u := fun a u e => by
    by_cases h : a = p
    · subst h
      have e' : L2.upd g.F a (.lst vs) a = some u := e
      rw [upd_same] at e'
      exact .inl ⟨rfl, (Option.some.inj e').symm⟩
    · have e' : L2.upd g.F p (.lst vs) a = some u := e
      rw [upd_ne h] at e'
      exact .inr e'
  have hl : n < Γ.length := (List.getElem?_eq_some_iff.mp en).1
  have sub : ∀ a o, (g.put p (.lst vs)).F a = some o → H a = some o := fun a o e => by
    rcases hF a o e with ⟨rfl, rfl⟩ | e
    · exact h1
    · exact r.rep.sub a o e
  have nm : ∀ a o, (g.put p (.lst vs)).F a = some o → ¬ InM g.mu H a := fun a o e => by
    rcases hF a o e with ⟨rfl, rfl⟩ | e
    · exact h4
    · exact r.rep.nF a o e
  have dn : Den L (g.put p (.lst vs)) (.ref p) (.lst ds) := .lst put_F (h2.mono le fun _ e => e)
  have at_ : ∀ (i : Nat) (b : B), (Γ.set n (some (.fz (.lst ds))))[i]? = some (some b) → (i = n ∧ b = .fz (.lst ds)) ∨ (i ≠ n ∧ Γ[i]? = some (some b)) := fun i b e => by
    by_cases h : i = n
    · subst h
      rw [List.getElem?_set_self hl] at e
      cases e
      exact .inl ⟨rfl, rfl⟩
    · rw [List.getElem?_set_ne (Ne.symm h)] at e
      exact .inr ⟨h, e⟩
  refine ⟨.ref p, g.put p (.lst vs), es, ⟨⟨sub, r.rep.rnd, r.rep.tab, fun i b e => ?_, fun i j b c q e1 e2 o1 o2 s1 s2 => ?_, nm, by rw [List.length_set]; exact r.rep.len⟩, ⟨fun a o e => le a o (r.base.le a o e), r.base.mu, sub, r.base.keep, fun a hn => ⟨(r.base.nf a hn).1, fun e => ?_⟩, nm, r.base.rnd, r.base.bud, r.base.tab⟩, fun i b q e o sq => ?_⟩, ⟨le, fun _ e => e⟩, rfl, dn⟩
  · rcases at_ i b e with ⟨rfl, rfl⟩ | ⟨hi, e⟩
    · exact ⟨_, es, .ref p, rfl, dn⟩
    · obtain ⟨x, ex, hb⟩ := r.rep.loc i b e
      refine ⟨x, ex, ?_⟩
      have np : ∀ q, x = some (.ref q) → b.own = true → q ≠ p := fun q eq o z => hi (r.rep.dis i n _ _ p e en o rfl (by rw [ex, eq, z]) es)
      have fz : ∀ q, q ≠ p → g.F q = none → (g.put p (.lst vs)).F q = none := fun q nq e => (upd_ne nq).trans e
      cases b with
      | fz d => obtain ⟨v, e1, t⟩ := hb; exact ⟨v, e1, t.mono le fun _ e => e⟩
      | ol es' =>
        obtain ⟨q, ws, rfl, a1, a2, a3, a4⟩ := hb
        exact ⟨q, ws, rfl, a1, a2.mono le (fun _ e => e), fz q (np q rfl rfl) a3, a4⟩
      | od t kvs =>
        obtain ⟨q, rfl, a1, a2, a3⟩ := hb
        exact ⟨q, rfl, fz q (np q rfl rfl) a1, a2, a3.step rfl le fun _ e => e⟩
      | os m fs =>
        obtain ⟨q, dx, ws, rfl, sq, a1, a2, a3, a4⟩ := hb
        exact ⟨q, dx, ws, rfl, sq, a1, a2.mono le (fun _ e => e), fz q (np q rfl rfl) a3, a4⟩
  · rcases at_ i b e1 with ⟨_, rfl⟩ | ⟨_, e1⟩
    · cases o1
    rcases at_ j c e2 with ⟨_, rfl⟩ | ⟨_, e2⟩
    · cases o2
    exact r.rep.dis i j b c q e1 e2 o1 o2 s1 s2
  · have q : a ≠ p := fun z => hn (by rw [z]; exact n0)
    exact (upd_ne q).trans ((r.base.nf a hn).2 e)
  · rcases at_ i b e with ⟨_, rfl⟩ | ⟨_, e⟩
    · cases o
    · exact r.new i b q e o sq
theorem ds_retOwn {n : Nat} {x : Str} {p1 : Pos} (hx : PE X (.Name x p1) (tVar n)) : DS L X (sRetOwn n) (.Return (some (.Name x p1)) pos) := fun W g0 H0 tk => by
  refine PS.imp (ps_ret hx) fun Dn σ H ⟨Γ, g, r, w⟩ => ?_
  unfold sRetOwn at w
  split at w
  · rename_i ds en
    obtain ⟨v, g1, es, r1, _, eb, t⟩ := r.frzL en
    exact ⟨v, es, w g1 v H r1.base eb t⟩
  · exact w.elim
/-- ahead of a statement: a list of one's own is data from now on -/
def sFrz (n : Nat) (s : IS) : IS := fun Γ => match Γ[n]? with
  | some (some (.ol ds)) => s (Γ.set n (some (.fz (.lst ds))))
  | _ => .stuck
theorem ds_frz {n : Nat} {s : IS} {st : Stmt} (h : DS L X s st) : DS L X (sFrz n s) st := fun W g0 H0 tk => by
  refine PS.imp (h W g0 H0 tk) fun Dn σ H ⟨Γ, g, r, w⟩ => ?_
  unfold sFrz at w
  split at w
  · rename_i ds en
    obtain ⟨v, g1, es, r1, f, eb, t⟩ := r.frzL en
    exact ⟨_, g1, r1, by rw [eb]; exact M.wpB_mono (fun _ _ z => z.of f) (fun _ _ x => x) _ _ w⟩
  · exact w.elim
end
end DL
/-! The law's own draws. -/
namespace DL
open PySem PySem.Spec L2
section
variable {L : Lx} {g : Gh} {H H' : Hp} {σ : L2.St} {Γ : Env}
theorem fg_raw {P : Program} {w : World} {mg : Str → Option Value} {base : Heap} {x qual : Str} {st : Stmt} {f : Addr} {fd : FuncData} {N ps : List Str} {k : Nat} {m : List D → M D} (F : Fun L.K x qual st f fd) (S : FnScope N ps (defScope st))
    (hb : ∀ (cdv : Value) (A : Around) (outer : List PySem.Env) (s : Shared) (H : Hp) (E : XK) (vs : List V) (Q : VK), Room k (A.deeper (PyProof.Rows.envOfC qual (defScope st) s.heap.objs.size f cdv)) → SpD L m vs H Q E → vs.length = ps.length →
      ∃ t, PSs (cxOf (L2.CX P w) P w L.K mg base N qual (defScope st) f cdv A outer s H E) (defBody st) t ∧ t { nx := fun _ H' => Q .non H', rt := Q } (L2.start N vs) H) : FG L P w mg base (k + 1) f fd ps m := by
  refine ⟨fun A outer s H args us vs Q E hr hg e0 bt r hl sp => ?_⟩
  obtain ⟨oc, od, kV, doc, pm, an, cdv, ct, osl, rfl, lk, hcd⟩ := F.ex
  exact LamX.run_ofS lk hcd S hr e0 bt r (r.length.trans hl) fun hr' => hb cdv A outer s H E vs Q hr' sp (r.length.trans hl)

/-- m as it stands, from the heap H at the entry -/
structure MS (am c l : Addr) (cs : List Int) (H : Hp) (l' : Addr) (ls : List Int) (at_ : Int) (H' : Hp) : Prop where
  atM : H' am = some (.dK [(Sum.inr "cells", .ref c), (Sum.inr "left", .ref l'), (Sum.inr "at", .int at_)])
  atC : H' c = some (.lst (cs.map V.int))
  atL : H' l' = some (.lst (ls.map V.int))
  ncl : c ≠ l'
  old : ∃ zs, H' l = some (.lst zs)
  new : l' = l ∨ H l' = none
  keep : ∀ a o, H a = some o → a ≠ am → a ≠ l → H' a = some o
theorem MS.stp {am c l l' : Addr} {cs ls ls' : List Int} {at0 at_ : Int} {b : Nat} (r : Rep L Γ g σ H) (hm : g.mu = some am) (e1 : H am = some (.dK [(Sum.inr "cells", .ref c), (Sum.inr "left", .ref l), (Sum.inr "at", .int at0)])) (e2 : H c = some (.lst (cs.map V.int))) (e3 : H l = some (.lst (ls.map V.int)))
    (s : MS am c l cs H l' ls' at_ H') (ok : MOk b H' am) (hb : b ≤ g.bud) : Stp L g H { g with bud := b } H' := by
  have inm : ∀ a, a = am ∨ a = c ∨ a = l → InM g.mu H a := fun a h => by
    refine ⟨am, hm, ?_⟩
    rcases h with h | h | h
    · exact .inl h
    · exact .inr ⟨_, Sum.inr "cells", e1, by simp [h]⟩
    · exact .inr ⟨_, Sum.inr "left", e1, by simp [h]⟩
  have back : ∀ a, H a ≠ none → InM g.mu H' a → InM g.mu H a := fun a ha ⟨m', em, h⟩ => by
    rw [hm] at em
    cases em
    rcases h with h | ⟨kvs, k, e, h⟩
    · exact inm a (.inl h)
    · rw [s.atM] at e
      cases e
      simp only [List.mem_cons, Prod.mk.injEq, V.ref.injEq, List.not_mem_nil, or_false] at h
      rcases h with ⟨_, h⟩ | ⟨_, h⟩ | ⟨_, h⟩
      · exact inm a (.inr (.inl h))
      · rcases s.new with z | z
        · exact inm a (.inr (.inr (h.trans z)))
        · exact absurd (h ▸ z) ha
      · cases h
  have kp : ∀ a o, H a = some o → ¬ InM g.mu H a → H' a = some o := fun a o e n => s.keep a o e (fun z => n (inm a (.inl z))) fun z => n (inm a (.inr (.inr z)))
  refine ⟨fun _ _ e => e, fun _ e => e, fun a o e => kp a o (r.sub a o e) (r.nF a o e), fun a o e _ n => ⟨kp a o e n, fun z => n (back a (by rw [e]; simp) z)⟩, fun a h => ⟨?_, fun e => e⟩, fun a o e z => r.nF a o e (back a (by rw [r.sub a o e]; simp) z), ⟨(fun e => by (rw [hm] at e; cases e)), fun m' em => ?_⟩, hb, ⟨fun q hq => ?_, fun ea en ed eu he => ?_⟩⟩
  · by_cases z : InM g.mu H a
    · obtain ⟨m', em, h⟩ := z
      rw [hm] at em
      cases em
      rcases h with h | ⟨kvs, k, e, h⟩
      · rw [h, s.atM]; simp
      · rw [e1] at e
        cases e
        simp only [List.mem_cons, Prod.mk.injEq, V.ref.injEq, List.not_mem_nil, or_false] at h
        rcases h with ⟨_, h⟩ | ⟨_, h⟩ | ⟨_, h⟩
        · rw [h, s.atC]; simp
        · obtain ⟨zs, hz⟩ := s.old
          rw [h, hz]; simp
        · cases h
    · cases e : H a with
      | none => exact absurd e h
      | some o => rw [kp a o e z]; simp
  · rw [hm] at em
    cases em
    exact ok
  · obtain ⟨ps, a1, a2, a3⟩ := r.tab.1 q hq
    refine ⟨ps, s.keep _ _ a1 (fun z => ?_) (fun z => ?_), a2, fun pos cv hc => ?_⟩
    · rw [z, e1] at a1; cases a1
    · rw [z, e3] at a1; cases a1
    · obtain ⟨c', z1, z2⟩ := a3 pos cv hc
      refine ⟨c', z1, s.keep _ _ z2 (fun z => ?_) (fun z => ?_)⟩
      · rw [z, e1] at z2; unfold LamX.CodeO at z2; cases z2
      · rw [z, e3] at z2; unfold LamX.CodeO at z2; cases z2
  · obtain ⟨f, a1, a2⟩ := r.tab.2 ea en ed eu he
    refine ⟨f, a1, s.keep _ _ a2 (fun z => ?_) (fun z => ?_)⟩
    · rw [z, e1] at a2; cases a2
    · rw [z, e3] at a2; cases a2
end
end DL
namespace DL
open PySem PySem.Spec L2
section
variable {L : Lx} {g : Gh} {H H' H1 : Hp} {σ : L2.St} {Γ : Env} {am c l l' : Addr} {cs ls : List Int} {at_ : Int} {K : PySem.W.Frag} {Q : VK}
theorem ne_cl : ¬ ((Sum.inr "cells" : Key) = (Sum.inr "left" : Key)) := by decide +kernel
theorem ne_ca : ¬ ((Sum.inr "cells" : Key) = (Sum.inr "at" : Key)) := by decide +kernel
theorem ne_la : ¬ ((Sum.inr "left" : Key) = (Sum.inr "at" : Key)) := by decide +kernel
theorem val_c (x y z : V) : valV [((Sum.inr "cells" : Key), x), (Sum.inr "left", y), (Sum.inr "at", z)] (Sum.inr "cells") = some x := by
  unfold valV
  rw [List.find?_cons_of_pos (by exact decide_eq_true rfl)]
  rfl
theorem val_l (x y z : V) : valV [((Sum.inr "cells" : Key), x), (Sum.inr "left", y), (Sum.inr "at", z)] (Sum.inr "left") = some y := by
  unfold valV
  rw [List.find?_cons_of_neg (by simp only [decide_eq_true_eq]; exact ne_cl), List.find?_cons_of_pos (by exact decide_eq_true rfl)]
  rfl
theorem val_a (x y z : V) : valV [((Sum.inr "cells" : Key), x), (Sum.inr "left", y), (Sum.inr "at", z)] (Sum.inr "at") = some z := by
  unfold valV
  rw [List.find?_cons_of_neg (by simp only [decide_eq_true_eq]; exact ne_ca), List.find?_cons_of_neg (by simp only [decide_eq_true_eq]; exact ne_la), List.find?_cons_of_pos (by exact decide_eq_true rfl)]
  rfl
theorem put_l (x y z v : V) : putK [((Sum.inr "cells" : Key), x), (Sum.inr "left", y), (Sum.inr "at", z)] (Sum.inr "left") v = ([(Sum.inr "cells", x), (Sum.inr "left", v), (Sum.inr "at", z)] : List (Key × V)) := by
  unfold putK
  rw [if_pos (by simp)]
  show [if _ then _ else _, if _ then _ else _, if _ then _ else _] = _
  rw [if_neg ne_cl, if_pos rfl, if_neg (fun e => ne_la e.symm)]
theorem put_a (x y z v : V) : putK [((Sum.inr "cells" : Key), x), (Sum.inr "left", y), (Sum.inr "at", z)] (Sum.inr "at") v = ([(Sum.inr "cells", x), (Sum.inr "left", y), (Sum.inr "at", v)] : List (Key × V)) := by
  unfold putK
  rw [if_pos (by simp)]
  show [if _ then _ else _, if _ then _ else _, if _ then _ else _] = _
  rw [if_neg ne_ca, if_neg ne_la, if_pos rfl]
theorem MS.lay {p : Addr} {o : HO} (s : MS am c l cs H l' ls at_ H1) (n : H1 p = none) : MS am c l cs H l' ls at_ (upd H1 p o) :=
  ⟨upd_keep n s.atM, upd_keep n s.atC, upd_keep n s.atL, s.ncl, let ⟨z, e⟩ := s.old; ⟨z, upd_keep n e⟩, s.new, fun a u e h1 h2 => upd_keep n (s.keep a u e h1 h2)⟩
theorem rd_l (s : MS am c l cs H l' ls at_ H1) (e : σ[0]? = some (some (.ref am))) (q : Q (.ref l') H1) : tDGet (tVar 0) (tC (.str "left")) σ H1 Q :=
  ⟨_, e, am, .ref l', rfl, by have := DGet.k (k := Sum.inr "left") s.atM; rw [val_l] at this; exact this, q⟩
theorem rd_c (s : MS am c l cs H l' ls at_ H1) (e : σ[0]? = some (some (.ref am))) (q : Q (.ref c) H1) : tDGet (tVar 0) (tC (.str "cells")) σ H1 Q :=
  ⟨_, e, am, .ref c, rfl, by have := DGet.k (k := Sum.inr "cells") s.atM; rw [val_c] at this; exact this, q⟩
theorem rd_a (s : MS am c l cs H l' ls at_ H1) (e : σ[0]? = some (some (.ref am))) (q : Q (.int at_) H1) : tDGet (tVar 0) (tC (.str "at")) σ H1 Q :=
  ⟨_, e, am, .int at_, rfl, by have := DGet.k (k := Sum.inr "at") s.atM; rw [val_a] at this; exact this, q⟩
theorem dp_ints (H : Hp) : ∀ zs : List Int, DpAll K H (zs.map V.int) (zs.map PyData.int)
  | [] => .nil
  | z :: zs => .cons (.int z) (dp_ints H zs)
theorem shaped_ints (zs : List Int) : SeqAt.shaped (.list (zs.map .int)) = true := by
  have a : ∀ zs : List Int, PyData.canLayAll0 (zs.map .int) = true := fun zs => by
    induction zs with
    | nil => rfl
    | cons z zs ih => rw [List.map_cons, PyData.canLayAll0, ih]; rfl
  unfold SeqAt.shaped
  rw [Bool.and_eq_true, decide_eq_true_eq]
  refine ⟨by rw [PyData.canLay0]; exact a zs, ?_⟩
  have b : ∀ zs : List Int, PyData.depthAll (zs.map .int) = 0 := fun zs => by
    induction zs with
    | nil => rfl
    | cons z zs ih => rw [List.map_cons, PyData.depthAll, ih]; rfl
  rw [PyData.depth, b]
  decide
theorem eqv_nil (zs : List Int) : PyData.eqv (.list (zs.map .int)) (.list []) = decide (zs = []) := by
  cases zs with
  | nil => rfl
  | cons z zs => simp [PyData.eqv, PyData.eqvAll]
/-- xs != [] of a list of ints -/
theorem ne_nil {a p : Addr} {zs : List Int} (e : H1 a = some (.lst (zs.map V.int))) (n : H1 p = none) (q : Q (.bl (!decide (zs = []))) (upd H1 p (.lst []))) : rNeD K (.ref a) (.ref p) (upd H1 p (.lst [])) Q :=
  ⟨.list (zs.map .int), .list [], .lst (SqL.of (upd_keep n e)) (dp_ints _ zs), .lst (SqL.of upd_same) .nil, shaped_ints zs, by decide +kernel, by rw [eqv_nil]; exact q⟩
theorem MS.ne (s : MS am c l cs H l' ls at_ H1) : am ≠ c ∧ am ≠ l' ∧ am ≠ l := by
  refine ⟨fun z => ?_, fun z => ?_, fun z => ?_⟩
  · have := s.atC; rw [← z, s.atM] at this; cases this
  · have := s.atL; rw [← z, s.atM] at this; cases this
  · obtain ⟨zs, e⟩ := s.old; rw [← z, s.atM] at e; cases e
theorem MS.setAt (s : MS am c l cs H l' ls at_ H1) (b : Int) : MS am c l cs H l' ls b (upd H1 am (.dK (putK [((Sum.inr "cells" : Key), V.ref c), (Sum.inr "left", V.ref l'), (Sum.inr "at", V.int at_)] (Sum.inr "at") (V.int b)))) := by
  obtain ⟨n1, n2, n3⟩ := s.ne
  refine ⟨by rw [upd_same, put_a], by rw [upd_ne n1.symm]; exact s.atC, by rw [upd_ne n2.symm]; exact s.atL, s.ncl, ?_, s.new, fun a o e h1 h2 => by rw [upd_ne h1]; exact s.keep a o e h1 h2⟩
  obtain ⟨zs, e⟩ := s.old
  exact ⟨zs, by rw [upd_ne n3.symm]; exact e⟩
theorem MS.setLeft {p : Addr} {zs : List Int} (s : MS am c l cs H l' ls at_ H1) (e : H1 p = some (.lst (zs.map V.int))) (n : H p = none) (nc : c ≠ p) :
    MS am c l cs H p zs at_ (upd H1 am (.dK (putK [((Sum.inr "cells" : Key), V.ref c), (Sum.inr "left", V.ref l'), (Sum.inr "at", V.int at_)] (Sum.inr "left") (V.ref p)))) := by
  obtain ⟨n1, n2, n3⟩ := s.ne
  have np : p ≠ am := fun z => by rw [z, s.atM] at e; cases e
  refine ⟨by rw [upd_same, put_l], by rw [upd_ne n1.symm]; exact s.atC, by rw [upd_ne np]; exact e, nc, ?_, .inr n, fun a o e h1 h2 => by rw [upd_ne h1]; exact s.keep a o e h1 h2⟩
  obtain ⟨zs, e⟩ := s.old
  exact ⟨zs, by rw [upd_ne n3.symm]; exact e⟩
theorem MS.setItem {zs : List Int} (s : MS am c l cs H l' ls at_ H1) : MS am c l cs H l' zs at_ (upd H1 l' (.lst (zs.map V.int))) := by
  obtain ⟨n1, n2, n3⟩ := s.ne
  refine ⟨by rw [upd_ne n2]; exact s.atM, by rw [upd_ne s.ncl]; exact s.atC, upd_same, s.ncl, ?_, s.new, fun a o e h1 h2 => ?_⟩
  · by_cases z : l = l'
    · exact ⟨_, by rw [z, upd_same]⟩
    · obtain ⟨ws, e⟩ := s.old
      exact ⟨ws, by rw [upd_ne z]; exact e⟩
  · have q : a ≠ l' := fun z => by
      rcases s.new with w | w
      · exact h2 (z.trans w)
      · rw [z, w] at e; cases e
    rw [upd_ne q]; exact s.keep a o e h1 h2
theorem lim_abs {z : Int} (h0 : 0 ≤ z) (h : z.toNat ≤ lim + 1) : z.natAbs < 2 ^ 100001 := by
  have e : (2 : Nat) ^ 100001 = 2 ^ 100000 + 2 ^ 100000 := by rw [Nat.pow_succ]; omega
  have p : 1 < (2 : Nat) ^ 100000 := Nat.one_lt_two_pow (by decide)
  unfold lim at h
  rw [e]
  omega
theorem at_ints {zs : List Int} {i : Int} (h0 : 0 ≤ i) (h1 : i < zs.length) : ∃ z ∈ zs, atI (zs.map V.int) i = some (.int z) := by
  have hl : i.toNat < zs.length := by omega
  refine ⟨zs[i.toNat], List.getElem_mem hl, ?_⟩
  have := atI_nat (xs := zs.map V.int) (j := i.toNat) (v := .int zs[i.toNat]) (by rw [List.getElem?_map, List.getElem?_eq_getElem hl]; rfl)
  rw [show ((i.toNat : Nat) : Int) = i by omega] at this
  exact this
end
end DL
/-! Own exceptions: made, by position and by the field's name. -/
namespace PySem
namespace DLX
open PySem.W PySem.Calls PyProof.Rows PySem.HandSPX
open Builtin Builtin.ObjectAttr
section
variable {prog : Program} {w : World} {A : Around} {E : Value → Shared → Prop} {R : Result → Shared → Prop} {h : Heap} {g : Array GenState} {d : Drawn} {t : Nat} {os : OsState}
variable {nm q : Str} {C N : Addr} {bs bm bmB : List Value} {hdct : Bool} {sn : List Str} {sub : List Value} {ab : Bool} {col : Option Bool} {dd : Option Addr} {k0 k1 k2 k3 k5 : Option Value} {B newId initId : String}
theorem checkK {M : Model} (F : ExcBaseFacts B newId initId bmB) (hT : ∀ X : String, bm.contains (.type X) = bmB.contains (.type X)) {rest : List Value} {f : Str} {v : Value} {Q : Unit → Shared → Prop}
    (hC : h.get? C = some (excClassObj nm q C N bs bm hdct sn sub ab col dd k0 k1 k2 k3 k5 newId)) (hq : Q () ⟨h, g, d, t, os⟩) : wpAny M A (checkBuiltinCall newId ⟨.ref C :: rest, [(f, v)]⟩) Q E ⟨h, g, d, t, os⟩ := by
  have hcont : (Value.ref C :: bm).contains (.type B) = true := by rw [List.contains_cons, hT, F.hasB, Bool.or_true]
  have hstar := F.noStar
  simp only [checkBuiltinCall, F.newKind, F.newSplit, F.newRow]
  repeat (first
    | refine wpAny_loadPart_at hC ?_
    | (refine wpAny_isSubtype_exc hC ?_; rw [hcont])
    | refine wpAny_staticBase_exc hC ?_
    | refine wpAny_madeBy_exc hC ?_
    | simp only [bne_self_eq_false, Bool.false_eq_true, if_false]
    | wp_step)
  exact hq
theorem newK (F : ExcBaseFacts B newId initId bmB) (hT : ∀ X : String, bm.contains (.type X) = bmB.contains (.type X)) {rest : List Value} {f : Str} {v : Value}
    (hC : h.get? C = some (excClassObj nm q C N bs bm hdct sn sub ab col dd k0 k1 k2 k3 k5 newId))
    (hq : R (.ok (.ret (.ref (h.objs.size + 1)))) ⟨(h.push (kdv_tup rest)).push (excO C h.objs.size), g, d, t, os⟩) (hrest : rest.length ≤ sizeLine) :
    codeAny (model prog w) A (.builtin newId ⟨.ref C :: rest, [(f, v)]⟩) R ⟨h, g, d, t, os⟩ := by
  have he := F.ends
  have cB : (Value.ref C :: bm).contains (.type B) = true := by rw [List.contains_cons, hT, F.hasB, Bool.or_true]
  have cA : (Value.ref C :: bm).contains (.type "AttributeError") = false := by rw [List.contains_cons, hT, F.noAttr]; rfl
  have cN : (Value.ref C :: bm).contains (.type "NameError") = false := by rw [List.contains_cons, hT, F.noName]; rfl
  refine codeAny_builtinAt F.entry ?_
  unfold Builtin.«BaseException.__new__»
  refine wpAt_bind ?_
  show wpAt _ _ _ (stack >>= _) _ _ _
  refine wpAt_bind (wpAt_stack fun p below => wpAt_of_wpAny ?_)
  wp_walk
  refine wpAt_of_wpAny ?_
  rw [F.owner]
  repeat (first
    | with_reducible refine wpAny_madeHere_exc F.canon hC ?_
    | with_reducible refine wpAny_loadPart_at hC ?_
    | (with_reducible refine wpAny_isSubtype_exc hC ?_; first | rw [cB] | rw [cA] | rw [cN])
    | wp_step)
  show R _ _
  rw [Heap.size_push]
  exact hq
theorem typeK (F : ExcBaseFacts B newId initId bmB) (hT : ∀ X : String, bm.contains (.type X) = bmB.contains (.type X)) {rest : List Value} {fI : Addr} {f : Str} {v : Value} {Q : Fin → Shared → Prop}
    (hC : h.get? C = some (excClassObj nm q C N bs bm hdct sn sub ab col dd k0 k1 k2 k3 k5 newId))
    (hi : W.Looks (model prog w) h (typeLookup (.ref C) "__init__") (some (.ref fI))) (hb : ∀ self, W.Looks (model prog w) h (bindSpecial (.ref fI) self) (.ref fI, [self])) (hrest : rest.length ≤ sizeLine)
    (hq : codeAny (model prog w) A (.call (.ref fI) ⟨.ref (h.objs.size + 1) :: rest, [(f, v)]⟩)
      (fun r s' => match r with
        | .ok (.ret v) => v = .none ∧ Q (.done (.ret (.ref (h.objs.size + 1)))) s'
        | .ok _ => False
        | .error e => E e s') ⟨(h.push (kdv_tup rest)).push (excO C h.objs.size), g, d, t, os⟩) :
    wpAny (model prog w) A (Builtin.«type.__call__» ⟨.ref C :: rest, [(f, v)]⟩) Q E ⟨h, g, d, t, os⟩ := by
  repeat (first | with_reducible refine wpAny_loadPart_at hC ?_ | with_reducible refine wpAny_madeBy_exc hC ?_ | wp_step)
  refine codeAny_call_builtin_code (Code.quiet_builtin _ F.quiet) (checkK F hT hC ?_)
  refine newK F hT hC ?_ hrest
  show wpAny _ _ _ _ _ _
  have k : ∀ b o, h.get? b = some o → ((h.push (kdv_tup rest)).push (excO C h.objs.size)).get? b = some o := fun b o e =>
    Heap.get?_push_of_some _ (Heap.get?_push_of_some _ e)
  have c1 := k _ _ hC
  have gt : ((h.push (kdv_tup rest)).push (excO C h.objs.size)).get? (h.objs.size + 1) = some (excO C h.objs.size) := by heap_get
  have cc : (Value.ref C :: bm).contains (.ref C) = true := by simp
  have i1 := hi.keeps k
  have b1 := (hb (.ref (h.objs.size + 1))).keeps k
  unfold isInstance
  repeat (first
    | with_reducible refine wpAny_loadPart_at gt ?_
    | (with_reducible refine wpAny_isSubtype_exc c1 ?_; rw [cc])
    | wp_step)
  show wpAny _ _ (typeLookup (.ref C) _) _ _ _
  refine i1.at ?_
  refine wpAny_holding (wpAny_bind (b1.at ?_))
  refine wpAny_bind (wpAny_call (codeAny_mono hq fun r s' z => ?_))
  cases r with
  | error e => exact z
  | ok fl =>
    cases fl with
    | ret u =>
      have z2 : u = Value.none ∧ Q (.done (.ret (.ref (h.objs.size + 1)))) s' := z
      clear z
      obtain ⟨e, z⟩ := z2
      subst e
      first
        | exact wpAny_pure (wpAny_pure z)
        | (wp_walk; exact z)
    | next => exact False.elim z
    | brk => exact False.elim z
    | cont => exact False.elim z
theorem callK (F : ExcBaseFacts B newId initId bmB) (hT : ∀ X : String, bm.contains (.type X) = bmB.contains (.type X)) {rest : List Value} {fI : Addr} {f : Str} {v : Value}
    (hC : h.get? C = some (excClassObj nm q C N bs bm hdct sn sub ab col dd k0 k1 k2 k3 k5 newId))
    (hi : W.Looks (model prog w) h (typeLookup (.ref C) "__init__") (some (.ref fI))) (hb : ∀ self, W.Looks (model prog w) h (bindSpecial (.ref fI) self) (.ref fI, [self])) (hrest : rest.length ≤ sizeLine)
    (hq : codeAny (model prog w) (A.under (.builtin "type.__call__" ⟨.ref C :: rest, [(f, v)]⟩)) (.call (.ref fI) ⟨.ref (h.objs.size + 1) :: rest, [(f, v)]⟩) (W.InitBack (h.objs.size + 1) R)
      ⟨(h.push (kdv_tup rest)).push (excO C h.objs.size), g, d, t, os⟩) :
    codeAny (model prog w) A (.call (.ref C) ⟨rest, [(f, v)]⟩) R ⟨h, g, d, t, os⟩ := by
  have f1 := tc_lookup
  have f2 := tc_bind (.ref C)
  have ht : (⟨h, g, d, t, os⟩ : Shared).TypeIs (.ref C) "type" := ⟨_, hC, rfl⟩
  refine codeAny_of_tree ?_
  show wpAny _ _ (callAny (.ref C) _) _ _ _
  repeat (any_goals (first | assumption | with_reducible refine wpAny_loadPart_at hC ?_ | wp_step))
  refine ⟨rfl, ?_⟩
  refine codeAny_call_builtin_at (Code.quiet_builtin _ (by decide +kernel)) entry_typeCall (wpAny_check_type_call_sub hC (typeK F hT hC hi hb hrest ?_))
  refine codeAny_mono hq fun r s' z => ?_
  rcases r with e | (v | _ | _ | _) <;> exact z
end
end DLX
end PySem
namespace PySem
namespace DLX
open PySem.W PySem.Calls PyProof.Rows PySem.HandSPX
/-! ### def __init__(self, f): self.f = f -/
def xA (f : Str) (p1 p2 : Pos) : Arguments := ⟨[], [{ arg := "self", annotation := none, pos := p1 }, { arg := f, annotation := none, pos := p2 }], none, [], [], none, []⟩
def xB (f : Str) (q1 q2 q3 q4 : Pos) : List Stmt := [.Assign [.Attribute (.Name "self" q1) f q2] (.Name f q3) q4]
def xS (f : Str) : Scope := { kind := .function, names := [(PySem.Str.ofString "self", .local), (f, .local)], isGenerator := false, isCoroutine := false, more := [] }
/-- the class at C, its __init__ at fI, its field f -/
structure ExT (K : Frag) (C fI : Addr) (f qn : Str) (B newId initId : String) (bmB : List Value) : Prop where
  FB : ExcBaseFacts B newId initId bmB
  SF : StoreFacts B bmB "object.__setattr__" "object"
  q : excInitIn K C bmB newId = true
  ov : excOver K C bmB = true
  tk : takerIn K C f = some none
  sa : findIn K (.ref C) "__setattr__" = some (some (.builtin "object.__setattr__"))
  ga : findIn K (.ref C) "__getattribute__" = some (some (.builtin "BaseException.__getattribute__"))
  gg : findIn K (.ref C) "__getattr__" = some none
  noN : findIn K (.ref C) f = some none
  iC : findIn K (.ref C) "__init__" = some (some (.ref fI))
  tI : typeIn K (.ref fI) = some (.type "function")
  kC : keepIn K (.ref C) = true
  exC : subIn K (.ref C) (.type "BaseException") = some true
  tyC : typeIn K (.ref C) = some (.type "type")
  hdC : hasDictIn K C = true
  hf : f = "value" ∨ f = "place" ∨ f = "line" ∨ f = "most"
  hqn : (qn.length ≤ 200)
  fn : ∃ (oc : Value) (od : Option Addr) (kV doc pm : Value) (an : Option Addr) (cdv ct : Value) (osl : Array (Option Value)) (p1 p2 q1 q2 q3 q4 : Pos),
    K.lookup fI = some ⟨oc, od, .func (fnOf "__init__" qn (xA f p1 p2) (xB f q1 q2 q3 q4) (xS f) .none kV doc pm an cdv ct), osl⟩ ∧ codeIn K cdv qn = true
theorem ldX {M : Model} {s : Shared} {name : Str} {scope : Scope} {L a : Addr} {cd : Value} {m : Str → Option Value} {x : Str} {pos : Pos} {v : Value} {Q : Value → Shared → Prop} {A : Around} {E : Value → Shared → Prop}
    (hn : s.heap.Ns L m) (hv : m x = some v) (h : Q v s) (hk : scope.kind = .function := by rfl) (hl : (envOfC name scope L a cd).kindOf x = some .local := by rfl) (hd : (x == ("__debug__" : Str)) = false := by decide) :
    wpAny M A (eval (.Name x pos) (envOfC name scope L a cd)) Q E s := wpAny_Name (wpAny_loadName_local hk hl hn hv h) hd
open Builtin Builtin.ObjectAttr
/-- what __init__ leaves of an exception at x -/
structure IEnd (h h' : Heap) (f : Str) (x C dx t1 : Addr) (v : Value) : Prop where
  keep : ∀ b o, b ≠ x → h.get? b = some o → h'.get? b = some o
  obj : h'.get? x = some { cls := .ref C, dict := some dx, data := .fields #[.ref t1, .none, .none, .none, .bool false, .none] }
  dbig : h.objs.size ≤ dx
  dne : dx ≠ x
  ns : h'.Ns1 dx (fun y => if y = f then some v else none)
section
variable {prog : Program} {w : World} {A : Around} {E : Value → Shared → Prop} {R : Result → Shared → Prop} {s : Shared} {K : Frag} {C fI : Addr} {f qn : Str} {B newId initId : String} {bmB : List Value}
theorem x_osa (T : ExT K C fI f qn B newId initId bmB) {x t0 : Addr} {v : Value} {tk : Tok} {R : Result → Shared → Prop} (X : K.In s.heap) (hx : s.heap.get? x = some (excO C t0))
    (hq : ∀ h' t' dx, IEnd s.heap h' f x C dx t0 v → R (.ok (.ret .none)) { s with heap := h', toks := t' }) :
    codeAny (model prog w) A (.call (.builtin "object.__setattr__") ⟨[.ref x, .str f tk, v], []⟩) R s := by
  refine osa_openX (od := none) T.SF X ⟨hx, rfl, rfl, trivial⟩ T.ov T.tk fun b => ?_
  obtain ⟨cd, hc, hd'⟩ := any_some T.hdC
  obtain ⟨hp, g, d, t, os⟩ := s
  have hxs : x ≠ hp.objs.size := Nat.ne_of_lt (Heap.lt_size hx)
  refine wpAny_bind (wpAny_pure (wpAny_bind (instanceDict_exc (c2 := .none) hx (looks_clsIn X hc) hd' ?_)))
  show wpAny _ _ (storeInDict hp.objs.size (.str f tk) f v) _ _ _
  refine store_in_new (g := g) (d := d) (os := os) ?_ fun h' tk' hn' hs => ?_
  · exact ⟨_, #[], _, (Heap.get?_update_ne _ _ _ _ hxs.symm).trans (Heap.get?_push_at rfl rfl), rfl, fun e he => absurd he (by simp), fun _ => rfl⟩
  · have hx₁ : (hp.push (dictOf [] 0)).get? x = some (excO C t0) := Heap.get?_push_of_some _ hx
    refine hq h' tk' hp.objs.size ⟨fun b o hb ho => ?_, ?_, Nat.le_refl _, hxs.symm, hn'⟩
    · refine (hs.2 b (Nat.ne_of_lt (Heap.lt_size ho))).trans ?_
      exact (Heap.get?_update_ne _ _ _ _ hb).trans (Heap.get?_push_of_some _ ho)
    · exact (hs.2 x hxs).trans (Heap.get?_update_self _ hx₁ rfl)
def xArgs (f : Str) (first : List Value) (v : Value) (kw : Bool) : Args := if kw then ⟨first, [(f, v)]⟩ else ⟨first ++ [v], []⟩
theorem x_init (T : ExT K C fI f qn B newId initId bmB) (kw : Bool) {x t0 : Addr} {v : Value} (X : K.In s.heap) (hlim : s.heap.NoLimit) (hx : s.heap.get? x = some (excO C t0)) (hroom : A.depth < recursionLimit)
    (hq : ∀ h' tk dx, IEnd s.heap h' f x C dx t0 v → R (.ok (.ret .none)) { s with heap := h', toks := tk }) :
    codeAny (model prog w) A (.call (.ref fI) (xArgs f [.ref x] v kw)) R s := by
  obtain ⟨oc, od, kV, doc, pm, an, cdv, ct, osl, p1, p2, q1, q2, q3, q4, ho, hcd⟩ := T.fn
  have key : ∀ (s₁ : Shared) (args : Args), args = xArgs f [.ref x] v kw → BindsTo s₁ (fnOf "__init__" qn (xA f p1 p2) (xB f q1 q2 q3 q4) (xS f) .none kV doc pm an cdv ct) args [("self", .ref x), (f, v)] := by
    intro s₁ args e
    subst e
    rcases T.hf with rfl | rfl | rfl | rfl <;> cases kw <;> exact BindsTo.of_eq (by first | rfl | with_unfolding_all rfl)
  refine Att.call_fn (binds := [("self", .ref x), (f, v)]) X hlim ho hcd hroom (key s _ rfl) (by rcases T.hf with rfl | rfl | rfl | rfl <;> first | rfl | decide | with_unfolding_all rfl) (fun s₁ IC => ?_) rfl rfl rfl
  obtain ⟨h₁, tk₁, rfl⟩ := IC.toInCall.same
  have k : ∀ b o, s.heap.get? b = some o → h₁.get? b = some o := IC.toInCall.keep
  have hn := IC.toInCall.ns
  have hxL : s.heap.objs.size ≠ x := Nat.ne_of_gt (Heap.lt_size hx)
  have X₁ : K.In h₁ := X.keeps k
  have hx₁ := k _ _ hx
  show wpAny _ _ (execs _ _) _ _ _
  refine wpAny_execs_cons (plainObj_wpAny_Assign_Attribute ?_ (by rcases T.hf with rfl | rfl | rfl | rfl <;> rfl))
  refine ldX (v := v) hn (by rcases T.hf with rfl | rfl | rfl | rfl <;> first | rfl | with_unfolding_all rfl | kernel_rfl) (ldX (v := .ref x) hn (by rcases T.hf with rfl | rfl | rfl | rfl <;> first | rfl | with_unfolding_all rfl | kernel_rfl) ?_ rfl (by rcases T.hf with rfl | rfl | rfl | rfl <;> rfl))
    rfl (by rcases T.hf with rfl | rfl | rfl | rfl <;> rfl) (by rcases T.hf with rfl | rfl | rfl | rfl <;> decide)
  refine set_plain X₁ (ox := excO C t0) (od := none) ⟨hx₁, rfl, rfl, trivial⟩ T.sa ?_
  refine x_osa (s := { s with heap := h₁, toks := tk₁ + 1 }) T X₁ hx₁ fun h₃ tk₃ dx IE => ?_
  have z : s.heap.objs.size ≤ h₁.objs.size := Nat.le_of_lt hn.lt
  show wpAny _ _ (execs _ _) _ _ _
  exact wpAny_execs_nil (hq h₃ tk₃ dx ⟨fun b o hb e => IE.keep b o hb (k b o e), IE.obj, Nat.le_trans z IE.dbig, IE.dne, IE.ns⟩)
/-- a made exception at e -/
structure XMade (h h' : Heap) (f : Str) (e C d t1 : Addr) (v : Value) : Prop where
  keep : ∀ b o, h.get? b = some o → h'.get? b = some o
  new : h.objs.size ≤ e
  obj : h'.get? e = some { cls := .ref C, dict := some d, data := .fields #[.ref t1, .none, .none, .none, .bool false, .none] }
  dbig : h.objs.size ≤ d
  dne : d ≠ e
  ns : h'.Ns1 d (fun y => if y = f then some v else none)
theorem x_made (T : ExT K C fI f qn B newId initId bmB) (kw : Bool) {v : Value} (X : K.In s.heap) (hlim : s.heap.NoLimit) (hroom : A.depth + 1 < recursionLimit)
    (hq : ∀ h' tk e d t1, XMade s.heap h' f e C d t1 v → R (.ok (.ret (.ref e))) { s with heap := h', toks := tk }) : codeAny (model prog w) A (.call (.ref C) (xArgs f [] v kw)) R s := by
  obtain ⟨nm, N', qn', bs, bm, hdct, sn, sub, ab, col, dd, k0, k1, k2, k3, k5, hC, hT⟩ := excInit_of X T.q
  obtain ⟨hp, g, dr, tk, os⟩ := s
  have go : ∀ (rest : List Value) (A' : Around), A'.depth < recursionLimit → codeAny (model prog w) A' (.call (.ref fI) (xArgs f [.ref (hp.objs.size + 1)] v kw)) (W.InitBack (hp.objs.size + 1) R) ⟨(hp.push (kdv_tup rest)).push (excO C hp.objs.size), g, dr, tk, os⟩ := fun rest A' hd => by
    have k : ∀ b o, hp.get? b = some o → ((hp.push (kdv_tup rest)).push (excO C hp.objs.size)).get? b = some o := fun b o e => Heap.get?_push_of_some _ (Heap.get?_push_of_some _ e)
    have hget : ((hp.push (kdv_tup rest)).push (excO C hp.objs.size)).get? (hp.objs.size + 1) = some (excO C hp.objs.size) := by heap_get
    refine x_init (s := ⟨(hp.push (kdv_tup rest)).push (excO C hp.objs.size), g, dr, tk, os⟩) T kw (X.keeps k) (hlim.keeps k) hget hd fun h' tk' dx IE => ?_
    have z : hp.objs.size + 1 + 1 ≤ dx := by
      have q := IE.dbig
      rw [Heap.size_push, Heap.size_push] at q
      exact q
    refine ⟨rfl, hq h' tk' (hp.objs.size + 1) dx _ ⟨fun b o e => IE.keep b o (Nat.ne_of_lt (Nat.lt_succ_of_lt (Heap.lt_size e))) (k b o e), Nat.le_succ _, IE.obj, Nat.le_trans (Nat.le_trans (Nat.le_succ _) (Nat.le_succ _)) z, IE.dne, IE.ns⟩⟩
  cases kw with
  | false =>
    exact call_own T.FB hT hC (looks_findIn X T.iC) (fun self => bind_fn X self T.tI) (by show 1 ≤ sizeLine; rw [sizeLine_eq]; decide) (go [v] _ hroom)
  | true =>
    exact callK T.FB hT hC (looks_findIn X T.iC) (fun self => bind_fn X self T.tI) (by show 0 ≤ sizeLine; rw [sizeLine_eq]; decide) (go [] _ hroom)
end
end DLX
end PySem
/-! Own exceptions as values. -/
namespace DL
open PySem PySem.Spec L2
section
variable {L : Lx} {X : Cx} {g g' : Gh} {H H' H1 : Hp} {σ : L2.St} {Γ : Env} {W : WX} {pos : Pos} {pins : List (Addr × Obj)} {s : Shared}
variable {C fI : Addr} {f qn : Str} {B newId initId : String} {bmB : List Value}
/-- the new exception, tracked -/
theorem x_inv {h' : Heap} {t' : Nat} {e d t1 : Addr} {y : V} {u : Value} (I : Inv X pins σ H s) (M : PySem.DLX.XMade s.heap h' f e C d t1 u) (ry : RelV y u) :
    H e = none ∧ H d = none ∧ Inv X pins σ (upd (upd H d (exd d [(f, y)])) e (exo e C (some d))) { s with heap := h', toks := t' } := by
  have nd : H d = none := I.hok.fresh M.dbig
  have ne : H e = none := I.hok.fresh M.new
  have z1 : ∀ {b : Addr} {o : Obj}, s.heap.get? b = some o → b ≠ d := fun {b o} q => Nat.ne_of_lt (Nat.lt_of_lt_of_le (Heap.lt_size q) M.dbig)
  have z2 : ∀ {b : Addr} {o : Obj}, s.heap.get? b = some o → b ≠ e := fun {b o} q => Nat.ne_of_lt (Nat.lt_of_lt_of_le (Heap.lt_size q) M.new)
  have two : ∀ {b : Addr} {o : HO}, H b = some o → upd (upd H d (exd d [(f, y)])) e (exo e C (some d)) b = some o := fun {b o} q => by
    rw [upd_ne (ne_of_none q ne), upd_ne (ne_of_none q nd)]; exact q
  have U : Un X.fs [] H (upd (upd H d (exd d [(f, y)])) e (exo e C (some d))) s.heap h' := {
    keep := fun b o q n _ _ => M.keep b o q
    slot := fun b o q n _ _ => ⟨o.slots, M.keep b o q⟩
    free := fun b o q n _ => by rw [upd_ne (z2 q), upd_ne (z1 q)]; exact n
    there := fun b o q _ => ⟨o, M.keep b o q⟩
    tups := fun b xs q => two q
    frzs := fun b o v q => two q
    tbls := fun b ps q => ⟨#[], by rw [two q]; simp⟩ }
  refine ⟨ne, nd, I.un (t' := t') U fun b o q => ?_⟩
  by_cases hb : b = e
  · subst hb
    rw [upd_same] at q
    cases q
    exact exo_ok M.obj
  · rw [upd_ne hb] at q
    by_cases hd : b = d
    · subst hd
      rw [upd_same] at q
      cases q
      exact exd_ok M.ns (relO_put (fs := []) ry fun g => True.intro)
    · rw [upd_ne hd] at q
      exact (I.hok b o q).stay (fun c v _ z => M.keep c v z) (fun c hc => two hc) (fun c xs hc => two hc)
/-- C(e), C(f = e): a new exception -/
def tExv (f : Str) (C : Addr) (ta : TA) : TE := fun σ H Q => ta σ H fun vs H1 => ∃ v, vs = [v] ∧ ∀ a d, H1 a = none → H1 d = none → d ≠ a → Q (.ref a) (upd (upd H1 d (exd d [(f, v)])) a (exo a C (some d)))
theorem call_exv (T : PySem.DLX.ExT X.K C fI f qn B newId initId bmB) (kw : Bool) (hr : X.A.depth + 1 < recursionLimit) (I : Inv X pins σ H s) {y : V} {u : Value} (ry : RelV y u) {Q : VK}
    (q : ∀ a d, H a = none → H d = none → d ≠ a → Q (.ref a) (upd (upd H d (exd d [(f, y)])) a (exo a C (some d)))) :
    codeAny (model X.prog X.w) X.A (.call (.ref C) (PySem.DLX.xArgs f [] u kw)) (fun r s' => match r with
      | .ok (.ret u) => EP X pins σ Q u s'
      | .ok _ => False
      | .error e => X.xe e s') s := by
  refine PySem.DLX.x_made T kw I.kIn I.nolimit hr fun h' tk e d t1 M => ?_
  obtain ⟨ne, nd, J⟩ := x_inv (t' := tk) I M ry
  exact ⟨.ref e, _, J, rfl, q e d ne nd M.dne⟩
theorem pe_exv {x : Str} {a : Expr} {ta : TA} {p : Pos} (T : PySem.DLX.ExT X.K C fI f qn B newId initId bmB) (hr : X.A.depth + 1 < recursionLimit) (hg : Gl X x) (gC : X.mg x = some (.ref C)) (ha : PA X [a] ta)
    (hdb : (x == ("__debug__" : Str)) = false := by decide) (he : starEach (a :: []) X.env = (false, eval a X.env) :: starEach [] X.env := by rfl) (hpl : (backTo pos (starEach [] X.env)).any (·.1) = false := by rfl) :
    PE X (.Call (.Name x p) [a] [] pos) (tExv f C ta) := by
  refine ⟨fun pins s σ H Q I h => ?_⟩
  refine wpAny_Call_Name_kw (ld_glob I hg gC ?_ hdb)
  refine PySem.W.callWith_K (h₀ := X.base) I.ok.mod.kin T.kC (thn (ha.run pos pins s σ H _ I h) fun us s1 ⟨vs, H1, I1, r1, v, ev, q1⟩ => ⟨I1.kIn, ?_⟩) he hpl
  subst ev
  cases r1 with
  | cons rv rn =>
    cases rn
    exact wpAny_call (codeAny_mono (call_exv T false hr I1 rv q1) fun r s' z => by
      cases r with
      | error e => exact z
      | ok fl => cases fl <;> exact z)
theorem pe_exvK {x : Str} {a : Expr} {ta : TA} {p kpos : Pos} (T : PySem.DLX.ExT X.K C fI f qn B newId initId bmB) (hr : X.A.depth + 1 < recursionLimit) (hg : Gl X x) (gC : X.mg x = some (.ref C)) (hkw : PK X [⟨some f, a, kpos⟩] ta)
    (hall : (backToKw pos (keywordEach [⟨some f, a, kpos⟩] X.env)).all (·.1.isSome) = true := by rfl) (hks : (backToKw pos (keywordEach [⟨some f, a, kpos⟩] X.env)).filterMap (·.1) = [f] := by rfl) (hdb : (x == ("__debug__" : Str)) = false := by decide)
    (hpl : ((backTo pos (starEach [] X.env)).any (·.1) || (backToKw pos (keywordEach [⟨some f, a, kpos⟩] X.env)).any (·.1.isNone)) = false := by rfl) :
    PE X (.Call (.Name x p) [] [⟨some f, a, kpos⟩] pos) (tExv f C ta) := by
  refine ⟨fun pins s σ H Q I h => ?_⟩
  refine wpAny_Call_Name_kw (ld_glob I hg gC ?_ hdb)
  refine PySem.W.callWith_KW0 (h₀ := X.base) I.ok.mod.kin T.kC hall ?_ hpl
  refine thn (hkw.run pos pins s σ H _ I h) fun ws s2 ⟨zs, H2, I2, rz, v, ev, q2⟩ => ⟨I2.kIn, ?_⟩
  rw [hks]
  subst ev
  cases rz with
  | cons rv rn =>
    cases rn
    exact wpAny_call (codeAny_mono (call_exv T true hr I2 rv q2) fun r s' z => by
      cases r with
      | error e => exact z
      | ok fl => cases fl <;> exact z)
end
end DL
/-! isinstance of own exceptions that have their dict. -/
namespace PySem
namespace DLX
open PySem PySem.Spec PySem.Calls PyProof.Rows PySem.W
section
variable {prog : Program} {w : World} {A : Around} {E : Value → Shared → Prop} {s : Shared} {K : Frag} {x D : Addr} {ox : Obj} {od : Option Obj}
theorem find_data {C : Addr} {name : Str} {a g : Value} (hc : (clsIn K C).isSome = true) (ha : findIn K (.ref C) name = some (some a)) (hg : specialIn K a "__get__" = some (some g)) (ht : takesIn K a = some true) : findObj K C od name = some (.bind g a) := by
  obtain ⟨cd, hc⟩ := Option.isSome_iff_exists.mp hc
  simp only [findObj, hc, ha, hg, ht, Option.bind_some]
theorem cls_some {K : Frag} {D : Addr} (h : hasDictIn K D = true) : (clsIn K D).isSome = true := by
  obtain ⟨cd, hc, _⟩ := any_some h
  rw [hc]
  rfl
theorem class_of_exc {Q : Option Value → Shared → Prop} (c : L2.ExcC K D) (X : K.In s.heap) (I : InstAt s.heap x ox D od) (h : Q (some (.ref D)) { s with toks := s.toks + 1 }) : wpAny (model prog w) A (getAttr? (.ref x) "__class__") Q E s := by
  have hf : findObj K D od "__class__" = some (.bind (.builtin "getset_descriptor.__get__") (.builtin "object.__class__")) := find_data (cls_some c.hd) c.ha c.hn c.ht
  obtain ⟨hp, g, d, t, os⟩ := s
  have l0 := I.type (M := model prog w)
  have l1 := looks_findIn (M := model prog w) X c.hg
  have l2 := looks_findIn (M := model prog w) X c.hk
  have l3 := looks_find (M := model prog w) X I hf
  have below : Looks (model prog w) hp (isInstance (.ref x) (.type "BaseException")) true := l0.andThen (looks_subIn X c.hs)
  have e1 : (Value.builtin "BaseException.__getattribute__" == Value.builtin "object.__getattribute__") = false := by decide +kernel
  have e2 : (onTheHeap (Value.ref D) && Value.builtin "BaseException.__getattribute__" == Value.builtin "object.__getattribute__") = false := by
    rw [e1]; rfl
  have e3 : (false && onTheHeap (Value.builtin "BaseException.__getattribute__")) = false := rfl
  unfold getAttr? getAttrBy? getAttrBy
  refine wpAny_bind (wpAny_mkText (wpAny_bind (wpAny_attempt (wpAny_holding (wpAny_bind (l0.at (wpAny_bind (l1.at ?_))))))))
  show wpAny _ _ (if (onTheHeap (Value.ref D) && Value.builtin "BaseException.__getattribute__" == Value.builtin "object.__getattribute__") = true then _ else _) _ _ _
  rw [e2, if_neg Bool.false_ne_true]
  unfold getAttrByItsOwn hookBefore
  refine wpAny_bind ?_
  rw [if_pos (show onTheHeap (Value.ref D) = true from rfl)]
  refine l2.at (wpAny_bind (wpAny_attempt (wpAny_holding ?_)))
  unfold callGetattribute
  rw [e3, if_neg Bool.false_ne_true]
  unfold boundAndCalled
  rw [PySem.F.excAttr_ValueError.ga.bind (.ref x)]
  refine wpAny_bind (wpAny_pure ?_)
  show wpAny _ _ (call (.builtin "BaseException.__getattribute__") [.ref x, .str "__class__" t]) _ _ _
  refine wpAny_call (codeAny_call_builtin PySem.F.excAttr_ValueError.ga.plain PySem.F.entry_bexc_ga ?_)
  refine @check_slot (model prog w) _ _ ⟨hp, g, d, t + 1, os⟩ "BaseException.__getattribute__" "BaseException" "__getattribute__" (.ref x) [.str "__class__" t] [] _ (by decide +kernel) (by decide +kernel) below
    (PySem.F.args_bexc_ga (.ref x) (.str "__class__" t)) ?_
  unfold Builtin.«object.__getattribute__»
  refine wpAny_bind (wpAny_of_eq (a := ((Value.ref x : Value), [Value.str "__class__" t])) (by first | rfl | (simp only [slotArgs]; rfl)) ?_)
  refine wpAny_bind (wpAny_pure (wpAny_bind (l0.at (wpAny_bind (l3.at ?_)))))
  show wpAny _ _ (holding [Value.builtin "object.__class__"] (call (.builtin "getset_descriptor.__get__") [.builtin "object.__class__", .ref x, .ref D]) >>= ret) _ _ _
  refine wpAny_bind (wpAny_holding (wpAny_call (class_get (s := ⟨hp, g, d, t + 1, os⟩) (ox := ox) (od := od) X I c.hm (wpAny_pure ?_))))
  show wpAny _ _ (handedOut (.ref D)) _ _ _
  rw [handedOut_of (v := .ref D) rfl]
  first
    | exact wpAny_pure (wpAny_pure h)
    | exact wpAny_pure h
    | exact wpAny_pure (wpAny_bind (wpAny_pure (wpAny_pure h)))
theorem at_type {K : Frag} {D : Addr} (h : hasDictIn K D = true) : ∃ c dd cd sl, K.lookup D = some ⟨c, dd, .cls cd, sl⟩ := by
  have q := cls_some h
  unfold clsIn at q
  split at q
  · rename_i c' d' cd' sl' ho
    exact ⟨_, _, _, _, ho⟩
  · cases q
theorem kitx_exc (c : L2.ExcC K D) : KitX K (.ref x) (.ref D) (fun h => InstAt h x ox D od) where
  ty := fun _ _ _ I => I.type
  it := fun M h X _ => by
    obtain ⟨cc, dd, cd, sl, ho⟩ := at_type c.hd
    intro A' Q' E' s' k q
    unfold isType loadHead
    exact wpAny_bind (wpAny_loadPart (k _ _ (X _ _ ho)) (wpAny_pure q))
  ne := fun h tp dd its n sl X htp => (handS_kitx_exc (x := x) (ox := ox) c.hg c.hk c.hs c.hd c.ha c.hn c.ht c.hm).ne h tp dd its n sl X htp
  ca := fun X I k => class_of_exc c X I k
end
end DLX
end PySem
/-! Own exceptions as data; isinstance; repr. -/
namespace DL
open PySem PySem.Spec L2
section
variable {L : Lx} {X : Cx} {g g' : Gh} {H H' H1 : Hp} {σ : L2.St} {Γ : Env} {W : WX} {pos p : Pos} {i : IE}
variable {C fI : Addr} {f qn : Str} {B newId initId : String} {bmB : List Value} {n : Nat} {x : Str} {a : Expr}
/-- C(e): the exception n -/
def iMk (n : Nat) (i : IE) : IE := fun Γ => (i Γ).bind fun d => .ret (.exc n d)
theorem rd_exv {Q : VK} (hC : L.cA n = C) (hf : L.cF n = [f]) (h : Rd1 L DenT W (iMk n i) σ H Q) : tExv f C (tCons (Rd1 L DenT W i) tNil) σ H Q := by
  obtain ⟨Γ, g, rp, w⟩ := h
  refine Rd1.go rp w fun v H1 d g1 r1 s t w => ⟨v, rfl, fun a d na nd ne => ?_⟩
  have s1 := stp_put (o := exd d [(f, v)]) r1 nd
  have na' : upd H1 d (exd d [(f, v)]) a = none := by rw [upd_ne (Ne.symm ne)]; exact na
  have r2 := r1.step s1
  have s2 := stp_put (o := exo a C (some d)) r2 na'
  refine w (.ref a) _ _ (s.trans (s1.trans s2)) rfl ?_
  refine .exc (f := f) (d := d) (v := v) (by rw [hC]; exact put_F) (s2.le _ _ put_F) hf (t.mono (s1.trans s2).le (s1.trans s2).mu)
theorem de_exv (T : PySem.DLX.ExT X.K C fI f qn B newId initId bmB) (hC : L.cA n = C) (hf : L.cF n = [f]) (hr : X.A.depth + 1 < recursionLimit) (hg : Gl X x) (gC : X.mg x = some (.ref C)) (h : DE L X i a)
    (hdb : (x == ("__debug__" : Str)) = false := by decide) (he : starEach (a :: []) X.env = (false, eval a X.env) :: starEach [] X.env := by rfl) (hpl : (backTo pos (starEach [] X.env)).any (·.1) = false := by rfl) :
    DE L X (iMk n i) (.Call (.Name x p) [a] [] pos) := fun W tk => PE.imp (pe_exv T hr hg gC (pa_cons (h W tk) pa_nil he) hdb he hpl) fun σ H Q h => rd_exv hC hf h
theorem de_exvK {kpos : Pos} (T : PySem.DLX.ExT X.K C fI f qn B newId initId bmB) (hC : L.cA n = C) (hf : L.cF n = [f]) (hr : X.A.depth + 1 < recursionLimit) (hg : Gl X x) (gC : X.mg x = some (.ref C)) (h : DE L X i a)
    (hall : (backToKw pos (keywordEach [⟨some f, a, kpos⟩] X.env)).all (·.1.isSome) = true := by rfl) (hks : (backToKw pos (keywordEach [⟨some f, a, kpos⟩] X.env)).filterMap (·.1) = [f] := by rfl) (hdb : (x == ("__debug__" : Str)) = false := by decide)
    (hpl : ((backTo pos (starEach [] X.env)).any (·.1) || (backToKw pos (keywordEach [⟨some f, a, kpos⟩] X.env)).any (·.1.isNone)) = false := by rfl) :
    DE L X (iMk n i) (.Call (.Name x p) [] [⟨some f, a, kpos⟩] pos) := fun W tk => PE.imp (pe_exvK T hr hg gC (pk_cons (h W tk) pk_nil) hall hks hdb hpl) fun σ H Q h => rd_exv hC hf h
/-! ### its field -/
def tXat (K : PySem.W.Frag) (f : Str) (te : TE) : TE := fun σ H Q => te σ H fun x H1 => ∃ a C d v, x = .ref a ∧ H1 a = some (exo a C (some d)) ∧ H1 d = some (exd d [(f, v)]) ∧ XfC K C ∧ PySem.W.findIn K (.ref C) f = some none ∧ Q v H1
theorem pe_xat {e : Expr} {te : TE} (he : PE X e te) (hb : attributeBase e f X.env (eval e X.env) = eval e X.env := by rfl) : PE X (.Attribute e f pos) (tXat X.K f te) := by
  refine ⟨fun pins s σ H Q I h => ?_⟩
  refine attr_of hb (thn (he.run pins s σ H _ I h) fun u s1 hh => ?_)
  obtain ⟨x, H1, I1, rx, a, C, d, v, ex, e1, e2, T, hno, q⟩ := hh
  subst ex
  obtain rfl : u = Value.ref a := rx
  obtain ⟨t1, ho⟩ := exo_at I1.hok e1
  obtain ⟨mA, hns, hr⟩ := exd_at I1.hok e2
  obtain ⟨od, hod, hl⟩ := lookIn_ns hns
  obtain ⟨u, hu, ru⟩ := RelO.some_of (v := v) (o := mA f) (by
    have := hr f
    rw [lookup_put, if_pos rfl] at this
    exact this)
  have J : PySem.W.InstAt s1.heap a { cls := .ref C, dict := some d, data := .fields #[.ref t1, .none, .none, .none, .bool false, .none] } C (some od) := ⟨ho, rfl, rfl, hod⟩
  exact HandSPX.exc_get I1.kIn J T.ga T.gg T.exC (PySem.W.findObj_own T.hdC hno rfl (by rw [hl, hu])) (handed_of ru) ⟨v, H1, I1.tok _, ru, q⟩
/-- x.f of an exception -/
def iXat (ok : Nat → Bool) (i : IE) : IE := fun Γ => (i Γ).bind fun d => match d with
  | .exc n v => if ok n = true then .ret v else .stuck
  | _ => .stuck
theorem de_xat {ok : Nat → Bool} {e : Expr} (h : DE L X i e) (hK : X.K = L.K) (hx : ∀ n, ok n = true → L.cF n = [f] ∧ XfC L.K (L.cA n) ∧ PySem.W.findIn L.K (.ref (L.cA n)) f = some none) (hb : attributeBase e f X.env (eval e X.env) = eval e X.env := by rfl) :
    DE L X (iXat ok i) (.Attribute e f pos) := fun W tk => PE.imp (pe_xat (h W tk) hb) fun σ H Q ⟨Γ, g, rp, w⟩ => by
  refine Rd1.go rp w fun v H1 d g1 r1 s t w => ?_
  split at w
  · rename_i n d
    split at w
    · rename_i hn
      obtain ⟨h1, h2, h3⟩ := hx n hn
      cases t with
      | exc e1 e2 e3 t =>
        rw [h1] at e3
        cases e3
        exact ⟨_, _, _, _, rfl, r1.sub _ _ e1, r1.sub _ _ e2, hK ▸ h2, hK ▸ h3, w _ g1 H1 s rfl t⟩
    · exact w.elim
  · exact w.elim
/-! ### isinstance -/
abbrev TyK := String ⊕ Nat
def Lx.tv (L : Lx) : TyK → Value
  | .inl t => .type t
  | .inr n => .ref (L.cA n)
def D.ck : D → Option TyK
  | .ty n => some (.inl n)
  | .clo n => some (.inr n)
  | _ => none
def D.bk : D → Option String
  | .non => some "NoneType" | .bl _ => some "bool" | .int _ => some "int" | .str _ => some "str" | .tup _ => some "tuple" | .lst _ => some "list" | .dct _ _ => some "dict"
  | _ => none
def isTab (tb : List (String × TyK × Bool)) (te ti : List (Nat × TyK × Bool)) (d c : D) : Option Bool := match c.ck with
  | none => none
  | some k => match d with
    | .exc n _ => (te.find? fun e => decide (e.1 = n) && decide (e.2.1 = k)).map (·.2.2)
    | .ins n _ => (ti.find? fun e => decide (e.1 = n) && decide (e.2.1 = k)).map (·.2.2)
    | d => match d.bk with
      | some t => (tb.find? fun e => decide (e.1 = t) && decide (e.2.1 = k)).map (·.2.2)
      | none => none
def isAny (S : D → Option Bool) : List D → Option Bool
  | [] => some false
  | c :: cs => match S c with
    | some true => some true
    | some false => isAny S cs
    | none => none
def fIsi (S : D → D → Option Bool) : List D → Option D
  | [x, .tup (c :: cs)] => (isAny (S x) (c :: cs)).map .bl
  | [x, .tup []] => none
  | [x, c] => (S x c).map .bl
  | _ => none
/-- what is known of the type of x -/
theorem kit_vw (hK : X.K = L.K) {pins : List (Addr × Obj)} {s : Shared} {v : V} {u : Value} {d : D} {t : String} {σ2 : L2.St} (rp : Rep L Γ g σ H) (I : Inv X pins σ2 H s) (rx : RelV v u) (vx : Vw L g H v d) (e : d.bk = some t) :
    ∃ P : Heap → Prop, PySem.W.KitX X.K u (.type t) P ∧ P s.heap ∧ u ≠ .builtin "__main__.__loader__#opaque" := by
  refine kit_of I rx ?_
  rcases vx with h | ⟨q, vs, ds, rfl, rfl, h1, h2, _⟩ | ⟨q, t, kvs, rfl, rfl, _, hd⟩
  · cases h with
    | non => cases e; exact .base .non
    | bl b => cases e; exact .base (.bl b)
    | int i => cases e; exact .base (.int i)
    | str s => cases e; exact .base (.str s)
    | tup h l =>
      cases e
      rcases h with h | ⟨o, its, m, h, c, _⟩ | ⟨o, h, _⟩
      · exact .base (.tup (rp.sub _ _ h.2))
      · exact .kTuple (hK ▸ h) c
      · exact .fTuple (rp.sub _ _ h)
    | lst h l => cases e; exact .base (.lst (rp.sub _ _ h))
    | dK h _ _ => cases e; exact .base (.dK (rp.sub _ _ h))
    | dT h _ _ => cases e; exact .base (.dT (rp.sub _ _ h))
    | ins _ _ _ => cases e
    | exc _ _ _ _ => cases e
    | err _ _ => cases e
    | ty _ => cases e
    | clo _ => cases e
    | rnd _ => cases e
    | scr _ => cases e
    | pr _ _ => cases e
  · cases e; exact .base (.lst h1)
  · cases e
    rcases hd with ⟨_, _, _, h1, _⟩ | ⟨_, _, _, h1, _⟩
    · exact .base (.dK h1)
    · exact .base (.dT h1)
/-- the type of a value, as isinstance asks of it -/
def KitOf (X : Cx) (s : Shared) (u t : Value) : Prop := ∃ P : Heap → Prop, PySem.W.KitX X.K u t P ∧ P s.heap ∧ u ≠ .builtin "__main__.__loader__#opaque"
/-- an own class whose instances are asked for their class -/
structure InsC (K : PySem.W.Frag) (C : Addr) : Prop where
  cl : Cls K C
  ha : PySem.W.findIn K (.ref C) "__class__" = some (some (.builtin "object.__class__"))
  hn : PySem.W.specialIn K (.builtin "object.__class__") "__get__" = some (some (.builtin "getset_descriptor.__get__"))
  ht : PySem.W.takesIn K (.builtin "object.__class__") = some true
  hm : PySem.W.mroIn K C (.type "object") = some true
structure TabOk (L : Lx) (tb : List (String × TyK × Bool)) (te ti : List (Nat × TyK × Bool)) : Prop where
  b : ∀ e ∈ tb, PySem.W.kitOne L.K (.type e.1) (L.tv e.2.1) = some e.2.2
  e : ∀ e ∈ te, ExcC L.K (L.cA e.1) ∧ PySem.W.kitOne L.K (.ref (L.cA e.1)) (L.tv e.2.1) = some e.2.2
  i : ∀ e ∈ ti, InsC L.K (L.cA e.1) ∧ PySem.W.kitOne L.K (.ref (L.cA e.1)) (L.tv e.2.1) = some e.2.2
/-- the type of x, with all answers of the tables -/
theorem kit_tab {tb : List (String × TyK × Bool)} {te ti : List (Nat × TyK × Bool)} (ok : TabOk L tb te ti) (hK : X.K = L.K) {pins : List (Addr × Obj)} {s : Shared} {v : V} {u : Value} {d : D} {σ2 : L2.St} (rp : Rep L Γ g σ H) (I : Inv X pins σ2 H s) (rx : RelV v u) (vx : Vw L g H v d) :
    (∃ t, KitOf X s u t ∧ ∀ c k b, c.ck = some k → isTab tb te ti d c = some b → PySem.W.kitOne X.K t (L.tv k) = some b) ∨ ∀ c, isTab tb te ti d c = none := by
  by_cases hx : ∃ n y, d = .exc n y
  · obtain ⟨n, y, rfl⟩ := hx
    by_cases hc : ∃ e ∈ te, e.1 = n
    · refine .inl ⟨.ref (L.cA n), ?_, fun c k b hk h => ?_⟩
      · obtain ⟨e, he, rfl⟩ := hc
        have xc := (ok.e e he).1
        rcases vx with h | ⟨_, _, _, _, e, _⟩ | ⟨_, _, _, _, e, _⟩
        · cases h with
          | @exc a d n f v x e1 e2 e3 t =>
            obtain rfl : u = Value.ref a := rx
            obtain ⟨t1, ho⟩ := exo_at I.hok (rp.sub _ _ e1)
            obtain ⟨mA, hns, hr⟩ := exd_at I.hok (rp.sub _ _ e2)
            obtain ⟨od, hod, hl⟩ := lookIn_ns hns
            exact ⟨_, PySem.DLX.kitx_exc (x := a) (od := some od) (hK ▸ xc), ⟨ho, rfl, rfl, hod⟩, fun z => nomatch z⟩
        · cases e
        · cases e
      · unfold isTab at h
        rw [hk] at h
        simp only at h
        obtain ⟨e, h1, rfl⟩ := Option.map_eq_some_iff.mp h
        have h2 := List.find?_some h1
        simp only [Bool.and_eq_true, decide_eq_true_eq] at h2
        have := (ok.e e (List.mem_of_find?_eq_some h1)).2
        rw [h2.1, h2.2] at this
        exact hK ▸ this
    · refine .inr fun c => ?_
      unfold isTab
      split
      · rfl
      · simp only [Option.map_eq_none_iff, List.find?_eq_none, Bool.and_eq_true, decide_eq_true_eq, not_and]
        exact fun e he h => absurd ⟨e, he, h⟩ hc
  · by_cases hy : ∃ n y, d = .ins n y
    · obtain ⟨n, y, rfl⟩ := hy
      by_cases hc : ∃ e ∈ ti, e.1 = n
      · refine .inl ⟨.ref (L.cA n), ?_, fun c k b hk h => ?_⟩
        · obtain ⟨e, he, rfl⟩ := hc
          have xc := (ok.i e he).1
          rcases vx with h | ⟨_, _, _, _, e, _⟩ | ⟨_, _, _, _, e, _⟩
          · cases h with
            | ins e1 e2 e3 => exact kit_of I rx (.base (.ins (rp.sub _ _ e1) (hK ▸ xc.cl) (hK ▸ xc.ha) (hK ▸ xc.hn) (hK ▸ xc.ht) (hK ▸ xc.hm)))
          · cases e
          · cases e
        · unfold isTab at h
          rw [hk] at h
          simp only at h
          obtain ⟨e, h1, rfl⟩ := Option.map_eq_some_iff.mp h
          have h2 := List.find?_some h1
          simp only [Bool.and_eq_true, decide_eq_true_eq] at h2
          have := (ok.i e (List.mem_of_find?_eq_some h1)).2
          rw [h2.1, h2.2] at this
          exact hK ▸ this
      · refine .inr fun c => ?_
        unfold isTab
        split
        · rfl
        · simp only [Option.map_eq_none_iff, List.find?_eq_none, Bool.and_eq_true, decide_eq_true_eq, not_and]
          exact fun e he h => absurd ⟨e, he, h⟩ hc
    have hd : ∀ c k, c.ck = some k → isTab tb te ti d c = match d.bk with
        | some t => (tb.find? fun e => decide (e.1 = t) && decide (e.2.1 = k)).map (·.2.2)
        | none => none := fun c k hk => by
      unfold isTab
      rw [hk]
      cases d <;> first | rfl | exact absurd ⟨_, _, rfl⟩ hx | exact absurd ⟨_, _, rfl⟩ hy
    cases hb : d.bk with
    | none =>
      refine .inr fun c => ?_
      cases hk : c.ck with
      | none => unfold isTab; rw [hk]
      | some k => rw [hd c k hk, hb]
    | some t =>
      refine .inl ⟨.type t, kit_vw hK rp I rx vx hb, fun c k b hk h => ?_⟩
      rw [hd c k hk, hb] at h
      simp only at h
      obtain ⟨e, h1, rfl⟩ := Option.map_eq_some_iff.mp h
      have h2 := List.find?_some h1
      simp only [Bool.and_eq_true, decide_eq_true_eq] at h2
      have := ok.b e (List.mem_of_find?_eq_some h1)
      rw [h2.1, h2.2] at this
      exact hK ▸ this
theorem ck_val {v : V} {u : Value} {c : D} {k : TyK} (h : c.ck = some k) (t : Den L g v c) (r : RelV v u) : u = L.tv k := by
  cases t <;> cases h
  · exact r
  · exact r
theorem tab_ck {tb : List (String × TyK × Bool)} {te ti : List (Nat × TyK × Bool)} {d c : D} {b : Bool} (h : isTab tb te ti d c = some b) : ∃ k, c.ck = some k := by
  unfold isTab at h
  split at h
  · cases h
  · exact ⟨_, by assumption⟩
theorem any_kit {tb : List (String × TyK × Bool)} {te ti : List (Nat × TyK × Bool)} {d : D} {t : Value} (hc : ∀ c k b, c.ck = some k → isTab tb te ti d c = some b → PySem.W.kitOne X.K t (L.tv k) = some b) : ∀ (cs : List D) (vs : List V) (us : List Value) (b : Bool), DenL L g vs cs → Vals vs us → isAny (isTab tb te ti d) cs = some b →
    PySem.W.kitAny X.K t us = some b := fun cs => by
  induction cs with
  | nil =>
    intro vs us b l r h
    cases l
    cases r
    cases h
    exact kitAny_nil
  | cons c cs ih =>
    intro vs us b l r h
    cases l with
    | cons tl l =>
      cases r with
      | cons rv r =>
        unfold isAny at h
        split at h
        · rename_i e
          cases h
          obtain ⟨k, hk⟩ := tab_ck e
          have eu := ck_val hk tl rv
          subst eu
          exact kitAny_cons (hc c k true hk e) (fun z => nomatch z) (fun _ => rfl)
        · rename_i e
          obtain ⟨k, hk⟩ := tab_ck e
          have eu := ck_val hk tl rv
          subst eu
          exact kitAny_cons (hc c k false hk e) (fun _ => ih _ _ b l r h) (fun z => nomatch z)
        · cases h
theorem ca_isi {tb : List (String × TyK × Bool)} {te ti : List (Nat × TyK × Bool)} (ok : TabOk L tb te ti) (hK : X.K = L.K) : CaD L X DenT (.builtin "isinstance") (fIsi (isTab tb te ti)) := by
  intro pins st σ H xs us Q I r ⟨Γ, g, σ', ds, d, rp, vs, e, w⟩
  unfold fIsi at e
  split at e
  · rename_i x c cs
    obtain ⟨b, hb, rfl⟩ := Option.map_eq_some_iff.mp e
    obtain ⟨v1, v2, rfl, a1, a2⟩ := vs.two
    obtain ⟨u1, u2, rfl, r1, r2⟩ := vals2 r
    obtain ⟨q, ws, rfl, h1, l1, _⟩ := a2.tup rp.sub
    cases (show u2 = Value.ref q from r2)
    obtain ⟨its, rv, ⟨o, ho, hc, n, hd⟩, _⟩ := I.tuple (hK ▸ h1)
    rcases kit_tab ok hK rp I r1 a1 with ⟨t, ⟨P, Z, p, hx⟩, hk⟩ | hn
    · obtain ⟨oc, od, dt, sl⟩ := o
      simp only at hc hd
      subst hc hd
      exact PySem.W.kia_tup Z I.kIn p ho (any_kit hk _ _ _ _ l1 rv hb) hx fun tk => ⟨.bl b, H, I.tok tk, rfl, w _ g H (Stp.refl rp) rfl (.bl b)⟩
    · unfold isAny at hb
      rw [hn c] at hb
      cases hb
  · cases e
  · rename_i x c _ _
    obtain ⟨b, hb, rfl⟩ := Option.map_eq_some_iff.mp e
    obtain ⟨v1, v2, rfl, a1, a2⟩ := vs.two
    obtain ⟨u1, u2, rfl, r1, r2⟩ := vals2 r
    obtain ⟨k, hk⟩ := tab_ck hb
    rcases kit_tab ok hK rp I r1 a1 with ⟨t, ⟨P, Z, p, hx⟩, hq⟩ | hn
    · have eu : u2 = L.tv k := by
        rcases a2 with h | ⟨_, _, _, _, e, _⟩ | ⟨_, _, _, _, e, _⟩
        · exact ck_val hk h r2
        · subst e; cases hk
        · subst e; cases hk
      subst eu
      exact PySem.W.kia_one Z I.kIn p (hq c k b hk hb) hx fun tk => ⟨.bl b, H, I.tok tk, rfl, w _ g H (Stp.refl rp) rfl (.bl b)⟩
    · rw [hn c] at hb
      cases hb
  · cases e
/-! ### class names -/
theorem de_own {x : Str} {n : Nat} (hg : Gl X x) (hm : X.mg x = some (.ref (L.cA n))) (hd : (x == ("__debug__" : Str)) = false := by decide) : DE L X (iLit (.clo n)) (.Name x pos) := de_c (pe_glob (v := .ref (L.cA n)) hg hm rfl hd) fun g => .clo n
theorem de_type {x : Str} {t : String} (hg : Gl X x) (hm : X.mg x = none) (hv : bootBuiltins x = some (.type t)) (hn : x ≠ "__name__" := by decide) (hd : (x == ("__debug__" : Str)) = false := by decide) : DE L X (iLit (.ty t)) (.Name x pos) :=
  de_c (pe_bltn (v := .ty t) hg hm hv rfl hn hd) fun g => .ty t
/-! ### repr -/
def D.shw : D → Option PyData
  | .dct _ [] => some (.dict [])
  | d => if d.pl = true then some d.py else none
def fRepr : List D → Option D
  | [d] => match d.shw with
    | some z => if z.showable = true ∧ z.depth ≤ 20 ∧ z.shown.length ≤ sizeLine then some (.str z.shown) else none
    | none => none
  | _ => none
mutual
theorem D.noDict : ∀ d : D, d.pl = true → d.py.hasDict = false
  | .non, _ | .bl _, _ | .int _, _ | .str _, _ => rfl
  | .tup xs, h => by simp only [D.py, PyData.hasDict]; exact D.noDictL xs (by simpa only [D.pl] using h)
  | .lst xs, h => by simp only [D.py, PyData.hasDict]; exact D.noDictL xs (by simpa only [D.pl] using h)
  | .dct _ _, h | .ins _ _, h | .exc _ _, h | .err _ _, h | .ty _, h | .clo _, h | .rnd, h | .scr _, h | .pr _, h => by simp only [D.pl] at h; cases h
theorem D.noDictL : ∀ ds : List D, D.plL ds = true → PyData.hasDictAll (D.pyL ds) = false
  | [], _ => rfl
  | x :: r, h => by
    simp only [D.plL, Bool.and_eq_true] at h
    simp only [D.pyL, PyData.hasDictAll, D.noDict x h.1, D.noDictL r h.2, Bool.or_self]
end
theorem vw_reads (hK : X.K = L.K) {pins : List (Addr × Obj)} {s : Shared} {v : V} {u : Value} {d : D} {z : PyData} {σ2 : L2.St} (rp : Rep L Γ g σ H) (I : Inv X pins σ2 H s) (rx : RelV v u) (vx : Vw L g H v d) (h : d.shw = some z) :
    ∃ as, Reads s.heap u z as ∧ (z.hasDict = true → sysModules ∉ as) := by
  unfold D.shw at h
  split at h
  · rename_i t0
    cases h
    have go : ∀ q, (Rd H q (.dK []) ∨ Rd H q (.dT [])) → ∃ as, Reads s.heap (.ref q) (.dict []) as ∧ (sysModules ∉ as) := fun q hq => by
      rcases hq with hq | hq
      · obtain ⟨_, hd, vs, r0, dd⟩ := dk_rd I.hok hq
        cases r0
        obtain ⟨o, es, ep, ho, hx, hdat, _, hp, _⟩ := dd
        obtain ⟨es⟩ := es
        cases hp
        exact ⟨_, Reads.dict ho hx.1 hdat .nil .nil, by simpa using fun z => by rw [← z] at hd; simp at hd⟩
      · obtain ⟨_, hd, xs, r0, o, es, ep, ho, hx, hdat, hp, _⟩ := dt_rd I.hok hq
        cases r0
        obtain ⟨es⟩ := es
        cases (show es = [] from hp)
        exact ⟨_, Reads.dict ho hx.1 hdat .nil .nil, by simpa using fun z => by rw [← z] at hd; simp at hd⟩
    have zl : ∀ {α β γ : Type} {ks : List α} {ws : List γ} {ds : List D} {f : α → D}, ks.length = ws.length → ws.length = ds.length → [] = (ks.map f).zip ds → ks = [] ∧ ws = [] := fun {α β γ ks ws ds f} h1 h2 h3 => by
      cases ks with
      | nil => exact ⟨rfl, List.eq_nil_of_length_eq_zero h1.symm⟩
      | cons k ks =>
        cases ds with
        | nil => rw [h2] at h1; simp at h1
        | cons d ds => simp at h3
    rcases vx with h | ⟨q, vs, ds, rfl, e, h1, h2, _⟩ | ⟨q, t, kvs, rfl, e, _, hd⟩
    · generalize hz : D.dct t0 [] = d at h
      cases h with
      | dK e1 e2 e3 =>
        obtain ⟨rfl, rfl⟩ := zl (β := Nat) e2 e3.length ((D.dct.inj hz).2)
        cases rx
        obtain ⟨as, r, hs⟩ := go _ (.inl (.inl (rp.sub _ _ e1)))
        exact ⟨as, r, fun _ => hs⟩
      | dT e1 e2 e3 =>
        obtain ⟨rfl, rfl⟩ := zl (β := Nat) e2 e3.length ((D.dct.inj hz).2)
        cases rx
        obtain ⟨as, r, hs⟩ := go _ (.inr (.inl (rp.sub _ _ e1)))
        exact ⟨as, r, fun _ => hs⟩
      | _ => cases hz
    · cases e
    · cases e
      cases rx
      rcases hd with ⟨ks, ws, ds, e1, e2, e3, e4⟩ | ⟨ks, ws, ds, e1, e2, e3, e4⟩
      · obtain ⟨rfl, rfl⟩ := zl (β := Nat) e2 e3.length e4.1
        obtain ⟨as, r, hs⟩ := go _ (.inl (.inl e1))
        exact ⟨as, r, fun _ => hs⟩
      · obtain ⟨rfl, rfl⟩ := zl (β := Nat) e2 e3.length e4.1
        obtain ⟨as, r, hs⟩ := go _ (.inr (.inl e1))
        exact ⟨as, r, fun _ => hs⟩
  · split at h
    · rename_i hp
      cases h
      have dp := vx.dp rp.sub hp
      obtain ⟨as, r⟩ := Dp.reads I d.py v u (hK ▸ dp) rx
      refine ⟨as, r, fun q => ?_⟩
      rw [D.noDict d hp] at q
      cases q
    · cases h
theorem ca_repr (hK : X.K = L.K) (hgd : X.A.guards = some []) (hu : X.A.units + 64 < cLine) : CaD L X DenT (.builtin "repr") fRepr := by
  intro pins st σ H xs us Q I r ⟨Γ, g, σ', ds, d, rp, vs, e, w⟩
  unfold fRepr at e
  split at e
  · split at e
    · rename_i z hz
      split at e
      · rename_i hs
        cases e
        obtain ⟨v, rfl, a⟩ := vs.one
        obtain ⟨u, rfl, rv⟩ := vals1 r
        obtain ⟨as, rd, hsm⟩ := vw_reads hK rp I rv a hz
        have fin : ∀ (h' : Heap) (t : Tok) (tk : Nat), (∀ b o, st.heap.get? b = some o → h'.get? b = some o) → EP X pins σ Q (.str z.shown t) { st with heap := h', toks := tk } := fun h' t tk hk =>
          ⟨.str z.shown, H, I.kept (t' := tk) hk, ⟨t, rfl⟩, w _ g H (Stp.refl rp) rfl (.str _)⟩
        have ref : ∀ q, u = .ref q → wpAny (model X.prog X.w) X.A (call (.builtin "repr") [u]) (EP X pins σ Q) X.xe st := fun q hq => by
          subst hq
          exact repr_of_reads' rd hs.1 hsm hgd (by omega) (fun b o e => e) (fun h' t tk hk => fin h' t tk hk) hs.2.2
        cases rd with
        | none => exact PySem.P.repr_of_none (fin _ _ _ fun b o e => e)
        | bool b => exact PySem.P.repr_of_bool (fin _ _ _ fun b o e => e)
        | int i t => exact PySem.P.repr_of_int (of_decide_eq_true hs.1) (fin _ _ _ fun b o e => e)
        | str x t => exact PySem.P.repr_of_str (fin _ _ _ fun b o e => e) hs.2.2
        | list => exact ref _ rfl
        | tuple => exact ref _ rfl
        | dict => exact ref _ rfl
      · cases e
    · cases e
  · cases e
end
end DL
/-! enumerate, {}. -/
namespace DL
open PySem PySem.Spec L2
section
variable {L : Lx} {X : Cx} {g g' : Gh} {H H' H1 : Hp} {σ : L2.St} {Γ : Env} {W : WX} {pos p : Pos} {i : IE}
def enumD (ds : List D) : List D := (List.range ds.length).map fun k => D.pr [.int (k : Nat), ds.getD k .non]
def iiEn (i : IE) : II := fun Γ => (evs [i] Γ).bind fun ds => match ds with
  | [.lst ds] => .ret (enumD ds)
  | _ => .stuck
theorem wk_enum {a : Addr} {vs : List V} {ds : List D} (h : g.F a = some (.lst vs)) (l : DenL L g vs ds) : Wk L (Ite L.K a) g (enumD ds) where
  step := fun i d Γ g' σ H e r f => by
    unfold enumD at e
    rw [List.getElem?_map] at e
    by_cases hi : i < ds.length
    · rw [List.getElem?_range hi] at e
      cases e
      have e2 : ds[i]? = some ds[i] := List.getElem?_eq_getElem hi
      obtain ⟨v, hv, t⟩ := (l.mono f.F f.mu).get e2
      have hH := r.sub _ _ (f.F _ _ h)
      refine ⟨⟨vs, v, .inl (.inl hH), hv⟩, fun x H' ⟨T, y, ex, nT, eH, q⟩ => ?_⟩
      subst ex eH
      have e3 := q vs (.inl (.inl hH))
      rw [hv] at e3
      cases e3
      refine ⟨g'.put T (.tup [.int (i : Nat), v]), stp_put r nT, rfl, .pr put_F (.cons (.int _) (.cons ?_ .nil))⟩
      rw [List.getD_eq_getElem?_getD, e2]
      exact t.mono (stp_put (o := .tup [.int (i : Nat), v]) r nT).le (stp_put (o := .tup [.int (i : Nat), v]) r nT).mu
    · rw [List.getElem?_eq_none (by simpa using hi)] at e; cases e
  stop := fun Γ g' σ H r f => ⟨vs, .inl (.inl (r.sub _ _ (f.F _ _ h))), by unfold enumD; rw [List.length_map, List.length_range]; exact Nat.le_of_eq l.length⟩
theorem di_enum (hK : X.K = L.K) {i : IE} {e : Expr} {elts : List Expr} {kk : Nat} {tpos : Pos} (hg : Gl X "enumerate") (hm : X.mg "enumerate" = none) (ha : DA L X [i] [e]) (hs : starEach [e] X.env = [(false, eval e X.env)] := by rfl) :
    DI L X (iiEn i) (.Tuple elts kk tpos) (.Call (.Name "enumerate" p) [e] [] pos) := fun W tk => by
  refine PI.imp (pi_enum hg hm (ha W tk) hs) fun σ H R ⟨Γ, g, r, w⟩ => RdA.go r w fun vs H1 ds g1 r1 s t w => ?_
  split at w
  · rename_i ds
    cases t with
    | cons a l =>
      cases a with
      | lst e l2 =>
        cases l
        exact ⟨_, _, rfl, .inl (.inl (r1.sub _ _ e)), w g1 H1 _ s rfl (hK ▸ wk_enum e l2)⟩
  · exact w.elim
theorem de_dnew : DE L X (iLit (.dct false [])) (.Dict [] [] pos) := fun W tk => PE.imp pe_dnewK fun σ H Q ⟨Γ, g, rp, w⟩ => fun p n => by
  refine w (.ref p) _ _ (stp_put (o := .dK []) rp n) rfl ?_
  exact .dK (ks := []) (vs := []) (ds := []) put_F rfl .nil
def RdOF (L : Lx) (f : D → D → Option D) : R2 := fun x y H Q => ∃ Γ g σ dx dy d, Rep L Γ g σ H ∧ Vw L g H x dx ∧ Vw L g H y dy ∧ f dx dy = some d ∧ Wn L FrT g H Q d g.bud
theorem of_addL : OpR X (binaryOp .Add) (RdOF L fAddL) := by
  intro pins st σ H x y v u Q I rx ry ⟨Γ, g, σ', dx, dy, d, rp, vx, vy, e, w⟩
  unfold fAddL at e
  split at e
  · split at e
    · rename_i z
      cases e
      obtain ⟨a, vs, rfl, h1, l1⟩ := vx.lst rp.sub
      obtain ⟨b, ws, rfl, h2, l2⟩ := vy.lst rp.sub
      refine op_cat pins st σ H _ _ v u Q I rx ry ⟨a, b, vs, ws, rfl, rfl, h1, h2, by rw [l1.length, l2.length]; exact z, fun p n => ?_⟩
      exact w _ _ _ (stp_new rp n false) rfl (FrT.new rp (Stp.refl rp) n (l1.append l2))
    · cases e
  · cases e
theorem df_addL {i j : IE} {a b : Expr} (ha : DV L X i a) (hb : DV L X j b) : DF L X (iOp fAddL i j) (.BinOp a .Add b pos) := fun W tk => PE.imp (pe_op of_addL (ha W tk) (hb W tk)) fun σ H Q ⟨Γ, g, rp, w⟩ => by
  refine Rd1.go rp w fun x H1 dx g1 r1 s1 t1 w => Rd1.go r1 w fun y H2 dy g2 r2 s2 t2 w => ?_
  split at w
  · rename_i d e
    exact ⟨Γ, g2, σ, dx, dy, d, r2, t1.step s2, t2, e, fun v g' H' s eb t => w v g' H' (s1.trans (s2.trans s)) eb (frT_back (s1.trans s2) t)⟩
  · exact w.elim
def fPowI := fII (fun i j => decide (0 ≤ j) && (decide (j ≤ 1000000) && decide (i.natAbs < 2 ^ 64))) fun i j => .int (i ^ j.toNat)
theorem od_powI : OpD L X (binaryOp .Pow) fPowI := opd_ii op_pow (fun _ _ h => by
  simp only [Bool.and_eq_true, decide_eq_true_eq] at h
  exact ⟨h.1, h.2.1, h.2.2⟩) fun _ _ _ => .int _
/-- -e -/
def iNeg (i : IE) : IE := fun Γ => (i Γ).bind fun d => match d with
  | .int z => .ret (.int (-z))
  | _ => .stuck
theorem de_neg {i : IE} {a : Expr} (h : DE L X i a) : DE L X (iNeg i) (.UnaryOp .USub a pos) := fun W tk => PE.imp (pe_un un_neg (h W tk)) fun σ H Q ⟨Γ, g, rp, w⟩ => by
  refine Rd1.go rp w fun x H1 dx g1 r1 s1 t1 w => ?_
  split at w
  · rename_i z
    cases t1
    exact ⟨z, rfl, w _ g1 H1 s1 rfl (.int _)⟩
  · exact w.elim
end
end DL
/-! The end: the law called by the claim's caller. -/
namespace DL
open PySem PySem.Spec PyProof.Rows L2
/-- the promise of a law's def at the entry -/
theorem spd_law {L : Lx} {m : List D → M D} {H : Hp} {a : Addr} {ns : List Int} (hT : L.T = []) (hE : L.er = none) (hF : ∀ a ps, H a ≠ some (.tbl ps)) (hS : SqL L.K H a (ns.map V.int)) (hm : (m [.scr ns]).wpB (lim + 1) (fun d _ => d = .bl true) (fun _ _ => False)) :
    SpD L m [.ref a] H (fun v _ => v = .bl true) fun _ _ _ => False := by
  refine ⟨[], ⟨H, none, lim + 1, hF⟩, [], [.scr ns], ⟨fun _ _ e => e, ⟨fun _ => rfl, fun m e => (by cases e)⟩, ⟨fun p hp => (by rw [hT] at hp; cases hp), fun _ _ _ _ h => (by rw [hE] at h; cases h)⟩, fun i b e => (by simp at e), fun i j b c p e => (by simp at e), fun b o e i => ?_, rfl⟩, .cons (.scr hS) .nil, ?_⟩
  · obtain ⟨m, e, _⟩ := i
    cases e
  · refine M.wpB_mono (fun d b e v g' H' s eb t => ?_) (fun _ _ f => f.elim) _ _ hm
    subst e
    cases t
    rfl
theorem law_callG {L : Lx} {P : Program} {w : World} {mg mb : Str → Option Value} {k : Nat} {fa a : Addr} {fd : FuncData} {x : Str} {m : List D → M D} {s₁ : Shared} {vs : List Value} {ns : List Int} (hT : L.T = []) (hE : L.er = none)
    (KX : L.K.In s₁.heap) (hns : s₁.heap.Ns mainGlobals mg) (hb : s₁.heap.Ns builtinsNs mb) (hbb : ∀ x : Str, x ≠ "__name__" → mb x = bootBuiltins x) (hlim : s₁.heap.NoLimit) (hg : s₁.gens = #[])
    (ha : s₁.heap.get? a = some { cls := .type "list", data := .seq vs.toArray }) (hi : IntsAre vs ns) (hl : ns.length ≤ sizeLine) (hr : Room k callerA)
    (F : ∀ base : Heap, L.K.In base → base.Ns mainGlobals mg → FG L P w mg base k fa fd [x] m) (hbind : ∀ (s : Shared) (u : Value), BindsTo s fd ⟨[u], []⟩ [(x, u)])
    (hm : (m [.scr ns]).wpB (lim + 1) (fun d _ => d = .bl true) (fun _ _ => False)) :
    codeAny (model P w) callerA (.call (.ref fa) ⟨[.ref a], []⟩) (fun r s' => r = .ok (.ret (.bool true)) ∧ OldK s₁.heap s'.heap ∧ s'.os = s₁.os ∧ AllBare s'.gens) s₁ := by
  have rv := vals_ints hi
  have core : ∀ H : Hp, Only H → SqL L.K H a (ns.map V.int) → HOk P w H s₁.heap → (∀ b, H b ≠ none → b = a) → (H a ≠ none → L.K.lookup a = none) →
      codeAny (model P w) callerA (.call (.ref fa) ⟨[.ref a], []⟩) (fun r s' => r = .ok (.ret (.bool true)) ∧ OldK s₁.heap s'.heap ∧ s'.os = s₁.os ∧ AllBare s'.gens) s₁ := by
    intro H hO hS hok hA hK
    have here : ∀ {b : Addr}, H b ≠ none → b = a := fun {b} h => hA b h
    have notA : ∀ {b : Addr} {o : Obj} {es : Array DictEntry} {ep : Nat}, s₁.heap.get? b = some o → o.data = .dict es ep → H b = none := fun {b o es ep} e d => by
      by_cases q : H b = none
      · exact q
      · have e' := here q
        subst e'
        rw [ha] at e
        cases e
        have d' : Data.seq vs.toArray _ = Data.dict es ep := d
        cases d'
    have nsK : ∀ {b : Addr} {m : Str → Option Value}, s₁.heap.Ns b m → (hidT s₁.heap H).Ns b m := fun {b m} ⟨o, es, ep, e, d, r⟩ => ⟨o, es, ep, hidT_get e (notA e d), d, r⟩
    have inK : L.K.In (hidT s₁.heap H) := fun b o e => hidT_get (KX b o e) (by
      by_cases q : H b = none
      · exact q
      · have e' := here q
        subst e'
        rw [hK q] at e
        cases e)
    have hM : Mod L.K mg (hidT s₁.heap H) := ⟨inK, nsK hns, ⟨mb, nsK hb, hbb⟩, let ⟨mc, h1, h2⟩ := hlim; ⟨mc, nsK h1, h2⟩⟩
    have e0 : Env0 P w L.K mg (hidT s₁.heap H) callerA [] s₁ H :=
      ⟨rfl, hM, fun b o e => of_hidT e, Nat.le_of_eq (hidT_size _ _), trivial, fun b hb => absurd (show b ∈ ([] : List Addr) from hb) (by simp), hok, .of_eq hg⟩
    refine codeAny_mono ((F _ inK (nsK hns)).go callerA [] s₁ H ⟨[.ref a], []⟩ [.ref a] [.ref a] _ _ hr rfl e0 (hbind s₁ (.ref a)) (.cons rfl .nil) rfl (spd_law hT hE (fun b ps z => by
      rcases hO b with q | ⟨ob, xs, q⟩
      · rw [q] at z; cases z
      · rw [q] at z; cases z) hS hm)) fun r s' h => ?_
    cases r with
    | error e =>
      obtain ⟨_, _, _, _, _, _, _, _, _, _, _, _, z⟩ := h
      exact z.elim
    | ok fl =>
      cases fl with
      | next => exact False.elim h
      | brk => exact False.elim h
      | cont => exact False.elim h
      | ret u =>
        obtain ⟨v, H', os, bare, un, hok', r', q⟩ := h
        have q' : v = .bl true := q
        subst q'
        obtain rfl : u = Value.bool true := r'
        refine ⟨rfl, OldK.of_keep fun b o e => ?_, os, bare⟩
        cases q : H b with
        | none => exact un.keep b o e q (fun z => absurd (show b ∈ ([] : List Addr) from z) (by simp)) (by simp)
        | some u =>
          rcases hO b with z | ⟨ob, xs, z⟩
          · rw [q] at z
            cases z
          · obtain ⟨e1, _⟩ := hok b _ z
            obtain ⟨e2, _⟩ := hok' b _ (un.frzs b ob _ z)
            rw [e] at e1
            cases e1
            exact e2
  have fits : vs.toArray.size ≤ sizeLine := by
    rw [List.size_toArray, hi.length]
    exact hl
  cases hk : L.K.lookup a with
  | some o =>
    have e := KX a o hk
    rw [ha] at e
    cases e
    refine core (fun _ => none) (fun _ => .inl rfl) (.inr ⟨_, vs.toArray, _, hk, rfl, rfl, rfl, fits, by simpa using rv⟩) (fun b u z => ?_) (fun b z => absurd rfl z) fun z => absurd rfl z
    have z' : (none : Option HO) = some u := z
    cases z'
  | none =>
    have at_ : ∀ b, b ≠ a → (if b = a then some (HO.frz { cls := .type "list", data := .seq vs.toArray } (.lst (ns.map V.int))) else none) = none := fun b h => if_neg h
    refine core (fun b => if b = a then some (.frz { cls := .type "list", data := .seq vs.toArray } (.lst (ns.map V.int))) else none) (fun b => ?_) (.inl (.inr ⟨{ cls := .type "list", data := .seq vs.toArray }, if_pos rfl⟩)) (fun b u z => ?_) (fun b z => ?_) fun _ => hk
    · by_cases h : b = a
      · exact .inr ⟨_, _, if_pos h⟩
      · exact .inl (at_ b h)
    · by_cases h : b = a
      · have z' := (if_pos h).symm.trans z
        cases z'
        subst h
        exact ⟨ha, by rw [List.length_map]; exact hl, vs, _, rv, ha⟩
      · exact absurd ((at_ b h).symm.trans z) (by simp)
    · by_cases h : b = a
      · exact h
      · exact absurd (at_ b h) z
end DL
namespace DLH
open PySem PySem.Spec PyProof.Rows L2
/-! ### a hook with conditions of one's own -/
abbrev AlX : Type := Bool × He.AlD
def obsX (n : Nat) (xb : PySem.W.Frag → Bool) (fa : List He.Fa) (fn : List He.DefD) (g : Addr → Option Obj) : AlX := (xb (He.frG g (He.asD g n)), He.obsD fa fn (He.frG g (He.asD g n)))
def hookX (n : Nat) (xb : PySem.W.Frag → Bool) (fa : List He.Fa) (fn : List He.DefD) : PySem.W.Hook where
  α := AlX
  obs := fun s => obsX n xb fa fn s.heap.get?
  val := fun _ => (true, He.valD fn)
  says := fun _ h => ∃ K : PySem.W.Frag, K.In h ∧ xb K = true ∧ He.SaysD fa fn K
  of := fun _ s e => ⟨He.frG s.heap.get? (He.asD s.heap.get? n), He.frG_in, congrArg (fun z : AlX => z.1) e, congrArg (fun z : AlX => z.2) e⟩
  keeps := fun _ _ _ ⟨K, hK, b, c⟩ k => ⟨K, PySem.W.Frag.In.keeps hK k, b, c⟩
theorem obsX_eq {n : Nat} {xb : PySem.W.Frag → Bool} {fa : List He.Fa} {fn : List He.DefD} {g : Addr → Option Obj} {s : Shared} (h : ∀ a, g a = s.heap.get? a) : obsX n xb fa fn g = (hookX n xb fa fn).obs s := by
  have e : g = s.heap.get? := funext h
  rw [e] <;> rfl
theorem fun_of {K : PySem.W.Frag} {x qual : Str} {st : Stmt} {f : Addr} {fd : FuncData} (F : FunD K x qual (defArgs st) (defBody st) (defScope st) [] [] f fd) : Fun K x qual st f fd := by
  obtain ⟨oc, od, dV, kV, doc, pm, an, cdv, ct, osl, rfl, lk, hcd, hD, hK⟩ := F.ex
  rcases hD with ⟨_, rfl⟩ | ⟨e, _⟩
  · exact ⟨⟨oc, od, kV, doc, pm, an, cdv, ct, osl, rfl, lk, hcd⟩, F.kp⟩
  · exact absurd rfl e
/-- what the top must show of an own exception class -/
def exB (K : PySem.W.Frag) (C : Addr) (f : Str) (bm : List Value) (newId : String) : Bool :=
  PySem.W.excInitIn K C bm newId && (PySem.W.excOver K C bm && (decide (PySem.W.takerIn K C f = some none) && (He.eqO (PySem.W.findIn K (.ref C) "__setattr__") (some (some (.builtin "object.__setattr__"))) &&
  (He.eqO (PySem.W.findIn K (.ref C) "__getattribute__") (some (some (.builtin "BaseException.__getattribute__"))) && (He.eqO (PySem.W.findIn K (.ref C) "__getattr__") (some none) && (He.eqO (PySem.W.findIn K (.ref C) f) (some none) &&
  (He.eqO (PySem.W.findIn K (.ref C) "__init__") (some (some (.ref (He.ma K C "__init__")))) && (decide (PySem.W.typeIn K (.ref (He.ma K C "__init__")) = some (.type "function")) && (PySem.W.keepIn K (.ref C) &&
  (decide (PySem.W.subIn K (.ref C) (.type "BaseException") = some true) && (decide (PySem.W.typeIn K (.ref C) = some (.type "type")) && PySem.W.hasDictIn K C)))))))))))
def icB (K : PySem.W.Frag) (C : Addr) : Bool :=
  He.eqO (PySem.W.findIn K (.ref C) "__getattribute__") (some (some (.builtin "BaseException.__getattribute__"))) && (He.eqO (PySem.W.findIn K (.ref C) "__getattr__") (some none) && (decide (PySem.W.subIn K (.ref C) (.type "BaseException") = some true) &&
  (PySem.W.hasDictIn K C && (He.eqO (PySem.W.findIn K (.ref C) "__class__") (some (some (.builtin "object.__class__"))) && (He.eqO (PySem.W.specialIn K (.builtin "object.__class__") "__get__") (some (some (.builtin "getset_descriptor.__get__"))) &&
  (decide (PySem.W.takesIn K (.builtin "object.__class__") = some true) && decide (PySem.W.mroIn K C (.type "object") = some true)))))))
theorem icB_ok {K : PySem.W.Frag} {C : Addr} (h : icB K C = true) : ExcC K C := by
  obtain ⟨h1, h⟩ := He.ba h
  obtain ⟨h2, h⟩ := He.ba h
  obtain ⟨h3, h⟩ := He.ba h
  obtain ⟨h4, h⟩ := He.ba h
  obtain ⟨h5, h⟩ := He.ba h
  obtain ⟨h6, h⟩ := He.ba h
  obtain ⟨h7, h8⟩ := He.ba h
  exact ⟨He.eqO_ok h1, He.eqO_ok h2, of_decide_eq_true h3, h4, He.eqO_ok h5, He.eqO_ok h6, of_decide_eq_true h7, of_decide_eq_true h8⟩
theorem exB_ok {K : PySem.W.Frag} {C : Addr} {f qn : Str} {B newId initId : String} {bm : List Value} {fd : FuncData} {p1 p2 q1 q2 q3 q4 : Pos} (FB : ExcBaseFacts B newId initId bm) (SF : StoreFacts B bm "object.__setattr__" "object") (h : exB K C f bm newId = true)
    (hf : f = "value" ∨ f = "place" ∨ f = "line" ∨ f = "most") (hqn : qn.length ≤ 200) (F : FunD K "__init__" qn (PySem.DLX.xA f p1 p2) (PySem.DLX.xB f q1 q2 q3 q4) (PySem.DLX.xS f) [] [] (He.ma K C "__init__") fd) :
    PySem.DLX.ExT K C (He.ma K C "__init__") f qn B newId initId bm := by
  obtain ⟨h1, h⟩ := He.ba h
  obtain ⟨h2, h⟩ := He.ba h
  obtain ⟨h3, h⟩ := He.ba h
  obtain ⟨h4, h⟩ := He.ba h
  obtain ⟨h5, h⟩ := He.ba h
  obtain ⟨h6, h⟩ := He.ba h
  obtain ⟨h7, h⟩ := He.ba h
  obtain ⟨h8, h⟩ := He.ba h
  obtain ⟨h9, h⟩ := He.ba h
  obtain ⟨h10, h⟩ := He.ba h
  obtain ⟨h11, h⟩ := He.ba h
  obtain ⟨h12, h13⟩ := He.ba h
  obtain ⟨oc, od, dV, kV, doc, pm, an, cdv, ct, osl, rfl, lk, hcd, hD, hK⟩ := F.ex
  rcases hD with ⟨_, rfl⟩ | ⟨e, _⟩
  · exact ⟨FB, SF, h1, h2, of_decide_eq_true h3, He.eqO_ok h4, He.eqO_ok h5, He.eqO_ok h6, He.eqO_ok h7, He.eqO_ok h8, of_decide_eq_true h9, h10, of_decide_eq_true h11, of_decide_eq_true h12, h13, hf, hqn, ⟨oc, od, kV, doc, pm, an, cdv, ct, osl, p1, p2, q1, q2, q3, q4, lk, hcd⟩⟩
  · exact absurd rfl e
end DLH
/-! raise of an own exception. -/
namespace DL
open PySem PySem.Spec L2
section
variable {L : Lx} {X : Cx} {g g' : Gh} {H H' H1 : Hp} {σ : L2.St} {Γ : Env} {W : WX} {pos p : Pos} {i : IE}
variable {C fI : Addr} {f qn : Str} {B newId initId : String} {bmB : List Value} {n : Nat} {x : Str} {a : Expr}
/-- C(e), to be raised: the exception let go, its dict tracked -/
def tMkx (f : Str) (C : Addr) (ta : TA) : St → Hp → XK → Prop := fun σ H Q => ta σ H fun vs H1 => ∃ v, vs = [v] ∧ ∀ d, H1 d = none → Q (.ref C) (some d) (upd H1 d (.xd [(f, v)]))
theorem pmk_x {ta : TA} (T : PySem.DLX.ExT X.K C fI f qn B newId initId bmB) (hr : X.A.depth + 1 < recursionLimit) (hg : Gl X x) (gC : X.mg x = some (.ref C)) (ha : PA X [a] ta)
    (hdb : (x == ("__debug__" : Str)) = false := by decide) (he : starEach (a :: []) X.env = (false, eval a X.env) :: starEach [] X.env := by rfl) (hpl : (backTo pos (starEach [] X.env)).any (·.1) = false := by rfl) :
    PMk X (.Call (.Name x p) [a] [] pos) (tMkx f C ta) := by
  intro pins s σ H Q I h
  refine wpAny_Call_Name_kw (ld_glob I hg gC ?_ hdb)
  refine PySem.W.callWith_K (h₀ := X.base) I.ok.mod.kin T.kC (thn (ha.run pos pins s σ H _ I h) fun us s1 ⟨vs, H1, I1, r1, v, ev, q1⟩ => ⟨I1.kIn, ?_⟩) he hpl
  subst ev
  cases r1 with
  | @cons _ v' _ us' rv rn =>
    cases rn
    have hlim := I1.nolimit
    obtain ⟨hp, gg, dr, tk, os⟩ := s1
    show wpAny _ _ (call (.ref C) [v']) _ _ _
    refine wpAny_call (PySem.DLX.x_made T false I1.kIn hlim hr fun h' tk' e d t1 M => ?_)
    show MkP X pins σ Q (.ref e) ⟨h', gg, dr, tk', os⟩
    obtain ⟨G, k1, k2⟩ := restrict h' fun b => decide (b ≠ e)
    have gk : ∀ b, b ≠ e → G.get? b = h'.get? b := fun b hb => k1 b (decide_eq_true hb)
    have ge : G.get? e = none := k2 e (by simp)
    have lt : ∀ {b : Addr} {o : Obj}, hp.get? b = some o → b ≠ e := fun {b o} q => Nat.ne_of_lt (Nat.lt_of_lt_of_le (Heap.lt_size q) M.new)
    have ob : ObjOk X.prog X.w (upd H1 d (.xd [(f, v)])) G d (.xd [(f, v)]) := ⟨_, M.ns.at (fun o q => (gk d M.dne).trans q), relO_put (fs := []) rv fun g => True.intro⟩
    have J : Inv X pins σ (upd H1 d (.xd [(f, v)])) ⟨G, gg, dr, tk', os⟩ := I1.laid (t' := tk') (fun b o q => (gk b (lt q)).trans (M.keep b o q)) M.dbig ob
    refine ⟨e, _, _, ⟨G, gg, dr, tk', os⟩, _, .ref C, some d, rfl, J, fun b o q => ?_, ge, M.obj, ⟨rfl, rfl⟩, rfl, rfl, ?_, rfl, I1.bare, raises_own T.exC T.tyC, q1 d (I1.hok.fresh M.dbig)⟩
    · by_cases hb : b = e
      · have q' : G.get? b = some o := q
        rw [hb, ge] at q'
        cases q'
      · exact (gk b hb).symm.trans q
    · rw [upd_ne (Ne.symm M.dne)]
      exact I1.hok.fresh M.new
/-- raise C(e) -/
def sRaise (n : Nat) (i : IE) : IS := fun Γ => (i Γ).bind fun d => .exc ⟨n, d⟩
theorem ds_raise {pos2 : Pos} (hc : X.calm = true) (T : PySem.DLX.ExT X.K C fI f qn B newId initId bmB) (hC : L.cA n = C) (hf : L.cF n = [f]) (hr : X.A.depth + 1 < recursionLimit) (hg : Gl X x) (gC : X.mg x = some (.ref C)) (h : DE L X i a)
    (hdb : (x == ("__debug__" : Str)) = false := by decide) (he : starEach (a :: []) X.env = (false, eval a X.env) :: starEach [] X.env := by rfl) (hpl : (backTo pos (starEach [] X.env)).any (·.1) = false := by rfl) :
    DS L X (sRaise n i) (.Raise (some (.Call (.Name x p) [a] [] pos)) none pos2) := fun W g0 H0 tk => by
  refine PS.imp (ps_raise hc tk (pmk_x T hr hg gC (pa_cons (h W tk) pa_nil he) hdb he hpl)) fun Dn σ H ⟨Γ, g, r, w⟩ => Rd1.goS r w fun v H1 d g1 r1 s t w => ⟨v, rfl, fun da nd => ?_⟩
  have s2 := stp_new (o := .xd [(f, v)]) r1.rep nd false
  exact w (.ref C) (some da) g1 σ _ (r1.base.trans s2) rfl ⟨by rw [← hC], da, f, v, rfl, hf, upd_same, t⟩
end
end DL
/-! try with several clauses, each with a name or without one. -/
namespace L2
open PySem PySem.Spec PyProof.Rows
abbrev SuT := Addr → Value → Option Addr → TS
/-- the ends of a suite whose error stood in slot i -/
def Ends.bare (D : Ends) (i : Nat) : Ends := { nx := fun σ H => D.nx (σ.set i none) H, rt := D.rt, bk := fun σ H => D.bk (σ.set i none) H, ct := fun σ H => D.ct (σ.set i none) H }
def suAt (o : Option Nat) (ts : SuT) (D : Ends) (cls : Value) (d : Option Addr) (σ : St) (H : Hp) (a : Addr) : Prop := match o with
  | none => ts a cls d D σ H
  | some i => ts a cls d (D.bare i) (σ.set i (some (.ref a))) H
def wEach (K : PySem.W.Frag) (Wout : WX) (D : Ends) : List (Value × Option Nat × SuT) → WX
  | [] => Wout
  | (c, o, ts) :: r => fun cls d σ H => ∃ b, PySem.W.exmOne K cls c = some b ∧ (b = true → ∀ a, H a = none → suAt o ts D cls d σ H a) ∧ (b = false → wEach K Wout D r cls d σ H)
inductive HdE (X : Cx) : List ExceptHandler → List (Value × Option Nat × SuT) → Prop
  | nil : HdE X [] []
  | one {x : Str} {c : Value} {ts : SuT} {b₀ : Stmt} {suite : List Stmt} {np pos' : Pos} {hds : List ExceptHandler} {l : List (Value × Option Nat × SuT)} (hc : Names X x c)
      (su : ∀ (a : Addr) (oe : Obj) (cls : Value) (d : Option Addr) (pn : List (Addr × Obj)), Zc cls d oe → (∃ vs, oe.data = .fields vs) → PSs (X.suite a ((a, oe) :: pn)) (b₀ :: suite) (ts a cls d)) (r : HdE X hds l) :
      HdE X (.ExceptHandler (some (.Name x np)) none (b₀ :: suite) pos' :: hds) ((c, none, ts) :: l)
  | as {x n : Str} {i : Nat} {c : Value} {ts : SuT} {b₀ : Stmt} {suite : List Stmt} {np pos' : Pos} {hds : List ExceptHandler} {l : List (Value × Option Nat × SuT)} (hc : Names X x c) (hi : X.N[i]? = some n) (hln : X.env.kindOf n = some .local)
      (su : ∀ (a : Addr) (oe : Obj) (cls : Value) (d : Option Addr) (pn : List (Addr × Obj)), Zc cls d oe → (∃ vs, oe.data = .fields vs) → PSs (X.suite a ((a, oe) :: pn)) (b₀ :: suite) (ts a cls d)) (r : HdE X hds l) :
      HdE X (.ExceptHandler (some (.Name x np)) (some n) (b₀ :: suite) pos' :: hds) ((c, some i, ts) :: l)
section
variable {X : Cx} {body : List Stmt} {h₀ : ExceptHandler} {hds : List ExceptHandler} {l : List (Value × Option Nat × SuT)} {pos : Pos} {tb : WX → TS} {Wout : WX}
theorem ps_tryE (hs : X.stack = X.env :: X.outer) (hf : X.env.frame = some X.env.locals) (hN : X.N.Nodup) (tk : Takes X Wout)
    (hb : ∀ (W : WX) (pn : List (Addr × Obj)) (xe : Value → Shared → Prop), Takes (X.tr pn xe) W → PassesOwn (model X.prog X.w) X.A X.env xe → PSs (X.tr pn xe) body (tb W))
    (hh : HdE X (h₀ :: hds) l) : PS X (.Try body (h₀ :: hds) [] [] pos) (fun D σ H => tb (wEach X.K Wout D l) D σ H) := by
  refine ⟨fun pins s σ H D I h => ?_⟩
  have ok := I.ok
  have fr : X.A.frames = some (X.env :: X.outer) := by rw [ok.frames, hs]
  refine wpAny_Try_except ?_
  refine wpAny_mono ((hb (wEach X.K Wout D l) (X.pn ++ pins) (fun e s₁ => wpAny (model X.prog X.w) X.A (noteFrame e X.env) (fun _ s₂ => wpAny (model X.prog X.w) X.A (setFlight e none) (fun _ s₃ =>
    wpAny (model X.prog X.w) X.A (handleBy e X.env (h₀ :: hds)) (SP X pins D) X.xe s₃) X.xe s₂) X.xe s₁) (fun u t xx => ?_) PassesOwn.looking).run [] s σ H D (I.toTry _) h) (fun f t hsp => ?_) (fun _ _ he => he)
  · obtain ⟨a, B, sB, pinsB, τ, HB, cls, d, rfl, JT, nb, up, sky, na, os, ag, w⟩ := xx
    have J : Inv X pins τ HB sB := JT.ofTry ok
    have sky2 : Sky B (X.env :: X.outer) a (Zc cls d) X.env.locals t.heap := by rw [← hs]; exact sky
    show wpAny (model X.prog X.w) X.A (noteFrame (.ref a) X.env) _ _ _
    refine Sky.land Zc.steady fr hf sky2 fun h3 fl3 up3 => ?_
    have J3 : Inv X pins τ HB { t with heap := h3 } := J.landed nb fl3.1 (up.trans up3) os ag
    obtain ⟨o3, vs3, g3, z3, d3⟩ := fl3.there
    have apart : a ∉ frs (X.env :: X.outer) := fun hm => by
      obtain ⟨_, o', e', hnf⟩ := fl3.2.2.1.mem hm
      rw [g3] at e'
      cases e'
      exact hnf _ d3
    have nL : a ≠ X.env.locals := fun z => apart (List.mem_filterMap.mpr ⟨X.env, List.mem_cons_self, by rw [hf, z]⟩)
    have nF : a ∉ X.fs := fun hm => by
      obtain ⟨e, he, q⟩ := List.mem_filterMap.mp hm
      exact apart (List.mem_filterMap.mpr ⟨e, List.mem_cons_of_mem _ he, q⟩)
    have S3 := J3.suite g3 d3 na nL nF
    have LT : PySem.W.Looks (model X.prog X.w) h3 (typeOf (.ref a)) cls := fun A Q E s k q => wpAny_typeOf_ref (k _ _ g3) (by rw [z3.1]; exact q)
    have named : ∀ {x : Str} {c : Value} {np : Pos} {Q : Value → Shared → Prop} {E : Value → Shared → Prop}, Names X x c → Q c { t with heap := h3 } →
        wpAny (model X.prog X.w) (X.A.mark (some (.ref a))) (eval (.Name x np) X.env) Q E { t with heap := h3 } := fun {x c np Q E} hc q => by
      obtain ⟨hg, hdbg, hm | ⟨hm, hv, hnn⟩⟩ := hc
      · exact ld_glob (X := X.suite a ((a, o3) :: (X.pn ++ pins))) S3 hg hm q hdbg
      · exact ld_blt (X := X.suite a ((a, o3) :: (X.pn ++ pins))) S3 hg hm hv q hnn hdbg
    have go : ∀ {hds' : List ExceptHandler} {l' : List (Value × Option Nat × SuT)}, HdE X hds' l' → wEach X.K Wout D l' cls d τ HB →
        wpAny (model X.prog X.w) X.A (handleBy (.ref a) X.env hds') (SP X pins D) X.xe { t with heap := h3 } := by
      intro hds' l' hk
      induction hk with
      | nil =>
        intro w
        refine wpAny_handleBy_nil ?_
        obtain ⟨k1, k2, k3, oe, vs, T, oT, tz, he, hz, hd, h1, hr⟩ := id fl3
        unfold PySem.passOn
        refine wpAny_bind (wpAny_field he hd h1 ?_)
        rw [if_neg (show ¬ ((Value.ref T == Value.none) = true) from by simp)]
        have fin : wpAny (model X.prog X.w) X.A (setFlight (.ref a) X.env.frame) (fun _ s4 => wpAny (model X.prog X.w) X.A (throw (.ref a) : Sem Flow) (SP X pins D) X.xe s4) X.xe { t with heap := h3 } := by
          rw [hf]
          refine HandSPX.setFlight_upZ fl3 fun h4 up5 up4 => wpAny_throw (tk _ _ ?_)
          exact ⟨a, B, sB, pins, τ, HB, cls, d, rfl, J, nb, (up.trans up3).trans up4, .inr (.inr (by rw [hs]; exact up5)), na, os, ag, w⟩
        first
          | exact wpAny_bind (wpAny_pure (wpAny_bind fin))
          | exact wpAny_bind fin
      | @one x c ts b₀ suite np pos' hds2 l2 hc su r ih =>
        intro w
        obtain ⟨b, hb1, yes, no⟩ := w
        refine wpAny_handleBy_cons (codeAny_handlers_test ?_) (by intro q; cases q)
        refine named hc ((PySem.W.exm_one (M := model X.prog X.w) J3.kIn LT hb1).here ?_)
        cases b with
        | false => exact ih (no rfl)
        | true =>
          refine codeAny_handlers_suite ?_
          refine HandSPX.lands_againZ fl3 fun h4 fl4 up4 => ?_
          obtain ⟨o4, vs4, g4, z4, d4⟩ := fl4.there
          have S4 := (J.landed (s' := { t with heap := h4 }) nb fl4.1 ((up.trans up3).trans up4) os ag).suite g4 d4 na nL nF
          refine wpAny_mono ((su a o4 cls d (X.pn ++ pins) z4 ⟨_, d4⟩).run [] _ _ HB _ S4 (yes rfl a na)) (fun f s6 hsp => ?_) (fun _ _ z => False.elim z)
          cases f with
          | ret u =>
            obtain ⟨v6, σ6, H6, S6, r6, q6⟩ := hsp
            exact ⟨_, _, _, S6.unsuite ok, r6, q6⟩
          | next => obtain ⟨σ6, H6, S6, q6⟩ := hsp; exact ⟨_, _, S6.unsuite ok, q6⟩
          | brk => obtain ⟨σ6, H6, S6, q6⟩ := hsp; exact ⟨_, _, S6.unsuite ok, q6⟩
          | cont => obtain ⟨σ6, H6, S6, q6⟩ := hsp; exact ⟨_, _, S6.unsuite ok, q6⟩
      | @as x n i c ts b₀ suite np pos' hds2 l2 hc hi hln su r ih =>
        intro w
        obtain ⟨b, hb1, yes, no⟩ := w
        refine wpAny_handleBy_cons (codeAny_handlers_test ?_) (by intro q; cases q)
        refine named hc ((PySem.W.exm_one (M := model X.prog X.w) J3.kIn LT hb1).here ?_)
        cases b with
        | false => exact ih (no rfl)
        | true =>
          refine codeAny_handlers_suite_as ?_
          refine HandSPX.lands_againZ fl3 fun h4 fl4 up4 => ?_
          obtain ⟨o4, vs4, g4, z4, d4⟩ := fl4.there
          have S4 := (J.landed (s' := { t with heap := h4 }) nb fl4.1 ((up.trans up3).trans up4) os ag).suite g4 d4 na nL nF
          refine store_ok (X := X.suite a ((a, o4) :: (X.pn ++ pins))) (v := .ref a) S4 hN hi (.inl hln) rfl (fun s5 S5 => ?_) (.inr hln)
          refine wpAny_mono ((su a o4 cls d (X.pn ++ pins) z4 ⟨_, d4⟩).run [] s5 _ HB _ S5 (yes rfl a na)) (fun f s6 hsp => ?_) (fun _ _ z => False.elim z)
          have fine : ∀ {σ6 : St} {H6 : Hp} {Q : Shared → Prop}, Inv (X.suite a ((a, o4) :: (X.pn ++ pins))) [] σ6 H6 s6 → (∀ s7, Inv X pins (σ6.set i none) H6 s7 → Q s7) →
              wpAny (model X.prog X.w) X.A (do bindName X.env n .none; unbindBehindTheSuite X.env n pos') (fun _ s7 => Q s7) X.xe s6 := fun {σ6 H6 Q} S6 hq => gone_ok (S6.unsuite ok) hN hi hln hq
          cases f with
          | ret u =>
            obtain ⟨v6, σ6, H6, S6, r6, q6⟩ := hsp
            exact fine S6 fun s7 J7 => ⟨_, _, _, J7, r6, q6⟩
          | next => obtain ⟨σ6, H6, S6, q6⟩ := hsp; exact fine S6 fun s7 J7 => ⟨_, _, J7, q6⟩
          | brk => obtain ⟨σ6, H6, S6, q6⟩ := hsp; exact fine S6 fun s7 J7 => ⟨_, _, J7, q6⟩
          | cont => obtain ⟨σ6, H6, S6, q6⟩ := hsp; exact fine S6 fun s7 J7 => ⟨_, _, J7, q6⟩
    exact go hh w
  · cases f with
    | ret u =>
      obtain ⟨v, τ, HB, JT, r, q⟩ := hsp
      exact ⟨v, τ, HB, JT.ofTry ok, r, q⟩
    | next => obtain ⟨τ, HB, JT, q⟩ := hsp; exact wpAny_execs_nil ⟨τ, HB, JT.ofTry ok, q⟩
    | brk => obtain ⟨τ, HB, JT, q⟩ := hsp; exact ⟨τ, HB, JT.ofTry ok, q⟩
    | cont => obtain ⟨τ, HB, JT, q⟩ := hsp; exact ⟨τ, HB, JT.ofTry ok, q⟩
end
end L2
/-! Fields of instances; what is done with a run that raises. -/
namespace DL
open PySem PySem.Spec L2
theorem lookup_zip {f : Str} {v : V} : ∀ {ns : List Str} {vs : List V} {j : Nat}, ns.Nodup → ns[j]? = some f → vs[j]? = some v → (ns.zip vs).lookup f = some v := fun {ns} => by
  induction ns with
  | nil => intro vs j _ h; simp at h
  | cons n ns ih =>
    intro vs j nd h1 h2
    cases vs with
    | nil => simp at h2
    | cons w vs =>
      rw [List.zip_cons_cons, List.lookup_cons]
      cases j with
      | zero =>
        simp only [List.getElem?_cons_zero, Option.some.injEq] at h1 h2
        subst h1 h2
        simp
      | succ j =>
        simp only [List.getElem?_cons_succ] at h1 h2
        have nd2 := List.nodup_cons.mp nd
        have hm : f ∈ ns := List.mem_of_getElem? h1
        have e : (f == n) = false := by
          rw [beq_eq_false_iff_ne]
          intro z
          exact nd2.1 (z ▸ hm)
        rw [e]
        exact ih nd2.2 h1 h2
section
variable {L : Lx} {X : Cx} {g g' : Gh} {H H' : Hp} {σ : L2.St} {Γ : Env} {W : WX} {pos : Pos} {i : IE} {f : Str}
/-- x.f of an instance: at_ tells where the field stands in the class's list -/
def iFld (at_ : Nat → Option Nat) (i : IE) : IE := fun Γ => (i Γ).bind fun d => match d with
  | .ins n ds => match at_ n with
    | some j => match ds[j]? with
      | some d => .ret d
      | none => .stuck
    | none => .stuck
  | _ => .stuck
theorem de_fld {at_ : Nat → Option Nat} {e : Expr} (h : DE L X i e) (hK : X.K = L.K) (hx : ∀ n j, at_ n = some j → (L.cF n).Nodup ∧ (L.cF n)[j]? = some f ∧ Cls L.K (L.cA n) ∧ NoAttr L.K (L.cA n) f)
    (hb : attributeBase e f X.env (eval e X.env) = eval e X.env := by rfl) : DE L X (iFld at_ i) (.Attribute e f pos) := fun W tk => PE.imp (pe_fld (h W tk) hb) fun σ H Q ⟨Γ, g, rp, w⟩ => by
  refine Rd1.go rp w fun v H1 d g1 r1 s t w => ?_
  split at w
  · rename_i n ds
    split at w
    · rename_i j hj
      split at w
      · rename_i d hd
        obtain ⟨h1, h2, h3, h4⟩ := hx n j hj
        cases t with
        | ins e1 e2 l =>
          obtain ⟨v, hv, t⟩ := l.get hd
          exact ⟨_, _, _, _, v, rfl, r1.sub _ _ e1, hK ▸ h3, hK ▸ h4, lookup_zip h1 h2 hv, w v g1 H1 s rfl t⟩
      · exact w.elim
    · exact w.elim
  · exact w.elim
end
namespace M
/-- a run, its value handed on, its exception caught -/
def tryM {α β : Type} : M α → (α → M β) → (Ex → M β) → M β
  | ret a, f, _ => f a
  | exc x, _, h => h x
  | stuck, _, _ => stuck
  | choose n k, f, h => choose n fun i => (k i).tryM f h
  | begun k, f, h => begun (k.tryM f h)
theorem wpB_try {α β : Type} {Q : β → Nat → Prop} {E : Ex → Nat → Prop} {f : α → M β} {h : Ex → M β} : ∀ (m : M α) (b : Nat), (m.tryM f h).wpB b Q E ↔ m.wpB b (fun a c => (f a).wpB c Q E) (fun x c => (h x).wpB c Q E)
  | ret _, _ => Iff.rfl
  | exc _, _ => Iff.rfl
  | stuck, _ => Iff.rfl
  | choose _ _, 0 => Iff.rfl
  | choose _ k, b + 1 => forall_congr' fun i => forall_congr' fun _ => wpB_try (k i) b
  | begun k, _ => and_congr_right' (wpB_try k lim)
end M
end DL
/-! try at the level of data. -/
namespace DL
open PySem PySem.Spec L2
/-- with a held error -/
def Lx.at (L : Lx) (a : Addr) (n : Nat) (d : Addr) (u : V) : Lx := { L with er := some (a, n, d, u) }
mutual
def D.noErr : D → Bool
  | .non | .bl _ | .int _ | .str _ => true
  | .tup xs | .lst xs => D.noErrL xs
  | .dct _ _ | .ins _ _ | .exc _ _ | .err _ _ | .ty _ | .clo _ | .rnd | .scr _ | .pr _ => false
def D.noErrL : List D → Bool
  | [] => true
  | x :: r => D.noErr x && D.noErrL r
end
section
variable {L : Lx} {g g' : Gh} {H H' : Hp} {σ : L2.St} {Γ : Env} {ea ed : Addr} {en : Nat} {eu : V}
mutual
theorem Den.up (h0 : L.er = none) : ∀ {v : V} {d : D}, Den L g v d → Den (L.at ea en ed eu) g v d
  | _, _, .non => .non
  | _, _, .bl b => .bl b
  | _, _, .int i => .int i
  | _, _, .str s => .str s
  | _, _, .tup e l => .tup e (DenL.up h0 l)
  | _, _, .lst e l => .lst e (DenL.up h0 l)
  | _, _, .dK e z l => .dK e z (DenL.up h0 l)
  | _, _, .dT e z l => .dT e z (DenL.up h0 l)
  | _, _, .ins (c := c) (n := n) e z l => .ins (L := L.at ea en ed eu) (c := c) (n := n) e z (DenL.up h0 l)
  | _, _, .exc (n := n) a b c l => .exc (L := L.at ea en ed eu) (n := n) a b c (Den.up h0 l)
  | _, _, .err a _ => by rw [h0] at a; cases a
  | _, _, .ty n => .ty n
  | _, _, .clo n => .clo (L := L.at ea en ed eu) n
  | _, _, .rnd e => .rnd e
  | _, _, .scr e => .scr e
  | _, _, .pr e l => .pr e (DenL.up h0 l)
theorem DenL.up (h0 : L.er = none) : ∀ {vs : List V} {ds : List D}, DenL L g vs ds → DenL (L.at ea en ed eu) g vs ds
  | _, _, .nil => .nil
  | _, _, .cons a l => .cons (Den.up h0 a) (DenL.up h0 l)
end
mutual
theorem Den.drop : ∀ {v : V} {d : D}, Den (L.at ea en ed eu) g v d → d.noErr = true → Den L g v d
  | _, _, .non, _ => .non
  | _, _, .bl b, _ => .bl b
  | _, _, .int i, _ => .int i
  | _, _, .str s, _ => .str s
  | _, _, .tup e l, h => .tup e (DenL.dropE l (by simpa only [D.noErr] using h))
  | _, _, .lst e l, h => .lst e (DenL.dropE l (by simpa only [D.noErr] using h))
  | _, _, .dK _ _ _, h => by simp only [D.noErr] at h; cases h
  | _, _, .dT _ _ _, h => by simp only [D.noErr] at h; cases h
  | _, _, .ins _ _ _, h => by simp only [D.noErr] at h; cases h
  | _, _, .exc _ _ _ _, h => by simp only [D.noErr] at h; cases h
  | _, _, .err _ _, h => by simp only [D.noErr] at h; cases h
  | _, _, .ty _, h => by simp only [D.noErr] at h; cases h
  | _, _, .clo _, h => by simp only [D.noErr] at h; cases h
  | _, _, .rnd _, h => by simp only [D.noErr] at h; cases h
  | _, _, .scr _, h => by simp only [D.noErr] at h; cases h
  | _, _, .pr _ _, h => by simp only [D.noErr] at h; cases h
theorem DenL.dropE : ∀ {vs : List V} {ds : List D}, DenL (L.at ea en ed eu) g vs ds → D.noErrL ds = true → DenL L g vs ds
  | _, _, .nil, _ => .nil
  | _, _, .cons a l, h => by
    simp only [D.noErrL, Bool.and_eq_true] at h
    exact .cons (Den.drop a h.1) (DenL.dropE l h.2)
end
theorem DctAt.up (h0 : L.er = none) {p : Addr} {t : Bool} {kvs : List (D × D)} (h : DctAt L g H p t kvs) : DctAt (L.at ea en ed eu) g H p t kvs := by
  rcases h with ⟨ks, vs, ds, h1, h2, h3, h4⟩ | ⟨ks, vs, ds, h1, h2, h3, h4⟩
  · exact .inl ⟨ks, vs, ds, h1, h2, h3.up h0, h4⟩
  · exact .inr ⟨ks, vs, ds, h1, h2, h3.up h0, h4⟩
theorem Bind1.up (h0 : L.er = none) {x : Option V} {b : B} (h : Bind1 L g H x b) : Bind1 (L.at ea en ed eu) g H x b := by
  cases b with
  | fz d => obtain ⟨v, e, h⟩ := h; exact ⟨v, e, h.up h0⟩
  | ol ds => obtain ⟨p, vs, e, hp, hd, r⟩ := h; exact ⟨p, vs, e, hp, hd.up h0, r⟩
  | od t kvs => obtain ⟨p, e, h1, h2, hd⟩ := h; exact ⟨p, e, h1, h2, hd.up h0⟩
  | os n fs => obtain ⟨p, dx, vs, e, es, h1, hd, r⟩ := h; exact ⟨p, dx, vs, e, es, h1, hd.up h0, r⟩
theorem Rep.up (h0 : L.er = none) {f : Str} (hf : L.cF en = [f]) (hd : H ed = some (.xd [(f, eu)])) (r : Rep L Γ g σ H) : Rep (L.at ea en ed eu) Γ g σ H :=
  ⟨r.sub, r.rnd, ⟨r.tab.1, fun a n d u e => by cases e; exact ⟨f, hf, hd⟩⟩, fun i b e => let ⟨x, e1, h⟩ := r.loc i b e; ⟨x, e1, h.up h0⟩, r.dis, r.nF, r.len⟩
theorem Stp.drop (h0 : L.er = none) (s : Stp (L.at ea en ed eu) g H g' H') : Stp L g H g' H' :=
  ⟨s.le, s.mu, s.sub, s.keep, s.nf, s.nm, s.rnd, s.bud, ⟨s.tab.1, fun a n d u e => by rw [h0] at e; cases e⟩⟩
end
section
variable {L : Lx} {X : Cx} {g0 g g' : Gh} {H0 H H' : Hp} {σ : L2.St} {Γ : Env} {W : WX} {pos : Pos}
/-- a suite that returns -/
def tsX (L : Lx) (i : IE) : SuT := fun a cls d D σ H => ∃ n dd u, cls = .ref (L.cA n) ∧ d = some dd ∧ tRet (Rd1 (L.at a n dd u) DenT (fun _ _ _ _ => False) i) D σ H
abbrev Cl : Type := Nat × Option Nat × IE
def Cl.su (L : Lx) (c : Cl) : Value × Option Nat × SuT := (.ref (L.cA c.1), c.2.1, tsX L c.2.2)
/-- what a suite's expression must be read to do -/
def DSu (L : Lx) (X : Cx) (i : IE) (e : Expr) : Prop := ∀ (a : Addr) (oe : Obj) (cls : Value) (d : Option Addr) (pn : List (Addr × Obj)), Zc cls d oe → (∃ vs, oe.data = .fields vs) → ∀ n dd u, cls = .ref (L.cA n) → d = some dd → DE (L.at a n dd u) (X.suite a ((a, oe) :: pn)) i e
theorem su_ret {i : IE} {e : Expr} {p : Pos} (h : DSu L X i e) (a : Addr) (oe : Obj) (cls : Value) (d : Option Addr) (pn : List (Addr × Obj)) (hz : Zc cls d oe) (hf : ∃ vs, oe.data = .fields vs) : PSs (X.suite a ((a, oe) :: pn)) [.Return (some e) p] (tsX L i a cls d) := by
  refine ⟨fun pins s σ H D I ⟨n, dd, u, h1, h2, q⟩ => ?_⟩
  exact (pss_one (ps_ret (h a oe cls d pn hz hf n dd u h1 h2 _ LamX.takes0))).run pins s σ H D I q
/-- the clauses' run -/
def clRun (sub : Nat → Nat → Option Bool) : List Cl → Ex → Env → M Fl
  | [], x, _ => .exc x
  | (k, o, i) :: r, x, Γ => match sub x.c k with
    | some true => (i (match o with
      | some j => Γ.set j (some (.fz (.err x.c x.v)))
      | none => Γ)).noX.bind fun d => if d.noErr = true then .ret (.rt d) else .stuck
    | some false => clRun sub r x Γ
    | none => .stuck
theorem cl_wish {sub : Nat → Nat → Option Bool} (hsub : ∀ n k b, sub n k = some b → PySem.W.exmOne L.K (.ref (L.cA n)) (.ref (L.cA k)) = some b) (h0 : L.er = none) {Dn : Ends} {x : Ex} {b : Nat} (r : RepS L g0 H0 Γ g σ H) : ∀ (cl : List Cl),
    (clRun sub cl x Γ).wpB b (FlT L g0 H0 g Dn) (XS L W g0 H0) → XW L (wEach L.K W Dn (cl.map (Cl.su L))) g σ H x b := fun cl => by
  induction cl with
  | nil => intro w cls d g' H' s e ea; exact w cls d g' σ H' (r.base.trans s) e ea
  | cons c cl ih =>
    obtain ⟨k, o, i⟩ := c
    intro w cls d g' H' s e ea
    unfold clRun at w
    split at w
    · rename_i hs
      obtain ⟨hc, da, f, v, hd, hf, hda, hv⟩ := id ea
      refine ⟨true, hc ▸ hsub _ _ _ hs, fun _ a na => ?_, fun z => Bool.noConfusion z⟩
      subst e
      have base := r.base.trans s
      have rp : Rep (L.at a x.c da v) Γ g' σ H' := (r.rep.step s).up h0 hf hda
      have fin : ∀ (Γ' : Env) (σ' : L2.St) (D' : Ends), (∀ v H, D'.rt v H = Dn.rt v H) → Rep (L.at a x.c da v) Γ' g' σ' H' → ((i Γ').noX.bind fun d => if d.noErr = true then M.ret (Fl.rt d) else M.stuck).wpB g'.bud (FlT L g0 H0 g Dn) (XS L W g0 H0) → tsX L i a cls d D' σ' H' := fun Γ' σ' D' hD rp' w' => by
        refine ⟨x.c, da, v, hc, hd, Γ', g', rp', M.wpB_mono (fun dd c w2 u g2 H2 s2 e2 t2 => ?_) (fun _ _ z => z) _ _ (M.wpB_noX _ _ ((M.wpB_bind _ _).mp w'))⟩
        split at w2
        · rename_i hn
          rw [hD]
          exact w2 g2 u H2 (base.trans (s2.drop h0)) e2 (t2.drop hn)
        · exact w2.elim
      cases o with
      | none => exact fin Γ σ Dn (fun _ _ => rfl) rp w
      | some j => exact fin _ _ (Dn.bare j) (fun _ _ => rfl) (rp.set (.err rfl (hv.up h0))) w
    · rename_i hs
      obtain ⟨hc, _⟩ := id ea
      exact ⟨false, hc ▸ hsub _ _ _ hs, fun z => Bool.noConfusion z, fun _ => ih w cls d g' H' s e ea⟩
    · exact w.elim
/-- try: x = e / except .. -/
def sTrySet (sub : Nat → Nat → Option Bool) (n : Nat) (i : IE) (cl : List Cl) : IS := fun Γ => (i Γ).tryM (fun d => .ret (.nx (Γ.set n (some (.fz d))))) fun x => clRun sub cl x Γ
/-- try: return e / except .. -/
def sTryRet (sub : Nat → Nat → Option Bool) (i : IE) (cl : List Cl) : IS := fun Γ => (i Γ).tryM (fun d => .ret (.rt d)) fun x => clRun sub cl x Γ
variable {sub : Nat → Nat → Option Bool} {i : IE} {e : Expr} {cl : List Cl} {h₀ : ExceptHandler} {hds : List ExceptHandler}
theorem ds_trySet {n : Nat} {x : Str} {px ps : Pos} (hK : X.K = L.K) (h0 : L.er = none) (hs : X.stack = X.env :: X.outer) (hf : X.env.frame = some X.env.locals) (hN : X.N.Nodup) (hi : X.N[n]? = some x) (hx : Loc X.env.scope x)
    (hsub : ∀ n k b, sub n k = some b → PySem.W.exmOne L.K (.ref (L.cA n)) (.ref (L.cA k)) = some b)
    (h : ∀ (pn : List (Addr × Obj)) (xe : Value → Shared → Prop), PassesOwn (model X.prog X.w) X.A X.env xe → DE L (X.tr pn xe) i e) (hh : HdE X (h₀ :: hds) (cl.map (Cl.su L)))
    (hsw : swapsWith e (some (.Name x px)) ps.line X.env = pure false := by rfl) (hfn : X.fn x = true ∨ X.env.scope.names.lookup x = some .local := by first | exact .inl rfl | exact .inr rfl) :
    DS L X (sTrySet sub n i cl) (.Try [.Assign [.Name x px] e ps] (h₀ :: hds) [] [] pos) := fun W g0 H0 tk => by
  refine PS.imp (ps_tryE (tb := fun W => tAsg (Rd1 L DenT W i) (gName n)) hs hf hN tk (fun W' pn xe tk' pa => pss_one (ps_set (X := X.tr pn xe) hN hi hx (h pn xe pa W' tk') hsw hfn)) hh) fun Dn σ H ⟨Γ, g, r, w⟩ => ?_
  refine ⟨Γ, g, r.rep, M.wpB_mono (fun d b k v g' H' s eb t => ?_) (fun x b k => hK ▸ cl_wish hsub h0 r cl k) _ _ ((M.wpB_try _ _).mp w)⟩
  exact k g' _ H' ((r.step s).set t) s.fle eb
theorem ds_tryRet {ps : Pos} (hK : X.K = L.K) (h0 : L.er = none) (hs : X.stack = X.env :: X.outer) (hf : X.env.frame = some X.env.locals) (hN : X.N.Nodup)
    (hsub : ∀ n k b, sub n k = some b → PySem.W.exmOne L.K (.ref (L.cA n)) (.ref (L.cA k)) = some b)
    (h : ∀ (pn : List (Addr × Obj)) (xe : Value → Shared → Prop), PassesOwn (model X.prog X.w) X.A X.env xe → DE L (X.tr pn xe) i e) (hh : HdE X (h₀ :: hds) (cl.map (Cl.su L))) :
    DS L X (sTryRet sub i cl) (.Try [.Return (some e) ps] (h₀ :: hds) [] [] pos) := fun W g0 H0 tk => by
  refine PS.imp (ps_tryE (tb := fun W => tRet (Rd1 L DenT W i)) hs hf hN tk (fun W' pn xe tk' pa => pss_one (ps_ret (h pn xe pa W' tk'))) hh) fun Dn σ H ⟨Γ, g, r, w⟩ => ?_
  refine ⟨Γ, g, r.rep, M.wpB_mono (fun d b k v g' H' s eb t => ?_) (fun x b k => hK ▸ cl_wish hsub h0 r cl k) _ _ ((M.wpB_try _ _).mp w)⟩
  exact k g' v H' (r.base.trans s) eb t
theorem hd_nil : HdE X [] (([] : List Cl).map (Cl.su L)) := .nil
theorem hd_as {x n : Str} {j k : Nat} {np pos' p : Pos} (hc : Names X x (.ref (L.cA k))) (hi : X.N[j]? = some n) (hln : X.env.kindOf n = some .local) (h : DSu L X i e) (r : HdE X hds (cl.map (Cl.su L))) :
    HdE X (.ExceptHandler (some (.Name x np)) (some n) [.Return (some e) p] pos' :: hds) (((k, some j, i) :: cl).map (Cl.su L)) := .as hc hi hln (su_ret h) r
theorem hd_one {x : Str} {k : Nat} {np pos' p : Pos} (hc : Names X x (.ref (L.cA k))) (h : DSu L X i e) (r : HdE X hds (cl.map (Cl.su L))) :
    HdE X (.ExceptHandler (some (.Name x np)) none [.Return (some e) p] pos' :: hds) (((k, none, i) :: cl).map (Cl.su L)) := .one hc (su_ret h) r
/-- e.f of the held error -/
def iErr (ok : Nat → Bool) (j : Nat) : IE := fun Γ => match Γ[j]? with
  | some (some (.fz (.err n x))) => if ok n = true then .ret x else .stuck
  | _ => .stuck
theorem de_err {ok : Nat → Bool} {j : Nat} {f n : Str} {np : Pos} {a : Addr} {oe : Obj} {cls : Value} {d : Option Addr} {pn : List (Addr × Obj)} {m : Nat} {dd : Addr} {u : V} (hz : Zc cls d oe) (hf : ∃ vs, oe.data = .fields vs) (hc : cls = .ref (L.cA m)) (hd : d = some dd) (hK : X.K = L.K)
    (hx : ∀ n, ok n = true → L.cF n = [f] ∧ XfC L.K (L.cA n) ∧ PySem.W.findIn L.K (.ref (L.cA n)) f = some none) (hv : PE (X.suite a ((a, oe) :: pn)) (.Name n np) (tVar j))
    (hb : attributeBase (.Name n np) f X.env (eval (.Name n np) X.env) = eval (.Name n np) X.env := by rfl) : DE (L.at a m dd u) (X.suite a ((a, oe) :: pn)) (iErr ok j) (.Attribute (.Name n np) f pos) := fun W tk => by
  by_cases ho : ok m = true
  · obtain ⟨h1, h2, h3⟩ := hx m ho
    refine PE.imp (pe_xf (hK ▸ h2) (hK ▸ h3) hz hf hv hb) fun σ H Q ⟨Γ, g, rp, w⟩ => ?_
    unfold iErr at w
    split at w
    · rename_i n' x e
      split at w
      · obtain ⟨y, e1, v, e2, t⟩ := rp.loc _ _ e
        subst e2
        cases t with
        | err q t =>
          cases q
          obtain ⟨f', h4, h5⟩ := rp.tab.2 _ _ _ _ rfl
          have h6 : L.cF m = [f'] := h4
          rw [h1] at h6
          cases h6
          exact ⟨_, e1, rfl, hc, dd, _, u, hd, h5, by simp [List.lookup], w u g H (Stp.refl rp) rfl t⟩
      · exact w.elim
    · exact w.elim
  · refine ⟨fun pins s σ H Q I ⟨Γ, g, rp, w⟩ => ?_⟩
    unfold iErr at w
    split at w
    · rename_i n' x e
      obtain ⟨y, e1, v, e2, t⟩ := rp.loc _ _ e
      cases t with
      | err q t =>
        cases q
        rw [if_neg ho] at w
        exact w.elim
    · exact w.elim
end
end DL
/-! An instance while it is made. -/
namespace DL
open PySem PySem.Spec L2
section
variable {L : Lx} {X : Cx} {g0 g g' : Gh} {H0 H H' : Hp} {σ σ' : L2.St} {Γ Γ' : Env} {W : WX} {pos : Pos} {C dx p : Addr} {fs fs' : List (Str × V)}
theorem inM_ins {mu : Option Addr} {a : Addr} (h : InM mu (upd H p (.ins C dx fs)) a) : InM mu H a := by
  obtain ⟨m, e, h⟩ := h
  refine ⟨m, e, ?_⟩
  rcases h with h | ⟨kvs, k, e4, hm⟩
  · exact .inl h
  · have q : m ≠ p := fun z => by rw [z, upd_same] at e4; cases e4
    rw [upd_ne q] at e4
    exact .inr ⟨kvs, k, e4, hm⟩
theorem stp_ins {gs : Gh} {Hs : Hp} (s : Stp L gs Hs g H) (n : Hs p = none) (h1 : H p = some (.ins C dx fs)) (h3 : g.F p = none) (h4 : ¬ InM g.mu H p) : Stp L gs Hs g (upd H p (.ins C dx fs')) := by
  have ne : ∀ a, Hs a ≠ none → a ≠ p := fun a h z => h (by rw [z]; exact n)
  refine ⟨s.le, s.mu, fun a o e => ?_, fun a o e nt nm => ?_, fun a h => ?_, fun a o e i => s.nm a o e (inM_ins i), ⟨s.rnd.1, fun m e => ?_⟩, s.bud, ⟨fun q hq => ?_, fun ea en ed eu he => ?_⟩⟩
  · have q : a ≠ p := fun z => by rw [z, h3] at e; cases e
    rw [upd_ne q]; exact s.sub a o e
  · obtain ⟨e1, m1⟩ := s.keep a o e nt nm
    rw [upd_ne (ne a (by rw [e]; simp))]
    exact ⟨e1, fun i => m1 (inM_ins i)⟩
  · rw [upd_ne (ne a h)]; exact s.nf a h
  · obtain ⟨c, l, cs, ls, at_, e1, e2, e3, r⟩ := s.rnd.2 m e
    have q : ∀ a, InM g.mu H a → a ≠ p := fun a i z => h4 (z ▸ i)
    have em : upd H p (.ins C dx fs') m = H m := upd_ne (q m ⟨m, e, .inl rfl⟩)
    have ec : upd H p (.ins C dx fs') c = H c := upd_ne (q c ⟨m, e, .inr ⟨_, Sum.inr "cells", e1, by simp⟩⟩)
    have el : upd H p (.ins C dx fs') l = H l := upd_ne (q l ⟨m, e, .inr ⟨_, Sum.inr "left", e1, by simp⟩⟩)
    exact ⟨c, l, cs, ls, at_, em.trans e1, ec.trans e2, el.trans e3, r⟩
  · obtain ⟨ps, e1, e2, e3⟩ := s.tab.1 q hq
    have n1 : q.1 ≠ p := fun z => by rw [z, h1] at e1; cases e1
    refine ⟨ps, by rw [upd_ne n1]; exact e1, e2, fun pos cv hc => ?_⟩
    obtain ⟨c, z1, z2⟩ := e3 pos cv hc
    have n2 : c ≠ p := fun z => by rw [z, h1] at z2; unfold LamX.CodeO at z2; cases z2
    exact ⟨c, z1, by rw [upd_ne n2]; exact z2⟩
  · obtain ⟨f, e1, e2⟩ := s.tab.2 ea en ed eu he
    have n1 : ed ≠ p := fun z => by rw [z, h1] at e2; cases e2
    exact ⟨f, e1, by rw [upd_ne n1]; exact e2⟩
/-- a field of the instance that is made is given -/
theorem RepS.updI {n c : Nat} {ds ds' : List (Str × D)} {vs vs' : List V} (r : RepS L g0 H0 Γ g σ H) (en : Γ[n]? = some (some (.os c ds))) (esf : L.sf = some p) (es : σ[n]? = some (some (.ref p))) (h1 : H p = some (.ins (L.cA c) dx ((ds.map (·.1)).zip vs))) (h3 : g.F p = none) (h4 : ¬ InM g.mu H p)
    (l : DenL L g vs' (ds'.map (·.2))) : RepS L g0 H0 (Γ.set n (some (.os c ds'))) g σ (L2.upd H p (.ins (L.cA c) dx ((ds'.map (·.1)).zip vs'))) := by
  have n0 : H0 p = none := r.new n _ p en rfl es
  have hl : n < Γ.length := (List.getElem?_eq_some_iff.mp en).1
  have s := stp_ins (fs' := (ds'.map (·.1)).zip vs') r.base n0 h1 h3 h4
  have at_ : ∀ (i : Nat) (b : B), (Γ.set n (some (.os c ds')))[i]? = some (some b) → (i = n ∧ b = .os c ds') ∨ (i ≠ n ∧ Γ[i]? = some (some b)) := fun i b e => by
    by_cases h : i = n
    · subst h
      rw [List.getElem?_set_self hl] at e
      cases e
      exact .inl ⟨rfl, rfl⟩
    · rw [List.getElem?_set_ne (Ne.symm h)] at e
      exact .inr ⟨h, e⟩
  have f : ∀ (i : Nat) (b : B), (Γ.set n (some (.os c ds')))[i]? = some (some b) → b.own = true → ∃ b', Γ[i]? = some (some b') ∧ b'.own = true := fun i b e o => by
    rcases at_ i b e with ⟨rfl, rfl⟩ | ⟨_, e⟩
    · exact ⟨_, en, rfl⟩
    · exact ⟨b, e, o⟩
  refine ⟨⟨s.sub, s.rnd, s.tab, fun i b e => ?_, fun i j b c q e1 e2 o1 o2 s1 s2 => ?_, s.nm, by rw [List.length_set]; exact r.rep.len⟩, s, fun i b q e o sq => ?_⟩
  · rcases at_ i b e with ⟨rfl, rfl⟩ | ⟨hi, e⟩
    · exact ⟨_, es, p, dx, vs', rfl, esf, upd_same, l, h3, fun z => h4 (inM_ins z)⟩
    · obtain ⟨x, ex, hb⟩ := r.rep.loc i b e
      refine ⟨x, ex, ?_⟩
      cases b with
      | fz d => exact hb
      | ol es' =>
        obtain ⟨q, ws, rfl, a1, a2, a3, a4⟩ := hb
        have nq : q ≠ p := fun z => hi (r.rep.dis i n _ _ p e en rfl rfl (z ▸ ex) es)
        exact ⟨q, ws, rfl, by rw [upd_ne nq]; exact a1, a2, a3, fun z => a4 (inM_ins z)⟩
      | od t kvs =>
        obtain ⟨q, rfl, a1, a2, a3⟩ := hb
        have nq : q ≠ p := fun z => hi (r.rep.dis i n _ _ p e en rfl rfl (z ▸ ex) es)
        exact ⟨q, rfl, a1, fun z => a2 (inM_ins z), a3.step (upd_ne nq) (fun _ _ e => e) fun _ e => e⟩
      | os m fs =>
        obtain ⟨q, dy, ws, rfl, sq, a1, a2, a3, a4⟩ := hb
        have nq : q ≠ p := fun z => hi (r.rep.dis i n _ _ p e en rfl rfl (z ▸ ex) es)
        exact ⟨q, dy, ws, rfl, sq, by rw [upd_ne nq]; exact a1, a2, a3, fun z => a4 (inM_ins z)⟩
  · obtain ⟨b', e1', o1'⟩ := f i b e1 o1
    obtain ⟨c', e2', o2'⟩ := f j c e2 o2
    exact r.rep.dis i j b' c' q e1' e2' o1' o2' s1 s2
  · obtain ⟨b', e', o'⟩ := f i b e o
    exact r.new i b' q e' o' sq
theorem zip_snoc {f : Str} {v : V} : ∀ {ns : List Str} {vs : List V}, ns.length = vs.length → (ns ++ [f]).zip (vs ++ [v]) = ns.zip vs ++ [(f, v)] := fun {ns vs} h => List.zip_append h
theorem zip_names : ∀ {ns : List Str} {vs : List V}, ns.length = vs.length → (ns.zip vs).map (·.1) = ns := fun {ns} => by
  induction ns with
  | nil => intro vs _; rfl
  | cons n ns ih =>
    intro vs h
    cases vs with
    | nil => simp at h
    | cons v vs => rw [List.zip_cons_cons, List.map_cons, ih (by simpa using h)]
/-- self.f = e, self at slot n -/
def sSelf (ok : Nat → Bool) (n : Nat) (f : Str) (i : IE) : IS := fun Γ => (i Γ).bind fun d => match Γ[n]? with
  | some (some (.os c fs)) => if ok c = true ∧ f ∉ fs.map (·.1) ∧ fs.length < 1000 then .ret (.nx (Γ.set n (some (.os c (fs ++ [(f, d)]))))) else .stuck
  | _ => .stuck
theorem putF_new {f : Str} {v : V} : ∀ {fs : List (Str × V)}, f ∉ fs.map (·.1) → putF f v fs = fs ++ [(f, v)] := fun {fs} => by
  induction fs with
  | nil => intro _; rfl
  | cons q fs ih =>
    obtain ⟨n, y⟩ := q
    intro h
    rw [List.map_cons, List.mem_cons, not_or] at h
    unfold putF
    rw [if_neg (fun z => h.1 z.symm), ih h.2]
    rfl
theorem ds_self {ok : Nat → Bool} {n : Nat} {f sn : Str} {sp p1 : Pos} {i : IE} {e : Expr} (hK : X.K = L.K) (hx : ∀ c, ok c = true → Cls L.K (L.cA c) ∧ NoAttr L.K (L.cA c) f) (hv : PE X (.Name sn sp) (tVar n)) (h : DE L X i e)
    (hs : swapsWith e (some (.Attribute (.Name sn sp) f p1)) pos.line X.env = pure false := by rfl) : DS L X (sSelf ok n f i) (.Assign [.Attribute (.Name sn sp) f p1] e pos) := fun W g0 H0 tk => by
  refine PS.imp (ps_fld hv (h W tk) hs) fun Dn σ H ⟨Γ, g, r, w⟩ => Rd1.goS r w fun v H1 d g1 r1 s t w => ?_
  split at w
  · rename_i c fs en
    split at w
    · rename_i hc
      obtain ⟨x, es, p, dx, vs, e2, sq, h1, hd, h3, h4⟩ := r1.rep.loc _ _ en
      subst e2
      obtain ⟨k1, k2⟩ := hx c hc.1
      have hl : (fs.map (·.1)).length = vs.length := by rw [hd.length, List.length_map, List.length_map]
      have ep : putF f v ((fs.map (·.1)).zip vs) = ((fs ++ [(f, d)]).map (·.1)).zip (vs ++ [v]) := by
        rw [putF_new (by rw [zip_names hl]; exact hc.2.1), List.map_append, List.map_cons, List.map_nil, zip_snoc hl]
      refine ⟨.ref p, es, p, L.cA c, dx, _, rfl, h1, hK ▸ k1, hK ▸ k2, ?_, ?_⟩
      · rw [List.length_zip, ← hl, Nat.min_self, List.length_map]
        exact hc.2.2
      · rw [ep]
        exact w g1 σ _ (r1.updI en sq es h1 h3 h4 (by rw [List.map_append]; exact hd.append (.cons t .nil))) s.fle rfl
    · exact w.elim
  · exact w.elim
end
end DL
/-! An __init__, a class called. -/
namespace DL
open PySem PySem.Spec L2
/-- an __init__'s run: what stands in self behind it -/
def runIn (n : Nat) (body : IS) (c : Nat) (ds : List D) : M (List (Str × D)) := (body (some (.os c []) :: env0 (n - 1) ds)).bind fun (fl : Fl) => match fl with
  | .nx Γ => match (Γ[0]? : Option (Option B)) with
    | some (some (.os c' fs)) => if c' = c then .ret fs else .stuck
    | _ => .stuck
  | _ => .stuck
def Lx.ms (L : Lx) (a : Addr) : Lx := { L with sf := some a }
section
variable {L : Lx} {g : Gh} {H : Hp} {σ : L2.St} {a : Addr}
mutual
theorem Den.toMk : ∀ {v : V} {d : D}, Den L g v d → Den (L.ms a) g v d
  | _, _, .non => .non
  | _, _, .bl b => .bl b
  | _, _, .int i => .int i
  | _, _, .str s => .str s
  | _, _, .tup e l => .tup e (DenL.toMk l)
  | _, _, .lst e l => .lst e (DenL.toMk l)
  | _, _, .dK e z l => .dK e z (DenL.toMk l)
  | _, _, .dT e z l => .dT e z (DenL.toMk l)
  | _, _, .ins (c := c) (n := n) e z l => .ins (L := L.ms a) (c := c) (n := n) e z (DenL.toMk l)
  | _, _, .exc (n := n) p q r l => .exc (L := L.ms a) (n := n) p q r (Den.toMk l)
  | _, _, .err (n := n) p l => .err (L := L.ms a) (n := n) p (Den.toMk l)
  | _, _, .ty n => .ty n
  | _, _, .clo n => .clo (L := L.ms a) n
  | _, _, .rnd e => .rnd e
  | _, _, .scr e => .scr e
  | _, _, .pr e l => .pr e (DenL.toMk l)
theorem DenL.toMk : ∀ {vs : List V} {ds : List D}, DenL L g vs ds → DenL (L.ms a) g vs ds
  | _, _, .nil => .nil
  | _, _, .cons p l => .cons (Den.toMk p) (DenL.toMk l)
end
mutual
theorem Den.ofMk : ∀ {v : V} {d : D}, Den (L.ms a) g v d → Den L g v d
  | _, _, .non => .non
  | _, _, .bl b => .bl b
  | _, _, .int i => .int i
  | _, _, .str s => .str s
  | _, _, .tup e l => .tup e (DenL.ofMk l)
  | _, _, .lst e l => .lst e (DenL.ofMk l)
  | _, _, .dK e z l => .dK e z (DenL.ofMk l)
  | _, _, .dT e z l => .dT e z (DenL.ofMk l)
  | _, _, .ins (c := c) (n := n) e z l => .ins (L := L) (c := c) (n := n) e z (DenL.ofMk l)
  | _, _, .exc (n := n) p q r l => .exc (L := L) (n := n) p q r (Den.ofMk l)
  | _, _, .err (n := n) p l => .err (L := L) (n := n) p (Den.ofMk l)
  | _, _, .ty n => .ty n
  | _, _, .clo n => .clo (L := L) n
  | _, _, .rnd e => .rnd e
  | _, _, .scr e => .scr e
  | _, _, .pr e l => .pr e (DenL.ofMk l)
theorem DenL.ofMk : ∀ {vs : List V} {ds : List D}, DenL (L.ms a) g vs ds → DenL L g vs ds
  | _, _, .nil => .nil
  | _, _, .cons p l => .cons (Den.ofMk p) (DenL.ofMk l)
end
theorem Stp.toMk {g' : Gh} {H' : Hp} (s : Stp L g H g' H') : Stp (L.ms a) g H g' H' := ⟨s.le, s.mu, s.sub, s.keep, s.nf, s.nm, s.rnd, s.bud, s.tab⟩
theorem Stp.ofMk {g' : Gh} {H' : Hp} (s : Stp (L.ms a) g H g' H') : Stp L g H g' H' := ⟨s.le, s.mu, s.sub, s.keep, s.nf, s.nm, s.rnd, s.bud, s.tab⟩
end
section
variable {L : Lx} {X : Cx} {gB g g' : Gh} {HB H H' : Hp} {σ : L2.St} {Γ : Env} {W : WX} {pos : Pos}
/-- a run begins where nothing is known of the slots -/
theorem Rep.bare (r : Rep L Γ g σ H) : Rep L [] g [] H := ⟨r.sub, r.rnd, r.tab, fun i b e => (by simp at e), fun i j b c p e => (by simp at e), r.nF, rfl⟩
/-- an own instance of class c at a, with the fields fs, new since (gB, HB) -/
structure Own (L : Lx) (gB : Gh) (HB : Hp) (g : Gh) (H : Hp) (a : Addr) (c : Nat) (fs : List (Str × D)) : Prop where
  st : Stp L gB HB g H
  new : HB a = none
  ins : ∃ dx vs, H a = some (.ins (L.cA c) dx ((fs.map (·.1)).zip vs)) ∧ DenL L g vs (fs.map (·.2))
  nF : g.F a = none
  nM : ¬ InM g.mu H a
def SpI (L : Lx) (c : Nat) (m : List D → M (List (Str × D))) (vs : List V) (H : Hp) (Q : VK) (E : XK) : Prop := ∃ gB HB Γ g σ ds a vs', vs = V.ref a :: vs' ∧ Rep L Γ g σ H ∧ Own L gB HB g H a c [] ∧ DenL L g vs' ds ∧
  (m ds).wpB g.bud (fun fs b => ∀ g' H', g'.bud = b → Own L gB HB g' H' a c fs → Q .non H') (XF L E gB HB)
structure FGI (L : Lx) (P : Program) (w : World) (mg : Str → Option Value) (base : Heap) (k : Nat) (f : Addr) (fd : FuncData) (ps : List Str) (c : Nat) (m : List D → M (List (Str × D))) : Prop where
  go : ∀ (A : Around) (outer : List PySem.Env) (s : Shared) (H : Hp) (args : Args) (us : List Value) (vs : List V) (Q : VK) (E : XK), Room k A → A.guards = some [] → Env0 P w L.K mg base A outer s H → BindsTo s fd args (ps.zip us) → Vals vs us → us.length = ps.length → SpI L c m vs H Q E →
    codeAny (model P w) A (.call (.ref f) args) (CR (L2.CX P w) outer P w H s Q E) s
theorem own_start {N : List Str} {ds : List D} {vs : List V} {a : Addr} {c : Nat} (r : Rep L Γ g σ H) (o : Own L gB HB g H a c []) (l : DenL L g vs ds) (hn : vs.length + 1 ≤ N.length) :
    RepS (L.ms a) gB HB (some (.os c []) :: env0 (N.length - 1) ds) g (L2.start N (.ref a :: vs)) H := by
  have at_ : ∀ (i : Nat) (b : B), (some (.os c []) :: env0 (N.length - 1) ds)[i]? = some (some b) → (i = 0 ∧ b = .os c []) ∨ ∃ j d, i = j + 1 ∧ ds[j]? = some d ∧ b = .fz d := fun i b e => by
    cases i with
    | zero => cases e; exact .inl ⟨rfl, rfl⟩
    | succ i =>
      rw [List.getElem?_cons_succ] at e
      unfold env0 at e
      by_cases h : i < ds.length
      · rw [List.getElem?_append_left (by simpa using h), List.getElem?_map] at e
        cases q : ds[i]? with
        | none => rw [q] at e; cases e
        | some d => rw [q] at e; cases e; exact .inr ⟨i, d, rfl, q, rfl⟩
      · rw [List.getElem?_append_right (by simpa using h), List.getElem?_replicate] at e
        split at e <;> cases e
  obtain ⟨dx, ws, h1, h2⟩ := o.ins
  refine ⟨⟨r.sub, r.rnd, r.tab, fun i b e => ?_, fun i j b c p e1 e2 o1 o2 s1 s2 => ?_, r.nF, ?_⟩, o.st.toMk, fun i b p e ob s => ?_⟩
  · rcases at_ i b e with ⟨rfl, rfl⟩ | ⟨j, d, rfl, hd, rfl⟩
    · exact ⟨some (.ref a), rfl, a, dx, ws, rfl, rfl, h1, h2.toMk, o.nF, o.nM⟩
    · obtain ⟨v, hv, t⟩ := l.get hd
      refine ⟨some v, ?_, v, rfl, t.toMk⟩
      unfold L2.start
      rw [List.getElem?_append_left (by rw [List.length_map, List.length_cons]; exact Nat.succ_lt_succ (List.getElem?_eq_some_iff.mp hv).1), List.getElem?_map, List.getElem?_cons_succ, hv]
      rfl
  · rcases at_ i b e1 with ⟨rfl, rfl⟩ | ⟨_, _, _, _, rfl⟩
    · rcases at_ j c e2 with ⟨rfl, rfl⟩ | ⟨_, _, _, _, rfl⟩
      · rfl
      · cases o2
    · cases o1
  · unfold env0 L2.start
    rw [List.length_cons, List.length_append, List.length_append, List.length_map, List.length_map, List.length_replicate, List.length_replicate, List.length_cons, l.length]
    have := l.length
    omega
  · rcases at_ i b e with ⟨rfl, rfl⟩ | ⟨_, _, _, _, rfl⟩
    · cases s
      exact o.new
    · cases ob
theorem fgi_of {P : Program} {w : World} {mg : Str → Option Value} {base : Heap} {x qual : Str} {st : Stmt} {f : Addr} {fd : FuncData} {N ps : List Str} {k c : Nat} {body : IS} (F : Fun L.K x qual st f fd) (S : FnScope N ps (defScope st))
    (hb : ∀ (a : Addr) (cdv : Value) (A : Around) (outer : List PySem.Env) (s : Shared) (H : Hp) (E : XK), Room k (A.deeper (PyProof.Rows.envOfC qual (defScope st) s.heap.objs.size f cdv)) → A.guards = some [] →
      DSs (L.ms a) (cxOf (L2.CX P w) P w L.K mg base N qual (defScope st) f cdv A outer s H E) body (defBody st)) : FGI L P w mg base (k + 1) f fd ps c (runIn N.length body c) := by
  refine ⟨fun A outer s H args us vs Q E hr hg e0 bt r hl ⟨gB, HB, Γ, g, σ, ds, a, vs', ev, rp, o, l, w⟩ => ?_⟩
  obtain ⟨oc, od, kV, doc, pm, an, cdv, ct, osl, rfl, lk, hcd⟩ := F.ex
  refine LamX.run_ofS lk hcd S hr e0 bt r (r.length.trans hl) fun hr' => ⟨_, hb a cdv A outer s H E hr' hg (fun cls d _ H => E cls d H) gB HB (takes_of rfl rfl rfl rfl), ?_⟩
  have hpl : ps.length ≤ N.length := by have := congrArg List.length S.pre; rw [List.length_take] at this; omega
  subst ev
  have hn : vs'.length + 1 ≤ N.length := by
    have := r.length.trans hl
    rw [List.length_cons] at this
    omega
  refine ⟨_, g, own_start rp o l hn, M.wpB_mono (fun fl b k => ?_) (fun x _ z => fun cls d g σ H s e ⟨q, da, f, v, e1, e2, e3, e4⟩ => z cls d g H s.ofMk e ⟨q, da, f, v, e1, e2, e3, e4.ofMk⟩) _ _ ((M.wpB_bind _ _).mp w)⟩
  cases fl with
  | nx Γ' =>
    intro g' σ' H' r' _ e
    simp only at k
    split at k
    · rename_i c' fs en
      split at k
      · rename_i hc
        subst hc
        obtain ⟨x, es, p, dx, ws, e2, ep, h1, h2, h3, h4⟩ := r'.rep.loc _ _ en
        cases ep
        exact k g' H' e ⟨r'.base.ofMk, o.new, ⟨dx, ws, h1, h2.ofMk⟩, h3, h4⟩
      · exact k.elim
    · exact k.elim
  | rt d => exact k.elim
  | bk Γ' => exact k.elim
  | ct Γ' => exact k.elim
end
end DL
/-! A class called. -/
namespace DL
open PySem PySem.Spec L2
section
variable {L : Lx} {X : Cx} {gB g g' : Gh} {HB H H' : Hp} {σ : L2.St} {Γ : Env} {W : WX} {pos : Pos}
/-- the made instance is frozen -/
theorem Own.frz {a : Addr} {c : Nat} {fs : List (Str × D)} (o : Own L gB HB g H a c fs) (hn : fs.map (·.1) = L.cF c) : ∃ g2, Stp L gB HB g2 H ∧ g2.bud = g.bud ∧ Den L g2 (.ref a) (.ins c (fs.map (·.2))) := by
  obtain ⟨dx, vs, h1, h2⟩ := o.ins
  have s := o.st
  have le : ∀ b u, g.F b = some u → (g.put a (.ins (L.cA c) dx ((fs.map (·.1)).zip vs))).F b = some u := fun b u e => upd_keep o.nF e
  have hF : ∀ b u, (g.put a (.ins (L.cA c) dx ((fs.map (·.1)).zip vs))).F b = some u → (b = a ∧ u = .ins (L.cA c) dx ((fs.map (·.1)).zip vs)) ∨ g.F b = some u := fun b u e => by
    by_cases h : b = a
    · subst h
      have e' : upd g.F b (.ins (L.cA c) dx ((fs.map (·.1)).zip vs)) b = some u := e
      rw [upd_same] at e'
      exact .inl ⟨rfl, (Option.some.inj e').symm⟩
    · have e' : upd g.F a (.ins (L.cA c) dx ((fs.map (·.1)).zip vs)) b = some u := e
      rw [upd_ne h] at e'
      exact .inr e'
  refine ⟨g.put a (.ins (L.cA c) dx ((fs.map (·.1)).zip vs)), ⟨fun b u e => le b u (s.le b u e), s.mu, fun b u e => ?_, s.keep, fun b n => ⟨(s.nf b n).1, fun e => ?_⟩, fun b u e => ?_, s.rnd, s.bud, s.tab⟩, rfl, ?_⟩
  · rcases hF b u e with ⟨rfl, rfl⟩ | e
    · exact h1
    · exact s.sub _ _ e
  · have q : b ≠ a := fun z => n (by rw [z]; exact o.new)
    exact (upd_ne q).trans ((s.nf b n).2 e)
  · rcases hF b u e with ⟨rfl, rfl⟩ | e
    · exact o.nM
    · exact s.nm _ _ e
  · exact .ins (c := 0) (by rw [← hn]; exact put_F) (by rw [← hn, List.length_map, h2.length, List.length_map]) (h2.mono le fun _ e => e)
/-- the new instance, nothing in it yet -/
theorem own_new {a dx : Addr} {c : Nat} (r : Rep L Γ g σ H) (na : H a = none) (nd : H dx = none) (ne : dx ≠ a) : Rep L Γ g σ (upd (upd H dx (.own a)) a (.ins (L.cA c) dx [])) ∧ Own L g H g (upd (upd H dx (.own a)) a (.ins (L.cA c) dx [])) a c [] := by
  have s1 : Stp L g H g (upd H dx (.own a)) := stp_new (o := .own a) r nd false
  have r1 := r.step s1
  have na2 : upd H dx (.own a) a = none := by rw [upd_ne (Ne.symm ne)]; exact na
  have s2 : Stp L g (upd H dx (.own a)) g (upd (upd H dx (.own a)) a (.ins (L.cA c) dx [])) := stp_new (o := .ins (L.cA c) dx []) r1 na2 false
  refine ⟨r1.step s2, s1.trans s2, na, ⟨dx, [], upd_same, .nil⟩, nF_of r na, fun i => ?_⟩
  exact (InM.there r1.rnd.ok (i.new na2 r1.rnd.ok)) na2
theorem run_mkI {pins : List (Addr × Obj)} {s : Shared} {Q : VK} {us : List Value} {vs : List V} {C f : Addr} {fd : FuncData} {ps : List Str} {k c : Nat} {m : List D → M (List (Str × D))} {ds : List D} {Γ : Env} (M : Mk X.K C f) (F : FGI L X.prog X.w X.mg X.base k f fd ps c m) (hK : X.K = L.K) (hC : L.cA c = C)
    (hr : Room (k + 1) X.A) (hgd : X.A.guards = some []) (hb : Binds X.K fd ps []) (tk : Takes X W) (I : Inv X pins σ H s) (r : Vals vs us) (hl : us.length + 1 = ps.length) (rp : Rep L Γ g σ H) (l : DenL L g vs ds)
    (h : (m ds).wpB g.bud (fun fs b => ∀ a g' H', g'.bud = b → Own L g H g' H' a c fs → Q (.ref a) H') (XW L W g σ H)) : wpAny (model X.prog X.w) X.A (call (.ref C) us) (EP X pins σ Q) X.xe s := by
  have na := I.hok.fresh (Nat.le_succ s.heap.objs.size)
  have nd := I.hok.fresh (Nat.le_refl s.heap.objs.size)
  have ne : s.heap.objs.size ≠ s.heap.objs.size + 1 := Nat.ne_of_lt (Nat.lt_succ_self _)
  obtain ⟨rp2, ow⟩ := own_new (c := c) rp na nd ne
  rw [hC] at rp2
  have I2 := Inv.made (C := C) I
  have r2 : Vals (V.ref (s.heap.objs.size + 1) :: vs) (Value.ref (s.heap.objs.size + 1) :: us) := .cons rfl r
  have hl2 : (Value.ref (s.heap.objs.size + 1) :: us).length = ps.length := hl
  have sp : SpI L c m (V.ref (s.heap.objs.size + 1) :: vs) (upd (upd H s.heap.objs.size (.own (s.heap.objs.size + 1))) (s.heap.objs.size + 1) (.ins C s.heap.objs.size [])) (fun v H3 => v = .non ∧ Q (.ref (s.heap.objs.size + 1)) H3) (WE W σ) :=
    ⟨g, H, Γ, g, σ, ds, _, vs, rfl, rp2, hC ▸ ow, l.mono (fun _ _ e => e) (fun _ e => e), DL.M.wpB_mono (fun fs b q g' H' e o => ⟨rfl, q _ g' H' e o⟩) (fun _ _ x => x) _ _ h⟩
  have b := hb { s with heap := (s.heap.push PySem.W.emptyDict).push (PySem.W.instObj C s.heap.objs.size) } (Value.ref (s.heap.objs.size + 1) :: us) I2.kIn (by rw [List.append_nil]; exact hl2)
  rw [List.append_nil] at b
  refine wpAny_call (make_map (f := f) I.kIn M.makes M.init (beq_iff_eq.mp M.fn) (codeAny_mono (F.go _ X.stack _ _ ⟨Value.ref (s.heap.objs.size + 1) :: us, []⟩ (Value.ref (s.heap.objs.size + 1) :: us) _ _ (WE W σ) (hr.make C us []) hgd
    (hK ▸ I2.env0.make C us []) b r2 hl2 sp) fun r s' hq' => ?_))
  cases r with
  | error e => exact passAt tk σ pins _ _ e s' I2 hq'
  | ok fl =>
    cases fl with
    | ret u =>
      obtain ⟨v, H', I3, rv, ev, q3⟩ := I2.after hq'
      subst ev
      exact ⟨rv, ⟨V.ref (s.heap.objs.size + 1), H', I3, rfl, q3⟩⟩
    | next => exact False.elim hq'
    | brk => exact False.elim hq'
    | cont => exact False.elim hq'
end
end DL
/-! Things that are called: defs, classes; by position and by keywords. -/
namespace DL
open PySem PySem.Spec L2
section
variable {L : Lx} {X : Cx} {g g' : Gh} {H H' : Hp} {σ : L2.St} {Γ : Env} {W : WX} {pos p : Pos}
/-- the value u, called with n values and keywords ks, does what m says of all of them, one behind another -/
def CalG (L : Lx) (X : Cx) (u : Value) (n : Nat) (ks : List Str) (m : List D → M D) : Prop :=
  ∀ (W : WX) (pins : List (Addr × Obj)) (s : Shared) (σ : L2.St) (H : Hp) (Γ : Env) (g : Gh) (us ws : List Value) (vs zs : List V) (ds es : List D) (Q : VK), Takes X W → Inv X pins σ H s → Vals vs us → Vals zs ws → us.length = n → ws.length = ks.length →
    Rep L Γ g σ H → DenL L g vs ds → DenL L g zs es → (m (ds ++ es)).wpB g.bud (Wn L DenT g H Q) (XW L W g σ H) → wpAny (model X.prog X.w) X.A (call u us (ks.zip ws)) (EP X pins σ Q) X.xe s
/-- how values come to parameters: by the def's binding, and of data -/
structure KD (L : Lx) (fd : FuncData) (ps : List Str) (n : Nat) (ks : List Str) (gD : List D → List D → List D) : Prop where
  ex : ∃ (g : List Value → List Value → List Value) (gV : List V → List V → List V), KBn L.K fd ps n ks g gV ∧ (∀ (gh : Gh) {vs zs : List V} {ds es : List D}, DenL L gh vs ds → DenL L gh zs es → DenL L gh (gV vs zs) (gD ds es)) ∧ ∀ us ws, us.length = n → ws.length = ks.length → (g us ws).length = ps.length
def mKD (n : Nat) (gD : List D → List D → List D) (m : List D → M D) : List D → M D := fun ds => m (gD (ds.take n) (ds.drop n))
theorem cal_fg {k n : Nat} {f : Addr} {fd : FuncData} {ps ks : List Str} {m : List D → M D} {gD : List D → List D → List D} (F : FG L X.prog X.w X.mg X.base k f fd ps m) (hK : X.K = L.K) (hr : Room k X.A) (hgd : X.A.guards = some []) (kd : KD L fd ps n ks gD) : CalG L X (.ref f) n ks (mKD n gD m) := by
  intro W pins s σ H Γ g us ws vs zs ds es Q tk I r rz l1 l2 rp l lz w
  obtain ⟨gg, gV, hb, hd, hl⟩ := kd.ex
  have e1 : ds.length = n := l.length.symm.trans (r.length.trans l1)
  have w' : (m (gD ds es)).wpB g.bud (Wn L DenT g H Q) (XW L W g σ H) := by
    unfold mKD at w
    rw [List.take_left' e1, List.drop_left' e1] at w
    exact w
  refine wpAny_call (codeAny_mono (F.go X.A X.stack s H ⟨us, ks.zip ws⟩ (gg us ws) (gV vs zs) Q (WE W σ) hr hgd (hK ▸ I.env0) (hb.to s us ws (hK ▸ I.kIn) l1 l2) (hb.rel r rz) (hl _ _ l1 l2) (spd_of rp (hd g l lz) w')) fun r s' hq => ?_)
  cases r with
  | error e => exact passAt tk σ pins H s e s' I hq
  | ok fl =>
    cases fl with
    | ret u => exact I.after hq
    | next => exact hq
    | brk => exact hq
    | cont => exact hq
/-- all values by position -/
theorem kd_all {fd : FuncData} {ps : List Str} (b : Binds L.K fd ps []) : KD L fd ps ps.length [] (fun ds _ => ds) := by
  refine ⟨fun us _ => us, fun vs _ => vs, ⟨fun s us ws X l1 l2 => ?_, fun r _ => r⟩, fun _ {vs zs ds es} l _ => l, fun _ _ h _ => h⟩
  obtain rfl : ws = [] := List.length_eq_zero_iff.mp l2
  have := b s us X (by rw [List.append_nil]; exact l1)
  rw [List.append_nil] at this
  exact this
end
end DL
/-! Classes called, calls by name and by method as expressions. -/
namespace DL
open PySem PySem.Spec L2
section
variable {L : Lx} {X : Cx} {g g' : Gh} {H H' : Hp} {σ : L2.St} {Γ : Env} {W : WX} {pos p apos : Pos}
/-- what a class's call gives, by its __init__'s run -/
def mInit (c : Nat) (fs : List Str) (m : List D → M (List (Str × D))) : List D → M D := fun ds => (m ds).bind fun q => if q.map (·.1) = fs then .ret (.ins c (q.map (·.2))) else .stuck
theorem cal_cls {C f : Addr} {fd : FuncData} {ps : List Str} {k c : Nat} {m : List D → M (List (Str × D))} (M : Mk X.K C f) (F : FGI L X.prog X.w X.mg X.base k f fd ps c m) (hK : X.K = L.K) (hC : L.cA c = C) (hr : Room (k + 1) X.A) (hgd : X.A.guards = some []) (hb : Binds X.K fd ps [])
    (hn : n + 1 = ps.length) : CalG L X (.ref C) n [] (mInit c (L.cF c) m) := by
  intro W pins s σ H Γ g us ws vs zs ds es Q tk I r rz l1 l2 rp l lz w
  obtain rfl : ws = [] := List.length_eq_zero_iff.mp l2
  cases rz
  cases lz
  rw [List.append_nil] at w
  refine run_mkI M F hK hC hr hgd hb tk I r (by omega) rp l (DL.M.wpB_mono (fun fs b q a g' H' e o => ?_) (fun _ _ x => x) _ _ ((DL.M.wpB_bind _ _).mp w))
  split at q
  · rename_i hf
    obtain ⟨g2, s2, e2, t2⟩ := o.frz hf
    exact q _ g2 H' s2 (e2.trans e) t2
  · exact q.elim
/-- the values of a call -/
def RdA2 (L : Lx) (W : WX) (is js : List IE) (R : List V → List V → Hp → Prop) (E : Env → Gh → Prop) : Prop := True
def iCal (m : List D → M D) (is : List IE) : IE := fun Γ => (evs is Γ).bind m
theorem evs_app {is js : List IE} : evs (is ++ js) Γ = (evs is Γ).bind fun ds => (evs js Γ).bind fun es => .ret (ds ++ es) := by
  induction is with
  | nil =>
    show evs js Γ = (evs js Γ).bind fun es => .ret es
    generalize evs js Γ = m
    induction m with
    | ret a => rfl
    | exc x => rfl
    | stuck => rfl
    | choose n k ih => exact congrArg (M.choose n) (funext fun i => ih i)
    | begun k ih => exact congrArg M.begun ih
  | cons i is ih =>
    have as : ∀ {α β γ : Type} (m : M α) (f : α → M β) (h : β → M γ), (m.bind f).bind h = m.bind fun x => (f x).bind h := fun m f h => by
      induction m with
      | ret a => rfl
      | exc x => rfl
      | stuck => rfl
      | choose n k ih => exact congrArg (M.choose n) (funext fun i => ih i)
      | begun k ih => exact congrArg M.begun ih
    show ((i Γ).bind fun d => (evs (is ++ js) Γ).bind fun ds => .ret (d :: ds)) = ((i Γ).bind fun d => (evs is Γ).bind fun ds => .ret (d :: ds)).bind _
    rw [as]
    congr 1
    funext d
    rw [ih, as, as]
    congr 1
    funext ds
    rw [as]
    rfl
variable {x : Str} {e o : Expr} {es : List Expr} {is js : List IE} {m : List D → M D} {u : Value} {n : Nat} {ks : List Str} {kws : List Keyword}
/-- f(e, ..), C(e, ..) -/
theorem de_cal (c : CalG L X u is.length [] m) (kp : PySem.W.keepIn X.K u = true) (gl : Gl X x) (mf : X.mg x = some u) (ha : DA L X is (e :: es)) (nd : (x == ("__debug__" : Str)) = false := by decide)
    (h1 : starEach (e :: es) X.env = (false, eval e X.env) :: starEach es X.env := by rfl) (h2 : (backTo pos (starEach es X.env)).any (·.1) = false := by rfl) :
    DE L X (iCal m is) (.Call (.Name x p) (e :: es) [] pos) := fun W tk => by
  refine ⟨fun pins s σ H Q I ⟨Γ, g, rp, w⟩ => ?_⟩
  have w := evs_len is g.bud ((M.wpB_bind _ _).mp w)
  refine wpAny_Call_Name_kw (ld_glob I gl mf ?_ nd)
  refine PySem.W.callWith_K (h₀ := X.base) I.ok.mod.kin kp (thn ((ha W tk).run pos pins s σ H (fun vs H1 => ∃ ds g1, Rep L Γ g1 σ H1 ∧ Stp L g H g1 H1 ∧ DenL L g1 vs ds ∧ ds.length = is.length ∧ (m ds).wpB g1.bud (Wn L DenT g H Q) (XW L W g σ H)) I
    ⟨Γ, g, rp, M.wpB_mono (fun ds b h vs g' H' s' e t => ⟨ds, g', rp.step s', s', t, h.1, by rw [e]; exact h.2⟩) (fun _ _ x => x) _ _ w⟩) fun us s1 ⟨vs, H1, I1, r, ds, g1, r1, s', t, hl, w1⟩ => ⟨I1.kIn, ?_⟩) h1 h2
  have hl2 : us.length = is.length := r.length.symm.trans (t.length.trans hl)
  have := c W pins s1 σ H1 Γ g1 us [] vs [] ds [] Q tk I1 r .nil hl2 rfl r1 t .nil (by
    rw [List.append_nil]
    exact M.wpB_mono (fun d b k v g2 H2 s2 e t => k v g2 H2 (s'.trans s2) e t) (fun _ _ x => x.of s') _ _ w1)
  exact this
end
end DL
/-! Calls with keywords; methods. -/
namespace DL
open PySem PySem.Spec L2
section
variable {L : Lx} {X : Cx} {g g' : Gh} {H H' : Hp} {σ : L2.St} {Γ : Env} {W : WX} {pos p apos kpos : Pos}
variable {x nm : Str} {e o : Expr} {es : List Expr} {i : IE} {is js : List IE} {m : List D → M D} {u : Value} {n c : Nat} {ks : List Str} {kws : List Keyword}
def DK (L : Lx) (X : Cx) (is : List IE) (kws : List Keyword) : Prop := ∀ W, Takes X W → PK X kws (RdA L W is)
theorem PK.imp {t t' : TA} (h : PK X kws t) (k : ∀ σ H Q, t' σ H Q → t σ H Q) : PK X kws t' := ⟨fun pos pins s σ H Q I r => h.run pos pins s σ H Q I (k _ _ _ r)⟩
theorem dk_nil : DK L X [] [] := fun W _ => PK.imp pk_nil fun σ H Q ⟨Γ, g, rp, w⟩ => w [] g H (Stp.refl rp) rfl .nil
theorem dk_cons {on : Option Str} (h : DE L X i e) (hr : DK L X is kws) : DK L X (i :: is) (⟨on, e, kpos⟩ :: kws) := fun W tk => by
  refine PK.imp (pk_cons (h W tk) (hr W tk)) fun σ H Q ⟨Γ, g, rp, w⟩ => ?_
  refine ⟨Γ, g, rp, M.wpB_mono (fun d b h v g1 H1 s e t => ?_) (fun _ _ x => x) _ _ ((M.wpB_bind _ _).mp w)⟩
  subst e
  refine ⟨Γ, g1, rp.step s, M.wpB_mono (fun ds b h vs g2 H2 s2 e2 t2 => ?_) (fun _ _ x => x.of s) _ _ ((M.wpB_bind _ _).mp h)⟩
  exact h (v :: vs) g2 H2 (s.trans s2) e2 (.cons (t.mono s2.le s2.mu) t2)
/-- what is known behind some values of a call -/
def Got (L : Lx) (W : WX) (Γ : Env) (g : Gh) (σ : L2.St) (H : Hp) (n : Nat) (f : List D → M D) (Q : VK) : List V → Hp → Prop := fun vs H1 => ∃ ds g1, Rep L Γ g1 σ H1 ∧ Stp L g H g1 H1 ∧ DenL L g1 vs ds ∧ ds.length = n ∧ (f ds).wpB g1.bud (Wn L DenT g1 H1 Q) (XW L W g1 σ H1)
theorem got_of {f : List D → M D} {Q : VK} (rp : Rep L Γ g σ H) (w : ((evs is Γ).bind f).wpB g.bud (Wn L DenT g H Q) (XW L W g σ H)) : RdA L W is σ H (Got L W Γ g σ H is.length f Q) :=
  ⟨Γ, g, rp, M.wpB_mono (fun ds b h vs g' H' s' e t => ⟨ds, g', rp.step s', s', t, h.1, by rw [e]; exact M.wpB_mono (fun d b k v g2 H2 s2 e t => k v g2 H2 (s'.trans s2) e t) (fun _ _ x => x.of s') _ _ h.2⟩) (fun _ _ x => x) _ _ (evs_len is g.bud ((M.wpB_bind _ _).mp w))⟩
theorem Got.den {v : V} {d : D} {f : List D → M D} {Q : VK} {vs : List V} {H1 : Hp} (h : Got L W Γ g σ H n f Q vs H1) (t : Den L g v d) : ∃ ds g1, Rep L Γ g1 σ H1 ∧ Den L g1 v d ∧ DenL L g1 vs ds ∧ ds.length = n ∧ (f ds).wpB g1.bud (Wn L DenT g1 H1 Q) (XW L W g1 σ H1) :=
  let ⟨ds, g1, r, s, l, hl, w⟩ := h; ⟨ds, g1, r, t.mono s.le s.mu, l, hl, w⟩
theorem evs_two {f : List D → M D} {Q : VK} (w : ((evs (is ++ js) Γ).bind f).wpB g.bud (Wn L DenT g H Q) (XW L W g σ H)) : ((evs is Γ).bind fun ds => (evs js Γ).bind fun es => f (ds ++ es)).wpB g.bud (Wn L DenT g H Q) (XW L W g σ H) := by
  rw [evs_app] at w
  refine (M.wpB_bind _ _).mpr (M.wpB_mono (fun ds b k => ?_) (fun _ _ x => x) _ _ ((M.wpB_bind _ _).mp ((M.wpB_bind _ _).mp w)))
  have k2 := (M.wpB_bind (f := fun es => M.ret (ds ++ es)) (evs js Γ) b).mp k
  exact (M.wpB_bind (evs js Γ) b).mpr k2
/-- f(e, .., k = v, ..) -/
theorem de_calK (c : CalG L X u is.length ks m) (kp : PySem.W.keepIn X.K u = true) (gl : Gl X x) (mf : X.mg x = some u) (ha : DA L X is (e :: es)) (hk : DK L X js kws) (hj : js.length = ks.length := by rfl)
    (hall : (backToKw pos (keywordEach kws X.env)).all (·.1.isSome) = true := by rfl) (hks : (backToKw pos (keywordEach kws X.env)).filterMap (·.1) = ks := by rfl) (nd : (x == ("__debug__" : Str)) = false := by decide)
    (h1 : starEach (e :: es) X.env = (false, eval e X.env) :: starEach es X.env := by rfl) (h2 : ((backTo pos (starEach (e :: es) X.env)).any (·.1) || (backToKw pos (keywordEach kws X.env)).any (·.1.isNone)) = false := by rfl) :
    DE L X (iCal m (is ++ js)) (.Call (.Name x p) (e :: es) kws pos) := fun W tk => by
  refine ⟨fun pins s σ H Q I ⟨Γ, g, rp, w⟩ => ?_⟩
  refine wpAny_Call_Name_kw (ld_glob I gl mf ?_ nd)
  refine PySem.W.callWith_KW (h₀ := X.base) I.ok.mod.kin kp hall (thn ((ha W tk).run pos pins s σ H _ I (got_of rp (evs_two w))) fun us s1 ⟨vs, H1, I1, r, ds, g1, r1, s', t, hl, w1⟩ => ?_) h2 h1
  refine thn ((hk W tk).run pos pins s1 σ H1 _ I1 (got_of r1 w1)) fun ws s2 ⟨zs, H2, I2, rz, es', g2, r2, s2', tz, hz, w2⟩ => ⟨I2.kIn, ?_⟩
  rw [hks]
  exact c W pins s2 σ H2 Γ g2 us ws vs zs ds es' Q tk I2 r rz (r.length.symm.trans (t.length.trans hl)) (rz.length.symm.trans (tz.length.trans (hz.trans hj))) r2 (t.mono s2'.le s2'.mu) tz w2
/-- f(k = v, ..) -/
theorem de_calK0 (c : CalG L X u 0 ks m) (kp : PySem.W.keepIn X.K u = true) (gl : Gl X x) (mf : X.mg x = some u) (hk : DK L X js kws) (hj : js.length = ks.length := by rfl)
    (hall : (backToKw pos (keywordEach kws X.env)).all (·.1.isSome) = true := by rfl) (hks : (backToKw pos (keywordEach kws X.env)).filterMap (·.1) = ks := by rfl) (nd : (x == ("__debug__" : Str)) = false := by decide)
    (h2 : ((backTo pos (starEach [] X.env)).any (·.1) || (backToKw pos (keywordEach kws X.env)).any (·.1.isNone)) = false := by rfl) :
    DE L X (iCal m js) (.Call (.Name x p) [] kws pos) := fun W tk => by
  refine ⟨fun pins s σ H Q I ⟨Γ, g, rp, w⟩ => ?_⟩
  refine wpAny_Call_Name_kw (ld_glob I gl mf ?_ nd)
  refine PySem.W.callWith_KW0 (h₀ := X.base) I.ok.mod.kin kp hall ?_ h2
  refine thn ((hk W tk).run pos pins s σ H _ I (got_of rp w)) fun ws s2 ⟨zs, H2, I2, rz, es', g2, r2, s2', tz, hz, w2⟩ => ⟨I2.kIn, ?_⟩
  rw [hks]
  exact c W pins s2 σ H2 Γ g2 [] ws [] zs [] es' Q tk I2 .nil rz rfl (rz.length.symm.trans (tz.length.trans (hz.trans hj))) r2 .nil tz w2
/-- f() -/
theorem de_cal0 (c : CalG L X u 0 [] m) (kp : PySem.W.keepIn X.K u = true) (gl : Gl X x) (mf : X.mg x = some u) (nd : (x == ("__debug__" : Str)) = false := by decide) :
    DE L X (iCal m []) (.Call (.Name x p) [] [] pos) := fun W tk => by
  refine ⟨fun pins s σ H Q I ⟨Γ, g, rp, w⟩ => ?_⟩
  refine wpAny_Call_Name_kw (ld_glob I gl mf ?_ nd)
  exact PySem.W.callWith_K0 (first := []) I.kIn kp (c W pins s σ H Γ g [] [] [] [] [] [] Q tk I .nil .nil rfl rfl rp .nil .nil w)

/-! o.m(..) -/
def iMth (c : Nat) (m : List D → M D) (i : IE) (is : List IE) : IE := fun Γ => (i Γ).bind fun d => match d with
  | .ins c' ds => if c' = c then (evs is Γ).bind fun es => m (.ins c' ds :: es) else .stuck
  | _ => .stuck
structure MthOk (L : Lx) (c : Nat) (nm : Str) (f : Addr) : Prop where
  cl : Cls L.K (L.cA c)
  me : Meth L.K (L.cA c) nm f
  no : nm ∉ L.cF c
theorem lookup_no {nm : Str} : ∀ {ns : List Str} {vs : List V}, nm ∉ ns → (ns.zip vs).lookup nm = none := fun {ns} => by
  induction ns with
  | nil => intro vs _; rfl
  | cons n ns ih =>
    intro vs h
    cases vs with
    | nil => rfl
    | cons v vs =>
      rw [List.mem_cons, not_or] at h
      rw [List.zip_cons_cons, List.lookup_cons, beq_eq_false_iff_ne.mpr h.1]
      exact ih h.2
/-- the receiver, then on -/
theorem meth_go {f : Addr} {Q : VK} {pl : Sem Bool} {args : List Expr} {pins : List (Addr × Obj)} {s : Shared} (ok : MthOk L c nm f) (hK : X.K = L.K) (ho : DE L X i o) (tk : Takes X W) (I : Inv X pins σ H s) (rp : Rep L Γ g σ H)
    (w : (iMth c m i is Γ).wpB g.bud (Wn L DenT g H Q) (XW L W g σ H))
    (k : ∀ (s1 : Shared) (H1 : Hp) (g1 : Gh) (a : Addr) (fs : List D), Inv X pins σ H1 s1 → Rep L Γ g1 σ H1 → Den L g1 (.ref a) (.ins c fs) → ((evs is Γ).bind fun es => m (.ins c fs :: es)).wpB g1.bud (Wn L DenT g1 H1 Q) (XW L W g1 σ H1) →
      wpAny (model X.prog X.w) X.A (callWith pos (.ref f) [.ref a] (backTo pos (starEach args X.env)) (backToKw pos (keywordEach kws X.env))) (EP X pins σ Q) X.xe s1)
    (ht : eval (.Call (.Attribute o nm apos) args kws pos) X.env = (do
      let ov ← eval o X.env
      standAt apos.atName
      let (f, first) ← holding [ov] (getMethod ov nm pl)
      callWith pos f first (backTo pos (starEach args X.env)) (backToKw pos (keywordEach kws X.env)))) :
    wpAny (model X.prog X.w) X.A (eval (.Call (.Attribute o nm apos) args kws pos) X.env) (EP X pins σ Q) X.xe s := by
  refine PySem.W.methodCall_KW (pl := pl) (thn ((ho W tk).run pins s σ H (fun v H1 => ∃ (g1 : Gh) (a : Addr) (fs : List D) (dx : Addr) (vs : List V), v = .ref a ∧ H1 a = some (.ins (L.cA c) dx ((L.cF c).zip vs)) ∧ Rep L Γ g1 σ H1 ∧ Den L g1 (.ref a) (.ins c fs) ∧ ((evs is Γ).bind fun es => m (.ins c fs :: es)).wpB g1.bud (Wn L DenT g1 H1 Q) (XW L W g1 σ H1)) I
    ⟨Γ, g, rp, M.wpB_mono (fun d b h v g1 H1 s1 e t => ?_) (fun _ _ x => x) _ _ ((M.wpB_bind _ _).mp w)⟩) fun u s1 ⟨v, H1, I1, rv, g1, a, fs, dx, vs, ev, hH, r1, t, w1⟩ => ?_) ht
  · subst e
    split at h
    · rename_i c' ds
      split at h
      · rename_i hc
        subst hc
        have t' := t
        cases t with
        | ins e1 e2 l =>
          exact ⟨g1, _, ds, _, _, rfl, s1.sub _ _ e1, rp.step s1, t', M.wpB_mono (fun d b k v g2 H2 s2 e t => k v g2 H2 (s1.trans s2) e t) (fun _ _ x => x.of s1) _ _ h⟩
      · exact h.elim
    · exact h.elim
  · subst ev
    obtain rfl : u = Value.ref a := rv
    exact getmeth_ok I1 hH (hK ▸ ok.cl) (hK ▸ ok.me) (lookup_no ok.no) (k s1 H1 g1 a fs I1 r1 t w1)
theorem de_meth {f : Addr} {pl : Sem Bool} (cg : CalG L X (.ref f) (is.length + 1) [] m) (ok : MthOk L c nm f) (hK : X.K = L.K) (ho : DE L X i o) (ha : DA L X is (e :: es))
    (h1 : starEach (e :: es) X.env = (false, eval e X.env) :: starEach es X.env := by rfl) (h2 : (backTo pos (starEach es X.env)).any (·.1) = false := by rfl)
    (ht : eval (.Call (.Attribute o nm apos) (e :: es) [] pos) X.env = (do
      let ov ← eval o X.env
      standAt apos.atName
      let (f, first) ← holding [ov] (getMethod ov nm pl)
      callWith pos f first (backTo pos (starEach (e :: es) X.env)) (backToKw pos (keywordEach [] X.env))) := by rfl) : DE L X (iMth c m i is) (.Call (.Attribute o nm apos) (e :: es) [] pos) := fun W tk => by
  refine ⟨fun pins s σ H Q I ⟨Γ, g, rp, w⟩ => ?_⟩
  refine meth_go (kws := []) ok hK ho tk I rp w (fun s1 H1 g1 a fs I1 r1 t w1 => ?_) ht
  refine PySem.W.callWith_K (first := [.ref a]) (h₀ := X.base) I.ok.mod.kin (hK ▸ ok.me.kp) (thn ((ha W tk).run pos pins s1 σ H1 _ I1 (got_of r1 w1)) fun us s2 ⟨vs, H2, I2, r, ds, g2, r2, s', l, hl, w2⟩ => ⟨I2.kIn, ?_⟩) h1 h2
  exact cg W pins s2 σ H2 Γ g2 (.ref a :: us) [] (.ref a :: vs) [] (.ins c fs :: ds) [] Q tk I2 (.cons rfl r) .nil (by rw [List.length_cons, ← r.length, l.length, hl]) rfl r2 (.cons (t.mono s'.le s'.mu) l) .nil (by rw [List.append_nil]; exact w2)
theorem de_meth0 {f : Addr} {pl : Sem Bool} (cg : CalG L X (.ref f) 1 [] m) (ok : MthOk L c nm f) (hK : X.K = L.K) (ho : DE L X i o)
    (ht : eval (.Call (.Attribute o nm apos) [] [] pos) X.env = (do
      let ov ← eval o X.env
      standAt apos.atName
      let (f, first) ← holding [ov] (getMethod ov nm pl)
      callWith pos f first (backTo pos (starEach [] X.env)) (backToKw pos (keywordEach [] X.env))) := by rfl) : DE L X (iMth c m i []) (.Call (.Attribute o nm apos) [] [] pos) := fun W tk => by
  refine ⟨fun pins s σ H Q I ⟨Γ, g, rp, w⟩ => ?_⟩
  refine meth_go (kws := []) ok hK ho tk I rp w (fun s1 H1 g1 a fs I1 r1 t w1 => ?_) ht
  exact PySem.W.callWith_K0 (first := [.ref a]) I1.kIn (hK ▸ ok.me.kp) (cg W pins s1 σ H1 Γ g1 [.ref a] [] [.ref a] [] [.ins c fs] [] Q tk I1 (.cons rfl .nil) .nil rfl rfl r1 (.cons t .nil) .nil w1)
theorem de_methK0 {f : Addr} {pl : Sem Bool} (cg : CalG L X (.ref f) 1 ks m) (ok : MthOk L c nm f) (hK : X.K = L.K) (ho : DE L X i o) (hk : DK L X js kws) (hj : js.length = ks.length := by rfl)
    (hall : (backToKw pos (keywordEach kws X.env)).all (·.1.isSome) = true := by rfl) (hks : (backToKw pos (keywordEach kws X.env)).filterMap (·.1) = ks := by rfl)
    (h2 : ((backTo pos (starEach [] X.env)).any (·.1) || (backToKw pos (keywordEach kws X.env)).any (·.1.isNone)) = false := by rfl)
    (ht : eval (.Call (.Attribute o nm apos) [] kws pos) X.env = (do
      let ov ← eval o X.env
      standAt apos.atName
      let (f, first) ← holding [ov] (getMethod ov nm pl)
      callWith pos f first (backTo pos (starEach [] X.env)) (backToKw pos (keywordEach kws X.env))) := by rfl) : DE L X (iMth c m i js) (.Call (.Attribute o nm apos) [] kws pos) := fun W tk => by
  refine ⟨fun pins s σ H Q I ⟨Γ, g, rp, w⟩ => ?_⟩
  refine meth_go ok hK ho tk I rp w (fun s1 H1 g1 a fs I1 r1 t w1 => ?_) ht
  refine PySem.W.callWith_KW0 (first := [.ref a]) (h₀ := X.base) I.ok.mod.kin (hK ▸ ok.me.kp) hall ?_ h2
  refine thn ((hk W tk).run pos pins s1 σ H1 _ I1 (got_of r1 w1)) fun ws s2 ⟨zs, H2, I2, rz, es', g2, r2, s', tz, hz, w2⟩ => ⟨I2.kIn, ?_⟩
  rw [hks]
  exact cg W pins s2 σ H2 Γ g2 [.ref a] ws [.ref a] zs [.ins c fs] es' Q tk I2 (.cons rfl .nil) rz rfl (rz.length.symm.trans (tz.length.trans (hz.trans hj))) r2 (.cons (t.mono s'.le s'.mu) .nil) tz w2
theorem de_methK {f : Addr} {pl : Sem Bool} (cg : CalG L X (.ref f) (is.length + 1) ks m) (ok : MthOk L c nm f) (hK : X.K = L.K) (ho : DE L X i o) (ha : DA L X is (e :: es)) (hk : DK L X js kws) (hj : js.length = ks.length := by rfl)
    (hall : (backToKw pos (keywordEach kws X.env)).all (·.1.isSome) = true := by rfl) (hks : (backToKw pos (keywordEach kws X.env)).filterMap (·.1) = ks := by rfl)
    (h1 : starEach (e :: es) X.env = (false, eval e X.env) :: starEach es X.env := by rfl) (h2 : ((backTo pos (starEach (e :: es) X.env)).any (·.1) || (backToKw pos (keywordEach kws X.env)).any (·.1.isNone)) = false := by rfl)
    (ht : eval (.Call (.Attribute o nm apos) (e :: es) kws pos) X.env = (do
      let ov ← eval o X.env
      standAt apos.atName
      let (f, first) ← holding [ov] (getMethod ov nm pl)
      callWith pos f first (backTo pos (starEach (e :: es) X.env)) (backToKw pos (keywordEach kws X.env))) := by rfl) : DE L X (iMth c m i (is ++ js)) (.Call (.Attribute o nm apos) (e :: es) kws pos) := fun W tk => by
  refine ⟨fun pins s σ H Q I ⟨Γ, g, rp, w⟩ => ?_⟩
  refine meth_go ok hK ho tk I rp w (fun s1 H1 g1 a fs I1 r1 t w1 => ?_) ht
  refine PySem.W.callWith_KW (first := [.ref a]) (h₀ := X.base) I.ok.mod.kin (hK ▸ ok.me.kp) hall (thn ((ha W tk).run pos pins s1 σ H1 _ I1 (got_of r1 (evs_two w1))) fun us s2 ⟨vs, H2, I2, r, ds, g2, r2, s', l, hl, w2⟩ => ?_) h2 h1
  refine thn ((hk W tk).run pos pins s2 σ H2 _ I2 (got_of r2 w2)) fun ws s3 ⟨zs, H3, I3, rz, es', g3, r3, s3', tz, hz, w3⟩ => ⟨I3.kIn, ?_⟩
  rw [hks]
  exact cg W pins s3 σ H3 Γ g3 (.ref a :: us) ws (.ref a :: vs) zs (.ins c fs :: ds) es' Q tk I3 (.cons rfl r) rz (by rw [List.length_cons, ← r.length, l.length, hl]) (rz.length.symm.trans (tz.length.trans (hz.trans hj))) r3 (.cons ((t.mono s'.le s'.mu).mono s3'.le s3'.mu) (l.mono s3'.le s3'.mu)) tz w3
end
end DL
/-! Order of data, chains of comparisons, is of truth values, texts and tuples many times over. -/
namespace DL
open PySem PySem.Spec L2
section
variable {L : Lx} {X : Cx} {g g' : Gh} {H H' : Hp} {σ : L2.St} {Γ : Env} {W : WX} {pos p : Pos} {i j k : IE} {a b c : Expr}
/-! order -/
def D.isNon : D → Bool
  | .non => true
  | _ => false
def okLt (x y : D) : Bool := x.pl && (y.pl && (PySem.W.alike x.py y.py && (!x.isNon && decide (min x.dep y.dep ≤ 60))))
def dLt (x y : D) : Bool := PySem.W.dataLt x.py y.py
def fLtD (x y : D) : Option D := if okLt x y then some (.bl (dLt x y)) else none
def fLeD (x y : D) : Option D := if okLt x y then some (.bl (!dLt y x)) else none
def fGtD (x y : D) : Option D := if okLt x y then some (.bl (dLt y x)) else none
def fGeD (x y : D) : Option D := if okLt x y then some (.bl (!dLt x y)) else none
theorem py_non {x : D} (p : x.pl = true) (h : (!x.isNon) = true) : x.py ≠ .none := by
  cases x <;> simp [D.pl, D.isNon, D.py] at p h ⊢
theorem ord_of {op : CmpOp} {f : D → D → Option D} {r : D → D → Bool} (hf : ∀ x y d, f x y = some d → okLt x y = true ∧ d = .bl (r x y)) (hK : X.K = L.K) (hu : X.A.units + 64 < cLine)
    (h : ∀ {s : Shared} {u v : Value} {x y : D} {as bs : List Addr} {Q : Value → Shared → Prop}, Reads s.heap u x.py as → Reads s.heap v y.py bs → PySem.W.alike x.py y.py = true → x.py ≠ .none → X.A.units + min x.py.depth y.py.depth < cLine → Q (.bool (r x y)) s → wpAny (model X.prog X.w) X.A (compareOp op u v) Q X.xe s) : OpD L X (compareOp op) f := by
  intro pins st σ H x y v u Q I rx ry ⟨Γ, g, σ', dx, dy, d, rp, vx, vy, e, w⟩
  obtain ⟨z, rfl⟩ := hf _ _ _ e
  unfold okLt at z
  simp only [Bool.and_eq_true, decide_eq_true_eq] at z
  obtain ⟨z1, z2, z3, z4, z5⟩ := z
  obtain ⟨as, r1⟩ := Dp.reads I dx.py x v (hK ▸ vx.dp rp.sub z1) rx
  obtain ⟨bs, r2⟩ := Dp.reads I dy.py y u (hK ▸ vy.dp rp.sub z2) ry
  exact h r1 r2 z3 (py_non z1 z4) (by rw [D.depth_py, D.depth_py]; omega) ⟨.bl _, H, I, rfl, w _ g H (Stp.refl rp) rfl (.bl _)⟩
theorem od_ltD (hK : X.K = L.K) (hu : X.A.units + 64 < cLine) : OpD L X (compareOp .Lt) fLtD := ord_of (r := dLt) (fun x y d e => by unfold fLtD at e; split at e <;> cases e; exact ⟨by assumption, rfl⟩) hK hu fun r1 r2 h3 h4 h5 q => PySem.W.lt_data r1 r2 h3 h4 h5 q
theorem od_gtD (hK : X.K = L.K) (hu : X.A.units + 64 < cLine) : OpD L X (compareOp .Gt) fGtD := ord_of (r := fun x y => dLt y x) (fun x y d e => by unfold fGtD at e; split at e <;> cases e; exact ⟨by assumption, rfl⟩) hK hu fun r1 r2 h3 h4 h5 q => PySem.W.gt_data r1 r2 h3 h4 h5 q
theorem od_leD (hK : X.K = L.K) (hu : X.A.units + 64 < cLine) : OpD L X (compareOp .LtE) fLeD := ord_of (r := fun x y => !dLt y x) (fun x y d e => by unfold fLeD at e; split at e <;> cases e; exact ⟨by assumption, rfl⟩) hK hu fun r1 r2 h3 h4 h5 q => PySem.W.le_data r1 r2 h3 h4 h5 q
theorem od_geD (hK : X.K = L.K) (hu : X.A.units + 64 < cLine) : OpD L X (compareOp .GtE) fGeD := ord_of (r := fun x y => !dLt x y) (fun x y d e => by unfold fGeD at e; split at e <;> cases e; exact ⟨by assumption, rfl⟩) hK hu fun r1 r2 h3 h4 h5 q => PySem.W.ge_data r1 r2 h3 h4 h5 q
/-- with ints told plainly -/
def fLt := orD fLtI fLtD
def fLe := orD fLeI fLeD
def fGt := orD fGtI fGtD
def fGe := orD fGeI fGeD
theorem od_lt (hK : X.K = L.K) (hu : X.A.units + 64 < cLine) : OpD L X (compareOp .Lt) fLt := od_ltI.or (od_ltD hK hu)
theorem od_le (hK : X.K = L.K) (hu : X.A.units + 64 < cLine) : OpD L X (compareOp .LtE) fLe := od_leI.or (od_leD hK hu)
theorem od_gt (hK : X.K = L.K) (hu : X.A.units + 64 < cLine) : OpD L X (compareOp .Gt) fGt := od_gtI.or (od_gtD hK hu)
theorem od_ge (hK : X.K = L.K) (hu : X.A.units + 64 < cLine) : OpD L X (compareOp .GtE) fGe := od_geI.or (od_geD hK hu)
/-! a < b <= c -/
def iChain (f f' : D → D → Option D) (i j k : IE) : IE := fun Γ => (i Γ).bind fun x => (j Γ).bind fun y => match f x y with
  | some (.bl t) => if t = true then (k Γ).bind fun z => (match f' y z with
    | some d => .ret d
    | none => .stuck) else .ret (.bl false)
  | _ => .stuck
theorem rd_chain {f f' : D → D → Option D} {Q : VK} (h : Rd1 L DenT W (iChain f f' i j k) σ H Q) : tChain (RdO L f) (RdO L f') (Rd1 L VwT W i) (Rd1 L VwT W j) (Rd1 L VwT W k) σ H Q := by
  obtain ⟨Γ, g, rp, w⟩ := h
  refine Rd1.go rp w fun x H1 dx g1 r1 s1 t1 w => Rd1.go r1 w fun y H2 dy g2 r2 s2 t2 w => ?_
  split at w
  · rename_i t e
    refine ⟨Γ, g2, σ, dx, dy, .bl t, r2, t1.step s2, t2, e, fun v g3 H3 s3 eb t3 => ?_⟩
    cases t3
    refine ⟨t, rfl, ?_⟩
    cases t with
    | false => exact iteF (w _ g3 H3 (s1.trans (s2.trans s3)) eb (.bl _))
    | true =>
      rw [← eb] at w
      refine iteT (Rd1.go (r2.step s3) (M.wpB_mono (fun _ _ x => x) (fun _ _ x => x.of s3) _ _ w) fun z H4 dz g4 r4 s4 t4 w => ?_)
      split at w
      · rename_i d e2
        exact ⟨Γ, g4, σ, dy, dz, d, r4, (t2.step s3).step s4, t4, e2, fun v g5 H5 s5 eb t5 => w v g5 H5 (s1.trans (s2.trans (s3.trans (s4.trans s5)))) eb t5⟩
      · exact w.elim
  · exact w.elim
theorem de_chain {o o' : CmpOp} {f f' : D → D → Option D} (ho : OpD L X (compareOp o) f) (ho' : OpD L X (compareOp o') f') (ha : DV L X i a) (hb : DV L X j b) (hc : DV L X k c) (hm : lastMarks [o, o'] [b, c] = false := by with_unfolding_all rfl) :
    DE L X (iChain f f' i j k) (.Compare a [o, o'] [b, c] pos) := fun W tk => PE.imp (pe_chain ho ho' (ha W tk) (hb W tk) (hc W tk) hm) fun σ H Q h => rd_chain h
theorem dt_chain {o o' : CmpOp} {f f' : D → D → Option D} (ho : OpD L X (compareOp o) f) (ho' : OpD L X (compareOp o') f') (ha : DV L X i a) (hb : DV L X j b) (hc : DV L X k c) (hm : lastMarks [o, o'] [b, c] = false := by with_unfolding_all rfl) :
    DT L X (asB (iChain f f' i j k)) (.Compare a [o, o'] [b, c] pos) := fun W tk => PT.imp (pt_chain ho ho' (ha W tk) (hb W tk) (hc W tk) hm) fun σ H Q ⟨Γ, g, r, w⟩ => by
  refine rd_chain (Q := fun x H' => ∃ k, x = .bl k ∧ Q k H') ⟨Γ, g, r, M.wpB_mono (fun d b k v g' H' s e t => ?_) (fun _ _ x => x) _ _ ((M.wpB_bind _ _).mp w)⟩
  cases d with
  | bl c => cases t; exact ⟨c, rfl, k g' H' s e⟩
  | _ => exact k.elim
/-! is True, is not True -/
def fIsB (neg : Bool) : D → D → Option D
  | .bl x, .bl y => some (.bl (if neg then !decide (x = y) else decide (x = y)))
  | _, _ => none
theorem od_isB : OpD L X (compareOp .Is) (fIsB false) := by
  intro pins st σ H x y v u Q I rx ry ⟨Γ, g, σ', dx, dy, d, rp, vx, vy, e, w⟩
  cases dx <;> cases dy <;> simp only [fIsB, reduceCtorEq, Option.some.injEq] at e
  subst e
  cases vx.bl
  cases vy.bl
  exact op_isBl pins st σ H _ _ v u Q I rx ry ⟨_, _, rfl, rfl, w _ g H (Stp.refl rp) rfl (.bl _)⟩
theorem od_notB : OpD L X (compareOp .IsNot) (fIsB true) := by
  intro pins st σ H x y v u Q I rx ry ⟨Γ, g, σ', dx, dy, d, rp, vx, vy, e, w⟩
  cases dx <;> cases dy <;> simp only [fIsB, reduceCtorEq, Option.some.injEq] at e
  subst e
  cases vx.bl
  cases vy.bl
  exact op_notBl pins st σ H _ _ v u Q I rx ry ⟨_, _, rfl, rfl, w _ g H (Stp.refl rp) rfl (.bl _)⟩
end
end DL
/-! A tuple read backwards; texts and tuples many times over. -/
namespace PySem.DLR
open PySem PySem.Spec HT PyProof.Rows SeqAt
section
variable {prog : Program} {w : World} {A : Around} {E : Value → Shared → Prop} {s : Shared}
theorem adjust_back (n : Nat) : Builtin.Slice.sliceAdjust none none (-1) (n : Int) = ((n : Int) - 1, -1) := by
  unfold Builtin.Slice.sliceAdjust
  have h : (-1 : Int) < 0 := by decide
  simp only [h, if_true]
theorem places_back (n : Nat) : Builtin.Slice.slicePlaces ((n : Int) - 1) (-1) (-1) = n := by
  unfold Builtin.Slice.slicePlaces
  have h : ¬ ((-1 : Int) > 0) := by decide
  simp only [h, if_false]
  by_cases q : (n : Int) - 1 > -1
  · rw [if_pos q]
    have e : (n : Int) - 1 - -1 - 1 = (n : Int) - 1 := by omega
    rw [e, show (- (-1 : Int)) = 1 from rfl, Int.ediv_one]
    omega
  · rw [if_neg q]
    omega
theorem pick_back (xs : Array Value) : ((List.range xs.size).filterMap fun (k : Nat) => xs[((xs.size : Int) - 1 + (k : Int) * (-1)).toNat]?) = xs.toList.reverse := by
  have e : ∀ l : List Nat, (∀ k ∈ l, k < xs.size) → (l.filterMap fun (k : Nat) => xs[((xs.size : Int) - 1 + (k : Int) * (-1)).toNat]?) = (l.map fun k => xs.size - 1 - k).filterMap (xs[·]?) := fun l => by
    induction l with
    | nil => intro _; rfl
    | cons k l ih =>
      intro h
      have hk := h k List.mem_cons_self
      have e1 : ((xs.size : Int) - 1 + (k : Int) * (-1)).toNat = xs.size - 1 - k := by omega
      rw [List.map_cons, List.filterMap_cons, List.filterMap_cons, e1, ih fun m hm => h m (List.mem_cons_of_mem _ hm)]
  rw [e _ fun k hk => List.mem_range.mp hk, PySem.W.krv_range, List.filterMap_reverse, PySem.W.krv_all]
theorem getItem_tuple_back {t sl : Addr} {items : Array Value} {vs : Value} {Q : Value → Shared → Prop} (ht : IsTup s.heap t items) (hs : s.heap.IsSliceOf sl .none .none vs) (ps : IsPart vs (some (-1)))
    (h : Q (.ref s.heap.objs.size) { s with heap := s.heap.push { cls := .type "tuple", data := .seq items.toList.reverse.toArray } }) (hsz : items.size ≤ sizeLine) : wpAny (model prog w) A (getItem (.ref t) (.ref sl)) Q E s := by
  have fit : sizeOk (.seq items.toList.reverse.toArray) := by
    show items.toList.reverse.toArray.size ≤ sizeLine
    rw [List.size_toArray, List.length_reverse, Array.length_toList]
    exact hsz
  obtain ⟨os, hos, hcs, hds⟩ := id hs
  have hT : s.TypeIs (.ref sl) "slice" := ⟨os, hos, hcs⟩
  unfold getItem
  try with_reducible refine wpAny_holding ?_
  first | refine wpAny_bind (wpAny_pure ?_) | skip
  refine wpAny_bind (wpAny_sequenceKey ht.typeIs (by decide) (wpAny_bind (wpAny_callSpecial?_slot (name := Str.ofString "__getitem__") ht.typeIs slot_tuple_getitem (wpAny_call_entry slot_tuple_getitem ht.typeIs entry_tuple_getitem ?_ (args_tuple_getitem _ _)))))
  show wpAny _ _ (Builtin.Tuple.tupleItemsOf (.ref t) >>= _) _ _ s
  refine wpAny_bind (tupleItemsOf_ ht (wpAny_bind (wpAny_typeOf hT ?_)))
  rw [if_pos (by decide)]
  refine wpAny_bind (m := Builtin.Slice.sliceApplied (.ref sl) (pure (items.size : Int))) ?_
  unfold Builtin.Slice.sliceApplied Builtin.Slice.sliceFields
  refine wpAny_bind (wpAny_bind (wpAny_field hos hds (x := .none) rfl (wpAny_bind (wpAny_field hos hds (x := .none) rfl (wpAny_bind (wpAny_field hos hds (x := vs) rfl (wpAny_pure ?_)))))))
  refine wpAny_bind (slicePart_ ps ?_)
  show wpAny _ _ (if ((-1 : Int) == 0) = true then _ else _) _ _ s
  rw [if_neg (by decide)]
  refine wpAny_bind (slicePart_none (wpAny_bind (slicePart_none (wpAny_bind (wpAny_pure ?_)))))
  show wpAny _ _ (match Builtin.Slice.sliceAdjust none none (-1) (items.size : Int) with | (lo, hi) => pure (lo, (-1 : Int), Builtin.Slice.slicePlaces lo hi (-1))) _ _ s
  rw [adjust_back]
  show wpAny _ _ (pure ((items.size : Int) - 1, (-1 : Int), Builtin.Slice.slicePlaces ((items.size : Int) - 1) (-1) (-1))) _ _ s
  rw [places_back]
  refine wpAny_pure ?_
  show wpAny _ _ (if (((items.size : Int) - 1 == 0 && (-1 : Int) == 1 && items.size == items.size) = true) then _ else _) _ _ s
  have no : ¬ (((items.size : Int) - 1 == 0 && (-1 : Int) == 1 && items.size == items.size) = true) := by
    rw [show ((-1 : Int) == 1) = false from by decide, Bool.and_false, Bool.false_and]
    exact Bool.false_ne_true
  rw [if_neg no, pick_back]
  first
    | exact wpAny_bind (m := Builtin.Tuple.tupleExact _) (wpAny_newObj_type (wpAny_pure ⟨_, rfl, wpAny_pure h⟩) fit)
    | exact wpAny_bind (m := Builtin.Tuple.tupleExact _) (wpAny_newObj_type (wpAny_bind (wpAny_pure (wpAny_pure ⟨_, rfl, wpAny_pure h⟩))) fit)
    | exact wpAny_bind (wpAny_bind (m := Builtin.Tuple.tupleExact _) (wpAny_newObj_type (wpAny_pure (wpAny_pure ⟨_, rfl, wpAny_pure h⟩)) fit))
    | exact wpAny_bind (wpAny_bind (m := Builtin.Tuple.tupleExact _) (wpAny_newObj_type (wpAny_pure ⟨_, rfl, wpAny_pure h⟩) fit))
end
end PySem.DLR
namespace DL
open PySem PySem.Spec L2
section
variable {L : Lx} {X : Cx} {g g' : Gh} {H H' : Hp} {σ : L2.St} {Γ : Env} {W : WX} {pos p : Pos} {i j k : IE} {a b c e : Expr}
def tRevA (fz : Bool) (K : PySem.W.Frag) (te : TE) : TE := fun σ H Q => te σ H fun x H1 => ∃ a xs, x = .ref a ∧ ((SqL K H1 a xs ∧ ∀ p, H1 p = none → Q (.ref p) (L2.upd H1 p (.lst xs.reverse))) ∨ (SqT K H1 a xs ∧ ∀ p o, H1 p = none → o.cls = .type "tuple" → o.dict = none → Q (.ref p) (L2.upd H1 p (newT fz o xs.reverse))))
theorem pe_revA {fz : Bool} {te : TE} {n : Nat} {p1 p2 p3 : Pos} (he : PE X e te) : PE X (.Subscript e (.Slice none none (some (.UnaryOp .USub (.Constant (.int 1) n p1) p2)) p3) pos) (tRevA fz X.K te) := by
  refine ⟨fun pins s σ H Q I h => PyProof.Rows.Subscript_ (thn (he.run pins s σ H _ I h) fun v s1 ⟨x, H1, I1, r1, a, xs, ex, q⟩ => ?_)⟩
  subst ex
  cases r1
  have part : PO X (some (.UnaryOp .USub (.Constant (.int 1) n p1) p2)) (tPart (tUn (rU fun i => .int (-i)) (tC (.int 1)))) := po_some (pe_un un_neg pe_int)
  refine wpAny_Slice (thn (po_none.run pins s1 σ H1 (fun o H2 => o = none ∧ H2 = H1) I1 ⟨rfl, rfl⟩) fun vl s2 ⟨l, H2, I2, pl, el, e2⟩ => ?_)
  subst el e2
  refine thn (po_none.run pins s2 σ H2 (fun o H3 => o = none ∧ H3 = H2) I2 ⟨rfl, rfl⟩) fun vu s3 ⟨u, H3, I3, pu, eu, e3⟩ => ?_
  subst eu e3
  refine thn (part.run pins s3 σ H3 (fun o H4 => o = some (-1) ∧ H4 = H3) I3 ⟨1, rfl, -1, rfl, rfl, rfl⟩) fun vs s4 ⟨o, H4, I4, ps, eo, e4⟩ => ?_
  subst eo e4
  have I5 : Inv X pins σ H4 { s4 with heap := s4.heap.push { cls := .type "slice", data := .fields #[vl, vu, vs] } } := I4.kept (t' := s4.toks) fun b ob q => Heap.get?_push_of_some _ q
  show wpAny (model X.prog X.w) X.A (PyProof.Rows.subscriptTail e (.Slice none none (some (.UnaryOp .USub (.Constant (.int 1) n p1) p2)) p3) (.ref a) (.ref s4.heap.objs.size)) (EP X pins σ Q) X.xe { s4 with heap := s4.heap.push { cls := .type "slice", data := .fields #[vl, vu, vs] } }
  rcases q with ⟨hx, q⟩ | ⟨hx, q⟩
  · obtain ⟨its, r, ht, hz⟩ := I5.list hx
    have hlen := r.length
    refine PyProof.Rows.tail_any (ops := [.ref a, .ref s4.heap.objs.size]) ht.isList.typeIs (PySem.slot_list_getitem.lookup) (wpAny_getItem_list_slice ht.isList (Heap.IsSliceOf.new _ vl vu vs) pl pu ps (by decide) ?_ (by rw [List.size_toArray]; omega)) (by with_unfolding_all rfl)
    rw [PySem.W.krv_pick]
    exact ⟨.ref _, _, I5.laid (t' := s4.toks) (o := .lst xs.reverse) (fun b ob q => Heap.get?_push_of_some _ q) (Nat.le_refl _) ⟨by rw [List.length_reverse]; exact hz, _, 0, r.reverse, Heap.get?_push_size _ rfl⟩, rfl, q _ (I5.hok.fresh (Nat.le_refl _))⟩
  · cases pl
    cases pu
    obtain ⟨its, r, ht, hz⟩ := I5.tuple hx
    have hlen := r.length
    refine PyProof.Rows.tail_any (ops := [.ref a, .ref s4.heap.objs.size]) ht.typeIs PyProof.Rows.slot_tuple_getitem.lookup (PySem.DLR.getItem_tuple_back ht (Heap.IsSliceOf.new _ .none .none vs) ps ?_ (by rw [List.size_toArray]; omega)) (by with_unfolding_all rfl)
    refine ⟨.ref _, _, I5.laid (t' := s4.toks) (o := newT fz { cls := .type "tuple", data := .seq its.toArray.toList.reverse.toArray } xs.reverse) (fun b ob q => Heap.get?_push_of_some _ q) (Nat.le_refl _) ?_, rfl, q _ _ (I5.hok.fresh (Nat.le_refl _)) rfl rfl⟩
    unfold newT
    split
    · exact ⟨Heap.get?_push_size _ rfl, by rw [List.length_reverse]; exact hz, its.reverse, r.reverse, _, Heap.get?_push_size _ rfl, rfl, 0, by simp⟩
    · exact ⟨by rw [List.length_reverse]; exact hz, its.reverse, r.reverse, _, Heap.get?_push_size _ rfl, rfl, 0, by simp⟩
def iRev (i : IE) : IE := fun Γ => (i Γ).bind fun d => match d with
  | .lst ds => .ret (.lst ds.reverse)
  | .tup ds => .ret (.tup ds.reverse)
  | _ => .stuck
theorem de_rev {n : Nat} {p1 p2 p3 : Pos} (hK : X.K = L.K) (h : DV L X i e) : DE L X (iRev i) (.Subscript e (.Slice none none (some (.UnaryOp .USub (.Constant (.int 1) n p1) p2)) p3) pos) := fun W tk => PE.imp (pe_revA (fz := L.fz) (h W tk)) fun σ H Q ⟨Γ, g, rp, w⟩ => by
  refine Rd1.go rp w fun v H1 d g1 r1 s t w => ?_
  split at w
  · rename_i ds
    obtain ⟨a, vs, rfl, h1, l1⟩ := t.lst r1.sub
    refine ⟨a, vs, rfl, .inl ⟨SqL.of h1, fun p n => ?_⟩⟩
    have s2 := stp_put (o := .lst vs.reverse) r1 n
    exact w _ _ _ (s.trans s2) rfl (.lst put_F (l1.reverse.mono s2.le s2.mu))
  · rename_i ds
    obtain ⟨a, vs, rfl, h1, l1, _⟩ := t.tup r1.sub
    refine ⟨a, vs, rfl, .inr ⟨hK ▸ h1, fun p o n hc hd => ?_⟩⟩
    have s2 := stp_put (o := newT L.fz o vs.reverse) r1 n newT_nt
    exact w _ _ _ (s.trans s2) rfl (.tup (newT_sq put_F hc hd) (l1.reverse.mono s2.le s2.mu))
  · exact w.elim
/-! many times over -/
def fMulS : D → D → Option D
  | .str x, .int n => if 0 ≤ n ∧ n ≤ 1000 ∧ x.length ≤ 1000 then some (.str (Txt.mul x n)) else none
  | _, _ => none
theorem od_mulS : OpD L X (binaryOp .Mult) fMulS := by
  intro pins st σ H x y v u Q I rx ry ⟨Γ, g, σ', dx, dy, d, rp, vx, vy, e, w⟩
  unfold fMulS at e
  split at e
  · rename_i z n
    split at e
    · rename_i hc
      cases e
      cases vx.str
      cases vy.int
      obtain ⟨t, rfl⟩ := rx
      obtain ⟨t', rfl⟩ := ry
      refine PySem.SB.mul ⟨by simp; omega, fun h1 h2 => ?_, fun h1 h2 => ?_⟩ fun t2 k => ⟨.str _, H, I.tok _, ⟨t2, rfl⟩, w _ g H (Stp.refl rp) rfl (.str _)⟩
      · have q : (1000 : Int) ≤ (2 ^ 63 - 1) / n := by
          refine (Int.le_ediv_iff_mul_le (by omega)).mpr ?_
          have : (1000 : Int) * n ≤ 1000 * 1000 := Int.mul_le_mul_of_nonneg_left hc.2.1 (by decide)
          omega
        omega
      · have q : z.length * n.toNat ≤ 1000 * 1000 := Nat.mul_le_mul hc.2.2 (by omega)
        show decide (z.length * n.toNat > sizeLine) = false
        refine decide_eq_false (Nat.not_lt.mpr (Nat.le_trans q ?_))
        rw [sizeLine_eq]
        decide
    · cases e
  · cases e
end
end DL
/-! sorted of data; a tuple == (); walks over zip and texts. -/
namespace DL
open PySem PySem.Spec L2
/-! a stable sort that the kernel can follow -/
def ins1 {α : Type} (le : α → α → Bool) (x : α) : List α → List α
  | [] => [x]
  | y :: ys => if le x y = true then x :: y :: ys else y :: ins1 le x ys
def isort {α : Type} (le : α → α → Bool) : List α → List α
  | [] => []
  | x :: xs => ins1 le x (isort le xs)
section
variable {α : Type} {le : α → α → Bool}
theorem mem_ins1 {x y : α} : ∀ {l : List α}, y ∈ ins1 le x l → y = x ∨ y ∈ l
  | [], h => .inl (by simpa [ins1] using h)
  | z :: l, h => by
    unfold ins1 at h
    split at h
    · simpa using h
    · rcases List.mem_cons.mp h with h | h
      · exact .inr (by rw [h]; exact List.mem_cons_self)
      · rcases mem_ins1 h with h | h
        · exact .inl h
        · exact .inr (List.mem_cons_of_mem _ h)
theorem ins1_pair (h : PySem.W.TotalLe le) (x : α) : ∀ {l : List α}, l.Pairwise (fun a b => le a b = true) → (ins1 le x l).Pairwise (fun a b => le a b = true)
  | [], _ => List.pairwise_singleton _ _
  | y :: l, p => by
    unfold ins1
    split
    · rename_i q
      refine List.pairwise_cons.mpr ⟨fun z hz => ?_, p⟩
      rcases List.mem_cons.mp hz with rfl | hz
      · exact q
      · exact h.trans _ _ _ q ((List.pairwise_cons.mp p).1 z hz)
    · rename_i q
      obtain ⟨p1, p2⟩ := List.pairwise_cons.mp p
      refine List.pairwise_cons.mpr ⟨fun z hz => ?_, ins1_pair h x p2⟩
      rcases mem_ins1 hz with rfl | hz
      · exact (h.total z y).resolve_left (by simpa using q)
      · exact p1 z hz
theorem ins1_filter (h : PySem.W.TotalLe le) (c x : α) : ∀ {l : List α}, l.Pairwise (fun a b => le a b = true) → (ins1 le x l).filter (PySem.W.sameRank le c) = (x :: l).filter (PySem.W.sameRank le c)
  | [], _ => rfl
  | y :: l, p => by
    unfold ins1
    split
    · rfl
    · rename_i q
      obtain ⟨p1, p2⟩ := List.pairwise_cons.mp p
      have ih := ins1_filter h c x p2
      rw [List.filter_cons, ih]
      simp only [List.filter_cons]
      by_cases hx : PySem.W.sameRank le c x = true
      · by_cases hy : PySem.W.sameRank le c y = true
        · exfalso
          unfold PySem.W.sameRank at hx hy
          rw [Bool.and_eq_true] at hx hy
          exact q (h.trans _ _ _ hx.2 hy.1)
        · simp only [if_pos hx, if_neg hy]
      · simp only [if_neg hx]
theorem isort_pair (h : PySem.W.TotalLe le) : ∀ l : List α, (isort le l).Pairwise (fun a b => le a b = true)
  | [] => List.Pairwise.nil
  | x :: l => ins1_pair h x (isort_pair h l)
theorem isort_filter (h : PySem.W.TotalLe le) (c : α) : ∀ l : List α, (isort le l).filter (PySem.W.sameRank le c) = l.filter (PySem.W.sameRank le c)
  | [] => rfl
  | x :: l => by
    show (ins1 le x (isort le l)).filter _ = _
    rw [ins1_filter h c x (isort_pair h l), List.filter_cons, List.filter_cons, isort_filter h c l]
theorem isort_eq (h : PySem.W.TotalLe le) (l : List α) : isort le l = l.mergeSort le := PySem.W.sort_unique h (isort_pair h l) fun c => isort_filter h c l
end
def dLe (x y : D) : Bool := !PySem.W.dataLt y.py x.py
theorem dLe_eq : PySem.W.dataLe false D.py = dLe := rfl
theorem dLe_total : PySem.W.TotalLe dLe := PySem.W.sortLe_total (PyProof.Rows.listOrd PyProof.Rows.itemOrd) false fun b : D => PySem.W.keyToks b.py
def isTupNe : D → Bool
  | .tup (_ :: _) => true
  | _ => false
def isTupNon : D → Bool
  | .tup _ | .non => true
  | _ => false
def okSort (ds : List D) : Bool := D.plL ds && (ds.all fun x => ds.all fun y => PySem.W.alike x.py y.py) && (ds.all isTupNe || ds.all fun x => !isTupNon x) && ds.all fun x => decide (x.dep ≤ 60)
def sortD (ds : List D) : List D := isort dLe ds
section
variable {L : Lx} {X : Cx} {g g' : Gh} {H H' : Hp} {σ : L2.St} {Γ : Env} {W : WX} {pos p : Pos} {i j k : IE} {a b c e : Expr}
theorem plL_all : ∀ {ds : List D}, D.plL ds = true → ∀ d ∈ ds, d.pl = true
  | [], _, d, h => by cases h
  | x :: r, hp, d, h => by
    simp only [D.plL, Bool.and_eq_true] at hp
    rcases List.mem_cons.mp h with rfl | h
    · exact hp.1
    · exact plL_all hp.2 d h
theorem each_of {vs : List V} {ds : List D} {us : List Value} {R : Value → D → Prop} (hR : ∀ v d u, RelV v u → Den L g v d → d ∈ ds → R u d) (r : Vals vs us) (l : DenL L g vs ds) : PySem.W.EachIs R us ds := by
  have gen : ∀ (vs : List V) (us : List Value) (es : List D), (∀ d ∈ es, d ∈ ds) → Vals vs us → DenL L g vs es → PySem.W.EachIs R us es := fun vs => by
    induction vs with
    | nil => intro us es _ r l; cases r; cases l; exact .nil
    | cons v vs ih =>
      intro us es hs r l
      cases r with
      | cons r1 r2 =>
        cases l with
        | cons l1 l2 => exact .cons (hR _ _ _ r1 l1 (hs _ List.mem_cons_self)) (ih _ _ (fun d hd => hs d (List.mem_cons_of_mem _ hd)) r2 l2)
  exact gen vs us ds (fun _ h => h) r l
theorem of_each {us : List Value} {ds : List D} (h : PySem.W.EachIs (fun u d => ∃ v, RelV v u ∧ Den L g v d) us ds) : ∃ vs, Vals vs us ∧ DenL L g vs ds := by
  induction h with
  | nil => exact ⟨[], .nil, .nil⟩
  | cons h _ ih =>
    obtain ⟨v, r, t⟩ := h
    obtain ⟨vs, rs, ts⟩ := ih
    exact ⟨v :: vs, .cons r rs, .cons t ts⟩
/-- sorted(xs) of a list of data -/
def fSorted : List D → Option D
  | [.lst ds] => if okSort ds = true then some (.lst (sortD ds)) else none
  | _ => none
theorem ca_sorted (hK : X.K = L.K) (hu : X.A.units + 66 < cLine) : CaD L X FrT (.builtin "sorted") fSorted := by
  intro pins st σ H xs us Q I r ⟨Γ, g, σ', ds, d, rp, vs, e, w⟩
  unfold fSorted at e
  split at e
  · rename_i ds
    split at e
    · rename_i hs
      cases e
      unfold okSort at hs
      simp only [Bool.and_eq_true, Bool.or_eq_true, List.all_eq_true, decide_eq_true_eq] at hs
      obtain ⟨⟨⟨h1, h2⟩, h3⟩, h4⟩ := hs
      obtain ⟨v, rfl, a⟩ := vs.one
      obtain ⟨q, ws, rfl, e1, l1⟩ := a.lst rp.sub
      cases r with
      | cons r0 rn =>
        cases rn
        cases r0
        obtain ⟨its, rv, pl, hz⟩ := I.list (.inl (.inl e1))
        have hpl := plL_all h1
        have hal : PySem.W.AllAlike (ds.map D.py) := fun x hx y hy => by
          obtain ⟨x', hx', rfl⟩ := List.mem_map.mp hx
          obtain ⟨y', hy', rfl⟩ := List.mem_map.mp hy
          exact h2 x' hx' y' hy'
        have hk : PySem.W.Sortable (ds.map D.py) := by
          rcases h3 with h3 | h3
          · refine .inl fun x hx => ?_
            obtain ⟨x', hx', rfl⟩ := List.mem_map.mp hx
            have t := h3 x' hx'
            cases x' with
            | tup l => cases l with
              | nil => cases t
              | cons y l => exact ⟨y.py, D.pyL l, by simp only [D.py, D.pyL]⟩
            | _ => cases t
          · refine .inr fun x hx => ?_
            obtain ⟨x', hx', rfl⟩ := List.mem_map.mp hx
            have t := h3 x' hx'
            have t2 := hpl x' hx'
            cases x' <;> simp [isTupNon, D.pl, D.py] at t t2 ⊢
        have hlen : ds.length = its.length := l1.length.symm.trans rv.length
        refine PySem.W.sorted_data (R := fun u d => ∃ v, RelV v u ∧ Den L g v d) (enc := D.py) (bs := ds) pl.isList (each_of (fun v d u r t _ => ⟨v, r, t⟩) rv l1)
          (each_of (fun v d u r t hd => Dp.reads I d.py v u (hK ▸ t.dp rp.sub (hpl d hd)) r) rv l1) hal hk (by have := rv.length; have := l1.length; omega) (fun d hd => by rw [D.depth_py]; have := h4 d hd; omega) fun out ho eo => ?_
        rw [dLe_eq, ← isort_eq dLe_total] at eo
        obtain ⟨vs', r2, l2⟩ := of_each eo
        obtain ⟨n, hn⟩ := PyProof.Rows.sortedAll_at st.heap its out.toArray
        have nn := I.hok.fresh (a := st.heap.objs.size + 1) (Nat.le_succ _)
        have hl2 := r2.length
        have J := I.laid (t' := st.toks) (h' := PyProof.Rows.sortedAll st.heap its out.toArray) (o := .lst vs') (fun b o q => PyProof.Rows.sortedAll_old q) (Nat.le_succ _) ⟨by have := l1.length; have := rv.length; omega, out, n, r2, hn⟩
        exact ⟨.ref _, _, J, rfl, w _ g _ (stp_new (o := .lst vs') rp nn false) rfl (FrT.new rp (Stp.refl rp) nn l2)⟩
    · cases e
  · cases e
/-! (..) == () -/
def fEq0 (neg : Bool) : D → D → Option D
  | .tup xs, .tup [] => some (.bl (if neg then !xs.isEmpty else xs.isEmpty))
  | _, _ => none
def fEq := orD fEqD (fEq0 false)
def fNe := orD fNeD (fEq0 true)
theorem od_eq0 (hK : X.K = L.K) (hu : X.A.units + 1 < cLine) : OpD L X (compareOp .Eq) (fEq0 false) := by
  intro pins st σ H x y v u Q I rx ry ⟨Γ, g, σ', dx, dy, d, rp, vx, vy, e, w⟩
  unfold fEq0 at e
  split at e
  · rename_i ds
    cases e
    obtain ⟨a, vs, rfl, h1, l1, _⟩ := vx.tup rp.sub
    obtain ⟨b, ws, rfl, h2, l2, _⟩ := vy.tup rp.sub
    cases rx
    cases ry
    obtain ⟨its, rv, p1, _⟩ := I.tuple (hK ▸ h1)
    obtain ⟨its2, rv2, p2, _⟩ := I.tuple (hK ▸ h2)
    cases l2
    cases rv2
    refine PySem.W.eq_tuplesT (n := 0) (e := fun _ => true) p1 p2 (fun j h1 h2 => absurd h2 (by simp)) (by omega) ⟨.bl _, H, I, rfl, ?_⟩
    have e : ((List.range (min its.toArray.size ([] : List Value).toArray.size)).all (fun _ => true) && its.toArray.size == ([] : List Value).toArray.size) = ds.isEmpty := by
      have q : its.length = ds.length := rv.length.symm.trans l1.length
      cases its <;> cases ds <;> simp at q ⊢
    rw [e]
    exact w _ g H (Stp.refl rp) rfl (.bl _)
  · cases e
theorem od_eq (hK : X.K = L.K) (hu : X.A.units + 64 < cLine) : OpD L X (compareOp .Eq) fEq := (od_eqD hK hu).or (od_eq0 hK (by omega))
end
end DL
/-! Walks over zip, texts; while; three at once. -/
namespace DL
open PySem PySem.Spec L2
section
variable {L : Lx} {X : Cx} {g g' : Gh} {H H' : Hp} {σ : L2.St} {Γ : Env} {W : WX} {pos p tpos : Pos} {i j k : IE} {a b c e : Expr}
def zipD : List D → List D → List D
  | x :: xs, y :: ys => .pr [x, y] :: zipD xs ys
  | _, _ => []
theorem zipD_at : ∀ {xs ys : List D} {n : Nat} {d : D}, (zipD xs ys)[n]? = some d → ∃ x y, xs[n]? = some x ∧ ys[n]? = some y ∧ d = .pr [x, y]
  | [], _, _, _, h => by simp [zipD] at h
  | _ :: _, [], _, _, h => by simp [zipD] at h
  | x :: xs, y :: ys, 0, d, h => ⟨x, y, rfl, rfl, by simpa [zipD] using h.symm⟩
  | x :: xs, y :: ys, n + 1, d, h => by
    obtain ⟨u, v, h1, h2, h3⟩ := zipD_at (xs := xs) (ys := ys) (n := n) (d := d) (by simpa [zipD] using h)
    exact ⟨u, v, by simpa using h1, by simpa using h2, h3⟩
theorem zipD_len : ∀ {xs ys : List D}, xs.length ≤ (zipD xs ys).length ∨ ys.length ≤ (zipD xs ys).length
  | [], _ => .inl (Nat.zero_le _)
  | _ :: _, [] => .inr (Nat.zero_le _)
  | x :: xs, y :: ys => by
    rcases zipD_len (xs := xs) (ys := ys) with h | h
    · exact .inl (Nat.succ_le_succ h)
    · exact .inr (Nat.succ_le_succ h)
def itZ : List D → M (List D)
  | [.lst xs, .lst ys] => .ret (zipD xs ys)
  | [.tup xs, .tup ys] => .ret (zipD xs ys)
  | _ => .stuck
def iiZ (i j : IE) : II := fun Γ => (evs [i, j] Γ).bind itZ
/-- one turn of a zip, by what the two hold -/
theorem wk_zip {J : It} {a b : Addr} {us vs : List V} {xs ys : List D} (S : Hp → Addr → List V → Prop) (keep : ∀ {g' : Gh} {Γ : Env} {σ : L2.St} {H : Hp}, Rep L Γ g' σ H → FLe g g' → S H a us ∧ S H b vs) (l1 : DenL L g us xs) (l2 : DenL L g vs ys)
    (go : ∀ n H x y, S H a us → S H b vs → us[n]? = some x → vs[n]? = some y → J.go n H) (yld : ∀ n H v H', S H a us → S H b vs → J.yld n H v H' → ∃ T x y, v = .ref T ∧ H T = none ∧ H' = L2.upd H T (.tup [x, y]) ∧ us[n]? = some x ∧ vs[n]? = some y)
    (stop : ∀ n H, S H a us → S H b vs → us.length ≤ n ∨ vs.length ≤ n → J.stop n H) : Wk L J g (zipD xs ys) where
  step := fun n d Γ g' σ H e r f => by
    obtain ⟨x, y, h1, h2, rfl⟩ := zipD_at e
    obtain ⟨u, hu, tu⟩ := (l1.mono f.F f.mu).get h1
    obtain ⟨v, hv, tv⟩ := (l2.mono f.F f.mu).get h2
    obtain ⟨s1, s2⟩ := keep r f
    refine ⟨go n H u v s1 s2 hu hv, fun z H' hy => ?_⟩
    obtain ⟨T, u', v', rfl, nT, rfl, hu', hv'⟩ := yld n H z H' s1 s2 hy
    rw [hu] at hu'
    rw [hv] at hv'
    cases hu'
    cases hv'
    have s := stp_put (o := .tup [u, v]) r nT
    exact ⟨g'.put T (.tup [u, v]), s, rfl, .pr put_F (.cons (tu.mono s.le s.mu) (.cons (tv.mono s.le s.mu) .nil))⟩
  stop := fun Γ g' σ H r f => by
    obtain ⟨s1, s2⟩ := keep r f
    refine stop _ H s1 s2 ?_
    rw [l1.length, l2.length]
    exact zipD_len
theorem di_zip (hK : X.K = L.K) {elts : List Expr} {kk : Nat} (hg : Gl X "zip") (hm : X.mg "zip" = none) (ha : DA L X [i, j] [a, b])
    (hs : starEach [a, b] X.env = (false, eval a X.env) :: starEach [b] X.env := by rfl) (hpl : (backTo pos (starEach [b] X.env)).any (·.1) = false := by rfl) :
    DI L X (iiZ i j) (.Tuple elts kk tpos) (.Call (.Name "zip" p) [a, b] [] pos) := fun W tk => by
  refine PI.imp (RZ.pi_zipA hg hm (ha W tk) hs hpl) fun σ H R ⟨Γ, g, r, w⟩ => RdA.go r w fun vs H1 ds g1 r1 s t w => ?_
  unfold itZ at w
  split at w
  · rename_i xs ys
    cases t with
    | cons t1 t2 =>
      cases t2 with
      | cons t2 t3 =>
        cases t3
        cases t1 with
        | @lst a us _ e1 l1 =>
          cases t2 with
          | @lst b ws _ e2 l2 =>
            refine ⟨a, b, us, ws, rfl, .inl ⟨.inl (.inl (r1.sub _ _ e1)), .inl (.inl (r1.sub _ _ e2)), w g1 H1 _ s rfl ?_⟩⟩
            refine wk_zip (a := a) (b := b) (us := us) (vs := ws) (fun H q vs => H q = some (.lst vs)) (fun r f => ⟨r.sub _ _ (f.F _ _ e1), r.sub _ _ (f.F _ _ e2)⟩) l1 l2 (fun n H x y s1 s2 h1 h2 => ⟨us, ws, x, y, .inl (.inl s1), .inl (.inl s2), h1, h2⟩)
              (fun n H v H' s1 s2 ⟨T, x, y, e1, e2, e3, f1, f2⟩ => ⟨T, x, y, e1, e2, e3, f1 us (.inl (.inl s1)), f2 ws (.inl (.inl s2))⟩) (fun n H s1 s2 h => ⟨us, ws, .inl (.inl s1), .inl (.inl s2), h⟩)
  · rename_i xs ys
    cases t with
    | cons t1 t2 =>
      cases t2 with
      | cons t2 t3 =>
        cases t3
        cases t1 with
        | @tup a us _ e1 l1 =>
          cases t2 with
          | @tup b ws _ e2 l2 =>
            refine ⟨a, b, us, ws, rfl, .inr ⟨hK ▸ sqT_mono r1.sub e1.sq, hK ▸ sqT_mono r1.sub e2.sq, w g1 H1 _ s rfl ?_⟩⟩
            refine wk_zip (a := a) (b := b) (us := us) (vs := ws) (fun H q vs => SqT X.K H q vs) (fun r f => ⟨hK ▸ sqT_mono r.sub (sqT_mono f.F e1.sq), hK ▸ sqT_mono r.sub (sqT_mono f.F e2.sq)⟩) l1 l2 (fun n H x y s1 s2 h1 h2 => ⟨us, ws, x, y, s1, s2, h1, h2⟩)
              (fun n H v H' s1 s2 ⟨T, x, y, e1, e2, e3, f1, f2⟩ => ⟨T, x, y, e1, e2, e3, f1 us s1, f2 ws s2⟩) (fun n H s1 s2 h => ⟨us, ws, s1, s2, h⟩)
  · exact w.elim
/-! the signs of a text -/
def signs (z : Str) : List D := z.cps.toList.map fun c => .str ⟨#[c]⟩
def itS (d : D) : M (List D) := match d with
  | .str z => .ret (signs z)
  | _ => .stuck
def iiS (i : IE) : II := fun Γ => (i Γ).bind itS
theorem di_str {tg : Expr} (h : DE L X i e) : DI L X (iiS i) tg e := fun W tk => by
  refine PI.imp (pi_str (h W tk)) fun σ H R ⟨Γ, g, r, w⟩ => RdI.go (T := DenT) r w fun v H1 d g1 r1 s t w => ?_
  cases d with
  | str z =>
    cases t
    refine ⟨z, rfl, w g1 H1 _ (Stp.refl r1) rfl ⟨fun n d Γ g' σ H e r f => ?_, fun Γ g' σ H r f => ?_⟩⟩
    · unfold signs at e
      rw [List.getElem?_map] at e
      obtain ⟨c, hc, rfl⟩ := Option.map_eq_some_iff.mp e
      rw [Array.getElem?_toList] at hc
      refine ⟨(Array.getElem?_eq_some_iff.mp hc).1, fun x H' ⟨e1, c', hc', ev⟩ => ?_⟩
      subst e1 ev
      rw [hc] at hc'
      cases hc'
      exact ⟨g', Stp.refl r, rfl, .str _⟩
    · show z.cps.size ≤ (signs z).length
      unfold signs
      rw [List.length_map, Array.length_toList]
      exact Nat.le_refl _
  | _ => exact w.elim
/-! while -/
def sWhile : Nat → IT → IS → IS
  | 0, _, _ => fun _ => .stuck
  | n + 1, c, s => fun Γ => (c Γ).bind fun t => if t = true then (s Γ).bind fun fl => (match fl with
    | .nx Γ' => sWhile n c s Γ'
    | .ct Γ' => sWhile n c s Γ'
    | .bk Γ' => .ret (.nx Γ')
    | .rt d => .ret (.rt d)) else .ret (.nx Γ)
theorem ds_while {c : IT} {s : IS} {ce : Expr} {body : List Stmt} (n : Nat) (hp : PassesOwn (model X.prog X.w) X.A X.env X.xe) (hc : DT L X c ce) (hb : DSs L X s body) : DS L X (sWhile n c s) (.While ce body [] pos) := fun W g0 H0 tk => by
  refine PS.imp (ps_while hp (hc W tk) (hb W g0 H0 tk)) fun Dn σ H ⟨Γ, g, r, w⟩ => ?_
  refine ⟨fun m σ H => ∃ Γ g2, RepS L g0 H0 Γ g2 σ H ∧ FLe g g2 ∧ (sWhile m c s Γ).wpB g2.bud (FlT L g0 H0 g Dn) (XS L W g0 H0), ⟨n, Γ, g, r, FLe.refl g, w⟩, fun m σ H ⟨Γ, g2, r2, f2, w2⟩ => ?_⟩
  cases m with
  | zero => exact w2.elim
  | succ m =>
    refine ⟨Γ, g2, r2.rep, M.wpB_mono (fun t b k g3 H3 s3 e3 => ?_) (fun _ _ x => x.xw r2.base) _ _ ((M.wpB_bind _ _).mp w2)⟩
    subst e3
    have r3 := r2.step s3
    have f3 := f2.trans s3.fle
    cases t with
    | true =>
      refine ⟨fun σ' H' => ∃ Γ g4, RepS L g0 H0 Γ g4 σ' H' ∧ FLe g g4 ∧ (sWhile m c s Γ).wpB g4.bud (FlT L g0 H0 g Dn) (XS L W g0 H0), fun σ' H' h => ⟨m, Nat.lt_succ_self m, h⟩, ?_⟩
      refine ⟨Γ, g3, r3, M.wpB_mono (fun fl b k => ?_) (fun _ _ x => x) _ _ ((M.wpB_bind _ _).mp (show ((s Γ).bind _).wpB g3.bud _ _ from k))⟩
      cases fl with
      | nx Γ5 => exact fun g5 σ5 H5 r5 f5 e5 => ⟨Γ5, g5, r5, f3.trans f5, by subst e5; exact k⟩
      | ct Γ5 => exact fun g5 σ5 H5 r5 f5 e5 => ⟨Γ5, g5, r5, f3.trans f5, by subst e5; exact k⟩
      | bk Γ5 => exact fun g5 σ5 H5 r5 f5 e5 => k g5 σ5 H5 r5 (f3.trans f5) e5
      | rt d => exact k
    | false => exact k g3 σ H3 r3 f3 rfl
end
end DL
/-! len(set(t)), t a tuple of texts. -/
namespace PySem.DLS
open PySem PySem.Spec PyProof.Rows
/-- the texts met, each once -/
def met : List Str → List Str := fun xs => xs.foldl (fun q x => if q.any (· == x) then q else q ++ [x]) []
theorem met_snoc (xs : List Str) (x : Str) : met (xs ++ [x]) = if (met xs).any (· == x) then met xs else met xs ++ [x] := by
  unfold met
  rw [List.foldl_append]
  rfl
theorem met_len : ∀ (n : Nat) (xs : List Str), xs.length = n → (met xs).length ≤ n := fun n => by
  induction n with
  | zero => intro xs h; rw [List.length_eq_zero_iff.mp h]; exact Nat.le_refl _
  | succ n ih =>
    intro xs h
    have h0 : xs ≠ [] := fun e => by rw [e] at h; cases h
    have h2 := ih xs.dropLast (by rw [List.length_dropLast, h]; rfl)
    rw [← List.dropLast_concat_getLast h0, met_snoc]
    split
    · omega
    · rw [List.length_append, List.length_singleton]; omega
section
variable {prog : Program} {w : World} {A : Around} {R : Result → Shared → Prop} {I : Addr} {fp wr : List Addr} {G : Array GenState → Array GenState → Prop} {n : Nat} {P : Nat → Value → Prop} {St : Nat → Shared → Prop}
theorem fill (W : WalksS prog w A.in1 I fp wr G n P St) (S : Addr) (hS : S ∉ fp) (xs : List Str) (hz : xs.length = n) (hb : n + 1 < scanBound) (hv : ∀ i v, P i v → ∃ t, v = .str (xs.getD i Str.empty) t) :
    ∀ (k i : Nat) (s : Shared), n - i = k → i ≤ n → St i s → s.heap.SetOf (PySem.strKind prog w) S (fun z => (met (xs.take i)).any (· == z)) (met (xs.take i)).length →
      (∀ s', Moved (S :: wr) G s s' → s'.heap.SetOf (PySem.strKind prog w) S (fun z => (met xs).any (· == z)) (met xs).length → R (.ok (.ret .none)) s') → codeAny (model prog w) A (.builtin "set.update.loop" ⟨[.ref S, .ref I], []⟩) R s := by
  have out : S ∉ wr := fun h => hS (W.sub _ h)
  have up : ∀ b ∈ wr, b ∈ S :: wr := fun b h => .tail _ h
  intro k
  induction k with
  | zero =>
    intro i s hk hi st so fin
    obtain rfl : i = n := by omega
    rw [List.take_of_length_le (Nat.le_of_eq hz)] at so
    refine codeAny_builtin PyProof.Rows.F.entry_set_update_loop ?_; rw [Around.under_plainId PyProof.Rows.F.plain_set_update_loop _]
    show wpAny _ A.in1 (pyNext (.ref I) >>= _) _ _ s
    refine wpAny_bind (W.done s _ _ st fun s' mv => wpAny_pure (fin s' (mv.mono up) ?_))
    obtain ⟨o, es, ep, t, ho, more⟩ := so
    exact ⟨o, es, ep, t, mv.heap S _ out ho, more⟩
  | succ k ih =>
    intro i s hk hi st so fin
    have lt : i < n := by omega
    refine codeAny_builtin PyProof.Rows.F.entry_set_update_loop ?_; rw [Around.under_plainId PyProof.Rows.F.plain_set_update_loop _]
    show wpAny _ A.in1 (pyNext (.ref I) >>= _) _ _ s
    refine wpAny_bind (W.item i s _ _ lt st fun v s' hP st' mv => ?_)
    obtain ⟨t, rfl⟩ := hv i v hP
    have so' : s'.heap.SetOf (PySem.strKind prog w) S (fun z => (met (xs.take i)).any (· == z)) (met (xs.take i)).length := let ⟨o, es, ep, tb, ho, more⟩ := so; ⟨o, es, ep, tb, mv.heap S _ out ho, more⟩
    show wpAny _ A.in1 (holding [Value.str (xs.getD i Str.empty) t] (setAdd S (.str (xs.getD i Str.empty) t)) >>= _) _ _ s'
    refine wpAny_bind (wpAny_holding ?_); unfold setAdd; refine wpAny_holding (wpAny_bind ((PySem.strKind prog w).pyHash (k := xs.getD i Str.empty) (strKind_is _ _ _ _) ?_))
    have hm : (met (xs.take i)).length ≤ i := met_len i _ (by rw [List.length_take]; omega)
    refine wpAny_setAddHashed_of (knd := PySem.strKind prog w) (s := { s' with toks := s'.toks + 1 }) (strKind_is _ _ _ _) rfl so' (by omega) fun h' sb so2 => ?_
    have tk : xs.take (i + 1) = xs.take i ++ [xs.getD i Str.empty] := by
      have hlt : i < xs.length := by omega
      rw [List.take_add_one, List.getD_eq_getElem?_getD, List.getElem?_eq_getElem hlt]; rfl
    have so3 : h'.SetOf (PySem.strKind prog w) S (fun z => (met (xs.take (i + 1))).any (· == z)) (met (xs.take (i + 1))).length := by
      refine SetOf_congr so2 (fun z => ?_) ?_
      · show ((met (xs.take i)).any (· == z) || decide (z = xs.getD i Str.empty)) = _
        rw [tk, met_snoc]
        split
        · rename_i q
          by_cases e : z = xs.getD i Str.empty
          · rw [e, q]; rfl
          · rw [decide_eq_false e, Bool.or_false]
        · rw [List.any_append]
          congr 1
          by_cases e : z = xs.getD i Str.empty
          · rw [e]; simp
          · rw [decide_eq_false e]; simpa using fun q => e q.symm
      · show (if (met (xs.take i)).any (· == xs.getD i Str.empty) = true then _ else _) = _
        rw [tk, met_snoc]
        split
        · rfl
        · rw [List.length_append]; rfl
    refine wpAny_pure ⟨plainId_quiet PyProof.Rows.F.plain_set_update_loop _, ih (i + 1) _ (by omega) lt (W.frame _ s' _ _ st' (Nat.le_succ _) fun b hb o e => by rw [sb.2 b (fun q : b = S => hS (q ▸ hb))]; exact e) so3 fun s'' mv2 so4 => ?_⟩
    exact fin s'' (Moved.trans W.gtrans ((mv.mono up).then_heap (Nat.le_succ _) fun b o hb e => by rw [sb.2 b (fun q : b = S => hb (by rw [q]; exact .head _))]; exact e) mv2) so4
end
section
variable {prog : Program} {w : World} {A : Around} {E : Value → Shared → Prop} {s : Shared}
abbrev emptySet (led : Bool) : Obj := { cls := .type "set", dict := none, data := .set #[] 0 (.fresh 0 0 led) }
theorem set_of_tuple {l : Addr} {items : Array Value} {xs : List Str} {Q : Value → Shared → Prop} (hh : A.handled = none) (hl : s.heap.IsTuple l items) (hi : StrsAre items.toList xs) (hb : xs.length + 1 < scanBound)
    (q : ∀ (h' : Heap) (tk : Nat), h'.SetOf (PySem.strKind prog w) s.heap.objs.size (fun z => (met xs).any (· == z)) (met xs).length → (∀ b o, b < s.heap.objs.size → s.heap.get? b = some o → h'.get? b = some o) → Q (.ref s.heap.objs.size) { s with heap := h', toks := tk }) :
    wpAny (model prog w) A (call (.type "set") [.ref l]) Q E s := by
  obtain ⟨c, tl, hmro⟩ := PySem.F.called_set.mro
  have made := PySem.F.called_set.made; have sub := PySem.F.called_set.sub
  refine wpAny_call (codeAny_of_tree ?_)
  show wpAny _ _ (callAny (.type "set") _) _ _ _
  refine wpAny_pure ⟨Code.quiet_builtin _ (by decide +kernel), codeAny_builtin PySem.F.entry_type_call ?_⟩
  rw [Around.under_plain (weight_type_call_type "set" [.ref l] []) rfl]
  have n1 := PySem.F.called_set.notType; have n2 := PySem.F.called_set.canCreate; have n3 := PySem.F.typeCall_set_1 (.ref l)
  repeat (any_goals (first | assumption | wp_step))
  refine codeAny_mono (code_set_new_1 (.ref l) (E := E) (Q₁ := fun ob s₁ => ∃ led : Bool, ob = .ref s.heap.objs.size ∧ s₁ = { s with heap := s.heap.push (emptySet led) }) fun led => ⟨led, rfl, rfl⟩) fun r s₁ hr => ?_
  cases r with
  | error e => exact hr
  | ok fl =>
    cases fl with
    | next => exact hr.elim
    | brk => exact hr.elim
    | cont => exact hr.elim
    | ret ob =>
      obtain ⟨led, rfl, rfl⟩ := hr
      have at_ : (s.heap.push (emptySet led)).get? s.heap.objs.size = some (emptySet led) := Heap.get?_push_size _ rfl
      have ty : Shared.TypeIs { s with heap := s.heap.push (emptySet led) } (.ref s.heap.objs.size) "set" := ⟨_, at_, rfl⟩
      have li := PySem.F.called_set.init.lookup; have bi := PySem.F.called_set.init.bind (.ref s.heap.objs.size)
      repeat (any_goals (first | assumption | wp_step))
      refine codeAny_mono (codeAny_call_builtin (R := wants (fun r s₂ => r = .none ∧ ∃ h' tk, s₂ = { s with heap := h', toks := tk } ∧ h'.SetOf (PySem.strKind prog w) s.heap.objs.size (fun z => (met xs).any (· == z)) (met xs).length ∧
        (∀ b o, b < s.heap.objs.size → s.heap.get? b = some o → h'.get? b = some o)) E) PySem.F.called_set.init.plain PySem.F.entry_set_init (check_set_init_1 ty ?_)) fun r₂ s₂ hr₂ => ?_
      · obtain ⟨⟨oc, od, odt, os⟩, hol, hcl, nl, hdl⟩ := hl
        simp only at hcl hdl; subst hcl hdl
        have hol' : (s.heap.push (emptySet led)).get? l = some { cls := .type "tuple", dict := od, data := .seq items nl, slots := os } := Heap.get?_push_of_some _ hol
        have e1 := PySem.F.sub_tuple_set; have e2 := PySem.F.sub_tuple_frozenset
        have e3 : (Value.type "tuple" == Value.type "dict") = false := by decide
        have tp : (s.heap.push (emptySet led)).IsTuple l items := ⟨_, hol', rfl, nl, rfl⟩
        unfold Builtin.«set.__init__» noKeywords Builtin.Frozenset.updateFrom
        generalize hPI : pyIter = PI
        wp_walk
        subst hPI
        refine wpAny_pyIter_tuple tp (wpAny_bind (wpAny_runValue ?_))
        have ll : l < s.heap.objs.size := Heap.lt_size hol
        have sz : (s.heap.push (emptySet led)).objs.size = s.heap.objs.size + 1 := Heap.size_push _ _
        have nI : l ≠ (s.heap.push (emptySet led)).objs.size := by rw [sz]; exact Nat.ne_of_lt (Nat.lt_succ_of_lt ll)
        have nS : s.heap.objs.size ∉ [(s.heap.push (emptySet led)).objs.size, l] := by rw [sz, List.mem_cons, List.mem_singleton]; exact fun z => z.elim (fun z => absurd z (Nat.ne_of_lt (Nat.lt_succ_self _))) (fun z => absurd z (Nat.ne_of_gt ll))
        have len : xs.length = items.size := by rw [← StrsAre.len_eq hi, Array.length_toList]
        refine fill ((Walks.tuple (A := A.in1.in1.in1) (by simp [hh]) _ l nI items).toS) s.heap.objs.size nS xs len (by omega) (fun i v hv => SS.strs_at hi i v (by rw [Array.getElem?_toList]; exact hv)) (items.size - 0) 0 _ (by omega) (Nat.zero_le _) ⟨⟨_, Heap.get?_push_size _ rfl, rfl, rfl⟩, tp.push _⟩ ?hA ?hB
        case hA => exact SetOf_congr ((setObjOf_fresh (knd := PySem.strKind prog w) led).setOf (Heap.get?_push_of_some _ at_) (by unfold scanBound; omega)) (fun _ => rfl) rfl
        case hB =>
          intro s' mv so
          obtain ⟨h', g', d', tk', os'⟩ := s'
          obtain rfl : g' = s.gens := mv.gens
          obtain rfl : d' = s.drawn := mv.drawn
          obtain rfl : os' = s.os := mv.os
          show wpAny _ _ _ _ _ _
          refine wpAny_pure (wpAny_pure ⟨rfl, h', tk', rfl, so, fun b o hb e => ?_⟩)
          exact mv.heap b o (by rw [sz, List.mem_cons, List.mem_singleton]; exact fun z => z.elim (fun z => absurd z (Nat.ne_of_lt hb)) (fun z => absurd z (Nat.ne_of_lt (Nat.lt_succ_of_lt hb)))) (Heap.get?_push_of_some _ (Heap.get?_push_of_some _ e))
      · cases r₂ with
        | error e => exact hr₂
        | ok f₂ =>
          cases f₂ with
          | ret r =>
            obtain ⟨rfl, h', tk, rfl, so, kp⟩ := hr₂
            repeat (any_goals (first | assumption | wp_step))
            exact q _ _ so kp
          | next => exact hr₂.elim
          | brk => exact hr₂.elim
          | cont => exact hr₂.elim
end
end PySem.DLS
/-! len(set(t)); three targets at once; fields of a class's instance. -/
namespace DL
open PySem PySem.Spec L2
section
variable {L : Lx} {X : Cx} {g g' : Gh} {H H' : Hp} {σ : L2.St} {Γ : Env} {W : WX} {pos p p2 q : Pos} {i j k : IE} {a b c e : Expr}
def tLenT (K : PySem.W.Frag) (ta : TE) : TE := fun σ H Q => ta σ H fun x H1 => ∃ l, ∃ xs : List Str, x = .ref l ∧ SqT K H1 l (xs.map V.str) ∧ xs.length + 1 < scanBound ∧ Q (.int (PySem.DLS.met xs).length) H1
theorem pe_lenT {ta : TE} (hc : X.calm = true) (hg : Gl X "len") (hm : X.mg "len" = none) (hg2 : Gl X "set") (hm2 : X.mg "set" = none) (ha : PE X a ta) (na : starEach [a] X.env = (false, eval a X.env) :: starEach [] X.env := by rfl) :
    PE X (.Call (.Name "len" p) [.Call (.Name "set" p2) [a] [] q] [] pos) (tLenT X.K ta) := by
  refine ⟨fun pins s σ H Q I h => PyProof.Rows.Call_ (ld_blt I hg hm PySem.boot_len (PyProof.Rows.callWith_builtin1 (PyProof.Rows.args_cons (PyProof.Rows.Call_ (ld_blt I hg2 hm2 PyProof.Rows.boot_set (PyProof.Rows.callWith_type1 (PyProof.Rows.args_cons (thn (ha.run pins s σ H _ I h) fun v s1 ⟨x, H1, I1, r1, l, xs, ex, hq, hl, w⟩ => PyProof.Rows.args_nil ?_) na) na rfl))) rfl) rfl rfl))⟩
  subst ex
  cases r1
  obtain ⟨its, r, pl, hz⟩ := I1.tuple hq
  refine PySem.DLS.set_of_tuple (I1.ok.hd hc) pl (by simpa using strsAre_of r) hl fun h' tk ⟨o, es, ep, t, ho, hex, hd, _, _, _, hf, hn⟩ kp => PyProof.Rows.args_nil ?_
  have I2 : Inv X pins σ H1 { s1 with heap := h', toks := tk } := I1.kept fun b o e => kp b o (Heap.lt_size e) e
  have hm : (PySem.DLS.met xs).length ≤ xs.length := PySem.DLS.met_len _ xs rfl
  exact PySem.call_len_set ho hex hd hf (by rw [hn]; unfold scanBound at hl; omega) ⟨.int (PySem.DLS.met xs).length, H1, I2.tok _, ⟨_, by rw [hn]⟩, w⟩
def strsD : List D → Option (List Str)
  | [] => some []
  | .str z :: r => (strsD r).map (z :: ·)
  | _ => none
theorem DenL.strs : ∀ {vs : List V} {ds : List D} {zs : List Str}, DenL L g vs ds → strsD ds = some zs → vs = zs.map V.str
  | _, _, zs, .nil, e => by cases e; rfl
  | _, _, zs, .cons (d := d) a l, e => by
    cases a with
    | str z =>
      unfold strsD at e
      cases q : strsD _ with
      | none => rw [q] at e; cases e
      | some cs =>
        rw [q] at e
        cases e
        rw [l.strs q]
        rfl
    | _ => cases e
def fLenT : D → Option D
  | .tup ds => (strsD ds).bind fun zs => if zs.length ≤ 1000 then some (.int (PySem.DLS.met zs).length) else none
  | _ => none
def iLenT (i : IE) : IE := fun Γ => (i Γ).bind fun d => match fLenT d with
  | some d => .ret d
  | none => .stuck
theorem de_lenT (hK : X.K = L.K) (hc : X.calm = true) (hg : Gl X "len") (hm : X.mg "len" = none) (hg2 : Gl X "set") (hm2 : X.mg "set" = none) (h : DE L X i a) (na : starEach [a] X.env = (false, eval a X.env) :: starEach [] X.env := by rfl) :
    DE L X (iLenT i) (.Call (.Name "len" p) [.Call (.Name "set" p2) [a] [] q] [] pos) := fun W tk => PE.imp (pe_lenT hc hg hm hg2 hm2 (h W tk) na) fun σ H Q ⟨Γ, g, rp, w⟩ => by
  refine Rd1.go rp w fun v H1 d g1 r1 s t w => ?_
  split at w
  · rename_i d' e
    unfold fLenT at e
    split at e
    · rename_i ds
      obtain ⟨zs, hz, e⟩ := Option.bind_eq_some_iff.mp e
      split at e
      · rename_i hl
        cases e
        cases t with
        | @tup a vs _ e1 l1 => exact ⟨a, zs, rfl, hK ▸ (l1.strs hz) ▸ sqT_mono r1.sub e1.sq, by unfold scanBound; omega, w _ g1 H1 s rfl (.int _)⟩
      · cases e
    · cases e
  · exact w.elim
/-- a, b, c = x, y, z -/
def sPar3 (n m l : Nat) (i j k : IE) : IS := fun Γ => (evs [i, j, k] Γ).bind fun ds => match ds with
  | [d, e, f] => .ret (.nx (((Γ.set n (some (.fz d))).set m (some (.fz e))).set l (some (.fz f))))
  | _ => .stuck
theorem ds_par3 {n m l : Nat} {x y z : Str} {px py pz pt : Pos} {kt k2 pt2} (hc : X.calm = true) (hN : X.N.Nodup) (hi : X.N[n]? = some x) (hj : X.N[m]? = some y) (hl : X.N[l]? = some z) (h1 : n ≠ m) (h2 : n ≠ l) (h3 : m ≠ l)
    (hx : X.env.scope.names.lookup x = some .local) (hy : X.env.scope.names.lookup y = some .local) (hz : X.env.scope.names.lookup z = some .local) (ha : DA L X [i, j, k] [a, b, c])
    (hw : swappedStores [.Tuple [.Name x px, .Name y py, .Name z pz] kt pt] (.Tuple [a, b, c] k2 pt2) X.env = pure (some [x, y, z]))
    (hs : swapsWithSole [.Tuple [.Name x px, .Name y py, .Name z pz] kt pt] (.Tuple [a, b, c] k2 pt2) pos.line X.env = pure false := by rfl) :
    DS L X (sPar3 n m l i j k) (.Assign [.Tuple [.Name x px, .Name y py, .Name z pz] kt pt] (.Tuple [a, b, c] k2 pt2) pos) := fun W g0 H0 tk => by
  refine PS.imp (ps_par3 hc hN hi hj hl h1 h2 h3 hx hy hz (ha W tk) hw hs) fun Dn σ H ⟨Γ, g, r, w⟩ => ?_
  refine ⟨Γ, g, r.rep, M.wpB_mono (fun ds b k vs g1 H1 s e t => ?_) (fun _ _ x => x.xw r.base) _ _ ((M.wpB_bind _ _).mp w)⟩
  subst e
  cases t with
  | nil => exact k.elim
  | cons t1 t =>
    cases t with
    | nil => exact k.elim
    | cons t2 t =>
      cases t with
      | nil => exact k.elim
      | cons t3 t =>
        cases t with
        | nil => exact ⟨_, _, _, rfl, k g1 _ H1 ((((r.step s).set t1).set t2).set t3) s.fle rfl⟩
        | cons _ _ => exact k.elim
end
end DL
/-! What a generator of derivations writes: operators on all kinds of data, constants of modules, walks over any sequence, repr. -/
namespace DL
open PySem PySem.Spec L2
section
variable {L : Lx} {X : Cx} {g g' : Gh} {H H' : Hp} {σ : L2.St} {Γ : Env} {W : WX} {pos p p2 q : Pos} {i j k : IE} {a b c e : Expr}
/-! repr of tuples that hold {} -/
mutual
def D.sw : D → PyData
  | .tup xs => .tuple (D.swL xs)
  | .lst xs => .list (D.swL xs)
  | .dct _ _ => .dict []
  | .non => .none
  | .bl b => .bool b
  | .int i => .int i
  | .str s => .str s
  | .ins _ _ | .exc _ _ | .err _ _ | .ty _ | .clo _ | .rnd | .scr _ | .pr _ => .none
def D.swL : List D → List PyData
  | [] => []
  | x :: r => D.sw x :: D.swL r
end
mutual
def D.okw : D → Bool
  | .tup xs | .lst xs => D.okwL xs
  | .dct _ kvs => kvs.isEmpty
  | .non | .bl _ | .int _ | .str _ => true
  | .ins _ _ | .exc _ _ | .err _ _ | .ty _ | .clo _ | .rnd | .scr _ | .pr _ => false
def D.okwL : List D → Bool
  | [] => true
  | x :: r => D.okw x && D.okwL r
end
theorem zip_nil {α β : Type} {ks : List α} {ws : List β} {ds : List D} {f : α → D} (h1 : ks.length = ws.length) (h2 : ws.length = ds.length) (h3 : ((ks.map f).zip ds).isEmpty = true) : ks = [] ∧ ws = [] := by
  cases ks with
  | nil => exact ⟨rfl, List.eq_nil_of_length_eq_zero h1.symm⟩
  | cons k ks =>
    cases ds with
    | nil => rw [h2] at h1; simp at h1
    | cons d ds => simp at h3
/-! how data stands in the heap; its dicts hold nothing, and none of them is the table of modules -/
mutual
inductive Rs (h : Heap) : Value → PyData → Prop
  | nn : Rs h .none .none
  | bb (b : Bool) : Rs h (.bool b) (.bool b)
  | ii (i : Int) (t : Tok) : Rs h (.int i t) (.int i)
  | ss (x : Str) (t : Tok) : Rs h (.str x t) (.str x)
  | ls {p : Addr} {o : Obj} {us : Array Value} {n : Nat} {ys : List PyData} : h.get? p = some o → o.cls = .type "list" → o.data = .seq us n → RsL h us.toList ys → Rs h (.ref p) (.list ys)
  | tp {p : Addr} {o : Obj} {us : Array Value} {n : Nat} {ys : List PyData} : h.get? p = some o → o.cls = .type "tuple" → o.data = .seq us n → RsL h us.toList ys → Rs h (.ref p) (.tuple ys)
  | dc {p : Addr} {o : Obj} {n : Nat} : h.get? p = some o → o.cls = .type "dict" → o.data = .dict #[] n → (p == sysModules) = false → Rs h (.ref p) (.dict [])
inductive RsL (h : Heap) : List Value → List PyData → Prop
  | nil : RsL h [] []
  | cons {u : Value} {us : List Value} {y : PyData} {ys : List PyData} : Rs h u y → RsL h us ys → RsL h (u :: us) (y :: ys)
end
mutual
theorem Rs.reads {h : Heap} : ∀ {u : Value} {y : PyData}, Rs h u y → ∃ as, Reads h u y as
  | _, _, .nn => ⟨_, .none⟩
  | _, _, .bb b => ⟨_, .bool b⟩
  | _, _, .ii i t => ⟨_, .int i t⟩
  | _, _, .ss x t => ⟨_, .str x t⟩
  | _, _, .ls g1 g2 g3 g4 => let ⟨_, r⟩ := RsL.reads g4; ⟨_, .list g1 g2 g3 r⟩
  | _, _, .tp g1 g2 g3 g4 => let ⟨_, r⟩ := RsL.reads g4; ⟨_, .tuple g1 g2 g3 r⟩
  | _, _, .dc g1 g2 g3 _ => ⟨_, .dict g1 g2 g3 .nil .nil⟩
theorem RsL.reads {h : Heap} : ∀ {us : List Value} {ys : List PyData}, RsL h us ys → ∃ as, ReadsAll h us ys as
  | _, _, .nil => ⟨_, .nil⟩
  | _, _, .cons a l => let ⟨_, r⟩ := Rs.reads a; let ⟨_, q⟩ := RsL.reads l; ⟨_, .cons r q⟩
end
theorem noneAt {h : Heap} {n : Nat} : ReadAtMost h n [] := fun _ z => nomatch z
mutual
theorem Rs.rk {P : Program} {w : World} {h : Heap} : ∀ {u : Value} {y : PyData}, Rs h u y → y.showable = true → y.shown.length ≤ sizeLine → ∃ cs, ReadAtMost h y.depth cs ∧ ReprK P w cs h y.depth u y.shown
  | _, _, .nn, _, _ => ⟨[], noneAt, by rw [PyData.shown]; exact .of_is ReprIs.none _ _ _⟩
  | _, _, .bb b, _, _ => ⟨[], noneAt, by rw [PyData.shown]; exact .of_is (ReprIs.bool b) _ _ _⟩
  | _, _, .ii i t, sh, _ => ⟨[], noneAt, by rw [PyData.shown]; exact .of_is (ReprIs.int t (by simpa [PyData.showable] using sh)) _ _ _⟩
  | _, _, .ss x t, _, fit => ⟨[], noneAt, by rw [PyData.shown]; exact .of_is (ReprIs.str x t (by simpa only [PyData.shown] using fit)) _ _ _⟩
  | _, _, .ls (p := p) (us := us) (ys := ys) g1 g2 g3 g4, sh, fit => by
    have fit1 : (listText (PyData.shownAll ys)).length ≤ sizeLine := by simpa only [PyData.shown] using fit
    obtain ⟨cs, low, all⟩ := RsL.rk (P := P) (w := w) g4 (by simpa [PyData.showable] using sh) fun t ht => Nat.le_trans (listText_mem_le ht) fit1
    obtain ⟨as, r4⟩ := RsL.reads g4
    have r : Reads h (.ref p) (.list ys) (p :: as) := .list g1 g2 g3 r4
    have out : p ∉ cs := not_mem_of_deeper r (by simp only [PyData.depth]; omega) low
    refine ⟨p :: cs, ReadAtMost.cons r (by simp only [PyData.depth]; omega) low, ?_⟩
    simp only [PyData.shown, PyData.depth]
    obtain ⟨l⟩ := us
    cases l with
    | nil =>
      cases (show RsL h [] ys from g4)
      simp only [listText_nil, PyData.shownAll]
      exact ReprK.listEmpty g1 g2 g3
    | cons x l => exact ReprK.list g1 g2 g3 out (by simpa using all.length_eq) fun i y e => all.item i y (by simpa using e)
  | _, _, .tp (p := p) (ys := ys) g1 g2 g3 g4, sh, fit => by
    have fit1 : (tupleText (PyData.shownAll ys)).length ≤ sizeLine := by simpa only [PyData.shown] using fit
    obtain ⟨cs, low, all⟩ := RsL.rk (P := P) (w := w) g4 (by simpa [PyData.showable] using sh) fun t ht => Nat.le_trans (tupleText_mem_le ht) fit1
    obtain ⟨as, r4⟩ := RsL.reads g4
    have r : Reads h (.ref p) (.tuple ys) as := .tuple g1 g2 g3 r4
    have out : p ∉ cs := not_mem_of_deeper r (by simp only [PyData.depth]; omega) low
    refine ⟨p :: cs, ReadAtMost.cons r (by simp only [PyData.depth]; omega) low, ?_⟩
    simp only [PyData.shown, PyData.depth]
    exact ReprK.tuple g1 g2 g3 out all
  | _, _, .dc (p := p) g1 g2 g3 g4, _, _ => by
    refine ⟨[p], ReadAtMost.cons (n := 0) (.dict g1 g2 g3 .nil .nil) (Nat.zero_le _) noneAt, ?_⟩
    simp only [PyData.shown, PyData.depth, PyData.shownKv_eq]
    exact ReprK.dict g1 g2 g3 g4 (fun z => nomatch z) (ReprEntriesK.of_two [] _ _ .nil .nil)
theorem RsL.rk {P : Program} {w : World} {h : Heap} : ∀ {us : List Value} {ys : List PyData}, RsL h us ys → PyData.showableAll ys = true → (∀ t ∈ PyData.shownAll ys, t.length ≤ sizeLine) →
    ∃ cs, ReadAtMost h (PyData.depthAll ys) cs ∧ ReprAllK P w cs h (PyData.depthAll ys) us (PyData.shownAll ys)
  | _, _, .nil, _, _ => ⟨[], noneAt, by rw [PyData.shownAll]; exact .nil⟩
  | _, _, .cons (y := y) (ys := ys) a l, sh, fit => by
    obtain ⟨s1, s2⟩ : y.showable = true ∧ PyData.showableAll ys = true := by simpa [PyData.showableAll] using sh
    simp only [PyData.shownAll] at fit
    obtain ⟨c1, low1, k1⟩ := Rs.rk (P := P) (w := w) a s1 (fit _ List.mem_cons_self)
    obtain ⟨c2, low2, k2⟩ := RsL.rk (P := P) (w := w) l s2 fun t ht => fit t (List.mem_cons_of_mem _ ht)
    refine ⟨c1 ++ c2, fun b hb => ?_, ?_⟩
    · rw [PyData.depthAll]
      rcases List.mem_append.mp hb with hb | hb
      · exact let ⟨x, as, r, z⟩ := low1 b hb; ⟨x, as, r, Nat.le_trans z (Nat.le_max_left _ _)⟩
      · exact let ⟨x, as, r, z⟩ := low2 b hb; ⟨x, as, r, Nat.le_trans z (Nat.le_max_right _ _)⟩
    · rw [PyData.depthAll, PyData.shownAll]
      exact .cons ((k1.more fun b z => List.mem_append_left _ z).level_le (Nat.le_max_left _ _)) (k2.more_le (fun b z => List.mem_append_right _ z) (Nat.le_max_right _ _))
end
theorem Rs.call {P : Program} {w : World} {A : Around} {E : Value → Shared → Prop} {s : Shared} {Q : Value → Shared → Prop} {u : Value} {y : PyData} (r : Rs s.heap u y) (sh : y.showable = true) (fit : y.shown.length ≤ sizeLine) (dp : y.depth ≤ 20) (hg : A.guards = some []) (hu : A.units + 64 < cLine)
    (k : ∀ h' u' tk, (∀ b o, s.heap.get? b = some o → h'.get? b = some o) → Q (.str y.shown u') { s with heap := h', toks := tk }) : wpAny (model P w) A (call (.builtin "repr") [u]) Q E s := by
  cases r with
  | nn => exact PySem.P.repr_of_none (k _ _ _ fun b o e => e)
  | bb b => exact PySem.P.repr_of_bool (k _ _ _ fun b o e => e)
  | ii i t => exact PySem.P.repr_of_int (of_decide_eq_true sh) (k _ _ _ fun b o e => e)
  | ss x t => exact PySem.P.repr_of_str (k _ _ _ fun b o e => e) fit
  | @ls p o us n ys g1 g2 g3 g4 =>
    have fit1 : (listText (PyData.shownAll ys)).length ≤ sizeLine := by simpa only [PyData.shown] using fit
    obtain ⟨cs, low, all⟩ := RsL.rk (P := P) (w := w) g4 (by simpa [PyData.showable] using sh) fun t ht => Nat.le_trans (listText_mem_le ht) fit1
    obtain ⟨as, r4⟩ := RsL.reads g4
    have out : p ∉ cs := not_mem_of_deeper (.list g1 g2 g3 r4) (by simp only [PyData.depth]; omega) low
    simp only [PyData.shown] at k
    simp only [PyData.depth] at dp
    refine call_repr_slot (by omega) ⟨o, g1, g2⟩ PySem.F.slot_list_repr.toG ?_
    obtain ⟨l⟩ := us
    cases l with
    | nil =>
      cases (show RsL s.heap [] ys from g4)
      simp only [listText_nil, PyData.shownAll] at k
      exact call_list_repr_empty ⟨o, g1, g2⟩ g1 g3 ⟨_, _, rfl, k s.heap _ _ fun _ _ e => e⟩
    | cons x l => exact call_list_reprK g1 g2 g3 out (by simpa using all.length_eq) (fun i y e => all.item i y (by simpa using e)) hg (fun b _ => Clear.nil b) (by show A.units + 1 + _ < cLine; omega) (fun _ _ e => e) (fun h' u tk z => ⟨_, _, rfl, k h' u tk z⟩) fit1
  | @tp p o us n ys g1 g2 g3 g4 =>
    have fit1 : (tupleText (PyData.shownAll ys)).length ≤ sizeLine := by simpa only [PyData.shown] using fit
    obtain ⟨cs, low, all⟩ := RsL.rk (P := P) (w := w) g4 (by simpa [PyData.showable] using sh) fun t ht => Nat.le_trans (tupleText_mem_le ht) fit1
    obtain ⟨as, r4⟩ := RsL.reads g4
    have out : p ∉ cs := not_mem_of_deeper (.tuple g1 g2 g3 r4) (by simp only [PyData.depth]; omega) low
    simp only [PyData.shown] at k
    simp only [PyData.depth] at dp
    exact call_repr_slot (by omega) ⟨o, g1, g2⟩ PySem.F.slot_tuple_repr (call_tuple_reprK g1 g2 g3 out all hg (fun b _ => Clear.nil b) (by show A.units + 1 + _ < cLine; omega) (fun _ _ e => e) (fun h' u tk z => ⟨_, _, rfl, k h' u tk z⟩) fit1)
  | @dc p o n g1 g2 g3 g4 =>
    simp only [PyData.shown, PyData.shownKv_eq] at k
    simp only [PyData.depth] at dp
    exact call_repr_slot (by omega) ⟨o, g1, g2⟩ PySem.F.slot_dict_repr (call_dict_reprK g1 g2 g3 g4 (as := []) (fun z => nomatch z) (ReprEntriesK.of_two (d := 0) [] _ _ .nil .nil) hg (fun b _ => Clear.nil b) (by show A.units + 1 + _ < cLine; omega) (fun _ _ e => e) (fun h' u tk z => ⟨_, _, rfl, k h' u tk z⟩) (by rw [PyData.shown, PyData.shownKv_eq] at fit; exact fit))
theorem dct_rs {pins : List (Addr × Obj)} {s : Shared} {σ2 : L2.St} (I : Inv X pins σ2 H s) {p : Addr} (h : Rd H p (.dK []) ∨ Rd H p (.dT [])) : Rs s.heap (.ref p) (.dict []) := by
  rcases h with h | h
  · obtain ⟨_, hd, vs, r0, dd⟩ := dk_rd I.hok h
    cases r0
    obtain ⟨o, es, ep, ho, hx, hdat, _, hp, _⟩ := dd
    obtain ⟨es⟩ := es
    cases hp
    exact .dc ho hx.1 hdat hd
  · obtain ⟨_, hd, xs, r0, o, es, ep, ho, hx, hdat, hp, _⟩ := dt_rd I.hok h
    cases r0
    obtain ⟨es⟩ := es
    cases (show es = [] from hp)
    exact .dc ho hx.1 hdat hd
mutual
theorem Den.rs (hK : X.K = L.K) {pins : List (Addr × Obj)} {s : Shared} {σ2 : L2.St} (sub : ∀ a o, g.F a = some o → H a = some o) (I : Inv X pins σ2 H s) : ∀ {v : V} {d : D} {u : Value}, Den L g v d → d.okw = true → RelV v u → Rs s.heap u d.sw
  | _, _, u, .non, _, r => by cases (show u = Value.none from r); rw [D.sw]; exact .nn
  | _, _, u, .bl b, _, r => by cases (show u = Value.bool b from r); rw [D.sw]; exact .bb b
  | _, _, u, .int i, _, r => by obtain ⟨t, rfl⟩ := (show ∃ t, u = Value.int i t from r); rw [D.sw]; exact .ii i t
  | _, _, u, .str z, _, r => by obtain ⟨t, rfl⟩ := (show ∃ t, u = Value.str z t from r); rw [D.sw]; exact .ss z t
  | _, _, u, .tup e l, h, r => by
    cases (show u = Value.ref _ from r)
    obtain ⟨its, rv, ⟨o, ho, hc, n, hd⟩, hz⟩ := I.tuple (hK ▸ sqT_mono sub e.sq)
    have q := DenL.rs hK sub I l (by simpa only [D.okw] using h) rv
    rw [D.sw]
    exact .tp ho hc hd (by simpa using q)
  | _, _, u, .lst e l, h, r => by
    cases (show u = Value.ref _ from r)
    obtain ⟨its, rv, p, hz⟩ := I.list (.inl (.inl (sub _ _ e)))
    obtain ⟨o, ho, hc, n, hd⟩ := p.isList
    have q := DenL.rs hK sub I l (by simpa only [D.okw] using h) rv
    rw [D.sw]
    exact .ls ho hc hd (by simpa using q)
  | _, _, u, .dK e1 e2 e3, h, r => by
    obtain ⟨rfl, rfl⟩ := zip_nil e2 e3.length (by simpa only [D.okw] using h)
    cases (show u = Value.ref _ from r)
    rw [D.sw]
    exact dct_rs I (.inl (.inl (sub _ _ e1)))
  | _, _, u, .dT e1 e2 e3, h, r => by
    obtain ⟨rfl, rfl⟩ := zip_nil e2 e3.length (by simpa only [D.okw] using h)
    cases (show u = Value.ref _ from r)
    rw [D.sw]
    exact dct_rs I (.inr (.inl (sub _ _ e1)))
  | _, _, _, .ins _ _ _, h, _ => by simp only [D.okw] at h; cases h
  | _, _, _, .exc _ _ _ _, h, _ => by simp only [D.okw] at h; cases h
  | _, _, _, .err _ _, h, _ => by simp only [D.okw] at h; cases h
  | _, _, _, .ty _, h, _ => by simp only [D.okw] at h; cases h
  | _, _, _, .clo _, h, _ => by simp only [D.okw] at h; cases h
  | _, _, _, .rnd _, h, _ => by simp only [D.okw] at h; cases h
  | _, _, _, .scr _, h, _ => by simp only [D.okw] at h; cases h
  | _, _, _, .pr _ _, h, _ => by simp only [D.okw] at h; cases h
theorem DenL.rs (hK : X.K = L.K) {pins : List (Addr × Obj)} {s : Shared} {σ2 : L2.St} (sub : ∀ a o, g.F a = some o → H a = some o) (I : Inv X pins σ2 H s) : ∀ {vs : List V} {ds : List D} {us : List Value}, DenL L g vs ds → D.okwL ds = true → Vals vs us → RsL s.heap us (D.swL ds)
  | _, _, us, .nil, _, r => by cases r; rw [D.swL]; exact .nil
  | _, _, us, .cons t l, h, r => by
    simp only [D.okwL, Bool.and_eq_true] at h
    cases r with
    | cons r1 r2 =>
      rw [D.swL]
      exact .cons (Den.rs hK sub I t h.1 r1) (DenL.rs hK sub I l h.2 r2)
end
def fReprW : List D → Option D
  | [d] => if d.okw = true ∧ d.sw.showable = true ∧ d.sw.depth ≤ 20 ∧ d.sw.shown.length ≤ sizeLine then some (.str d.sw.shown) else none
  | _ => none
theorem ca_reprW (hK : X.K = L.K) (hgd : X.A.guards = some []) (hu : X.A.units + 64 < cLine) : CaD L X DenT (.builtin "repr") fReprW := by
  intro pins st σ H xs us Q I r ⟨Γ, g, σ', ds, d, rp, vs, e, w⟩
  unfold fReprW at e
  split at e
  · rename_i d'
    split at e
    · rename_i hs
      cases e
      obtain ⟨h0, h1, h2, h3⟩ := hs
      obtain ⟨v, rfl, a⟩ := vs.one
      obtain ⟨u, rfl, rv⟩ := vals1 r
      have q : Rs st.heap u d'.sw := by
        rcases a with a | ⟨q, ws, es, rfl, rfl, e1, e2, _⟩ | ⟨q, t, kvs, rfl, rfl, hm, hd⟩
        · exact Den.rs hK rp.sub I a h0 rv
        · cases (show u = Value.ref q from rv)
          obtain ⟨its, rv2, p, hz⟩ := I.list (.inl (.inl e1))
          obtain ⟨o, ho, hc, n, hd⟩ := p.isList
          have q := DenL.rs hK rp.sub I e2 (by simpa only [D.okw] using h0) rv2
          rw [D.sw]
          exact .ls ho hc hd (by simpa using q)
        · cases (show u = Value.ref q from rv)
          rw [D.sw]
          rcases hd with ⟨ks, ws, es, e1, e2, e3, rfl, _⟩ | ⟨ks, ws, es, e1, e2, e3, rfl, _⟩
          · obtain ⟨rfl, rfl⟩ := zip_nil e2 e3.length (by simpa only [D.okw] using h0)
            exact dct_rs I (.inl (.inl e1))
          · obtain ⟨rfl, rfl⟩ := zip_nil e2 e3.length (by simpa only [D.okw] using h0)
            exact dct_rs I (.inr (.inl e1))
      exact q.call h1 h3 h2 hgd hu fun h' t tk hk => ⟨.str d'.sw.shown, H, I.kept (t' := tk) hk, ⟨t, rfl⟩, w _ g H (Stp.refl rp) rfl (.str _)⟩
    · cases e
  · cases e
def fRp := orC fRepr fReprW
theorem ca_rp (hK : X.K = L.K) (hgd : X.A.guards = some []) (hu : X.A.units + 64 < cLine) : CaD L X DenT (.builtin "repr") fRp := (ca_repr hK hgd hu).or (ca_reprW hK hgd hu)
end
end DL
/-! Short words for the generated derivations. -/
namespace DL
open PySem PySem.Spec L2
section
variable {L : Lx} {X : Cx} {g g' : Gh} {H H' : Hp} {σ : L2.St} {Γ : Env} {W : WX} {pos p p2 q : Pos} {i j k : IE} {a b c e : Expr}
theorem dvar (n : Nat) {x : Str} (hN : X.N[n]? = some x := by rfl) (hv : Vis X.env.scope x := by first | exact Or.inl rfl | exact Or.inr (Or.inl rfl) | exact Or.inr (Or.inr rfl)) (hd : (x == ("__debug__" : Str)) = false := by decide)
    (hcd : (x == ("__classdict__" : Str)) = false := by decide) : DE L X (iVar n) (.Name x pos) := fun W tk => by
  refine PE.imp (pe_var hN hv hd hcd) fun σ H Q r => ?_
  obtain ⟨Γ, g, rp, w⟩ := r
  unfold iVar at w
  split at w
  · rename_i d e
    obtain ⟨x, e1, v, e2, h⟩ := rp.loc _ _ e
    subst e2
    exact ⟨v, e1, w v g H (Stp.refl rp) rfl h⟩
  · exact w.elim
theorem duse (n : Nat) {x : Str} (hN : X.N[n]? = some x := by rfl) (hv : Vis X.env.scope x := by first | exact Or.inl rfl | exact Or.inr (Or.inl rfl) | exact Or.inr (Or.inr rfl)) (hd : (x == ("__debug__" : Str)) = false := by decide)
    (hcd : (x == ("__classdict__" : Str)) = false := by decide) : DV L X (iUse n) (.Name x pos) := dv_use (pe_var hN hv hd hcd)
theorem dint {i j} : DE L X (iLit (.int i)) (.Constant (.int i) j pos) := de_c pe_int fun _ => .int i
theorem dstr {i : Str} {j} : DE L X (iLit (.str i)) (.Constant (.str i) j pos) := de_c pe_str fun _ => .str _
theorem dnon {j} : DE L X (iLit .non) (.Constant .none j pos) := de_c pe_non fun _ => .non
theorem dbool {b j} : DE L X (iLit (.bl b)) (.Constant (.bool b) j pos) := de_c pe_bl fun _ => .bl b
/-- a module's whole number -/
theorem dgint {x : Str} {n : Int} (hg : Gl X x) (h : ∃ t, X.mg x = some (.int n t)) (hd : (x == ("__debug__" : Str)) = false := by decide) : DE L X (iLit (.int n)) (.Name x pos) := by
  obtain ⟨t, h⟩ := h
  exact de_c (pe_glob (v := .int n) hg h ⟨t, rfl⟩ hd) fun _ => .int n
def fAdd := orD fAddI (orD fAddS (orD fAddL fAddT))
theorem od_add (hK : X.K = L.K) : OpD L X (binaryOp .Add) fAdd := od_addI.or (od_addS.or (od_addL.or (od_addT hK)))
def fMulT : D → D → Option D
  | .tup xs, .int n => if 2 ≤ n ∧ n ≤ 1000 ∧ xs.length ≤ 1000 ∧ xs.isEmpty = false then some (.tup (List.replicate n.toNat xs).flatten) else none
  | _, _ => none
theorem DenL.rep {vs : List V} {ds : List D} (l : DenL L g vs ds) : ∀ n : Nat, DenL L g (List.replicate n vs).flatten (List.replicate n ds).flatten
  | 0 => .nil
  | n + 1 => by
    rw [List.replicate_succ, List.replicate_succ, List.flatten_cons, List.flatten_cons]
    exact l.append (DenL.rep l n)
theorem rep_raw {K : PySem.W.Frag} {fz : Bool} (hK : X.K = K) : OpR X (binaryOp .Mult) (fun x y H Q => ∃ a n us, x = .ref a ∧ y = .int n ∧ SqT K H a us ∧ us.isEmpty = false ∧ (2 ≤ n ∧ n ≤ 1000) ∧ us.length ≤ 1000 ∧
    ∀ p o, H p = none → o.cls = .type "tuple" → o.dict = none → Q (.ref p) (L2.upd H p (newT fz o (List.replicate n.toNat us).flatten))) := by
  intro pp m τ G x1 y1 v1 v2 R J ra rb hh
  obtain ⟨a, n, us, ex, ey, sq, ne, ⟨lo, hi⟩, small, go⟩ := hh
  subst ex ey hK
  cases ra
  obtain ⟨tk, rfl⟩ := rb
  obtain ⟨ws, rv, ⟨⟨c0, d0, da, sl0⟩, got, e1, k0, e2⟩, _⟩ := J.tuple sq
  change c0 = _ at e1
  change da = _ at e2
  subst e1 e2
  have lw : ws.length = us.length := rv.length.symm
  have nw : ws ≠ [] := by
    rintro rfl
    cases us with
    | nil => cases ne
    | cons _ _ => cases lw
  have emp : ws.toArray.isEmpty = false := by
    cases ws with
    | nil => exact absurd rfl nw
    | cons _ _ => rfl
  have ws_size : ws.toArray.size = us.length := by rw [List.size_toArray, lw]
  have room : ((ws.toArray.size : Nat) : Int) * n ≤ 1000000 := by
    rw [ws_size]
    have : ((us.length : Nat) : Int) * n ≤ 1000 * n := Int.mul_le_mul_of_nonneg_right (by omega) (by omega)
    omega
  have all_len : (List.replicate n.toNat ws).flatten.length ≤ sizeLine := by
    rw [PyProof.Rows.lm_len_rep_flat, lw, sizeLine_eq]
    have : n.toNat * us.length ≤ 1000 * 1000 := Nat.mul_le_mul (by omega) small
    omega
  have in_word : (decide (n < -(2 ^ 63)) || decide (n ≥ 2 ^ 63)) = false := by
    rw [decide_eq_false (show ¬ n < -(2 ^ 63) by omega), decide_eq_false (show ¬ n ≥ 2 ^ 63 by omega)]
    rfl
  have not_same : (ws.toArray.isEmpty || n == 1) = false := by
    rw [emp, Bool.false_or]
    exact beq_eq_false_iff_ne.mpr fun z => by omega
  have not_void : (decide (n ≤ 0) || ws.toArray.isEmpty) = false := by
    rw [emp, Bool.or_false]
    exact decide_eq_false (by omega)
  have not_long : Builtin.Tuple.tupleTooMany (((ws.toArray.size : Nat) : Int) * n) = false := by
    simp only [Builtin.Tuple.tupleTooMany, sizeLine_eq]
    exact decide_eq_false (by omega)
  have inner := tuple_mulW a ws.toArray k0 d0 sl0 n tk in_word not_same not_void (by omega) not_long (by rw [size_rep, List.size_toArray]; exact all_len)
  refine wpAny_binaryOp_repeat_ref (T := "tuple") (U := "int") (by decide) ⟨_, got, rfl⟩ (fun m' => typeIs_int m' n tk) noFill_tuple_mul F.fills_int_mul F.slot_int_rmul repeat_tuple F.slot_int_index.lookup ?_
  refine call_meets F.slot_int_rmul (typeIs_int m n tk) F.entry_int_rmul (F.args_int_rmul_2 _ _) (int_rmul_tuple n tk a ws.toArray k0 d0 sl0) ⟨got, rfl, ⟨_, got, rfl⟩, ?_⟩
  refine call_meets F.slot_tuple_mul ⟨_, got, rfl⟩ F.entry_tuple_mul (F.args_tuple_mul_2 _ _) inner ⟨got, ?_⟩
  rw [size_rep]
  have fits : (List.replicate n.toNat us).flatten.length ≤ sizeLine := by
    rw [PyProof.Rows.lm_len_rep_flat, sizeLine_eq]
    have : n.toNat * us.length ≤ 1000 * 1000 := Nat.mul_le_mul (by omega) small
    omega
  have kk : ∀ G', ObjOk X.prog X.w G' (m.heap.push { cls := .type "tuple", data := .seq (List.replicate n.toNat ws).flatten.toArray }) m.heap.objs.size (.tup (List.replicate n.toNat us).flatten) := fun _ => ⟨fits, _, rv.rep n.toNat, PyProof.Rows.IsTup.new _ _⟩
  refine ⟨.ref m.heap.objs.size, _, J.laid (t' := m.toks) (o := newT fz { cls := .type "tuple", data := .seq (List.replicate n.toNat ws).flatten.toArray } (List.replicate n.toNat us).flatten) (fun _ _ z => Heap.get?_push_of_some _ z) (Nat.le_refl _) ?_, rfl, go _ _ (J.hok.fresh (Nat.le_refl _)) rfl rfl⟩
  unfold newT
  split
  · exact ⟨Heap.get?_push_size _ rfl, kk _⟩
  · exact kk _
theorem od_mulT (hK : X.K = L.K) : OpD L X (binaryOp .Mult) fMulT := by
  intro pins st σ H x y v u Q I rx ry ⟨Γ, g, σ', dx, dy, d, rp, vx, vy, e, w⟩
  unfold fMulT at e
  split at e
  · rename_i xs n
    split at e
    · rename_i hc
      cases e
      obtain ⟨a, vs, rfl, h1, l1, _⟩ := vx.tup rp.sub
      cases vy.int
      have hl := l1.length
      refine rep_raw (fz := L.fz) hK pins st σ H _ _ v u Q I rx ry ⟨a, n, vs, rfl, rfl, h1, ?_, ⟨hc.1, hc.2.1⟩, by omega, fun p o np hcl hd => ?_⟩
      · cases l1 with
        | nil => have := hc.2.2.2; simp at this
        | cons _ _ => rfl
      · have s := stp_put (o := newT L.fz o (List.replicate n.toNat vs).flatten) rp np newT_nt
        exact w _ _ _ s rfl (.tup (newT_sq put_F hcl hd) ((l1.rep n.toNat).mono s.le s.mu))
    · cases e
  · cases e
def fMul := orD fMulI (orD fMulS fMulT)
theorem od_mul (hK : X.K = L.K) : OpD L X (binaryOp .Mult) fMul := od_mulI.or (od_mulS.or (od_mulT hK))
def fIx := orD fIxT (orD fIxL fIxS)
theorem ixd (hK : X.K = L.K) : IxD L X fIx := (ixd_tup hK).or (ixd_list.or ixd_str)
def fSl := orSl fSlT (orSl fSlL fSlS)
theorem sld (hK : X.K = L.K) : SlD L X DenT fSl := (sld_tup hK).or ((sld_list.frz).or sld_str)
def fInA := orD (fIn false) (fInS false)
def fNotIn := orD (fIn true) (fInS true)
theorem od_inA (hK : X.K = L.K) (hu : X.A.units + 65 < cLine) : OpD L X (compareOp .In) fInA := (od_in hK hu).or od_inS
theorem od_notInA (hK : X.K = L.K) (hu : X.A.units + 65 < cLine) : OpD L X (compareOp .NotIn) fNotIn := (od_notIn hK hu).or od_notInS
def fIs := orD (fIsN false) (fIsB false)
def fIsNot := orD (fIsN true) (fIsB true)
theorem od_is : OpD L X (compareOp .Is) fIs := od_isN.or od_isB
theorem od_isNot : OpD L X (compareOp .IsNot) fIsNot := od_notN.or od_notB
theorem od_ne0 (hK : X.K = L.K) (hu : X.A.units + 64 < cLine) : OpD L X (compareOp .NotEq) fNeD := od_neD hK hu
/-! a walk over a list, a tuple, a text -/
def iSeqA (K : PySem.W.Frag) (te : TE) : TI := fun σ H R => te σ H fun x H1 => (∃ a, x = .ref a ∧ (∃ xs, SqL K H1 a xs) ∧ R (Itl K a) H1) ∨ (∃ a, x = .ref a ∧ (∃ xs, SqT K H1 a xs) ∧ R (Itt K a) H1) ∨ ∃ z, x = .str z ∧ R (Its z) H1
theorem pi_seqA {tg : Expr} {te : TE} (he : PE X e te) : PI X tg e (iSeqA X.K te) := by
  refine ⟨fun pins s σ H R I h => thn (he.run pins s σ H _ I h) fun v s1 ⟨x, H1, I1, r1, q⟩ => ?_⟩
  have own : ∀ b ∈ [s1.heap.objs.size], FpOk X pins H1 b := fun b hb => by
    rw [List.mem_singleton.mp hb]
    exact I1.fpOk (Nat.le_refl _) (I1.hok.fresh (Nat.le_refl _))
  rcases q with ⟨a, ex, ⟨xs, hq⟩, q⟩ | ⟨a, ex, ⟨xs, hq⟩, q⟩ | ⟨z, ex, q⟩
  · subst ex
    cases r1
    obtain ⟨its, rv, p, hz⟩ := I1.list hq
    exact wpAny_pyIter_list p.isList ⟨s1.heap.objs.size, [s1.heap.objs.size], _, _, H1, rfl, I1.kept (t' := s1.toks) fun b o e => Heap.get?_push_of_some _ e, turn_list a _, ⟨_, Heap.get?_push_size _ rfl, rfl, rfl⟩, own, q⟩
  · subst ex
    cases r1
    obtain ⟨its, rv, p, hz⟩ := I1.tuple hq
    exact wpAny_pyIter_tuple (show s1.heap.IsTuple a its.toArray from p) ⟨s1.heap.objs.size, [s1.heap.objs.size], _, _, H1, rfl, I1.kept (t' := s1.toks) fun b o e => Heap.get?_push_of_some _ e, turn_tuple a _, ⟨_, Heap.get?_push_size _ rfl, rfl, rfl⟩, own, q⟩
  · subst ex
    obtain ⟨t, rfl⟩ := r1
    cases ha : z.cps.all (· < 128)
    · exact wpAny_pyIter_wide ha (pi_one (tk := s1.toks) I1 _ (turn_str _ z t "str_iterator" (.inr rfl)) ⟨_, Heap.get?_push_size _ rfl, rfl, rfl⟩ q)
    · exact wpAny_pyIter_ascii ha (pi_one (tk := s1.toks) I1 _ (turn_str _ z t "str_ascii_iterator" (.inl rfl)) ⟨_, Heap.get?_push_size _ rfl, rfl, rfl⟩ q)
def itA (d : D) : M (List D) := match d with
  | .lst ds => .ret ds
  | .tup ds => .ret ds
  | .str z => .ret (signs z)
  | _ => .stuck
def iiA (i : IE) : II := fun Γ => (i Γ).bind itA
theorem wk_str {z : Str} : Wk L (Its z) g (signs z) where
  step := fun n d Γ g' σ H e r f => by
    unfold signs at e
    rw [List.getElem?_map] at e
    obtain ⟨c, hc, rfl⟩ := Option.map_eq_some_iff.mp e
    rw [Array.getElem?_toList] at hc
    refine ⟨(Array.getElem?_eq_some_iff.mp hc).1, fun x H' ⟨e1, c', hc', ev⟩ => ?_⟩
    subst e1 ev
    rw [hc] at hc'
    cases hc'
    exact ⟨g', Stp.refl r, rfl, .str _⟩
  stop := fun Γ g' σ H r f => by
    show z.cps.size ≤ (signs z).length
    unfold signs
    rw [List.length_map, Array.length_toList]
    exact Nat.le_refl _
theorem di_any (hK : X.K = L.K) {tg : Expr} (h : DE L X i e) : DI L X (iiA i) tg e := fun W tk => by
  refine PI.imp (pi_seqA (h W tk)) fun σ H R ⟨Γ, g, r, w⟩ => RdI.go (T := DenT) r w fun v H1 d g1 r1 s t w => ?_
  cases d with
  | lst ds =>
    cases id t with
    | lst e l => exact .inl ⟨_, rfl, ⟨_, .inl (.inl (r1.sub _ _ e))⟩, w g1 H1 _ (Stp.refl r1) rfl (hK ▸ wk_list e l)⟩
  | tup ds =>
    cases id t with
    | tup e l => exact .inr (.inl ⟨_, rfl, ⟨_, hK ▸ sqT_mono r1.sub e.sq⟩, w g1 H1 _ (Stp.refl r1) rfl (hK ▸ wk_tup e.sq l)⟩)
  | str z =>
    cases t
    exact .inr (.inr ⟨z, rfl, w g1 H1 _ (Stp.refl r1) rfl wk_str⟩)
  | _ => exact w.elim

/-- a comprehension's test -/
theorem pts_of {ct : IT} {ifs : Expr} (h : DT L X ct ifs) : PTs X [ifs] (RdT L (fun _ _ _ _ => False) ct) := pts_one (h _ LamX.takes0)
end
end DL
/-! Words for the generated derivations, chains of three comparisons, a module's empty tuple. -/
namespace DL
open PySem PySem.Spec L2
theorem u65 {k : Nat} {A : Around} (hr : Room k A) : A.units + 65 < cLine := by have := hr.un; omega
theorem u66 {k : Nat} {A : Around} (hr : Room k A) : A.units + 66 < cLine := by have := hr.un; omega
theorem dep1 {k : Nat} {A : Around} (hr : Room k A) : A.depth + 1 < recursionLimit := by have := hr.dp; omega
theorem xfC_of {K : PySem.W.Frag} {C fI : Addr} {f qn : Str} {B n1 n2 : String} {bm : List Value} (T : PySem.DLX.ExT K C fI f qn B n1 n2 bm) : XfC K C := ⟨T.ga, T.gg, T.exC, T.hdC⟩
/-- which class is caught by which, by a table -/
def subOf (t : List (Nat × Nat × Bool)) (n k : Nat) : Option Bool := (t.find? fun e => e.1 == n && e.2.1 == k).map (·.2.2)
theorem sub_ok {L : Lx} {t : List (Nat × Nat × Bool)} (h : ∀ e ∈ t, PySem.W.exmOne L.K (.ref (L.cA e.1)) (.ref (L.cA e.2.1)) = some e.2.2) : ∀ n k b, subOf t n k = some b → PySem.W.exmOne L.K (.ref (L.cA n)) (.ref (L.cA k)) = some b := by
  intro n k b e
  unfold subOf at e
  obtain ⟨x, h1, h2⟩ := Option.map_eq_some_iff.mp e
  have h3 := List.find?_some h1
  simp only [Bool.and_eq_true, beq_iff_eq] at h3
  obtain ⟨rfl, rfl⟩ := h3
  rw [← h2]
  exact h x (List.mem_of_find?_eq_some h1)
section
variable {L : Lx} {X : Cx} {g g' : Gh} {H H' : Hp} {σ : L2.St} {Γ : Env} {W : WX} {pos p : Pos} {i j k l : IE} {a b c d : Expr}
theorem fg_none {P : Program} {w : World} {mg : Str → Option Value} {base : Heap} {n : Nat} {f : Addr} {fd : FuncData} {ps : List Str} : FG L P w mg base n f fd ps fun _ => .stuck :=
  ⟨fun A outer s H args us vs Q E hr hg e0 bt r hl ⟨Γ, g, σ, ds, rp, l, w⟩ => w.elim⟩
/-! a < b < c <= d -/
def tChain3 (r1 r2 r3 : R2) (ta tb tc td : TE) : TE := fun σ H Q => ta σ H fun x H1 => tb σ H1 fun y H2 => r1 x y H2 fun z H3 => ∃ k, z = .bl k ∧
  (if k = true then tc σ H3 fun u H4 => r2 y u H4 fun z H5 => ∃ k, z = .bl k ∧ (if k = true then td σ H5 fun v H6 => r3 u v H6 Q else Q (.bl false) H5) else Q (.bl false) H3)
theorem pe_chain3 {o1 o2 o3 : CmpOp} {r1 r2 r3 : R2} {ta tb tc td : TE} (h1 : OpR X (compareOp o1) r1) (h2 : OpR X (compareOp o2) r2) (h3 : OpR X (compareOp o3) r3) (ha : PE X a ta) (hb : PE X b tb) (hc : PE X c tc) (hd : PE X d td)
    (hm : lastMarks [o1, o2, o3] [b, c, d] = false := by with_unfolding_all rfl) : PE X (.Compare a [o1, o2, o3] [b, c, d] pos) (tChain3 r1 r2 r3 ta tb tc td) := by
  refine ⟨fun pins s σ H Q I h => ?_⟩
  refine PyProof.Rows.Compare_chain (thn (ha.run pins s σ H _ I h) fun v s1 ⟨x, H1, I1, q1, h⟩ => PyProof.Rows.chain_link (thn (hb.run pins s1 σ H1 _ I1 h) fun u s2 ⟨y, H2, I2, q2, h⟩ =>
    thn (h1 pins s2 σ H2 x y v u _ I2 q1 q2 h) fun e s3 ⟨z, H3, I3, q3, k, ez, h⟩ => ?_)) hm
  subst ez
  cases q3
  refine wpAny_truthy_bool ?_
  cases k with
  | false => exact iteF ⟨.bl false, H3, I3, rfl, h⟩
  | true =>
    refine iteT (PyProof.Rows.chain_link (thn (hc.run pins s3 σ H3 _ I3 h) fun w' s4 ⟨z', H4, I4, q4, h⟩ => thn (h2 pins s4 σ H4 y z' u w' _ I4 q2 q4 h) fun e s5 ⟨z, H5, I5, q5, k, ez, h⟩ => ?_))
    subst ez
    cases q5
    refine wpAny_truthy_bool ?_
    cases k with
    | false => exact iteF ⟨.bl false, H5, I5, rfl, h⟩
    | true => exact iteT (PyProof.Rows.chain_last (thn (hd.run pins s5 σ H5 _ I5 h) fun w2 s6 ⟨z2, H6, I6, q6, h⟩ => h3 pins s6 σ H6 z' z2 w' w2 Q I6 q4 q6 h))
def iChain3 (f1 f2 f3 : D → D → Option D) (i j k l : IE) : IE := fun Γ => (i Γ).bind fun x => (j Γ).bind fun y => match f1 x y with
  | some (.bl t) => if t = true then (k Γ).bind fun z => (match f2 y z with
    | some (.bl t) => if t = true then (l Γ).bind fun u => (match f3 z u with
      | some d => .ret d
      | none => .stuck) else .ret (.bl false)
    | _ => .stuck) else .ret (.bl false)
  | _ => .stuck
theorem rd_chain3 {f1 f2 f3 : D → D → Option D} {Q : VK} (h : Rd1 L DenT W (iChain3 f1 f2 f3 i j k l) σ H Q) : tChain3 (RdO L f1) (RdO L f2) (RdO L f3) (Rd1 L VwT W i) (Rd1 L VwT W j) (Rd1 L VwT W k) (Rd1 L VwT W l) σ H Q := by
  obtain ⟨Γ, g, rp, w⟩ := h
  refine Rd1.go rp w fun x H1 dx g1 r1 s1 t1 w => Rd1.go r1 w fun y H2 dy g2 r2 s2 t2 w => ?_
  split at w
  · rename_i t e
    refine ⟨Γ, g2, σ, dx, dy, .bl t, r2, t1.step s2, t2, e, fun v g3 H3 s3 eb t3 => ?_⟩
    cases t3
    refine ⟨t, rfl, ?_⟩
    cases t with
    | false => exact iteF (w _ g3 H3 (s1.trans (s2.trans s3)) eb (.bl _))
    | true =>
      rw [← eb] at w
      refine iteT (Rd1.go (r2.step s3) (M.wpB_mono (fun _ _ x => x) (fun _ _ x => x.of s3) _ _ w) fun z H4 dz g4 r4 s4 t4 w => ?_)
      split at w
      · rename_i t e2
        refine ⟨Γ, g4, σ, dy, dz, .bl t, r4, (t2.step s3).step s4, t4, e2, fun v g5 H5 s5 eb5 t5 => ?_⟩
        cases t5
        refine ⟨t, rfl, ?_⟩
        cases t with
        | false => exact iteF (w _ g5 H5 (s1.trans (s2.trans (s3.trans (s4.trans s5)))) eb5 (.bl _))
        | true =>
          rw [← eb5] at w
          refine iteT (Rd1.go (r4.step s5) (M.wpB_mono (fun _ _ x => x) (fun _ _ x => x.of s5) _ _ w) fun u H6 du g6 r6 s6 t6 w => ?_)
          split at w
          · rename_i d e3
            exact ⟨Γ, g6, σ, dz, du, d, r6, (t4.step s5).step s6, t6, e3, fun v g7 H7 s7 eb7 t7 => w v g7 H7 (s1.trans (s2.trans (s3.trans (s4.trans (s5.trans (s6.trans s7)))))) eb7 t7⟩
          · exact w.elim
      · exact w.elim
  · exact w.elim
theorem de_chain3 {o1 o2 o3 : CmpOp} {f1 f2 f3 : D → D → Option D} (h1 : OpD L X (compareOp o1) f1) (h2 : OpD L X (compareOp o2) f2) (h3 : OpD L X (compareOp o3) f3) (ha : DV L X i a) (hb : DV L X j b) (hc : DV L X k c) (hd : DV L X l d) (hm : lastMarks [o1, o2, o3] [b, c, d] = false := by with_unfolding_all rfl) :
    DE L X (iChain3 f1 f2 f3 i j k l) (.Compare a [o1, o2, o3] [b, c, d] pos) := fun W tk => PE.imp (pe_chain3 h1 h2 h3 (ha W tk) (hb W tk) (hc W tk) (hd W tk) hm) fun σ H Q h => rd_chain3 h
/-! a module's empty tuple -/
theorem de_gtup0 {x : Str} {a : Addr} (hg : Gl X x) (h : X.mg x = some (.ref a)) (hs : ∀ F, SqD L.fz L.K F a []) (hk : PySem.W.keepIn X.K (.ref a) = true) (hd : (x == ("__debug__" : Str)) = false := by decide) : DE L X (iLit (.tup [])) (.Name x pos) :=
  de_c (pe_glob (v := .ref a) hg h rfl hd) fun g => .tup (hs g.F) .nil
end
end DL
/-! Dicts that are looked at. -/
namespace DL
open PySem PySem.Spec L2
/-! keys as data -/
def kOf : D → Option Key
  | .int i => some (.inl i)
  | .str s => some (.inr s)
  | _ => none
def kOfL : List D → Option (List Key)
  | [] => some []
  | d :: r => match kOf d with
    | some k => (kOfL r).map (k :: ·)
    | none => none
theorem kOf_eq {d : D} {k : Key} (h : kOf d = some k) : d = keyD k := by
  cases d <;> simp only [kOf, Option.some.injEq, reduceCtorEq] at h <;> subst h <;> rfl
theorem kOfL_eq : ∀ {ds : List D} {ks : List Key}, kOfL ds = some ks → ds = ks.map keyD
  | [], ks, h => by cases h; rfl
  | d :: r, ks, h => by
    simp only [kOfL] at h
    split at h
    · rename_i k hk
      obtain ⟨l, hl, rfl⟩ := Option.map_eq_some_iff.mp h
      rw [List.map_cons, ← kOf_eq hk, ← kOfL_eq hl]
    · cases h
def kEq1 : D → D → Bool
  | .int i, .int j => decide (i = j)
  | .str a, .str b => decide (a = b)
  | _, _ => false
def kEqL : List D → List D → Bool
  | [], [] => true
  | x :: r, y :: t => kEq1 x y && kEqL r t
  | _, _ => false
def kEq : D → D → Bool
  | .tup xs, .tup ys => kEqL xs ys
  | x, y => kEq1 x y
theorem kEq1_key (a b : Key) : kEq1 (keyD a) (keyD b) = decide (a = b) := by
  cases a <;> cases b <;> simp [kEq1, keyD]
theorem kEq_key (a b : Key) : kEq (keyD a) (keyD b) = decide (a = b) := by
  rw [← kEq1_key]
  cases a <;> cases b <;> rfl
theorem kEqL_key : ∀ a b : List Key, kEqL (a.map keyD) (b.map keyD) = decide (a = b)
  | [], [] => rfl
  | [], _ :: _ => rfl
  | _ :: _, [] => rfl
  | x :: r, y :: t => by
    show (kEq1 (keyD x) (keyD y) && kEqL (r.map keyD) (t.map keyD)) = _
    rw [kEq1_key, kEqL_key r t, ← Bool.decide_and]
    exact decide_eq_decide.mpr (by simp)
theorem kEq_tup (a b : List Key) : kEq (.tup (a.map keyD)) (.tup (b.map keyD)) = decide (a = b) := kEqL_key a b
def valD (kvs : List (D × D)) (y : D) : Option D := (kvs.find? fun kv => kEq kv.1 y).map (·.2)
/-- what may be asked of a dict -/
def keyOk : Bool → D → Bool
  | false, y => (kOf y).isSome
  | true, .tup ds => match kOfL ds with
    | some ks => ks.any fun k => k.isRight
    | none => false
  | true, _ => false
section
variable {L : Lx} {X : Cx} {g g' : Gh} {H H' : Hp} {σ : L2.St} {Γ : Env} {W : WX} {pos p : Pos} {i j k : IE} {a b c : Expr}
/-- what is told of a look-up -/
def RelD (L : Lx) (g : Gh) (o : Option V) (r : Option D) : Prop := (∃ v d, o = some v ∧ r = some d ∧ Den L g v d) ∨ (o = none ∧ r = none)
theorem val_den {κ : Type} [DecidableEq κ] {f : κ → D} (hf : ∀ a b, kEq (f a) (f b) = decide (a = b)) (k : κ) : ∀ {ks : List κ} {vs : List V} {ds : List D}, ks.length = vs.length → DenL L g vs ds →
    RelD L g (valV (ks.zip vs) k) (valD ((ks.map f).zip ds) (f k)) := by
  intro ks
  induction ks with
  | nil => intro vs ds _ _; exact .inr ⟨by simp [valV], by simp [valD]⟩
  | cons x ks ih =>
    intro vs ds h l
    cases l with
    | nil => simp at h
    | @cons v vs d ds t l =>
      have ih := ih (vs := vs) (ds := ds) (by simpa using h) l
      show RelD L g (valV ((x, v) :: ks.zip vs) k) (valD ((f x, d) :: (ks.map f).zip ds) (f k))
      by_cases e : x = k
      · refine .inl ⟨v, d, valV_pos e, ?_, t⟩
        unfold valD
        rw [List.find?_cons_of_pos (by show kEq (f x) (f k) = true; rw [hf]; exact decide_eq_true e)]
        rfl
      · have e2 : valD ((f x, d) :: (ks.map f).zip ds) (f k) = valD ((ks.map f).zip ds) (f k) := by
          unfold valD
          rw [List.find?_cons_of_neg (by show ¬ kEq (f x) (f k) = true; rw [hf]; simpa using e)]
        rw [valV_neg e, e2]
        exact ih
/-- no text stands in a tuple of the text's top -/
def noKS (K : PySem.W.Frag) : Bool := K.all fun p => match p.2.cls, p.2.data with
  | .type "tuple", .seq its _ => its.toList.all fun v => match v with
    | .str _ _ => false
    | _ => true
  | _, _ => true
theorem mem_of_lookup {α β : Type} [BEq α] [LawfulBEq α] {a : α} {b : β} : ∀ {l : List (α × β)}, l.lookup a = some b → (a, b) ∈ l
  | [], h => by simp at h
  | (x, y) :: r, h => by
    rw [List.lookup_cons] at h
    split at h
    · rename_i e
      cases h
      rw [eq_of_beq e]
      exact List.mem_cons_self
    · exact List.mem_cons_of_mem _ (mem_of_lookup h)
theorem vals_str {ks : List Key} : ∀ {us : List Value}, Vals (ks.map kV) us → ks.any (fun k => k.isRight) = true → ∃ x t, Value.str x t ∈ us := by
  induction ks with
  | nil => intro us _ h; simp at h
  | cons k ks ih =>
    intro us r h
    cases r with
    | cons rv rr =>
      rw [List.any_cons, Bool.or_eq_true] at h
      rcases h with h | h
      · cases k with
        | inl i => simp at h
        | inr x =>
          obtain ⟨t, rfl⟩ := rv
          exact ⟨x, t, List.mem_cons_self⟩
      · obtain ⟨x, t, m⟩ := ih rr h
        exact ⟨x, t, List.mem_cons_of_mem _ m⟩
theorem SqD.own {fz : Bool} {K : PySem.W.Frag} {F : Hp} {a : Addr} {ks : List Key} (hk : noKS K = true) (hz : fz = false) (h : SqD fz K F a (ks.map kV)) (hs : ks.any (fun k => k.isRight) = true) : F a = some (.tup (ks.map kV)) := by
  rcases h with h | ⟨o, its, n, h1, h2, h3, _, _, h5⟩ | ⟨o, _, _, _, h5⟩
  · exact h.2
  · obtain ⟨x, t, m⟩ := vals_str h5 hs
    have z := List.all_eq_true.mp hk _ (mem_of_lookup h1)
    simp only [h2, h3] at z
    exact absurd (List.all_eq_true.mp z _ m) (by simp)
  · subst hz
    rw [Bool.false_or, List.any_eq_true] at h5
    obtain ⟨x, hx, e⟩ := h5
    obtain ⟨k, _, rfl⟩ := List.mem_map.mp hx
    cases k <;> cases e
theorem den_keys : ∀ {ks : List Key} {vs : List V}, DenL L g vs (ks.map keyD) → vs = ks.map kV
  | [], _, .nil => rfl
  | .inl i :: ks, _, .cons t l => by cases t; rw [den_keys l]; rfl
  | .inr s :: ks, _, .cons t l => by cases t; rw [den_keys l]; rfl
theorem Vw.dct {x : V} {t : Bool} {kvs : List (D × D)} (sub : ∀ a o, g.F a = some o → H a = some o) (h : Vw L g H x (.dct t kvs)) : ∃ a, x = .ref a ∧ DctAt L g H a t kvs := by
  rcases h with h | ⟨_, _, _, _, e, _⟩ | ⟨q, t', kvs', rfl, e, _, hd⟩
  · generalize hz : D.dct t kvs = d at h
    cases h with
    | dK e1 e2 e3 =>
      obtain ⟨rfl, rfl⟩ := D.dct.inj hz
      exact ⟨_, rfl, .inl ⟨_, _, _, sub _ _ e1, e2, e3, rfl, rfl⟩⟩
    | dT e1 e2 e3 =>
      obtain ⟨rfl, rfl⟩ := D.dct.inj hz
      exact ⟨_, rfl, .inr ⟨_, _, _, sub _ _ e1, e2, e3, rfl, rfl⟩⟩
    | _ => cases hz
  · cases e
  · cases e
    exact ⟨q, rfl, hd⟩
/-- the key y in the dict at a -/
theorem key_at {ad : Addr} {y : V} {dy : D} {t : Bool} {kvs : List (D × D)} (hk : noKS L.K = true ∧ L.fz = false) (sub : ∀ a o, g.F a = some o → H a = some o) (hd : DctAt L g H ad t kvs) (vy : Vw L g H y dy) (ok : keyOk t dy = true) :
    ∃ o, DGet H ad y o ∧ RelD L g o (valD kvs dy) := by
  rcases hd with ⟨ks, vs, ds, h1, h2, h3, rfl, rfl⟩ | ⟨ks, vs, ds, h1, h2, h3, rfl, rfl⟩
  · obtain ⟨k, e⟩ := Option.isSome_iff_exists.mp (show (kOf dy).isSome = true from ok)
    have ed := kOf_eq e
    subst ed
    have ey : y = kV k := by
      cases k with
      | inl i => exact vy.int
      | inr s => exact vy.str
    subst ey
    exact ⟨_, DGet.k h1, val_den kEq_key k h2 h3⟩
  · cases dy with
    | tup es =>
      simp only [keyOk] at ok
      split at ok
      · rename_i k e
        have ed := kOfL_eq e
        subst ed
        obtain ⟨b, us, ey, es⟩ : ∃ b us, y = .ref b ∧ SqD L.fz L.K H b us ∧ DenL L g us (k.map keyD) := by
          rcases vy with h | ⟨_, _, _, _, e, _⟩ | ⟨_, _, _, _, e, _⟩
          · cases h with
            | tup e l => exact ⟨_, _, rfl, e.mono sub, l⟩
          · cases e
          · cases e
        subst ey
        have eu := den_keys es.2
        subst eu
        exact ⟨_, DGet.t h1 (es.1.own hk.1 hk.2 ok), val_den (f := fun k => D.tup (k.map keyD)) kEq_tup k h2 h3⟩
      · cases ok
    | _ => cases ok
/-! d[k] -/
theorem ix_dict (hu : X.A.units + 1 < cLine) : IxR X (fun x y H Q => ∃ a v, x = .ref a ∧ DGet H a y (some v) ∧ Q v H) := by
  intro value slice pins s σ H x y v u Q I rx ry ⟨a, z, ex, gt, q⟩ hs
  subst ex
  obtain rfl : v = Value.ref a := rx
  have hT := dict_typeIs I gt
  unfold PyProof.Rows.subscriptTail
  refine wpAny_bind ?_
  rw [getitemInPython_of_ne hT.not_modules]
  refine wpAny_bind (wpAny_specialOf hT PySem.F.slot_dict_getitem.lookup ?_)
  have fin : wpAny (model X.prog X.w) X.A (subscripted slice false (.ref a) u) (fun r s₃ => wpAny (model X.prog X.w) X.A (letTemporaryGo value (.ref a) r >>= fun _ => pure r) (EP X pins σ Q) X.xe s₃) X.xe s := by
    rw [hs]
    exact wpAny_operating (wpAny_mono (d_getItem (Q := EP X pins σ Q) hu I gt ry fun w' s' I' rw' => ⟨z, H, I', rw', q⟩) (fun r s₃ h₃ => wpAny_bind (wpAny_letTemporaryGo (wpAny_pure h₃))) fun _ _ x => x)
  first
    | exact wpAny_pure (wpAny_bind fin)
    | exact wpAny_bind (wpAny_pure (wpAny_bind fin))
    | exact wpAny_bind fin
def fIxK : D → D → Option D
  | .dct t kvs, y => if keyOk t y then valD kvs y else none
  | _, _ => none
theorem ixd_dict (hk : noKS L.K = true ∧ L.fz = false) (hu : X.A.units + 1 < cLine) : IxD L X fIxK := by
  intro va sl pins st σ H x y v u Q I rx ry ⟨Γ, g, σ', dx, dy, d, rp, vx, vy, e, w⟩ hs
  unfold fIxK at e
  split at e
  · split at e
    · rename_i ok
      obtain ⟨ad, rfl, hd⟩ := vx.dct rp.sub
      obtain ⟨o, hg, r⟩ := key_at hk rp.sub hd vy ok
      rcases r with ⟨z, d', rfl, e2, t⟩ | ⟨_, e2⟩
      · rw [e] at e2
        cases e2
        exact ix_dict hu va sl pins st σ H _ y v u Q I rx ry ⟨ad, z, rfl, hg, w _ g H (Stp.refl rp) rfl t⟩ hs
      · rw [e] at e2
        cases e2
    · cases e
  · cases e
/-! k in d -/
def fInK (neg : Bool) : D → D → Option D
  | y, .dct t kvs => if keyOk t y then some (.bl (if neg then !(valD kvs y).isSome else (valD kvs y).isSome)) else none
  | _, _ => none
theorem RelD.some {o : Option V} {r : Option D} (h : RelD L g o r) : o.isSome = r.isSome := by
  rcases h with ⟨_, _, rfl, rfl, _⟩ | ⟨rfl, rfl⟩ <;> rfl
theorem od_inK (hk : noKS L.K = true ∧ L.fz = false) (hu : X.A.units + 1 < cLine) : OpD L X (compareOp .In) (fInK false) := by
  intro pins st σ H x y v u Q I rx ry ⟨Γ, g, σ', dx, dy, d, rp, vx, vy, e, w⟩
  unfold fInK at e
  split at e
  · split at e
    · rename_i ok
      cases e
      obtain ⟨ad, rfl, hd⟩ := vy.dct rp.sub
      obtain ⟨o, hg, r⟩ := key_at hk rp.sub hd vx ok
      obtain rfl : u = Value.ref ad := ry
      exact d_in hu I hg rx fun s3 I3 => ⟨.bl o.isSome, H, I3, rfl, w _ g H (Stp.refl rp) rfl (by rw [r.some]; exact .bl _)⟩
    · cases e
  · cases e
theorem od_notInK (hk : noKS L.K = true ∧ L.fz = false) (hu : X.A.units + 1 < cLine) : OpD L X (compareOp .NotIn) (fInK true) := by
  intro pins st σ H x y v u Q I rx ry ⟨Γ, g, σ', dx, dy, d, rp, vx, vy, e, w⟩
  unfold fInK at e
  split at e
  · split at e
    · rename_i ok
      cases e
      obtain ⟨ad, rfl, hd⟩ := vy.dct rp.sub
      obtain ⟨o, hg, r⟩ := key_at hk rp.sub hd vx ok
      obtain rfl : u = Value.ref ad := ry
      exact d_notIn hu I hg rx fun s3 I3 => ⟨.bl (!o.isSome), H, I3, rfl, w _ g H (Stp.refl rp) rfl (by rw [r.some]; exact .bl _)⟩
    · cases e
  · cases e
/-! d.get(k, x) -/
def iGet (i j k : IE) : IE := fun Γ => (i Γ).bind fun x => match x with
  | .dct t kvs => (j Γ).bind fun y => (k Γ).bind fun z => if keyOk t y then .ret ((valD kvs y).getD z) else .stuck
  | _ => .stuck
theorem de_get {apos : Pos} (hk : noKS L.K = true ∧ L.fz = false) (hu : X.A.units + 1 < cLine) (ha : DV L X i a) (hb : DE L X j b) (hc : DE L X k c) (m : M2 X a "get" apos b c pos) : DE L X (iGet i j k) (.Call (.Attribute a "get" apos) [b, c] [] pos) := fun W tk => by
  refine PE.imp (pe_dget2 hu (ha W tk) (hb W tk) (hc W tk) m) fun σ H Q ⟨Γ, g, r, w⟩ => Rd1.go r w fun x H1 dx g1 r1 s1 t1 w => ?_
  cases dx with
  | dct t kvs =>
    obtain ⟨ad, rfl, hd⟩ := Vw.dct r1.sub t1
    have isd : IsD H1 ad := by
      rcases hd with ⟨_, _, _, h1, _⟩ | ⟨_, _, _, h1, _⟩
      · exact .inl ⟨_, .inl h1⟩
      · exact .inr ⟨_, .inl h1⟩
    refine ⟨ad, rfl, isd, Rd1.go r1 w fun y H2 dy g2 r2 s2 t2 w => Rd1.go r2 w fun z H3 dz g3 r3 s3 t3 w => ?_⟩
    split at w
    · rename_i ok
      obtain ⟨ad', e', hd3⟩ := Vw.dct r3.sub ((t1.step s2).step s3)
      cases e'
      obtain ⟨o, hg, rl⟩ := key_at hk r3.sub hd3 (.inl (t2.mono s3.le s3.mu)) ok
      refine ⟨o, hg, w _ g3 H3 (s1.trans (s2.trans s3)) rfl ?_⟩
      rcases rl with ⟨v, d, rfl, e, t⟩ | ⟨rfl, e⟩
      · rw [e]; exact t
      · rw [e]; exact t3
    · exact w.elim
  | _ => exact w.elim
end
end DL
/-! Dicts of one's own, changed in place. -/
namespace DL
open PySem PySem.Spec L2
section
variable {L : Lx} {X : Cx} {g0 g g' : Gh} {H0 H H' : Hp} {σ σ' : L2.St} {Γ Γ' : Env} {W : WX} {pos : Pos}
/-- a dict's object, whatever its keys are -/
def IsDO : HO → Prop
  | .dK _ => True
  | .dT _ => True
  | _ => False
theorem stp_updD {gs : Gh} {Hs : Hp} {p : Addr} {o o' : HO} (s : Stp L gs Hs g H) (n : Hs p = none) (h1 : H p = some o) (ho : IsDO o) (h3 : g.F p = none) (h4 : ¬ InM g.mu H p) : Stp L gs Hs g (upd H p o') := by
  have im : ∀ a, InM g.mu (upd H p o') a → InM g.mu H a := fun a ⟨m, e, h⟩ => by
    refine ⟨m, e, ?_⟩
    rcases h with h | ⟨kvs, k, e4, hm⟩
    · exact .inl h
    · have q : m ≠ p := fun z => h4 ⟨m, e, .inl z.symm⟩
      rw [upd_ne q] at e4
      exact .inr ⟨kvs, k, e4, hm⟩
  have ne : ∀ a, Hs a ≠ none → a ≠ p := fun a h z => h (by rw [z]; exact n)
  refine ⟨s.le, s.mu, fun a o e => ?_, fun a o e nt nm => ?_, fun a h => ?_, fun a o e i => s.nm a o e (im a i), ⟨s.rnd.1, fun m e => ?_⟩, s.bud, ⟨fun q hq => ?_, fun ea en ed eu he => ?_⟩⟩
  · have q : a ≠ p := fun z => by rw [z, h3] at e; cases e
    rw [upd_ne q]; exact s.sub a o e
  · obtain ⟨e1, m1⟩ := s.keep a o e nt nm
    rw [upd_ne (ne a (by rw [e]; simp))]
    exact ⟨e1, fun i => m1 (im a i)⟩
  · rw [upd_ne (ne a h)]; exact s.nf a h
  · obtain ⟨c, l, cs, ls, at_, e1, e2, e3, r⟩ := s.rnd.2 m e
    have q : ∀ a, InM g.mu H a → a ≠ p := fun a i z => h4 (z ▸ i)
    have em : upd H p o' m = H m := upd_ne (q m ⟨m, e, .inl rfl⟩)
    have ec : upd H p o' c = H c := upd_ne (q c ⟨m, e, .inr ⟨_, Sum.inr "cells", e1, by simp⟩⟩)
    have el : upd H p o' l = H l := upd_ne (q l ⟨m, e, .inr ⟨_, Sum.inr "left", e1, by simp⟩⟩)
    exact ⟨c, l, cs, ls, at_, em.trans e1, ec.trans e2, el.trans e3, r⟩
  · obtain ⟨ps, e1, e2, e3⟩ := s.tab.1 q hq
    have n1 : q.1 ≠ p := fun z => by rw [z, h1] at e1; cases e1; exact ho
    refine ⟨ps, by rw [upd_ne n1]; exact e1, e2, fun pos cv hc => ?_⟩
    obtain ⟨c, z1, z2⟩ := e3 pos cv hc
    have n2 : c ≠ p := fun z => by rw [z, h1] at z2; unfold LamX.CodeO at z2; cases z2; exact ho
    exact ⟨c, z1, by rw [upd_ne n2]; exact z2⟩
  · obtain ⟨f, e1, e2⟩ := s.tab.2 ea en ed eu he
    have n1 : ed ≠ p := fun z => by rw [z, h1] at e2; cases e2; exact ho
    exact ⟨f, e1, by rw [upd_ne n1]; exact e2⟩
theorem inM_updD {mu : Option Addr} {p : Addr} {o : HO} {a : Addr} (n : ¬ InM mu H p) (h : InM mu (upd H p o) a) : InM mu H a := by
  obtain ⟨m, e, h⟩ := h
  refine ⟨m, e, ?_⟩
  rcases h with h | ⟨kvs, k, e4, hm⟩
  · exact .inl h
  · have q : m ≠ p := fun z => n ⟨m, e, .inl z.symm⟩
    rw [upd_ne q] at e4
    exact .inr ⟨kvs, k, e4, hm⟩
theorem RepS.updD {n : Nat} {p : Addr} {t : Bool} {ds ds' : List (D × D)} {o o' : HO} (r : RepS L g0 H0 Γ g σ H) (en : Γ[n]? = some (some (.od t ds))) (es : σ[n]? = some (some (.ref p))) (h1 : H p = some o) (ho : IsDO o) (h3 : g.F p = none) (h4 : ¬ InM g.mu H p)
    (l : DctAt L g (L2.upd H p o') p t ds') : RepS L g0 H0 (Γ.set n (some (.od t ds'))) g σ (L2.upd H p o') := by
  have n0 : H0 p = none := r.new n _ p en rfl es
  have hl : n < Γ.length := (List.getElem?_eq_some_iff.mp en).1
  have s := stp_updD (o' := o') r.base n0 h1 ho h3 h4
  have at_ : ∀ (i : Nat) (b : B), (Γ.set n (some (.od t ds')))[i]? = some (some b) → (i = n ∧ b = .od t ds') ∨ (i ≠ n ∧ Γ[i]? = some (some b)) := fun i b e => by
    by_cases h : i = n
    · subst h
      rw [List.getElem?_set_self hl] at e
      cases e
      exact .inl ⟨rfl, rfl⟩
    · rw [List.getElem?_set_ne (Ne.symm h)] at e
      exact .inr ⟨h, e⟩
  refine ⟨⟨s.sub, s.rnd, s.tab, fun i b e => ?_, fun i j b c q e1 e2 o1 o2 s1 s2 => ?_, s.nm, by rw [List.length_set]; exact r.rep.len⟩, s, fun i b q e o sq => ?_⟩
  · rcases at_ i b e with ⟨rfl, rfl⟩ | ⟨hi, e⟩
    · exact ⟨_, es, p, rfl, h3, fun z => h4 (inM_updD h4 z), l⟩
    · obtain ⟨x, ex, hb⟩ := r.rep.loc i b e
      refine ⟨x, ex, ?_⟩
      cases b with
      | fz d => exact hb
      | ol es' =>
        obtain ⟨q, ws, rfl, a1, a2, a3, a4⟩ := hb
        have nq : q ≠ p := fun z => hi (r.rep.dis i n _ _ p e en rfl rfl (z ▸ ex) es)
        exact ⟨q, ws, rfl, by rw [upd_ne nq]; exact a1, a2, a3, fun z => a4 (inM_updD h4 z)⟩
      | od t kvs =>
        obtain ⟨q, rfl, a1, a2, a3⟩ := hb
        have nq : q ≠ p := fun z => hi (r.rep.dis i n _ _ p e en rfl rfl (z ▸ ex) es)
        exact ⟨q, rfl, a1, fun z => a2 (inM_updD h4 z), a3.step (upd_ne nq) (fun _ _ e => e) fun _ e => e⟩
      | os m fs =>
        obtain ⟨q, dx, ws, rfl, sq, a1, a2, a3, a4⟩ := hb
        have nq : q ≠ p := fun z => hi (r.rep.dis i n _ _ p e en rfl rfl (z ▸ ex) es)
        exact ⟨q, dx, ws, rfl, sq, by rw [upd_ne nq]; exact a1, a2, a3, fun z => a4 (inM_updD h4 z)⟩
  · have f : ∀ (i : Nat) (b : B), (Γ.set n (some (.od t ds')))[i]? = some (some b) → b.own = true → ∃ b', Γ[i]? = some (some b') ∧ b'.own = true := fun i b e o => by
      rcases at_ i b e with ⟨rfl, rfl⟩ | ⟨_, e⟩
      · exact ⟨_, en, rfl⟩
      · exact ⟨b, e, o⟩
    obtain ⟨b', e1', o1'⟩ := f i b e1 o1
    obtain ⟨c', e2', o2'⟩ := f j c e2 o2
    exact r.rep.dis i j b' c' q e1' e2' o1' o2' s1 s2
  · rcases at_ i b e with ⟨rfl, rfl⟩ | ⟨_, e⟩
    · rw [es] at sq
      cases sq
      exact n0
    · exact r.new i b q e o sq
/-- a new dict of one's own -/
def FrTD : TT1 := fun L H₀ g H v d => ∃ p t kvs, v = .ref p ∧ d = .dct t kvs ∧ DctAt L g H p t kvs ∧ g.F p = none ∧ ¬ InM g.mu H p ∧ H₀ p = none
def DFD (L : Lx) (X : Cx) (i : IE) (e : Expr) : Prop := ∀ W, Takes X W → PE X e (Rd1 L FrTD W i)
/-- a slot is given a new dict of one's own -/
theorem RepS.setOwnD {n : Nat} {v : V} {t : Bool} {ds : List (D × D)} {g1 : Gh} {H1 : Hp} (r0 : RepS L g0 H0 Γ g σ H) (s : Stp L g H g1 H1) (h : FrTD L H g1 H1 v (.dct t ds)) : RepS L g0 H0 (Γ.set n (some (.od t ds))) g1 (σ.set n (some v)) H1 := by
  obtain ⟨p, t', ds', rfl, e, h1, h3, h4, h5⟩ := h
  cases e
  have r := r0.step s
  have at_ : ∀ (i : Nat) (b : B), (Γ.set n (some (.od t ds)))[i]? = some (some b) → (i = n ∧ b = .od t ds ∧ (σ.set n (some (.ref p)))[i]? = some (some (.ref p))) ∨ (i ≠ n ∧ Γ[i]? = some (some b) ∧ (σ.set n (some (.ref p)))[i]? = σ[i]?) := fun i b e => by
    by_cases h : i = n
    · subst h
      by_cases hl : i < Γ.length
      · rw [List.getElem?_set_self hl] at e
        cases e
        exact .inl ⟨rfl, rfl, List.getElem?_set_self (by rw [← r.rep.len]; exact hl)⟩
      · rw [List.getElem?_eq_none (by simpa using hl)] at e; cases e
    · rw [List.getElem?_set_ne (Ne.symm h)] at e
      exact .inr ⟨h, e, List.getElem?_set_ne (Ne.symm h)⟩
  have old : ∀ (i : Nat) (b : B) (q : Addr), Γ[i]? = some (some b) → b.own = true → σ[i]? = some (some (.ref q)) → q ≠ p := fun i b q e o sq z => by
    subst z
    obtain ⟨x, ex, hb⟩ := r0.rep.loc i b e
    rw [sq] at ex
    cases ex
    cases b with
    | fz d => cases o
    | ol es' => obtain ⟨q, ws, e1, a1, _⟩ := hb; cases e1; rw [h5] at a1; cases a1
    | od t kvs => obtain ⟨q, e1, _, _, a3⟩ := hb; cases e1; rcases a3 with ⟨_, _, _, a, _⟩ | ⟨_, _, _, a, _⟩ <;> rw [h5] at a <;> cases a
    | os m fs => obtain ⟨q, dx, ws, e1, _, a1, _⟩ := hb; cases e1; rw [h5] at a1; cases a1
  refine ⟨⟨r.rep.sub, r.rep.rnd, r.rep.tab, fun i b e => ?_, fun i j b c q e1 e2 o1 o2 s1 s2 => ?_, r.rep.nF, by rw [List.length_set, List.length_set]; exact r.rep.len⟩, r.base, fun i b q e o sq => ?_⟩
  · rcases at_ i b e with ⟨rfl, rfl, t⟩ | ⟨_, e, t⟩
    · exact ⟨_, t, p, rfl, h3, h4, h1⟩
    · rw [t]; exact r.rep.loc i b e
  · rcases at_ i b e1 with ⟨i1, b1, t1⟩ | ⟨n1, f1, t1⟩
    · rcases at_ j c e2 with ⟨j1, c1, t2⟩ | ⟨n2, f2, t2⟩
      · exact i1.trans j1.symm
      · rw [t1] at s1
        cases s1
        rw [t2] at s2
        exact absurd rfl (old j c p f2 o2 s2)
    · rw [t1] at s1
      rcases at_ j c e2 with ⟨j1, c1, t2⟩ | ⟨n2, f2, t2⟩
      · rw [t2] at s2
        cases s2
        exact absurd rfl (old i b p f1 o1 s1)
      · rw [t2] at s2
        exact r.rep.dis i j b c q f1 f2 o1 o2 s1 s2
  · rcases at_ i b e with ⟨rfl, rfl, t⟩ | ⟨_, e, t⟩
    · rw [t] at sq
      cases sq
      exact none_back r0.base h5
    · exact r.new i b q e o (t ▸ sq)
variable {e a b : Expr} {i j : IE}
/-- x = a new dict -/
def sOwnD (n : Nat) (i : IE) : IS := fun Γ => (i Γ).bind fun d => match d with
  | .dct t ds => .ret (.nx (Γ.set n (some (.od t ds))))
  | _ => .stuck
theorem ds_ownD {n : Nat} {x : Str} {pos' : Pos} (hN : X.N.Nodup) (hi : X.N[n]? = some x) (hx : Loc X.env.scope x) (h : DFD L X i e) (hs : swapsWith e (some (.Name x pos')) pos.line X.env = pure false := by rfl)
    (hf : X.fn x = true ∨ X.env.scope.names.lookup x = some .local := by first | exact .inl rfl | exact .inr rfl) : DS L X (sOwnD n i) (.Assign [.Name x pos'] e pos) := fun W g0 H0 tk => by
  refine PS.imp (ps_set hN hi hx (h W tk) hs hf) fun Dn σ H ⟨Γ, g, r, w⟩ => Rd1.goS r w fun v H1 d g1 r1 s t w => ?_
  cases d with
  | dct t ds => exact w g1 _ H1 (r.setOwnD s t) s.fle rfl
  | _ => exact w.elim
/-- {}, its keys numbers and texts, or tuples -/
theorem dfd_newK : DFD L X (iLit (.dct false [])) (.Dict [] [] pos) := fun W tk => PE.imp pe_dnewK fun σ H Q ⟨Γ, g, rp, w⟩ => fun p n => by
  have s := stp_new (o := .dK []) rp n false
  exact w (.ref p) _ _ s rfl ⟨p, false, [], rfl, rfl, .inl ⟨[], [], [], upd_same, rfl, .nil, rfl, rfl⟩, nF_of rp n, fun i => (InM.there rp.rnd.ok (i.new n rp.rnd.ok)) n, n⟩
theorem dfd_newT : DFD L X (iLit (.dct true [])) (.Dict [] [] pos) := fun W tk => PE.imp pe_dnewT fun σ H Q ⟨Γ, g, rp, w⟩ => fun p n => by
  have s := stp_new (o := .dT []) rp n false
  exact w (.ref p) _ _ s rfl ⟨p, true, [], rfl, rfl, .inr ⟨[], [], [], upd_same, rfl, .nil, rfl, rfl⟩, nF_of rp n, fun i => (InM.there rp.rnd.ok (i.new n rp.rnd.ok)) n, n⟩
end
end DL
/-! d[k] = v on a dict of one's own. -/
namespace DL
open PySem PySem.Spec L2
def putD (kvs : List (D × D)) (y d : D) : List (D × D) :=
  if (kvs.any fun kv => kEq kv.1 y) = true then kvs.map (fun kv => if kEq kv.1 y = true then (kv.1, d) else kv) else kvs ++ [(y, d)]
section
variable {L : Lx} {X : Cx} {g0 g g' : Gh} {H0 H H' : Hp} {σ σ' : L2.St} {Γ Γ' : Env} {W : WX} {pos : Pos}
theorem any_key {κ : Type} [DecidableEq κ] {f : κ → D} (hf : ∀ a b, kEq (f a) (f b) = decide (a = b)) (k : κ) : ∀ {ks : List κ} {vs : List V} {ds : List D}, ks.length = vs.length → vs.length = ds.length →
    ((ks.zip vs).any fun kv => decide (kv.1 = k)) = ((ks.map f).zip ds).any fun kv => kEq kv.1 (f k) := by
  intro ks
  induction ks with
  | nil => intro vs ds _ _; simp
  | cons x ks ih =>
    intro vs ds h1 h2
    cases vs with
    | nil => simp at h1
    | cons v vs =>
      cases ds with
      | nil => simp at h2
      | cons d ds =>
        have ih := ih (vs := vs) (ds := ds) (by simpa using h1) (by simpa using h2)
        show (decide (x = k) || (ks.zip vs).any fun kv => decide (kv.1 = k)) = (kEq (f x) (f k) || ((ks.map f).zip ds).any fun kv => kEq kv.1 (f k))
        rw [ih, hf]
theorem map_key {κ : Type} [DecidableEq κ] {f : κ → D} (hf : ∀ a b, kEq (f a) (f b) = decide (a = b)) (k : κ) {v : V} {d : D} (t : Den L g v d) : ∀ {ks : List κ} {vs : List V} {ds : List D}, ks.length = vs.length → DenL L g vs ds →
    ∃ vs' ds', (ks.zip vs).map (fun kv => if kv.1 = k then (kv.1, v) else kv) = ks.zip vs' ∧ ks.length = vs'.length ∧ DenL L g vs' ds' ∧ ((ks.map f).zip ds).map (fun kv => if kEq kv.1 (f k) = true then (kv.1, d) else kv) = (ks.map f).zip ds' := by
  intro ks
  induction ks with
  | nil =>
    intro vs ds h l
    cases l with
    | nil => exact ⟨[], [], rfl, rfl, .nil, rfl⟩
    | cons _ _ => simp at h
  | cons x ks ih =>
    intro vs ds h l
    cases l with
    | nil => simp at h
    | @cons u vs e ds tu l =>
      obtain ⟨vs', ds', e1, e2, e3, e4⟩ := ih (vs := vs) (ds := ds) (by simpa using h) l
      by_cases q : x = k
      · refine ⟨v :: vs', d :: ds', ?_, by simp [e2], .cons t e3, ?_⟩
        · show (if x = k then (x, v) else (x, u)) :: (ks.zip vs).map (fun kv => if kv.1 = k then (kv.1, v) else kv) = (x, v) :: ks.zip vs'
          rw [if_pos q, e1]
        · show (if kEq (f x) (f k) = true then (f x, d) else (f x, e)) :: ((ks.map f).zip ds).map (fun kv => if kEq kv.1 (f k) = true then (kv.1, d) else kv) = (f x, d) :: (ks.map f).zip ds'
          rw [if_pos (by rw [hf]; exact decide_eq_true q), e4]
      · refine ⟨u :: vs', e :: ds', ?_, by simp [e2], .cons tu e3, ?_⟩
        · show (if x = k then (x, v) else (x, u)) :: (ks.zip vs).map (fun kv => if kv.1 = k then (kv.1, v) else kv) = (x, u) :: ks.zip vs'
          rw [if_neg q, e1]
        · show (if kEq (f x) (f k) = true then (f x, d) else (f x, e)) :: ((ks.map f).zip ds).map (fun kv => if kEq kv.1 (f k) = true then (kv.1, d) else kv) = (f x, e) :: (ks.map f).zip ds'
          rw [if_neg (by rw [hf]; simpa using q), e4]
theorem put_den {κ : Type} [DecidableEq κ] {f : κ → D} (hf : ∀ a b, kEq (f a) (f b) = decide (a = b)) (k : κ) {v : V} {d : D} (t : Den L g v d) {ks : List κ} {vs : List V} {ds : List D} (h : ks.length = vs.length) (l : DenL L g vs ds) :
    ∃ (ks' : List κ) (vs' : List V) (ds' : List D), putK (ks.zip vs) k v = ks'.zip vs' ∧ ks'.length = vs'.length ∧ DenL L g vs' ds' ∧ putD ((ks.map f).zip ds) (f k) d = (ks'.map f).zip ds' := by
  have a := any_key hf k h l.length
  by_cases q : ((ks.zip vs).any fun kv => decide (kv.1 = k)) = true
  · obtain ⟨vs', ds', e1, e2, e3, e4⟩ := map_key hf k t h l
    refine ⟨ks, vs', ds', ?_, e2, e3, ?_⟩
    · unfold putK; rw [if_pos q, e1]
    · unfold putD; rw [if_pos (a ▸ q), e4]
  · refine ⟨ks ++ [k], vs ++ [v], ds ++ [d], ?_, by simp [h], l.append (.cons t .nil), ?_⟩
    · unfold putK; rw [if_neg q, List.zip_append h]; rfl
    · unfold putD
      rw [if_neg (a ▸ q), List.map_append, List.zip_append (by rw [List.length_map, h, l.length])]
      rfl
theorem DctAt.isDO {p : Addr} {t : Bool} {kvs : List (D × D)} (h : DctAt L g H p t kvs) : ∃ o, H p = some o ∧ IsDO o := by
  rcases h with ⟨_, _, _, h1, _⟩ | ⟨_, _, _, h1, _⟩
  · exact ⟨_, h1, trivial⟩
  · exact ⟨_, h1, trivial⟩
theorem DctAt.size {p : Addr} {t : Bool} {kvs : List (D × D)} (h : DctAt L g H p t kvs) {n : Nat} (hn : kvs.length < n) : (∀ kvs', H p = some (.dK kvs') → kvs'.length < n) ∧ ∀ kvs', H p = some (.dT kvs') → kvs'.length < n := by
  rcases h with ⟨ks, vs, ds, h1, h2, h3, rfl, _⟩ | ⟨ks, vs, ds, h1, h2, h3, rfl, _⟩
  · refine ⟨fun kvs' e => ?_, fun kvs' e => (by rw [h1] at e; cases e)⟩
    rw [h1] at e; cases e
    have := h3.length
    simp only [List.length_zip, List.length_map] at hn ⊢
    omega
  · refine ⟨fun kvs' e => (by rw [h1] at e; cases e), fun kvs' e => ?_⟩
    rw [h1] at e; cases e
    have := h3.length
    simp only [List.length_zip, List.length_map] at hn ⊢
    omega
/-- the key y of the dict at p gets v -/
theorem put_at {p : Addr} {y v : V} {dy d : D} {t : Bool} {kvs : List (D × D)} (hk : noKS L.K = true ∧ L.fz = false) (sub : ∀ a o, g.F a = some o → H a = some o) (hd : DctAt L g H p t kvs) (vy : Den L g y dy) (tv : Den L g v d) (ok : keyOk t dy = true) (hn : kvs.length < sizeLine) :
    ∃ o, DPut H p y v (L2.upd H p o) ∧ DctAt L g (L2.upd H p o) p t (putD kvs dy d) := by
  have sz := hd.size hn
  rcases hd with ⟨ks, vs, ds, h1, h2, h3, rfl, rfl⟩ | ⟨ks, vs, ds, h1, h2, h3, rfl, rfl⟩
  · obtain ⟨k, e⟩ := Option.isSome_iff_exists.mp (show (kOf dy).isSome = true from ok)
    have ed := kOf_eq e
    subst ed
    have ey : y = kV k := by
      cases k with
      | inl i => exact Vw.int (.inl vy : Vw L g H y (.int i))
      | inr s => exact Vw.str (.inl vy : Vw L g H y (.str s))
    subst ey
    obtain ⟨ks', vs', ds', e1, e2, e3, e4⟩ := put_den kEq_key k tv h2 h3
    exact ⟨_, DPut.k h1 (sz.1 _ h1), .inl ⟨ks', vs', ds', by rw [upd_same, e1], e2, e3, e4, rfl⟩⟩
  · cases dy with
    | tup es =>
      simp only [keyOk] at ok
      split at ok
      · rename_i k e
        have ed := kOfL_eq e
        subst ed
        cases vy with
        | tup eb el =>
          have eu := den_keys el
          subst eu
          obtain ⟨ks', vs', ds', e1, e2, e3, e4⟩ := put_den (f := fun k => D.tup (k.map keyD)) kEq_tup k tv h2 h3
          exact ⟨_, DPut.t h1 ((eb.mono sub).own hk.1 hk.2 ok) (sz.2 _ h1), .inr ⟨ks', vs', ds', by rw [upd_same, e1], e2, e3, e4, rfl⟩⟩
      · cases ok
    | _ => cases ok
variable {e a b : Expr} {i j : IE}
/-- x[k] = v, x a dict of one's own -/
def sPut (n : Nat) (i j : IE) : IS := fun Γ => match Γ[n]? with
  | some (some (.od t kvs)) => (j Γ).bind fun d => (i Γ).bind fun y => if keyOk t y = true ∧ kvs.length < sizeLine then .ret (.nx (Γ.set n (some (.od t (putD kvs y d))))) else .stuck
  | _ => .stuck
theorem ds_put {n : Nat} {x : Str} {p1 p2 : Pos} (hk : noKS L.K = true ∧ L.fz = false) (hu : X.A.units + 1 < cLine) (hx : PE X (.Name x p1) (tVar n)) (hi : DE L X i a) (hv : DE L X j b)
    (hs : swapsWith b (some (.Subscript (.Name x p1) a p2)) pos.line X.env = pure false := by rfl) : DS L X (sPut n i j) (.Assign [.Subscript (.Name x p1) a p2] b pos) := fun W g0 H0 tk => by
  refine PS.imp (ps_dput hu hx (hi W tk) (hv W tk) hs) fun Dn σ H ⟨Γ, g, r, w⟩ => ?_
  unfold sPut at w
  split at w
  · rename_i t kvs en
    refine Rd1.goS r w fun v H1 d g1 r1 s1 t1 w => ?_
    obtain ⟨xv, es, p, e2, h1, h2, h3⟩ := r1.rep.loc _ _ en
    subst e2
    refine ⟨.ref p, es, Rd1.goS r1 w fun y H2 dy g2 r2 s2 t2 w => ?_⟩
    split at w
    · rename_i ok
      obtain ⟨xv, es', p', e2, f1, f2, f3⟩ := r2.rep.loc _ _ en
      rw [es] at es'
      cases es'
      cases e2
      obtain ⟨o, hp, hd'⟩ := put_at hk r2.rep.sub f3 t2 (t1.mono s2.le s2.mu) ok.1 ok.2
      obtain ⟨o1, ho1, ho2⟩ := f3.isDO
      exact ⟨p, _, rfl, hp, w g2 σ _ (r2.updD en es ho1 ho2 f1 f2 hd') (s1.trans s2).fle rfl⟩
    · exact w.elim
  · exact w.elim
end
end DL
/-! A module's tuple of texts. -/
namespace DL
open PySem PySem.Spec L2
section
variable {L : Lx} {X : Cx} {pos : Pos}
theorem denL_strs {g : Gh} : ∀ ss : List Str, DenL L g (ss.map V.str) (ss.map D.str)
  | [] => .nil
  | s :: r => .cons (.str s) (denL_strs r)
/-- a tuple of texts that the top has written -/
def GtS (K : PySem.W.Frag) (o : Option Value) (ss : List Str) : Prop := ∃ a, o = some (.ref a) ∧ ∀ fz F, SqD fz K F a (ss.map V.str)
theorem de_gtupS {x : Str} {ss : List Str} (hg : Gl X x) (h : GtS L.K (X.mg x) ss) (hd : (x == ("__debug__" : Str)) = false := by decide) : DE L X (iLit (.tup (ss.map D.str))) (.Name x pos) := by
  obtain ⟨a, e, hs⟩ := h
  exact de_c (pe_glob (v := .ref a) hg e rfl hd) fun g => .tup (hs _ g.F) (denL_strs ss)
end
/-- it stands so in what the top has written -/
def strsOf : List Value → List Str → Bool
  | [], [] => true
  | .str x _ :: r, y :: t => decide (x = y) && strsOf r t
  | _, _ => false
theorem strsOf_ok : ∀ {us : List Value} {ss : List Str}, strsOf us ss = true → Vals (ss.map V.str) us
  | [], [], _ => .nil
  | .str x t :: r, y :: z, h => by
    unfold strsOf at h
    obtain ⟨h1, h2⟩ := Bool.and_eq_true_iff.mp h
    exact .cons ⟨t, by rw [of_decide_eq_true h1]⟩ (strsOf_ok h2)
def gtB (K : PySem.W.Frag) (a : Addr) (ss : List Str) : Bool := match K.lookup a with
  | some ⟨.type "tuple", none, .seq its _, _⟩ => decide (its.size ≤ sizeLine) && strsOf its.toList ss
  | _ => false
theorem gtB_ok {K : PySem.W.Frag} {a : Addr} {ss : List Str} (h : gtB K a ss = true) {o : Option Value} (e : o = some (.ref a)) : GtS K o ss := by
  unfold gtB at h
  split at h
  · rename_i its n x hl
    obtain ⟨h1, h2⟩ := Bool.and_eq_true_iff.mp h
    exact ⟨a, e, fun fz F => .inr (.inl ⟨_, its, n, hl, rfl, rfl, of_decide_eq_true h1, rfl, strsOf_ok h2⟩)⟩
  · cases h
end DL
/-! A lambda without parameters handed to a def that calls it once, in a try. -/
namespace DL
open PySem PySem.Spec PyProof.Rows L2 LamX
section
variable {X : Cx} {pins : List (Addr × Obj)} {σ : L2.St} {H : Hp} {s : Shared}
/-- x() in the def that got the lambda; what flies out is told of that def's own slots -/
theorem pe_actW {Cg : CXT} {Eg : XK} {Ng : List Str} {qg : Str} {sg : Scope} {g fl cl : Addr} {cdg pm ctv : Value} {ps : Arguments} {bd : Expr} {sc : Scope} {k i : Nat} {a : Str} {pn : List (Addr × Obj)} {xe : Value → Shared → Prop} {W : WX} {t : XK → TE} {p1 p2 : Pos}
    (I : Inv X pins σ H s) (LS : LamS X.env.scope sc) (ho : s.heap.get? fl = some (PySem.W.kla_obj "<lambda>" (X.env.qual ++ "<lambda>") ps bd sc (cloFrom X.env.cells sc.names []) pm cl ctv)) (hn : H fl = none) (hfr : fl ∉ frs X.stack)
    (hb : bindArgs (PySem.W.kla_fn "<lambda>" (X.env.qual ++ "<lambda>") ps bd sc (cloFrom X.env.cells sc.names []) pm (.ref cl) ctv) ⟨[], []⟩ = pure [])
    (tk : Takes ((cxOf Cg X.prog X.w X.K X.mg X.base Ng qg sg g cdg X.A X.stack s H Eg).tr pn xe) W) (hr : Room (k + 1) (X.A.deeper (envOfC qg sg s.heap.objs.size g cdg))) (hgd : X.A.guards = some [])
    (hB : ∀ (A : Around) (outer : List PySem.Env) (s : Shared) (H : Hp) (E : XK), Room k (A.deeper (lamEnv X sc s.heap.objs.size fl cl)) → A.guards = some [] → PE (lamCx X A outer s H E sc fl cl) bd (t E))
    (hN : Ng[i]? = some a) (hv : Vis sg a) (hd : (a == ("__debug__" : Str)) = false := by decide) (hcd : (a == ("__classdict__" : Str)) = false := by decide) :
    PE ((cxOf Cg X.prog X.w X.K X.mg X.base Ng qg sg g cdg X.A X.stack s H Eg).tr pn xe) (.Call (.Name a p1) [] [] p2)
      (fun τ HZ Q => τ[i]? = some (some (.ref fl)) ∧ HZ cl = some (CodeO cl (X.env.qual ++ "<lambda>")) ∧ t (WE W τ) σ HZ Q) := by
  constructor
  rintro pz sz τ HZ Q IZ ⟨hs, hc, ht⟩
  have pv1 := (pe_var (X := (cxOf Cg X.prog X.w X.K X.mg X.base Ng qg sg g cdg X.A X.stack s H Eg).tr pn xe) (pos := p1) (i := i) hN hv hd hcd).run pz sz τ HZ (fun v H1 => v = .ref fl ∧ H1 = HZ) IZ ⟨.ref fl, hs, rfl, rfl⟩
  refine wpAny_Call_Name_kw (thn pv1 ?_)
  rintro u s1 ⟨v, H1, J1, rv, rfl, rfl⟩
  have eu : u = Value.ref fl := rv
  subst eu
  have nofl : fl ∉ ([] : List Addr) := by simp
  have g1 := J1.base.keep fl _ ho hn hfr nofl
  refine PySem.W.callWith_F0 ⟨_, _, _, _, g1⟩ ?_
  have un : Un (frs X.stack) [] H H1 s.heap s1.heap := J1.base
  have cdo := J1.hok cl _ hc
  obtain ⟨⟨oc, vs, tq, hoc, hdc, hvc⟩, -, -⟩ := cdo
  refine wpAny_call (codeAny_mono (R := CR (L2.CX X.prog X.w) (envOfC qg sg s.heap.objs.size g cdg :: X.stack) X.prog X.w H1 s1 Q (WE W τ)) ?_ ?_)
  · refine PySem.W.kla_callFunE hr.depth g1 rfl LS.co LS.gen rfl ⟨cl, oc, vs, tq, rfl, hoc, hdc, hvc⟩ ?_
    rw [List.append_nil, hb]
    have noV : ∀ y ∈ ([] : List (Str × Value)), sc.names.lookup y.1 = some .local := fun y hy => absurd hy (by simp)
    refine wpAny_pure (wpAny_newFunctionEnv (fun y hy => (LS.own y hy).2) noV (fun h₁ hns hsb => ⟨J1.nolimit.fresh _ hsb, ?_⟩) LS.kind)
    have kp : ∀ b o, s1.heap.get? b = some o → h₁.get? b = some o := by
      intro b o e
      exact hsb.extBut b o (Nat.ne_of_lt (Heap.lt_size e)) (Heap.get?_push_of_some _ e)
    have J := lam_start2 (tk := s1.toks + ([] : List (Str × Value)).length) (E := WE W τ) (f := fl) (c' := cl) I LS J1.env0 hr.hd un hns kp
    refine PySem.W.kla_codeExpr (wpAny_mono ((hB _ _ s1 H1 (WE W τ) (hr.deeper _) hgd).run [] _ _ H1 Q J ht) ?_ fun e s' hq => hq)
    rintro v s' ⟨w', H', J', rv, q⟩
    exact ⟨w', H', J'.os, J'.bare, J'.base, J'.hok, rv, q⟩
  · intro r s' hq
    cases r with
    | error e => exact passAt tk τ pz H1 s1 e s' J1 hq
    | ok fo =>
      cases fo with
      | ret u => exact J1.after hq
      | next => exact False.elim hq
      | brk => exact False.elim hq
      | cont => exact False.elim hq
end
/-- what the called lambda does, from (g0, H0) on, in the def that got it -/
def TeT (L : Lx) (g0 : Gh) (H0 : Hp) (fl cl : Addr) (q : Str) (th : M D) (W : WX) : TE := fun τ HZ Q => τ[0]? = some (some (.ref fl)) ∧ HZ cl = some (CodeO cl q) ∧ ∃ g1, Stp L g0 H0 g1 HZ ∧ th.wpB g1.bud (fun d b => ∀ v g' H', Stp L g1 HZ g' H' → g'.bud = b → Den L g' v d → Q v H') (XW L W g1 τ HZ)
/-- an expression over the call -/
def Act (L : Lx) (X : Cx) (g0 : Gh) (H0 : Hp) (fl cl : Addr) (q : Str) (th : M D) (e : Expr) : Prop := ∀ (W : WX) (pn : List (Addr × Obj)) (xe : Value → Shared → Prop), Takes (X.tr pn xe) W → PE (X.tr pn xe) e (TeT L g0 H0 fl cl q th W)
abbrev toldCx (P : Program) (w : World) (K : PySem.W.Frag) (mg : Str → Option Value) (base : Heap) (Ng : List Str) (x : Str) (st : Stmt) (g : Addr) (cdg : Value) (A : Around) (outer : List PySem.Env) (s : Shared) (H : Hp) : Cx := cxOf C8.CX0 P w K mg base Ng x (defScope st) g cdg A outer s H C8.E0
/-- the def x calls what it got once, and makes mt of it -/
structure Told (L : Lx) (P : Program) (w : World) (mg : Str → Option Value) (base : Heap) (k : Nat) (g : Addr) (x : Str) (Ng : List Str) (st : Stmt) (a : Str) (mt : M D → M D) : Prop where
  go : ∀ (cdg : Value) (A : Around) (outer : List PySem.Env) (s : Shared) (H : Hp) (fl cl : Addr) (q : Str) (Q : VK) (th : M D) (Γ : Env) (g0 : Gh) (σ : L2.St), Room k (A.deeper (envOfC x (defScope st) s.heap.objs.size g cdg)) → A.guards = some [] → Rep L Γ g0 σ H → H cl = some (CodeO cl q) →
    (∀ p1 p2, Act L (toldCx P w L.K mg base Ng x st g cdg A outer s H) g0 H fl cl q th (.Call (.Name a p1) [] [] p2)) → (mt th).wpB g0.bud (Wn L DenT g0 H Q) (fun _ _ => False) →
    ∃ t, PSs (toldCx P w L.K mg base Ng x st g cdg A outer s H).nox (defBody st) t ∧ t { nx := fun _ H' => Q .non H', rt := Q } (L2.start Ng [.ref fl]) H
end DL
/-! Defs that call what they got in a try. -/
namespace DL
open PySem PySem.Spec PyProof.Rows L2 LamX
/-- the body of a def whose one parameter is told of by th -/
def tBody (N : Nat) (s : IS) : M D := ((s (List.replicate N none)).noX).bind fun fl => match fl with
  | .rt d => .ret d
  | .nx _ => .ret .non
  | _ => .stuck
section
variable {L : Lx} {P : Program} {w : World} {mg : Str → Option Value} {base : Heap} {Γ : Env} {g0 g : Gh} {σ : L2.St} {H : Hp}
theorem rep_none {Ng : List Str} {v : V} (r : Rep L Γ g σ H) (hn : 1 ≤ Ng.length) : RepS L g H (List.replicate Ng.length none) g (L2.start Ng [v]) H := by
  have no : ∀ (i : Nat) (b : B), (List.replicate Ng.length (none : Option B))[i]? = some (some b) → False := fun i b e => by
    rw [List.getElem?_replicate] at e
    split at e <;> cases e
  refine ⟨⟨r.sub, r.rnd, r.tab, fun i b e => (no i b e).elim, fun i j b c p e1 => (no i b e1).elim, r.nF, ?_⟩, Stp.refl r, fun i b p e => (no i b e).elim⟩
  unfold L2.start
  rw [List.length_append, List.length_map, List.length_replicate, List.length_replicate, List.length_singleton]
  omega
/-- from the def's promise to its statements -/
theorem tb_body {N : Nat} {s : IS} {Q : VK} {E : Ex → Nat → Prop} (h : (tBody N s).wpB g0.bud (Wn L DenT g0 H Q) (fun _ _ => False)) : (s (List.replicate N none)).wpB g0.bud (FlT L g0 H g0 { nx := fun _ H' => Q .non H', rt := Q }) E := by
  refine M.wpB_mono (fun fl b k => ?_) (fun _ _ x => x) _ _ (M.wpB_noX (E' := E) _ _ ((M.wpB_bind _ _).mp h))
  cases fl with
  | nx Γ' => exact fun g σ H' r _ e => k .non g H' r.base e .non
  | rt d => exact fun g v H' s' e t => k v g H' s' e t
  | bk Γ' => exact k.elim
  | ct Γ' => exact k.elim
/-- .. of two statements -/
theorem tb_seq {N : Nat} {s t : IS} {Q : VK} {W : WX} (h : (tBody N (sSeq s t)).wpB g0.bud (Wn L DenT g0 H Q) (fun _ _ => False)) :
    (s (List.replicate N none)).wpB g0.bud (FlT L g0 H g0 { nx := RdS L W g0 H t { nx := fun _ H' => Q .non H', rt := Q }, rt := Q }) (XS L W g0 H) := by
  refine M.wpB_mono (fun fl b k => ?_) (fun _ _ x => x) _ _ ((M.wpB_bind _ _).mp (tb_body (E := XS L W g0 H) h))
  cases fl with
  | nx Γ' =>
    intro g' σ' H' r' f e
    subst e
    exact ⟨Γ', g', r', M.wpB_mono (fun _ _ z => z.of f) (fun _ _ x => x) _ _ k⟩
  | bk Γ' => exact k
  | ct Γ' => exact k
  | rt d => exact k
/-- what the def makes of the call, before it keeps or returns it -/
abbrev ActF (L : Lx) (a : Str) (ft : M D → M D) (e : Expr) : Prop := ∀ (cx : Cx) (g0 : Gh) (H : Hp) (fl cl : Addr) (q : Str) (th : M D) (Γ : Env) (σ : L2.St), Rep L Γ g0 σ H → (∀ p1 p2, Act L cx g0 H fl cl q th (.Call (.Name a p1) [] [] p2)) → Act L cx g0 H fl cl q (ft th) e
theorem act_call {a : Str} {p1 p2 : Pos} : ActF L a id (.Call (.Name a p1) [] [] p2) := fun _ _ _ _ _ _ _ _ _ _ h => h p1 p2
theorem act_lst {a : Str} {p1 p2 pos : Pos} : ActF L a (fun th => th.bind fun d => .ret (.lst [d])) (.List [.Call (.Name a p1) [] [] p2] pos) := fun cx g0 H fl cl q th Γ σ rp h W pn xe tk => by
  refine PE.imp (pe_lst (pa_cons (h p1 p2 W pn xe tk) pa_nil)) fun τ HZ Q ⟨h1, h2, g1, s1, w⟩ => ?_
  refine ⟨h1, h2, g1, s1, M.wpB_mono (fun d b k v g' H' s e t => ?_) (fun _ _ x => x) _ _ ((M.wpB_bind _ _).mp w)⟩
  subst e
  refine ⟨show 1 ≤ sizeLine by decide, fun p n => ?_⟩
  have r' := (rp.step s1).step s
  have sp : Stp L g' H' (g'.put p (.lst [v])) (upd H' p (.lst [v])) := stp_put r' n
  exact k _ _ _ (s.trans sp) rfl (.lst put_F (.cons (t.mono sp.le sp.mu) .nil))
variable {g : Addr} {x a : Str} {Ng : List Str} {st : Stmt} {sub : Nat → Nat → Option Bool} {cl : List Cl} {h₀ : ExceptHandler} {hds : List ExceptHandler} {rest : List Stmt} {t : IS} {ft : M D → M D} {e : Expr} {k : Nat}
/-- try: y = call() / except .. ; and on -/
theorem told_set {n : Nat} {y : Str} {px ps pos : Pos} (h0 : L.er = none) (hl : 1 ≤ Ng.length) (hbd : defBody st = .Try [.Assign [.Name y px] e ps] (h₀ :: hds) [] [] pos :: rest) (hN : Ng.Nodup) (hi : Ng[n]? = some y) (hy : (defScope st).names.lookup y = some .local)
    (hsub : ∀ n k b, sub n k = some b → PySem.W.exmOne L.K (.ref (L.cA n)) (.ref (L.cA k)) = some b) (ae : ActF L a ft e) (hsw : ∀ cx : Cx, swapsWith e (some (.Name y px)) ps.line cx.env = pure false)
    (hh : ∀ (cdg : Value) (A : Around) (outer : List PySem.Env) (s : Shared) (H : Hp), Room k (A.deeper (envOfC x (defScope st) s.heap.objs.size g cdg)) → A.guards = some [] → HdE (toldCx P w L.K mg base Ng x st g cdg A outer s H).nox (h₀ :: hds) (cl.map (Cl.su L)))
    (ht : ∀ (cdg : Value) (A : Around) (outer : List PySem.Env) (s : Shared) (H : Hp), Room k (A.deeper (envOfC x (defScope st) s.heap.objs.size g cdg)) → A.guards = some [] → DSs L (toldCx P w L.K mg base Ng x st g cdg A outer s H).nox t rest) :
    Told L P w mg base k g x Ng st a fun th => tBody Ng.length (sSeq (sTrySet sub n (fun _ => ft th) cl) t) := by
  refine ⟨fun cdg A outer s H fl c q Q th Γ g0 σ hr hg rp hc act hm => ?_⟩
  have actE := ae _ g0 H fl c q th Γ σ rp act
  have p1 := ps_tryE (pos := pos) (X := (toldCx P w L.K mg base Ng x st g cdg A outer s H).nox) (tb := fun W => tAsg (TeT L g0 H fl c q (ft th) W) (gName n)) (Wout := fun _ _ _ _ => False) rfl rfl hN L2.takes0
    (fun W' pn xe tk' pa => pss_one (ps_set (X := (toldCx P w L.K mg base Ng x st g cdg A outer s H).nox.tr pn xe) hN hi (.inl hy) (actE W' pn xe tk') (hsw _) (.inr hy))) (hh cdg A outer s H hr hg)
  rw [hbd]
  refine ⟨_, pss_cons p1 (ht cdg A outer s H hr hg (fun _ _ _ _ => False) g0 H L2.takes0), ?_⟩
  have w1 := tb_seq (W := fun _ _ _ _ => False) hm
  have r0 := rep_none (Ng := Ng) (v := .ref fl) rp hl
  have st0 : (L2.start Ng [V.ref fl])[0]? = some (some (V.ref fl)) := by
    unfold L2.start
    rfl
  refine ⟨st0, hc, g0, Stp.refl rp, M.wpB_mono (fun d b k v g' H' s eb t => ?_) (fun x b k => cl_wish hsub h0 r0 cl k) _ _ ((M.wpB_try _ _).mp w1)⟩
  exact k g' _ H' ((r0.step s).set t) s.fle eb
/-- try: return call() / except .. -/
theorem told_ret {ps pos : Pos} (h0 : L.er = none) (hl : 1 ≤ Ng.length) (hbd : defBody st = [.Try [.Return (some e) ps] (h₀ :: hds) [] [] pos]) (hN : Ng.Nodup)
    (hsub : ∀ n k b, sub n k = some b → PySem.W.exmOne L.K (.ref (L.cA n)) (.ref (L.cA k)) = some b) (ae : ActF L a ft e)
    (hh : ∀ (cdg : Value) (A : Around) (outer : List PySem.Env) (s : Shared) (H : Hp), Room k (A.deeper (envOfC x (defScope st) s.heap.objs.size g cdg)) → A.guards = some [] → HdE (toldCx P w L.K mg base Ng x st g cdg A outer s H).nox (h₀ :: hds) (cl.map (Cl.su L))) :
    Told L P w mg base k g x Ng st a fun th => tBody Ng.length (sTryRet sub (fun _ => ft th) cl) := by
  refine ⟨fun cdg A outer s H fl c q Q th Γ g0 σ hr hg rp hc act hm => ?_⟩
  have actE := ae _ g0 H fl c q th Γ σ rp act
  have p1 := ps_tryE (body := [.Return (some e) ps]) (pos := pos) (X := (toldCx P w L.K mg base Ng x st g cdg A outer s H).nox) (tb := fun W => tRet (TeT L g0 H fl c q (ft th) W)) (Wout := fun _ _ _ _ => False) rfl rfl hN L2.takes0
    (fun W' pn xe tk' pa => pss_one (ps_ret (X := (toldCx P w L.K mg base Ng x st g cdg A outer s H).nox.tr pn xe) (actE W' pn xe tk'))) (hh cdg A outer s H hr hg)
  rw [hbd]
  refine ⟨_, pss_one p1, ?_⟩
  have w1 := tb_body (E := XS L (fun _ _ _ _ => False) g0 H) hm
  have r0 := rep_none (Ng := Ng) (v := .ref fl) rp hl
  have st0 : (L2.start Ng [V.ref fl])[0]? = some (some (V.ref fl)) := by
    unfold L2.start
    rfl
  refine ⟨st0, hc, g0, Stp.refl rp, M.wpB_mono (fun d b k v g' H' s eb t => ?_) (fun x b k => cl_wish hsub h0 r0 cl k) _ _ ((M.wpB_try _ _).mp w1)⟩
  exact k g' v H' s eb t
end
section
variable {X : Cx} {pins : List (Addr × Obj)} {σ : L2.St} {H : Hp} {s : Shared}
/-- a lambda is made: nothing is lost -/
theorem lam_makeN {T : List (Addr × Str)} {co tb : Addr} {ps : Arguments} {bd : Expr} {sc : Scope} {pos : Pos} {E Q : Value → Shared → Prop} (I : Inv X pins σ H s) (B : TabB X.base X.mg co tb) (ec : X.env.code = .ref co)
    (mT : (tb, X.env.qual ++ "<lambda>") ∈ T) (uT : ∀ p ∈ T, p.1 = tb → p.2 = X.env.qual ++ "<lambda>") (hT : Tabs T H) (nd : defaultsOf ps X.env = ([], [])) (fr : ∀ y ∈ sc.names, y.2 = .free → ∃ c, X.env.cells.lookup y.1 = some c)
    (go : ∀ (fl cl : Addr) (pm ctv : Value) (H1 : Hp) (s' : Shared), Inv X pins σ H1 s' → ExtN H H1 → (∀ b, H b ≠ none → H1 b ≠ none) → Tabs T H1 →
      s'.heap.get? fl = some (PySem.W.kla_obj "<lambda>" (X.env.qual ++ "<lambda>") ps bd sc (cloFrom X.env.cells sc.names []) pm cl ctv) → H1 fl = none → fl ∉ frs X.stack → H1 cl = some (CodeO cl (X.env.qual ++ "<lambda>")) → Q (.ref fl) s') :
    wpAny (model X.prog X.w) X.A (eval (.Lambda ps bd sc pos) X.env) Q E s := by
  obtain ⟨tab, atP, okT, amongT⟩ := hT _ mT
  have bk : s.heap.BuiltinsAt X.mg tb := B.bm.keeps I.bk
  have hpO := I.hok tb _ atP
  have away : ∀ y, s.heap.objs.size ≤ y → y ∉ frs X.stack := by
    intro y hy z
    rcases List.mem_cons.mp (I.stkSub _ z) with e | e
    · have q := I.lt
      rw [← e] at q
      exact absurd (Nat.lt_of_lt_of_le q hy) (Nat.lt_irrefl _)
    · exact I.nofs hy e
  refine PySem.W.kla_eval nd ?_
  cases q : codeAmong pos tab.toList with
  | some cv =>
    obtain ⟨cl, rfl, hcl⟩ := amongT pos cv q
    refine PySem.W.kla_makeFunctionHit (mg := X.mg) (c := co) (P := tb) (ps := tab) (closure_ok fr) I.ok.glob (I.mod.glob.keeps I.bk) ec (B.code.keeps I.bk) hpO okT q bk ?_
    intro ctv h' tk keep sz
    have J : Inv X pins σ H { s with heap := h'.push (PySem.W.kla_obj "<lambda>" (X.env.qual ++ "<lambda>") ps bd sc (cloFrom X.env.cells sc.names []) ((X.mg "__name__").getD .none) cl ctv), toks := tk } :=
      I.kept fun b o e => Heap.get?_push_of_some _ (keep b o e)
    exact go _ cl _ ctv H _ J (ExtN.refl H) (fun _ n => n) hT (Heap.get?_push_size _ rfl) (I.hok.fresh sz) (away _ sz) hcl
  | none =>
    refine PySem.W.kla_makeFunction (mg := X.mg) (c := co) (P := tb) (ps := tab) (closure_ok fr) I.ok.glob (I.mod.glob.keeps I.bk) ec (B.code.keeps I.bk) hpO okT q B.gP bk ?_
    intro cl ctv h' tk ext le lt rec inT
    obtain ⟨c2, oc, vs, t, e2, hoc, hd, hv⟩ := rec
    cases e2
    have sz : s.heap.objs.size ≤ h'.objs.size := Nat.le_trans le (Nat.le_of_lt lt)
    have nC : H cl = none := I.hok.fresh le
    have J := inv_table (t' := tk) (more := #[rawInt pos.line, rawInt pos.col, .ref cl]) (h' := h'.push (PySem.W.kla_obj "<lambda>" (X.env.qual ++ "<lambda>") ps bd sc (cloFrom X.env.cells sc.names []) ((X.mg "__name__").getD .none) cl ctv)) I atP
      (fun b o n e => Heap.get?_push_of_some _ (ext b o n e)) (Heap.get?_push_of_some _ inT) le ⟨oc, vs, t, Heap.get?_push_of_some _ hoc, hd, hv⟩
    have key : ∀ b, b ≠ cl → b ≠ tb → (upd (upd H tb (.tbl (tab ++ #[rawInt pos.line, rawInt pos.col, .ref cl]))) cl (CodeO cl (X.env.qual ++ "<lambda>"))) b = H b := fun b n1 n2 => by rw [upd_ne n1, upd_ne n2]
    have EN : ExtN H (upd (upd H tb (.tbl (tab ++ #[rawInt pos.line, rawInt pos.col, .ref cl]))) cl (CodeO cl (X.env.qual ++ "<lambda>"))) := fun b o e nt => by
      rw [key b (ne_of_none e nC) fun z => nt tab (by rw [z, atP] at e; exact (Option.some.inj e).symm)]
      exact e
    have TT : Tabs T (upd (upd H tb (.tbl (tab ++ #[rawInt pos.line, rawInt pos.col, .ref cl]))) cl (CodeO cl (X.env.qual ++ "<lambda>"))) := fun p hp => by
      by_cases hb : p.1 = tb
      · rw [uT p hp hb, hb]
        have l3 : (tab ++ #[rawInt pos.line, rawInt pos.col, .ref cl]).toList = tab.toList ++ [rawInt pos.line, rawInt pos.col, .ref cl] := by simp
        refine ⟨_, by rw [upd_ne (ne_of_none atP nC), upd_same], by rw [l3]; exact PySem.TriplesOk_snoc _ _ _ _ okT, ?_⟩
        intro p' cv hcv
        rw [l3] at hcv
        rcases among_app _ okT hcv with z | z
        · obtain ⟨c0, e1, e2⟩ := amongT p' cv z
          exact ⟨c0, e1, EN _ _ e2 codeO_ne⟩
        · exact ⟨cl, z, upd_same⟩
      · obtain ⟨tab', a1, a2, a3⟩ := hT p hp
        refine ⟨tab', by rw [key _ (ne_of_none a1 nC) hb]; exact a1, a2, fun p' cv hcv => ?_⟩
        obtain ⟨c0, e1, e2⟩ := a3 p' cv hcv
        exact ⟨c0, e1, EN _ _ e2 codeO_ne⟩
    refine go _ cl _ ctv _ _ J EN (fun b n => ?_) TT (Heap.get?_push_size _ rfl) ?_ (away _ sz) upd_same
    · by_cases z1 : b = cl
      · rw [z1, upd_same]; simp
      · by_cases z2 : b = tb
        · rw [upd_ne z1, z2, upd_same]; simp
        · rw [key b z1 z2]; exact n
    · rw [key _ (Nat.ne_of_gt lt) (Nat.ne_of_gt (Nat.lt_of_lt_of_le (Heap.lt_size hpO) sz))]
      exact I.hok.fresh sz
end
section
variable {L : Lx} {X : Cx} {g0 g : Gh} {σ : L2.St} {H H' : Hp} {Γ : Env}
/-- an object that is neither a dict nor a list stands outside m -/
theorem not_inM {a : Addr} {o : HO} (r : RndOk g H) (e : H a = some o) (h1 : ∀ k, o ≠ .dK k) (h2 : ∀ l, o ≠ .lst l) : ¬ InM g.mu H a := by
  rintro ⟨m, em, h⟩
  obtain ⟨c, l, cs, ls, at_, e1, e2, e3, _⟩ := r.2 m em
  rcases h with rfl | ⟨kvs, k, e4, hm⟩
  · rw [e1] at e
    exact h1 _ (Option.some.inj e).symm
  · rw [e1] at e4
    cases e4
    simp only [List.mem_cons, Prod.mk.injEq, V.ref.injEq, List.not_mem_nil, or_false] at hm
    rcases hm with ⟨_, rfl⟩ | ⟨_, rfl⟩ | ⟨_, h⟩
    · rw [e2] at e
      exact h2 _ (Option.some.inj e).symm
    · rw [e3] at e
      exact h2 _ (Option.some.inj e).symm
    · cases h
theorem Rep.ext (r : Rep L Γ g σ H) (en : ExtN H H') (nf : ∀ b, H b ≠ none → H' b ≠ none) (hT : Tabs L.T H') (hn : ∀ a ps, g.F a ≠ some (.tbl ps)) : Stp L g H g H' := by
  have kp : ∀ (a : Addr) (o : HO), H a = some o → (∀ ps, o ≠ .tbl ps) → H' a = some o := fun a o e n => en a o e n
  have inm : ∀ a, InM g.mu H' a → InM g.mu H a := by
    rintro a ⟨m, em, h⟩
    obtain ⟨c, l, cs, ls, at_, e1, _⟩ := r.rnd.2 m em
    refine ⟨m, em, ?_⟩
    rcases h with h | ⟨kvs, k, e4, hm⟩
    · exact .inl h
    · rw [kp m _ e1 fun _ z => nomatch z] at e4
      exact .inr ⟨kvs, k, by rw [e1]; exact e4, hm⟩
  refine ⟨fun _ _ e => e, fun _ e => e, fun a o e => kp a o (r.sub a o e) fun ps z => hn a ps (z ▸ e), fun a o e n nm => ⟨kp a o e n, fun i => nm (inm a i)⟩, fun a h => ⟨nf a h, fun e => e⟩, fun a o e i => r.nF a o e (inm a i), ⟨r.rnd.1, fun m em => ?_⟩, Nat.le_refl _, hT, fun ea en' ed eu he => ?_⟩
  · obtain ⟨c, l, cs, ls, at_, e1, e2, e3, q⟩ := r.rnd.2 m em
    exact ⟨c, l, cs, ls, at_, kp _ _ e1 fun _ z => (nomatch z), kp _ _ e2 fun _ z => (nomatch z), kp _ _ e3 fun _ z => (nomatch z), q⟩
  · obtain ⟨f, e1, e2⟩ := r.tab.2 ea en' ed eu he
    exact ⟨f, e1, kp _ _ e2 fun _ z => nomatch z⟩
end
end DL
/-! x(lambda: e). -/
namespace DL
open PySem PySem.Spec PyProof.Rows L2 LamX
theorem M.noX_any {α : Type} {Q : α → Nat → Prop} {E E' : Ex → Nat → Prop} {m : M α} {b : Nat} (h : m.noX.wpB b Q E) : m.wpB b Q E' := M.wpB_noX m b h
/-- what the told def makes of e -/
def iTold (mt : M D → M D) (i : IE) : IE := fun Γ => (mt (i Γ)).noX
section
variable {L : Lx} {X : Cx}
theorem takes_lam {A : Around} {outer : List PySem.Env} {s : Shared} {H : Hp} {E : XK} {sc : Scope} {fl cl : Addr} : Takes (lamCx X A outer s H E sc fl cl) (fun cls d _ H => E cls d H) := takes_of rfl rfl rfl rfl
theorem de_lamcall {mt : M D → M D} {x a : Str} {g co tb : Addr} {fd : FuncData} {k : Nat} {Ng : List Str} {st : Stmt} {ps : Arguments} {bd : Expr} {sc : Scope} {i : IE} {p lpos pos : Pos} (T : Told L X.prog X.w X.mg X.base (k + 1) g x Ng st a mt) (F : Fun L.K x x st g fd) (S : FnScope Ng [a] (defScope st)) (hK : X.K = L.K)
    (gl : Gl X x) (hm : X.mg x = some (.ref g)) (kp : PySem.W.keepIn X.K (.ref g) = true) (bi : L2.Binds X.K fd [a] []) (h0 : Ng[0]? = some a) (va : Vis (defScope st) a) (B : TabB X.base X.mg co tb) (ec : X.env.code = .ref co) (mT : (tb, X.env.qual ++ "<lambda>") ∈ L.T) (uT : ∀ p ∈ L.T, p.1 = tb → p.2 = X.env.qual ++ "<lambda>")
    (hr : Room (k + 2) X.A) (hgd : X.A.guards = some []) (LS : LamS X.env.scope sc) (nd : defaultsOf ps X.env = ([], []))
    (hbind : ∀ (q : Str) (cl : List (Str × Addr)) (pm cv ctv : Value), bindArgs (PySem.W.kla_fn "<lambda>" q ps bd sc cl pm cv ctv) ⟨[], []⟩ = pure [])
    (hB : ∀ (A : Around) (outer : List PySem.Env) (s : Shared) (H : Hp) (E : XK) (fl cl : Addr), Room k (A.deeper (lamEnv X sc s.heap.objs.size fl cl)) → A.guards = some [] → DE L (lamCx X A outer s H E sc fl cl) i bd)
    (hdb : (x == ("__debug__" : Str)) = false := by decide) (hd : (a == ("__debug__" : Str)) = false := by decide) (hcd : (a == ("__classdict__" : Str)) = false := by decide) :
    DE L X (iTold mt i) (.Call (.Name x p) [.Lambda ps bd sc lpos] [] pos) := fun W tk => by
  constructor
  rintro pins s σ H Q I ⟨Γ, g0, rp, w⟩
  obtain ⟨oc, od, kV, doc, pm, an, cdv, ct, osl, rfl, lk, hcg⟩ := F.ex
  refine wpAny_Call_Name_kw (ld_glob I gl hm (PySem.W.callWith_K (h₀ := X.base) I.ok.mod.kin kp ?_ (by rfl) (by rfl)) hdb)
  refine Calls.spliced_cons (lam_makeN I B ec mT uT rp.tab.1 nd (LS.has I.ok) ?_)
  intro fl cl pm' ctv H1 s' J en nf T1 ho hn hfr hco
  refine Calls.spliced_nil ⟨J.kIn, ?_⟩
  have st1 : Stp L g0 H g0 H1 := rp.ext en nf T1 g0.nt
  have rp1 := rp.step st1
  have w1 : (mt (i Γ)).wpB g0.bud (Wn L DenT g0 H1 Q) (fun _ _ => False) := M.wpB_mono (fun d b k v g' H' s2 e t => k v g' H' (st1.trans s2) e t) (fun _ _ x => x) _ _ (M.noX_any w)
  refine wpAny_call (codeAny_mono (R := CR C8.CX0 X.stack X.prog X.w H1 s' Q C8.E0) ?_ ?_)
  · refine run_ofS (N := Ng) (ps := [a]) (us := [.ref fl]) (vs := [.ref fl]) (hK ▸ lk) (hK ▸ hcg) S hr J.env0 (bi s' [.ref fl] J.kIn rfl) (.cons rfl .nil) rfl fun hr' => ?_
    have act : ∀ p1 p2, Act L (toldCx X.prog X.w L.K X.mg X.base Ng x st g cdv X.A X.stack s' H1) g0 H1 fl cl (X.env.qual ++ "<lambda>") (i Γ) (.Call (.Name a p1) [] [] p2) := by
      intro p1 p2 W' pn xe tk'
      rw [← hK] at tk' ⊢
      refine PE.imp (pe_actW (k := k) (t := fun E => Rd1 L DenT (fun cls d _ H => E cls d H) i) (i := 0) J LS ho hn hfr (hbind _ _ _ _ _) tk' hr' hgd (fun A outer s H E hr2 hg2 => hB A outer s H E fl cl hr2 hg2 _ takes_lam) h0 va hd hcd) ?_
      rintro τ HZ Q' ⟨h1, h2, g1, s1, w2⟩
      exact ⟨h1, h2, Γ, g1, rp1.step s1, w2⟩
    obtain ⟨t, ht, hq⟩ := T.go cdv X.A X.stack s' H1 fl cl _ Q (i Γ) Γ g0 σ hr' hgd rp1 hco act w1
    rw [← hK] at ht
    exact ⟨t, ht.nox, hq⟩
  · intro r s2 hq
    cases r with
    | error e => exact (show False from hq).elim
    | ok fo =>
      cases fo with
      | ret u => exact J.after hq
      | next => exact False.elim hq
      | brk => exact False.elim hq
      | cont => exact False.elim hq
end
end DL
/-! The end with tables of code objects. -/
namespace DL
open PySem PySem.Spec PyProof.Rows L2
/-- a def whose code object is known -/
theorem fg_ofC {L : Lx} {P : Program} {w : World} {mg : Str → Option Value} {base : Heap} {x qual : Str} {st : Stmt} {f co : Addr} {fd : FuncData} {N ps : List Str} {k : Nat} {body : IS} (F : Fun L.K x qual st f fd) (S : FnScope N ps (defScope st)) (hc : fd.code = .ref co)
    (hb : ∀ (A : Around) (outer : List PySem.Env) (s : Shared) (H : Hp) (E : XK), Room k (A.deeper (PyProof.Rows.envOfC qual (defScope st) s.heap.objs.size f (.ref co))) → A.guards = some [] →
      DSs L (cxOf (L2.CX P w) P w L.K mg base N qual (defScope st) f (.ref co) A outer s H E) body (defBody st)) : FG L P w mg base (k + 1) f fd ps (runFn N.length body) := by
  obtain ⟨oc, od, kV, doc, pm, an, cdv, ct, osl, rfl, lk, hcd⟩ := F.ex
  have e : cdv = .ref co := hc
  subst e
  refine ⟨fun A outer s H args us vs Q E hr hg e0 bt r hl ⟨Γ, g, σ, ds, rp, l, w⟩ => ?_⟩
  refine LamX.run_ofS lk hcd S hr e0 bt r (r.length.trans hl) fun hr' => ⟨_, hb A outer s H E hr' hg (fun cls d _ H => E cls d H) g H (takes_of rfl rfl rfl rfl), ?_⟩
  have hpl : ps.length ≤ N.length := by have := congrArg List.length S.pre; rw [List.length_take] at this; omega
  refine ⟨env0 N.length ds, g, rep_start rp l (by rw [r.length, hl]; exact hpl), M.wpB_mono (fun fl b k => ?_) (fun _ _ x => fun cls d g σ H s e a => x cls d g H s e a) _ _ ((M.wpB_bind _ _).mp w)⟩
  cases fl with
  | nx Γ' => exact fun g' σ' H' r' _ e => k .non g' H' r'.base e .non
  | rt d => exact fun g' v H' s' e t => k v g' H' s' e t
  | bk Γ' => exact k.elim
  | ct Γ' => exact k.elim
/-- the promise of a law's def at the entry, with tables -/
theorem spd_lawT {L : Lx} {m : List D → M D} {H F : Hp} {a : Addr} {ns : List Int} (hT : LamX.Tabs L.T H) (hE : L.er = none) (hF : ∀ b o, F b = some o → H b = some o) (nt : ∀ b ps, F b ≠ some (.tbl ps)) (hS : SqL L.K F a (ns.map V.int)) (hm : (m [.scr ns]).wpB (lim + 1) (fun d _ => d = .bl true) (fun _ _ => False)) :
    SpD L m [.ref a] H (fun v _ => v = .bl true) fun _ _ _ => False := by
  refine ⟨[], ⟨F, none, lim + 1, nt⟩, [], [.scr ns], ⟨hF, ⟨fun _ => rfl, fun m e => (by cases e)⟩, ⟨hT, fun _ _ _ _ h => (by rw [hE] at h; cases h)⟩, fun i b e => (by simp at e), fun i j b c p e => (by simp at e), fun b o e i => ?_, rfl⟩, .cons (.scr hS) .nil, ?_⟩
  · obtain ⟨m, e, _⟩ := i
    cases e
  · refine M.wpB_mono (fun d b e v g' H' s eb t => ?_) (fun _ _ f => f.elim) _ _ hm
    subst e
    cases t
    rfl
theorem law_callGT {L : Lx} {P : Program} {w : World} {mg mb : Str → Option Value} {k : Nat} {fa a : Addr} {fd : FuncData} {x : Str} {m : List D → M D} {s₁ : Shared} {vs : List Value} {ns : List Int} {cs : List (Addr × Addr)} (hE : L.er = none) (lT : ∀ q ∈ L.T, q.1 ∈ cs.map (·.2))
    (KX : L.K.In s₁.heap) (hns : s₁.heap.Ns mainGlobals mg) (hb : s₁.heap.Ns builtinsNs mb) (hbb : ∀ x : Str, x ≠ "__name__" → mb x = bootBuiltins x) (hlim : s₁.heap.NoLimit) (hg : s₁.gens = #[])
    (eT : ∀ p ∈ cs, s₁.heap.get? p.2 = some { cls := .none, data := .fields #[] }) (oT : ∀ p ∈ cs, L.K.lookup p.2 = none) (cT : ∀ p ∈ cs, PySem.W.CodeHd s₁.heap p.1 p.2)
    (bm : ∃ (bm : Addr) (ob : Obj), mg "__builtins__" = some (.ref bm) ∧ bm ≠ builtinsNs ∧ s₁.heap.get? bm = some ob ∧ ob.cls = .type "module" ∧ ob.dict = some builtinsNs ∧ ob.data = .plain)
    (ha : s₁.heap.get? a = some { cls := .type "list", data := .seq vs.toArray }) (hi : IntsAre vs ns) (hl : ns.length ≤ sizeLine) (hr : Room k callerA)
    (F : ∀ base : Heap, L.K.In base → base.Ns mainGlobals mg → (∀ p ∈ cs, LamX.TabB base mg p.1 p.2) → FG L P w mg base k fa fd [x] m) (hbind : ∀ (s : Shared) (u : Value), BindsTo s fd ⟨[u], []⟩ [(x, u)])
    (hm : (m [.scr ns]).wpB (lim + 1) (fun d _ => d = .bl true) (fun _ _ => False)) :
    codeAny (model P w) callerA (.call (.ref fa) ⟨[.ref a], []⟩) (fun r s' => r = .ok (.ret (.bool true)) ∧ OldK s₁.heap s'.heap ∧ s'.os = s₁.os ∧ AllBare s'.gens) s₁ := by
  have rv := vals_ints hi
  have tabO : ∀ b, b ∈ cs.map (·.2) → s₁.heap.get? b = some { cls := .none, data := .fields #[] } := fun b hb => by
    obtain ⟨p, hp, rfl⟩ := List.mem_map.mp hb
    exact eT p hp
  have na : a ∉ cs.map (·.2) := fun z => by
    have q := (tabO a z).symm.trans ha
    cases q
  have dec : ∀ b, b ∈ cs.map (·.2) ∨ b ∉ cs.map (·.2) := fun b => Classical.em _
  have core : ∀ H : Hp, (∀ b, b ∈ cs.map (·.2) → H b = some (.tbl #[])) → (∀ b, b ∉ cs.map (·.2) → H b = none ∨ ∃ ob xs, H b = some (.frz ob (.lst xs))) → SqL L.K H a (ns.map V.int) → HOk P w H s₁.heap → (∀ b, H b ≠ none → b = a ∨ b ∈ cs.map (·.2)) → (H a ≠ none → L.K.lookup a = none) →
      codeAny (model P w) callerA (.call (.ref fa) ⟨[.ref a], []⟩) (fun r s' => r = .ok (.ret (.bool true)) ∧ OldK s₁.heap s'.heap ∧ s'.os = s₁.os ∧ AllBare s'.gens) s₁ := by
    intro H hH hO hS hok hA hK
    -- what is neither a list nor an empty table is not tracked
    have off : ∀ {b : Addr} {o : Obj}, s₁.heap.get? b = some o → (∀ vs n, o.data ≠ .seq vs n) → o.data ≠ .fields #[] → H b = none := fun {b o} e h1 h2 => by
      by_cases q : H b = none
      · exact q
      · rcases hA b q with z | z
        · subst z
          rw [ha] at e
          cases e
          exact absurd rfl (h1 _ _)
        · rw [tabO b z] at e
          cases e
          exact absurd rfl h2
    have dic : ∀ {b : Addr} {o : Obj} {es : Array DictEntry} {ep : Nat}, s₁.heap.get? b = some o → o.data = .dict es ep → H b = none := fun {b o es ep} e d => off e (fun vs n z => by rw [d] at z; cases z) (fun z => by rw [d] at z; cases z)
    have nsK : ∀ {b : Addr} {m : Str → Option Value}, s₁.heap.Ns b m → (hidT s₁.heap H).Ns b m := fun {b m} ⟨o, es, ep, e, d, r⟩ => ⟨o, es, ep, hidT_get e (dic e d), d, r⟩
    have inK : L.K.In (hidT s₁.heap H) := fun b o e => hidT_get (KX b o e) (by
      by_cases q : H b = none
      · exact q
      · rcases hA b q with z | z
        · subst z
          rw [hK q] at e
          cases e
        · obtain ⟨p, hp, rfl⟩ := List.mem_map.mp z
          rw [oT p hp] at e
          cases e)
    have hM : Mod L.K mg (hidT s₁.heap H) := ⟨inK, nsK hns, ⟨mb, nsK hb, hbb⟩, let ⟨mc, h1, h2⟩ := hlim; ⟨mc, nsK h1, h2⟩⟩
    have tb : ∀ p ∈ cs, LamX.TabB (hidT s₁.heap H) mg p.1 p.2 := fun p hp => by
      have atP := eT p hp
      constructor
      · obtain ⟨o, us, file, tf, fl, tg, inF, tx, tt, e1, r1, r2, r3, rr⟩ := cT p hp
        exact ⟨o, us, file, tf, fl, tg, inF, tx, tt, hidT_get e1 (off e1 (fun vs n z => by rw [r2] at z; cases z) (fun z => by rw [r2] at z; cases z; simp at r3)), r1, r2, r3, rr⟩
      · obtain ⟨c, ob, b1, b2, b3, b4, b5, b6⟩ := bm
        refine ⟨c, ob, b1, b2, fun q => ?_, fun q => ?_, hidT_get b3 (off b3 (fun vs n z => by rw [b6] at z; cases z) (fun z => by rw [b6] at z; cases z)), b4, b5, b6⟩
        · obtain ⟨o, es, ep, e, hd, _⟩ := hns
          rw [q] at b3
          have z := b3.symm.trans e
          cases z
          rw [hd] at b6
          cases b6
        · rw [q] at b3
          have z := b3.symm.trans atP
          cases z
          cases b6
      · intro z
        obtain ⟨o, es, ep, e, hd, _⟩ := hns
        rw [z] at e
        have z2 := e.symm.trans atP
        cases z2
        cases hd
    have e0 : Env0 P w L.K mg (hidT s₁.heap H) callerA [] s₁ H :=
      ⟨rfl, hM, fun b o e => of_hidT e, Nat.le_of_eq (hidT_size _ _), trivial, fun b hb => absurd (show b ∈ ([] : List Addr) from hb) (by simp), hok, .of_eq hg⟩
    have tabs : LamX.Tabs L.T H := fun q hq => LamX.TabS.nil (hH _ (lT q hq))
    have sp : SpD L m [.ref a] H (fun v _ => v = .bl true) fun _ _ _ => False := by
      classical
      refine spd_lawT (F := fun b => if b ∈ cs.map (·.2) then none else H b) tabs hE (fun b o e => ?_) (fun b ps e => ?_) ?_ hm
      · by_cases q : b ∈ cs.map (·.2)
        · rw [if_pos q] at e; cases e
        · rw [if_neg q] at e; exact e
      · by_cases q : b ∈ cs.map (·.2)
        · rw [if_pos q] at e; cases e
        · rw [if_neg q] at e
          rcases hO b q with z | ⟨ob, xs, z⟩
          · rw [z] at e; cases e
          · rw [z] at e; cases e
      · have ea : (if a ∈ cs.map (·.2) then none else H a) = H a := if_neg na
        rcases hS with (z | ⟨ob, z⟩) | z
        · exact .inl (.inl (ea.trans z))
        · exact .inl (.inr ⟨ob, ea.trans z⟩)
        · exact .inr z
    refine codeAny_mono ((F _ inK (nsK hns) tb).go callerA [] s₁ H ⟨[.ref a], []⟩ [.ref a] [.ref a] _ _ hr rfl e0 (hbind s₁ (.ref a)) (.cons rfl .nil) rfl sp) fun r s' h => ?_
    cases r with
    | error e =>
      obtain ⟨_, _, _, _, _, _, _, _, _, _, _, _, z⟩ := h
      exact z.elim
    | ok fl =>
      cases fl with
      | next => exact False.elim h
      | brk => exact False.elim h
      | cont => exact False.elim h
      | ret u =>
        obtain ⟨v, H', os, bare, un, hok', r', q⟩ := h
        have q' : v = .bl true := q
        subst q'
        obtain rfl : u = Value.bool true := r'
        have kept : ∀ b o, b ∉ cs.map (·.2) → s₁.heap.get? b = some o → s'.heap.get? b = some o := by
          intro b o nb e
          cases q : H b with
          | none => exact un.keep b o e q (fun z => absurd (show b ∈ ([] : List Addr) from z) (by simp)) (by simp)
          | some u =>
            rcases hO b nb with z | ⟨ob, xs, z⟩
            · rw [q] at z; cases z
            · obtain ⟨e1, _⟩ := hok b _ z
              obtain ⟨e2, _⟩ := hok' b _ (un.frzs b ob _ z)
              exact e ▸ e1 ▸ e2
        have more : ∀ b, b ∈ cs.map (·.2) → ∃ ps : Array Value, s'.heap.get? b = some { cls := .none, data := .fields ps } := by
          intro b hb
          obtain ⟨m, z⟩ := un.tbls b #[] (hH b hb)
          exact ⟨_, hok' b _ z⟩
        refine ⟨rfl, ⟨fun b o e => ?_, fun b o e => ?_⟩, os, bare⟩
        · rcases dec b with hb | hb
          · obtain ⟨ps, z⟩ := more b hb
            have e2 := e.symm.trans (tabO b hb)
            cases e2
            obtain ⟨p, hp, rfl⟩ := List.mem_map.mp hb
            exact .inr (.inl ⟨((cT p hp).tab (eT p hp)).isCodeTable, rfl, #[], ps, rfl, by rw [Array.empty_append]; exact z⟩)
          · exact .inl (kept b o hb e)
        · rcases dec b with hb | hb
          · obtain ⟨ps, z⟩ := more b hb
            exact ⟨_, z⟩
          · exact ⟨o, kept b o hb e⟩
  have fits : vs.toArray.size ≤ sizeLine := by
    rw [List.size_toArray, hi.length]
    exact hl
  classical
  cases hk : L.K.lookup a with
  | some o =>
    have e := KX a o hk
    have e2 := e.symm.trans ha
    cases e2
    have at1 : ∀ b, b ∈ cs.map (·.2) → (if b ∈ cs.map (·.2) then some (HO.tbl #[]) else none) = some (.tbl #[]) := fun b h => if_pos h
    have at0 : ∀ b, b ∉ cs.map (·.2) → (if b ∈ cs.map (·.2) then some (HO.tbl #[]) else none) = none := fun b h => if_neg h
    refine core (fun b => if b ∈ cs.map (·.2) then some (.tbl #[]) else none) at1 (fun b h => .inl (at0 b h)) (.inr ⟨_, vs.toArray, _, hk, rfl, rfl, rfl, fits, by simpa using rv⟩) (fun b u z => ?_) (fun b z => ?_) fun z => absurd (at0 a na) z
    · rcases dec b with h | h
      · have z' := (at1 b h).symm.trans z
        cases z'
        exact tabO b h
      · have z' := (at0 b h).symm.trans z
        cases z'
    · rcases dec b with h | h
      · exact .inr h
      · exact absurd (at0 b h) z
  | none =>
    have atA : (if a = a then some (HO.frz { cls := .type "list", data := .seq vs.toArray } (.lst (ns.map V.int))) else if a ∈ cs.map (·.2) then some (.tbl #[]) else none) = some (HO.frz { cls := .type "list", data := .seq vs.toArray } (.lst (ns.map V.int))) := if_pos rfl
    have at1 : ∀ b, b ∈ cs.map (·.2) → (if b = a then some (HO.frz { cls := .type "list", data := .seq vs.toArray } (.lst (ns.map V.int))) else if b ∈ cs.map (·.2) then some (.tbl #[]) else none) = some (.tbl #[]) := fun b h => by
      have nb : b ≠ a := fun z => na (by rw [← z]; exact h)
      rw [if_neg nb, if_pos h]
    have at0 : ∀ b, b ≠ a → b ∉ cs.map (·.2) → (if b = a then some (HO.frz { cls := .type "list", data := .seq vs.toArray } (.lst (ns.map V.int))) else if b ∈ cs.map (·.2) then some (.tbl #[]) else none) = none := fun b h1 h => by
      rw [if_neg h1, if_neg h]
    refine core (fun b => if b = a then some (.frz { cls := .type "list", data := .seq vs.toArray } (.lst (ns.map V.int))) else if b ∈ cs.map (·.2) then some (.tbl #[]) else none) at1 (fun b h => ?_) (.inl (.inr ⟨{ cls := .type "list", data := .seq vs.toArray }, atA⟩)) (fun b u z => ?_) (fun b z => ?_) fun _ => hk
    · by_cases h1 : b = a
      · subst h1
        exact .inr ⟨_, _, atA⟩
      · exact .inl (at0 b h1 h)
    · by_cases h1 : b = a
      · subst h1
        have z' := atA.symm.trans z
        cases z'
        exact ⟨ha, by rw [List.length_map]; exact hl, vs, _, rv, ha⟩
      · rcases dec b with h | h
        · have z' := (at1 b h).symm.trans z
          cases z'
          exact tabO b h
        · have z' := (at0 b h1 h).symm.trans z
          cases z'
    · by_cases h1 : b = a
      · exact .inl h1
      · rcases dec b with h | h
        · exact .inr h
        · exact absurd (at0 b h1 h) z
end DL
/-! Comprehensions of two fors. -/
namespace DL
open PySem PySem.Spec L2
section
variable {L : Lx} {X : Cx} {g0 g g' : Gh} {H0 H H' : Hp} {σ σ' : L2.St} {Γ Γ' : Env} {W : WX} {pos : Pos}
def lcRun2 (t : IG) (it1 : II) (t1 : IG) (c1 : IT) (i : IE) (own vs1 : List Nat) (Γ : Env) : List D → List D → M (List D)
  | acc, [] => .ret acc
  | acc, d :: r => (t d (wipeE Γ own)).bind fun Γ1 => (it1 Γ1).bind fun ds1 => (lcRun t1 c1 i vs1 Γ1 acc ds1).bind fun acc' => lcRun2 t it1 t1 c1 i own vs1 Γ acc' r
def iLc2 (t : IG) (it : II) (it1 : II) (t1 : IG) (c1 : IT) (i : IE) (own vs1 : List Nat) : IE := fun Γ => (it Γ).bind fun ds => (lcRun2 t it1 t1 c1 i own vs1 Γ [] ds).noX.bind fun acc => .ret (.lst acc)
/-- a target of plain names: what the block keeps, later too -/
def GKs (L : Lx) (gt : TG) (t : IG) (own : List Nat) : Prop := ∀ (v : V) (d : D) (Γ : Env) (g : Gh) (σ : L2.St) (H : Hp) (Q : L2.St → Hp → Prop) (E : Ex → Nat → Prop) (b : Nat), Rep L (wipeE Γ own) g (wipe σ own) H → Den L g v d →
  (t d (wipeE Γ own)).wpB b (fun Γ1 c => c = b → ∀ σ1, Rep L Γ1 g σ1 H → wipe σ1 own = wipe σ own → (∀ g' H', Rep L (wipeE Γ own) g' (wipe σ own) H' → FLe g g' → Rep L Γ1 g' σ1 H') → Q σ1 H) E → gt v (wipe σ own) H Q
theorem gks_name {n : Nat} {own : List Nat} (h : n ∈ own) : GKs L (gName n) (gN n) own := fun v d Γ g σ H Q E b r t w =>
  w rfl _ (r.set t) (by rw [wipe_set h, wipe_wipe]) fun g' H' r' f => r'.set (t.mono f.F f.mu)
theorem yes_of {Q : Bool → Hp → Prop} (h : Q true H) : tYes σ H Q := h
theorem iteTT {A B : Prop} (a : A) : if true = true then A else B := by rw [if_pos rfl]; exact a
theorem lc2_read {t t1 : IG} {it it1 : II} {c1 : IT} {i : IE} {own vs1 : List Nat} {gt gt1 : TG} {tt1 : TT} {Q : VK} (gk : GKs L gt t own) (gk1 : GK L gt1 t1 vs1) (tk1 : TK L tt1 c1) (r : Rep L Γ g σ H)
    (w : (iLc2 t it it1 t1 c1 i own vs1 Γ).wpB g.bud (Wn L FrT g H Q) (XW L W g σ H)) : tLc2 (RdI L W it) gt tYes (RdI L (fun _ _ _ _ => False) it1) gt1 tt1 (Rd1 L DenT (fun _ _ _ _ => False) i) own vs1 σ H Q := by
  refine ⟨Γ, g, r, M.wpB_mono (fun ds b k g1 H1 J sp e wk => ?_) (fun _ _ x => x) _ _ ((M.wpB_bind _ _).mp w)⟩
  subst e
  intro Dd nD
  replace k : ((lcRun2 t it1 t1 c1 i own vs1 Γ [] ds).bind fun acc => M.ret (D.lst acc)).wpB g1.bud (Wn L FrT g H Q) (XW L (fun _ _ _ _ => False) g σ H) := (M.wpB_bind _ _).mpr (M.wpB_noX (Q := fun acc c => Wn L FrT g H Q (.lst acc) c) _ _ ((M.wpB_bind _ _).mp k))
  have r1 := r.step sp
  have s2 : Stp L g1 H1 g1 (upd H1 Dd (.lst [])) := stp_new (o := .lst []) r1 nD false
  have xw : ∀ {g2 : Gh} {H2 : Hp} {σ2 : L2.St} {x : Ex} {b : Nat}, Stp L g1 H1 g2 H2 → XW L (fun _ _ _ _ => False) g σ H x b → XW L (fun _ _ _ _ => False) g2 σ2 H2 x b := fun s h cls d g' H' s' e a => h cls d g' H' (sp.trans (s.trans s')) e a
  have nM0 : ¬ InM g1.mu H1 Dd := fun i => (InM.there r1.rnd.ok i) nD
  refine ⟨fun j m Hj => j ≤ ds.length ∧ m = ds.length - j ∧ ∃ g2 acc, Stp L g1 H1 g2 Hj ∧ AccAt L g2 Hj Dd acc ∧ ((lcRun2 t it1 t1 c1 i own vs1 Γ acc (ds.drop j)).bind fun acc => M.ret (D.lst acc)).wpB g2.bud (Wn L FrT g H Q) (XW L (fun _ _ _ _ => False) g σ H),
    ⟨ds.length, Nat.zero_le _, by simp, g1, [], s2, ⟨[], upd_same, .nil, nF_of r1 nD, fun i => nM0 (inM_upd i)⟩, k⟩, ?_⟩
  rintro j m Hj ⟨hj, rfl, g2, acc, s, a, w2⟩
  have r2 := r1.step s
  by_cases hlt : j < ds.length
  · have ed : ds.drop j = ds[j] :: ds.drop (j + 1) := List.drop_eq_getElem_cons hlt
    rw [ed] at w2
    obtain ⟨go, yl⟩ := wk.step j ds[j] Γ g2 σ Hj (List.getElem?_eq_getElem hlt) r2 s.fle
    refine .inr ⟨go, fun Hn => ∃ g2 acc, Stp L g1 H1 g2 Hn ∧ AccAt L g2 Hn Dd acc ∧ ((lcRun2 t it1 t1 c1 i own vs1 Γ acc (ds.drop (j + 1))).bind fun acc => M.ret (D.lst acc)).wpB g2.bud (Wn L FrT g H Q) (XW L (fun _ _ _ _ => False) g σ H), fun H' ⟨g', acc', s', a', w'⟩ => ⟨ds.length - (j + 1), by omega, hlt, rfl, g', acc', s', a', w'⟩, fun x H' y => ?_⟩
    obtain ⟨g3, s3, b3, t3⟩ := yl x H' y
    rw [← b3] at w2
    have s13 := s.trans s3
    have w3 := (M.wpB_bind _ _).mp w2
    refine gk x ds[j] Γ g3 σ H' _ (XW L (fun _ _ _ _ => False) g σ H) g3.bud (wipe_rep (r2.step s3)) t3 (M.wpB_mono (fun Γ1 c' k eb σ1 rp1 wi up => ?_) (fun _ _ x => x) _ _ ((M.wpB_bind _ _).mp w3))
    subst eb
    refine ⟨wi, ?_⟩
    refine yes_of ?_
    refine iteTT ?_
    refine ⟨Γ1, g3, rp1, M.wpB_mono (fun ds1 c' k g4 H4 J1 s4 e4 wk1 => ?_) (fun _ _ x => xw s13 x) _ _ ((M.wpB_bind _ _).mp k)⟩
    subst e4
    have s14 := s13.trans s4
    have a4 := (a.step s3).step s4
    have rp4 := rp1.step s4
    -- the inner walk
    refine ⟨fun j1 m1 Hq => j1 ≤ ds1.length ∧ m1 = ds1.length - j1 ∧ ∃ g5 acc, FLe g4 g5 ∧ Stp L g1 H1 g5 Hq ∧ AccAt L g5 Hq Dd acc ∧ ((lcRun t1 c1 i vs1 Γ1 acc (ds1.drop j1)).bind fun acc' => (lcRun2 t it1 t1 c1 i own vs1 Γ acc' (ds.drop (j + 1))).bind fun acc => M.ret (D.lst acc)).wpB g5.bud (Wn L FrT g H Q) (XW L (fun _ _ _ _ => False) g σ H),
      ⟨ds1.length, Nat.zero_le _, by simp, g4, acc, FLe.refl g4, s14, a4, ?_⟩, ?_⟩
    · exact (M.wpB_bind _ _).mpr (M.wpB_mono (fun acc' b k => (M.wpB_bind _ _).mpr k) (fun _ _ x => x) _ _ ((M.wpB_bind _ _).mp k))
    rintro j1 m1 Hq ⟨hj1, rfl, g5, acc5, s45, s15, a5, w5⟩
    have rp5 := up g5 Hq (wipe_rep (r1.step s15)) (s4.fle.trans s45)
    by_cases hl1 : j1 < ds1.length
    · have ed1 : ds1.drop j1 = ds1[j1] :: ds1.drop (j1 + 1) := List.drop_eq_getElem_cons hl1
      rw [ed1] at w5
      obtain ⟨go1, yl1⟩ := wk1.step j1 ds1[j1] Γ1 g5 σ1 Hq (List.getElem?_eq_getElem hl1) rp5 s45
      refine .inr ⟨go1, fun Hn => ∃ g5 acc, FLe g4 g5 ∧ Stp L g1 H1 g5 Hn ∧ AccAt L g5 Hn Dd acc ∧ ((lcRun t1 c1 i vs1 Γ1 acc (ds1.drop (j1 + 1))).bind fun acc' => (lcRun2 t it1 t1 c1 i own vs1 Γ acc' (ds.drop (j + 1))).bind fun acc => M.ret (D.lst acc)).wpB g5.bud (Wn L FrT g H Q) (XW L (fun _ _ _ _ => False) g σ H),
        fun H' ⟨g', acc', z1, z2, z3, z4⟩ => ⟨ds1.length - (j1 + 1), by omega, hl1, rfl, g', acc', z1, z2, z3, z4⟩, fun x1 H6 y1 => ?_⟩
      obtain ⟨g6, s6, b6, t6⟩ := yl1 x1 H6 y1
      rw [← b6] at w5
      have s46 := s45.trans s6.fle
      have s16 := s15.trans s6
      have w6 := (M.wpB_bind _ _).mp w5
      refine gk1 x1 ds1[j1] Γ1 g6 σ1 H6 _ (XW L (fun _ _ _ _ => False) g σ H) g6.bud (wipe_rep (rp5.step s6)) t6 (M.wpB_mono (fun Γ2 c' k eb σ2 rp2 wi2 => ?_) (fun _ _ x => x) _ _ ((M.wpB_bind _ _).mp w6))
      subst eb
      refine ⟨wi2, tk1 σ2 H6 _ ⟨Γ2, g6, rp2, M.wpB_mono (fun b c' k g7 H7 s7 e7 => ?_) (fun _ _ x => xw s16 x) _ _ ((M.wpB_bind _ _).mp k)⟩⟩
      subst e7
      have a7 := (a5.step s6).step s7
      cases b with
      | false => exact iteF ⟨g7, acc5, s46.trans s7.fle, s16.trans s7, a7, (M.wpB_bind _ _).mpr k⟩
      | true =>
        refine iteT ⟨Γ2, g7, rp2.step s7, M.wpB_mono (fun d b k v g8 H8 s8 e8 t8 => ?_) (fun _ _ x => xw (s16.trans s7) x) _ _ ((M.wpB_bind _ _).mp k)⟩
        subst e8
        split at k
        · rename_i z
          obtain ⟨vs, h1, h2, h3, h4⟩ := a7.step s8
          exact ⟨vs, h1, by rw [h2.length]; exact z, g8, acc5 ++ [d], s46.trans (s7.fle.trans s8.fle), stp_upd ((s16.trans s7).trans s8) nD h1 h3 h4, acc_upd h2 h3 h4 t8, (M.wpB_bind _ _).mpr k⟩
        · exact k.elim
    · have e : j1 = ds1.length := by omega
      subst e
      rw [List.drop_length] at w5
      exact .inl ⟨wk1.stop Γ1 g5 σ1 Hq rp5 s45, g5, acc5, s15, a5, w5⟩
  · have e : j = ds.length := by omega
    subst e
    rw [List.drop_length] at w2
    obtain ⟨vs, h1, h2, h3, h4⟩ := a
    exact .inl ⟨wk.stop Γ g2 σ Hj r2 s.fle, w2 (.ref Dd) g2 Hj (sp.trans s) rfl ⟨Dd, vs, acc, rfl, rfl, h1, h2, h3, h4, none_back sp nD⟩⟩
variable {t t1 : IG} {it it1 : II} {c1 : IT} {i : IE} {own : List (Str × Nat)} {vs1 : List Nat} {gt gt1 : TG} {tt1 : TT} {elt tg iter tg1 iter1 : Expr} {ifs1 : List Expr} {scope : Scope}
theorem df_lc2 (hc : X.calm = true) (hN : X.N.Nodup) (hi : DI L X it tg iter) (ok : BlkOk X.N X.env.scope scope own) (hv : ∀ i ∈ vs1, i ∈ own.map (·.2))
    (hg : ∀ (s : Shared) (H : Hp) (C : Addr) (cl : List (Str × Addr)) (fp : List Addr), PG (X.blk s H scope (compEnvC scope cl C X.env) fp) tg gt) (gk : GKs L gt t (own.map (·.2)))
    (hi1 : ∀ (s : Shared) (H : Hp) (C : Addr) (cl : List (Str × Addr)) (fp : List Addr), DI L (X.blk s H scope (compEnvC scope cl C X.env) fp) it1 tg1 iter1)
    (hg1 : ∀ (s : Shared) (H : Hp) (C : Addr) (cl : List (Str × Addr)) (fp : List Addr), PG (X.blk s H scope (compEnvC scope cl C X.env) fp) tg1 gt1) (gk1 : GK L gt1 t1 vs1)
    (ht1 : ∀ (s : Shared) (H : Hp) (C : Addr) (cl : List (Str × Addr)) (fp : List Addr), PTs (X.blk s H scope (compEnvC scope cl C X.env) fp) ifs1 tt1) (tk1 : TK L tt1 c1)
    (he : ∀ (s : Shared) (H : Hp) (C : Addr) (cl : List (Str × Addr)) (fp : List Addr), DE L (X.blk s H scope (compEnvC scope cl C X.env) fp) i elt) (hs : ∀ x, foldedSetIterable iter X.env x = pure x := by intro _; rfl) (hs1 : ∀ env x, foldedSetIterable iter1 env x = pure x := by intro _ _; rfl) :
    DF L X (iLc2 t it it1 t1 c1 i (own.map (·.2)) vs1) (.ListComp elt [⟨tg, iter, [], 0⟩, ⟨tg1, iter1, ifs1, 0⟩] scope pos) := fun W tk' => by
  exact PE.imp (pe_lc2 hc hN (hi W tk') ok hv hg (fun s H C cl fp => pts_nil) (fun s H C cl fp => hi1 s H C cl fp _ LamX.takes0) hg1 ht1 (fun s H C cl fp => he s H C cl fp _ LamX.takes0) hs hs1) fun σ H Q ⟨Γ, g, r, w⟩ => lc2_read gk gk1 tk1 r w
/-- y = [.. for .. for ..], y a plain local -/
theorem ds_setLc2 {n : Nat} {y : Str} {py spos : Pos} (hc : X.calm = true) (hN : X.N.Nodup) (hy : X.N[n]? = some y) (hyl : X.env.scope.names.lookup y = some .local)
    (hsw : swapsWith (.ListComp elt [⟨tg, iter, [], 0⟩, ⟨tg1, iter1, ifs1, 0⟩] scope pos) (some (.Name y py)) spos.line X.env = pure true) (hi : DI L X it tg iter) (ok : BlkOk X.N X.env.scope scope own) (hv : ∀ i ∈ vs1, i ∈ own.map (·.2))
    (hg : ∀ (s : Shared) (H : Hp) (C : Addr) (cl : List (Str × Addr)) (fp : List Addr), PG (X.blk s H scope (compEnvC scope cl C X.env) fp) tg gt) (gk : GKs L gt t (own.map (·.2)))
    (hi1 : ∀ (s : Shared) (H : Hp) (C : Addr) (cl : List (Str × Addr)) (fp : List Addr), DI L (X.blk s H scope (compEnvC scope cl C X.env) fp) it1 tg1 iter1)
    (hg1 : ∀ (s : Shared) (H : Hp) (C : Addr) (cl : List (Str × Addr)) (fp : List Addr), PG (X.blk s H scope (compEnvC scope cl C X.env) fp) tg1 gt1) (gk1 : GK L gt1 t1 vs1)
    (ht1 : ∀ (s : Shared) (H : Hp) (C : Addr) (cl : List (Str × Addr)) (fp : List Addr), PTs (X.blk s H scope (compEnvC scope cl C X.env) fp) ifs1 tt1) (tk1 : TK L tt1 c1)
    (he : ∀ (s : Shared) (H : Hp) (C : Addr) (cl : List (Str × Addr)) (fp : List Addr), DE L (X.blk s H scope (compEnvC scope cl C X.env) fp) i elt) (hs : ∀ x, foldedSetIterable iter X.env x = pure x := by intro _; rfl) (hs1 : ∀ env x, foldedSetIterable iter1 env x = pure x := by intro _ _; rfl) :
    DS L X (sSet n (iLc2 t it it1 t1 c1 i (own.map (·.2)) vs1)) (.Assign [.Name y py] (.ListComp elt [⟨tg, iter, [], 0⟩, ⟨tg1, iter1, ifs1, 0⟩] scope pos) spos) := fun W g0 H0 tk' => by
  refine PS.imp (ps_setLc2 hc hN hy hyl hsw (hi W tk') ok hv hg (fun s H C cl fp => pts_nil) (fun s H C cl fp => hi1 s H C cl fp _ LamX.takes0) hg1 ht1 (fun s H C cl fp => he s H C cl fp _ LamX.takes0) hs hs1) fun Dn σ H ⟨Γ, g, r, w⟩ => ?_
  refine lc2_read (Q := fun x H1 => gName n x σ H1 Dn.nx) gk gk1 tk1 r.rep (M.wpB_mono (fun d b k v g' H' s e fr => ?_) (fun _ _ x => x.xw r.base) _ _ ((M.wpB_bind _ _).mp w))
  obtain ⟨g2, s2, e2, t2⟩ := stp_frz s fr
  exact k g2 _ H' ((r.step s2).set t2) s2.fle (e2.trans e)
end
end DL
/-! A lambda with one parameter that has a default, handed to a def that calls it with nothing. -/
namespace DL
open PySem PySem.Spec PyProof.Rows L2 LamX
/-- the scope of such a lambda: its one own name is y -/
structure LamD (sc scope : Scope) (y : Str) : Prop where
  kind : scope.kind = .function
  co : scope.isCoroutine = false
  gen : scope.isGenerator = false
  own : ∀ z ∈ scope.names, (z.2 = .local → z.1 = y) ∧ z.2 ≠ .cell
  free : ∀ z ∈ scope.names, z.2 = .free → sc.names.lookup z.1 = some .cell ∨ sc.names.lookup z.1 = some .free
  loc : scope.names.lookup y = some .local
def lamDB (sc scope : Scope) (y : Str) : Bool :=
  decide (scope.kind = .function) && (!scope.isCoroutine && (!scope.isGenerator && (decide (scope.names.lookup y = some .local) && scope.names.all fun z => (!decide (z.2 = .local) || decide (z.1 = y)) && (!decide (z.2 = .cell) && (!decide (z.2 = .free) || (decide (sc.names.lookup z.1 = some .cell) || decide (sc.names.lookup z.1 = some .free)))))))
theorem lamD_by {sc scope : Scope} {y : Str} (h : lamDB sc scope y = true) : LamD sc scope y := by
  unfold lamDB at h
  simp only [Bool.and_eq_true, Bool.or_eq_true, Bool.not_eq_true', decide_eq_true_eq, decide_eq_false_iff_not, List.all_eq_true] at h
  obtain ⟨h1, h2, h3, h4, h5⟩ := h
  refine ⟨h1, h2, h3, fun z hz => ⟨fun e => ?_, (h5 z hz).2.1⟩, fun z hz e => ?_, h4⟩
  · rcases (h5 z hz).1 with q | q
    · exact absurd e q
    · exact q
  · rcases (h5 z hz).2.2 with q | q
    · exact absurd e q
    · exact q
theorem LamD.has {X : Cx} {scope : Scope} {y : Str} (D : LamD X.env.scope scope y) (ok : X.Ok) : ∀ z ∈ scope.names, z.2 = .free → ∃ c, X.env.cells.lookup z.1 = some c := by
  intro z hz e
  rcases D.free z hz e with q | q
  · exact ok.has _ (.inl q)
  · exact ok.has _ (.inr q)
section
variable {X : Cx} {pins : List (Addr × Obj)} {σ : L2.St} {H HZ : Hp} {s s1 : Shared}
theorem lam_startD {A : Around} {outer : List PySem.Env} {E : XK} {sc : Scope} {fl cl : Addr} {h₁ : Heap} {tk : Nat} {y : Str} {bs : List (Str × Value)} (I : Inv X pins σ H s) (D : LamD X.env.scope sc y) (ny : y ∉ X.N) (e0 : Env0 X.prog X.w X.K X.mg X.base A outer s1 HZ) (hd : A.handled = none)
    (un : Un (frs X.stack) [] H HZ s.heap s1.heap) (hns : h₁.Ns s1.heap.objs.size fun z => bs.reverse.lookup z) (kp : ∀ b o, s1.heap.get? b = some o → h₁.get? b = some o) :
    Inv (lamCx X A outer s1 HZ E sc fl cl) [] σ HZ { s1 with heap := h₁, toks := tk } := by
  have there := D.has I.ok
  have back : ∀ {z c}, (cloFrom X.env.cells sc.names []).lookup z = some c → X.env.cells.lookup z = some c := by
    intro z c e
    rcases cloFrom_mem (PySem.mem_of_lookup e) with hm | ⟨h1, h2⟩
    · cases hm
    · obtain ⟨c1, hc⟩ := there _ h1 rfl
      have hc' : X.env.cells.lookup z = some c1 := hc
      rw [hc'] at h2
      have e2 : c = c1 := h2
      rw [e2]
      exact hc
  have fwd : ∀ {z}, sc.names.lookup z = some .free → ∃ c, (cloFrom X.env.cells sc.names []).lookup z = some c := by
    intro z hl
    exact mem_lookup (cloFrom_has (cells := X.env.cells) (acc := []) (PySem.mem_of_lookup hl))
  have stays : ∀ {c : Addr} {v : Option Value}, H c = none → s.heap.IsCell c v → h₁.IsCell c v := by
    rintro c v n ⟨o, ho, hd⟩
    obtain ⟨sl, q⟩ := un.any ho n (by simp)
    exact ⟨_, kp _ _ q, hd⟩
  have nil : ∀ b : Addr, b ∉ (lamCx X A outer s1 HZ E sc fl cl).ex := fun b z => absurd (show b ∈ ([] : List Addr) from z) (by simp)
  have okX : (lamCx X A outer s1 HZ E sc fl cl).Ok := by
    refine ⟨e0.mod, D.kind, rfl, rfl, Nat.le_refl _, fun z z' c e1 e2 => I.ok.inj z z' c (back e1) (back e2), fun z hz => ?_, fun z c q _ => ?_, fun _ => hd, Around.frames_deeper e0.frames, .inr ⟨rfl, rfl⟩, fun b z => absurd z (nil b), e0.bs, e0.bsz, fun b _ _ => nil b, fun b z => absurd z (nil b), e0.funs, e0.frf⟩
    · have hz : sc.names.lookup z = some .cell ∨ sc.names.lookup z = some .free := hz
      rcases hz with hz | hz
      · exact absurd rfl (D.own _ (PySem.mem_of_lookup hz)).2
      · exact fwd hz
    · have q : false = true := q
      cases q
  refine ⟨okX, rfl, e0.bare, Un.kept kp, ⟨_, hns, fun i z v e1 e2 e3 => ?_⟩, fun z c e => ?_, e0.hok.fresh (Nat.le_refl _), fun z c e => ?_, fun q hq => absurd (show q ∈ ([] : List (Addr × Obj)) ++ [] from hq) (by simp), e0.hok.kept kp, I.len⟩
  · have e3 : Vis sc z := e3
    rcases e3 with k | k | k
    · have zy := (D.own _ (PySem.mem_of_lookup k)).1 rfl
      have e1 : X.N[i]? = some z := e1
      rw [show z = y from zy] at e1
      exact absurd (List.mem_of_getElem? e1) ny
    · exact absurd rfl (D.own _ (PySem.mem_of_lookup k)).2
    · obtain ⟨m, hn, hl⟩ := I.loc
      have vis : Vis X.env.scope z := (D.free _ (PySem.mem_of_lookup k) rfl).elim (fun q => .inr (.inl q)) (fun q => .inr (.inr q))
      obtain ⟨w', r, q⟩ := hl i z v e1 e2 vis
      obtain ⟨c2, h2⟩ := fwd k
      refine ⟨w', r, .inr ⟨.inr k, c2, h2, ?_⟩⟩
      have c1 := back h2
      rcases q with ⟨k', _⟩ | ⟨_, c3, e', q⟩
      · have k' : X.env.scope.names.lookup z = some .local := k'
        rcases D.free _ (PySem.mem_of_lookup k) rfl with k2 | k2
        · rw [show X.env.scope.names.lookup z = _ from k2] at k'
          cases k'
        · rw [show X.env.scope.names.lookup z = _ from k2] at k'
          cases k'
      · rw [c1] at e'
        cases e'
        exact stays (I.freeC z _ c1) q
  · obtain ⟨w', q⟩ := I.cell z c (back e)
    exact ⟨w', stays (I.freeC z c (back e)) q⟩
  · obtain ⟨v, o, ho, hd⟩ := I.cell z c (back e)
    exact un.free c o ho (I.freeC z c (back e)) (by simp)
end
end DL
/-! x(lambda y=0: e). -/
namespace DL
open PySem PySem.Spec PyProof.Rows L2 LamX
abbrev lamOD (q : Str) (ps : Arguments) (bd : Expr) (sc : Scope) (cs : List (Str × Addr)) (T : Addr) (doc pm : Value) (cl : Addr) (ctv : Value) : Obj := PySem.W.kdv_obj "<lambda>" q ps (.expr bd) sc cs (.ref T) doc pm cl ctv
section
variable {X : Cx} {pins : List (Addr × Obj)} {σ : L2.St} {H : Hp} {s : Shared}
theorem lam_makeD {T : List (Addr × Str)} {co tb : Addr} {ps : Arguments} {bd : Expr} {sc : Scope} {pos : Pos} {n : Int} {j : Nat} {dp : Pos} {E Q : Value → Shared → Prop} (I : Inv X pins σ H s) (B : TabB X.base X.mg co tb) (ec : X.env.code = .ref co)
    (mT : (tb, X.env.qual ++ "<lambda>") ∈ T) (uT : ∀ p ∈ T, p.1 = tb → p.2 = X.env.qual ++ "<lambda>") (hT : Tabs T H) (nd : ps.defaults = [.Constant (.int n) j dp]) (nk : ps.kw_defaults = []) (fr : ∀ y ∈ sc.names, y.2 = .free → ∃ c, X.env.cells.lookup y.1 = some c)
    (go : ∀ (fl cl D0 : Addr) (u pm doc ctv : Value) (H1 : Hp) (s' : Shared), Inv X pins σ H1 s' → ExtN H H1 → (∀ b, H b ≠ none → H1 b ≠ none) → Tabs T H1 →
      s'.heap.get? fl = some (lamOD (X.env.qual ++ "<lambda>") ps bd sc (cloFrom X.env.cells sc.names []) D0 doc pm cl ctv) → H1 fl = none → fl ∉ frs X.stack → s'.heap.get? D0 = some (PySem.W.kdv_tup [u]) → H1 D0 = none → D0 ∉ frs X.stack →
      H1 cl = some (CodeO cl (X.env.qual ++ "<lambda>")) → Q (.ref fl) s') :
    wpAny (model X.prog X.w) X.A (eval (.Lambda ps bd sc pos) X.env) Q E s := by
  refine PySem.W.kdv_lam (by rw [nd]; rfl) nk ?_
  rw [nd]
  refine PySem.W.kdv_all1 ?_
  refine wpAny_Constant_int (PySem.W.kdv_all0 ?_)
  -- the default stands
  have away : ∀ y, s.heap.objs.size ≤ y → y ∉ frs X.stack := by
    intro y hy z
    rcases List.mem_cons.mp (I.stkSub _ z) with e | e
    · have q := I.lt
      rw [← e] at q
      exact absurd (Nat.lt_of_lt_of_le q hy) (Nat.lt_irrefl _)
    · exact I.nofs hy e
  rw [PySem.makeFunction_eq]
  simp only [List.zip_nil_right, List.filterMap_nil, List.isEmpty_nil, if_true, pure_bind, List.isEmpty_cons, Bool.false_eq_true, if_false]
  refine wpAny_bind (wpAny_newTextTuple ?_)
  have J0 : Inv X pins σ H { s with heap := s.heap.push (PySem.W.kdv_tup [.int n s.toks]), toks := s.toks + 1 } := I.kept fun b o e => Heap.get?_push_of_some _ e
  have d0 : (s.heap.push (PySem.W.kdv_tup [.int n s.toks])).get? s.heap.objs.size = some (PySem.W.kdv_tup [.int n s.toks]) := Heap.get?_push_size _ rfl
  have nD : H s.heap.objs.size = none := I.hok.fresh (Nat.le_refl _)
  have sz0 : s.heap.objs.size ≤ (s.heap.push (PySem.W.kdv_tup [.int n s.toks])).objs.size := by
    rw [Heap.size_push]
    exact Nat.le_succ _
  obtain ⟨tab, atP, okT, amongT⟩ := hT _ mT
  have bk : (s.heap.push (PySem.W.kdv_tup [.int n s.toks])).BuiltinsAt X.mg tb := B.bm.keeps J0.bk
  have hpO : (s.heap.push (PySem.W.kdv_tup [.int n s.toks])).get? tb = some { cls := .none, data := .fields tab } := J0.hok tb _ atP
  have neD : s.heap.objs.size ≠ tb := fun z => by rw [← z, nD] at atP; cases atP
  cases q : codeAmong pos tab.toList with
  | some cv =>
    obtain ⟨cl, rfl, hcl⟩ := amongT pos cv q
    refine PySem.W.kdv_makeTailHit (mg := X.mg) (c := co) (P := tb) (ps := tab) (closure_ok fr) J0.ok.glob (J0.mod.glob.keeps J0.bk) ec (B.code.keeps J0.bk) hpO okT q bk ?_
    intro ctv doc h' tk keep sz
    have J : Inv X pins σ H { s with heap := h'.push (lamOD (X.env.qual ++ "<lambda>") ps bd sc (cloFrom X.env.cells sc.names []) s.heap.objs.size doc ((X.mg "__name__").getD .none) cl ctv), toks := tk } :=
      I.kept fun b o e => Heap.get?_push_of_some _ (keep b o (Heap.get?_push_of_some _ e))
    exact go _ cl s.heap.objs.size _ _ doc ctv H _ J (ExtN.refl H) (fun _ n => n) hT (Heap.get?_push_size _ rfl) (I.hok.fresh (Nat.le_trans sz0 sz)) (away _ (Nat.le_trans sz0 sz)) (Heap.get?_push_of_some _ (keep _ _ d0)) nD (away _ (Nat.le_refl _)) hcl
  | none =>
    refine PySem.W.kdv_makeTail (mg := X.mg) (c := co) (P := tb) (ps := tab) (closure_ok fr) J0.ok.glob (J0.mod.glob.keeps J0.bk) ec (B.code.keeps J0.bk) hpO okT q B.gP bk ?_
    intro cl ctv doc h' tk ext le lt rec inT
    have le : (s.heap.push (PySem.W.kdv_tup [.int n s.toks])).objs.size ≤ cl := le
    obtain ⟨c2, oc, vs, t, e2, hoc, hd, hv⟩ := rec
    cases e2
    have sz : s.heap.objs.size ≤ h'.objs.size := Nat.le_trans (Nat.le_trans sz0 le) (Nat.le_of_lt lt)
    have le0 : s.heap.objs.size ≤ cl := Nat.le_trans sz0 le
    have nC : H cl = none := I.hok.fresh le0
    have J := inv_table (t' := tk) (more := #[rawInt pos.line, rawInt pos.col, .ref cl]) (h' := h'.push (lamOD (X.env.qual ++ "<lambda>") ps bd sc (cloFrom X.env.cells sc.names []) s.heap.objs.size doc ((X.mg "__name__").getD .none) cl ctv)) I atP
      (fun b o n e => Heap.get?_push_of_some _ (ext b o n (Heap.get?_push_of_some _ e))) (Heap.get?_push_of_some _ inT) le0 ⟨oc, vs, t, Heap.get?_push_of_some _ hoc, hd, hv⟩
    have key : ∀ b, b ≠ cl → b ≠ tb → (upd (upd H tb (.tbl (tab ++ #[rawInt pos.line, rawInt pos.col, .ref cl]))) cl (CodeO cl (X.env.qual ++ "<lambda>"))) b = H b := fun b n1 n2 => by rw [upd_ne n1, upd_ne n2]
    have EN : ExtN H (upd (upd H tb (.tbl (tab ++ #[rawInt pos.line, rawInt pos.col, .ref cl]))) cl (CodeO cl (X.env.qual ++ "<lambda>"))) := fun b o e nt => by
      rw [key b (ne_of_none e nC) fun z => nt tab (by rw [z, atP] at e; exact (Option.some.inj e).symm)]
      exact e
    have TT : Tabs T (upd (upd H tb (.tbl (tab ++ #[rawInt pos.line, rawInt pos.col, .ref cl]))) cl (CodeO cl (X.env.qual ++ "<lambda>"))) := fun p hp => by
      by_cases hb : p.1 = tb
      · rw [uT p hp hb, hb]
        have l3 : (tab ++ #[rawInt pos.line, rawInt pos.col, .ref cl]).toList = tab.toList ++ [rawInt pos.line, rawInt pos.col, .ref cl] := by simp
        refine ⟨_, by rw [upd_ne (ne_of_none atP nC), upd_same], by rw [l3]; exact PySem.TriplesOk_snoc _ _ _ _ okT, ?_⟩
        intro p' cv hcv
        rw [l3] at hcv
        rcases among_app _ okT hcv with z | z
        · obtain ⟨c0, e1, e2⟩ := amongT p' cv z
          exact ⟨c0, e1, EN _ _ e2 codeO_ne⟩
        · exact ⟨cl, z, upd_same⟩
      · obtain ⟨tab', a1, a2, a3⟩ := hT p hp
        refine ⟨tab', by rw [key _ (ne_of_none a1 nC) hb]; exact a1, a2, fun p' cv hcv => ?_⟩
        obtain ⟨c0, e1, e2⟩ := a3 p' cv hcv
        exact ⟨c0, e1, EN _ _ e2 codeO_ne⟩
    have fresh : ∀ b, s.heap.objs.size ≤ b → b ≠ cl → b ≠ tb → (upd (upd H tb (.tbl (tab ++ #[rawInt pos.line, rawInt pos.col, .ref cl]))) cl (CodeO cl (X.env.qual ++ "<lambda>"))) b = none := fun b hb n1 n2 => by
      rw [key b n1 n2]
      exact I.hok.fresh hb
    have neC : s.heap.objs.size ≠ cl := Nat.ne_of_lt (Nat.lt_of_lt_of_le (by rw [Heap.size_push]; exact Nat.lt_succ_self _) le)
    refine go _ cl s.heap.objs.size _ _ doc ctv _ _ J EN (fun b n => ?_) TT (Heap.get?_push_size _ rfl) ?_ (away _ sz) (Heap.get?_push_of_some _ (ext _ _ neD d0)) (fresh _ (Nat.le_refl _) neC neD) (away _ (Nat.le_refl _)) upd_same
    · by_cases z1 : b = cl
      · rw [z1, upd_same]; simp
      · by_cases z2 : b = tb
        · rw [upd_ne z1, z2, upd_same]; simp
        · rw [key b z1 z2]; exact n
    · exact fresh _ sz (Nat.ne_of_gt lt) (Nat.ne_of_gt (Nat.lt_of_lt_of_le (Heap.lt_size hpO) (Nat.le_trans le (Nat.le_of_lt lt))))
/-- x() in the def that got such a lambda -/
theorem pe_actD {Cg : CXT} {Eg : XK} {Ng : List Str} {qg : Str} {sg : Scope} {g fl cl D0 : Addr} {cdg pm doc ctv u : Value} {ps : Arguments} {bd : Expr} {sc : Scope} {k i : Nat} {a y : Str} {pn : List (Addr × Obj)} {xe : Value → Shared → Prop} {W : WX} {t : XK → TE} {p1 p2 : Pos}
    (I : Inv X pins σ H s) (LS : LamD X.env.scope sc y) (ny : y ∉ X.N) (ho : s.heap.get? fl = some (lamOD (X.env.qual ++ "<lambda>") ps bd sc (cloFrom X.env.cells sc.names []) D0 doc pm cl ctv)) (hn : H fl = none) (hfr : fl ∉ frs X.stack)
    (ho2 : s.heap.get? D0 = some (PySem.W.kdv_tup [u])) (hn2 : H D0 = none) (hfr2 : D0 ∉ frs X.stack)
    (hb : ∀ s' : Shared, s'.heap.get? D0 = some (PySem.W.kdv_tup [u]) → BindsTo s' (PySem.W.kdv_fn "<lambda>" (X.env.qual ++ "<lambda>") ps (.expr bd) sc (cloFrom X.env.cells sc.names []) (.ref D0) doc pm (.ref cl) ctv) ⟨[], []⟩ [(y, u)])
    (tk : Takes ((cxOf Cg X.prog X.w X.K X.mg X.base Ng qg sg g cdg X.A X.stack s H Eg).tr pn xe) W) (hr : Room (k + 1) (X.A.deeper (envOfC qg sg s.heap.objs.size g cdg))) (hgd : X.A.guards = some [])
    (hB : ∀ (A : Around) (outer : List PySem.Env) (s : Shared) (H : Hp) (E : XK), Room k (A.deeper (lamEnv X sc s.heap.objs.size fl cl)) → A.guards = some [] → PE (lamCx X A outer s H E sc fl cl) bd (t E))
    (hN : Ng[i]? = some a) (hv : Vis sg a) (hd : (a == ("__debug__" : Str)) = false := by decide) (hcd : (a == ("__classdict__" : Str)) = false := by decide) :
    PE ((cxOf Cg X.prog X.w X.K X.mg X.base Ng qg sg g cdg X.A X.stack s H Eg).tr pn xe) (.Call (.Name a p1) [] [] p2)
      (fun τ HZ Q => τ[i]? = some (some (.ref fl)) ∧ HZ cl = some (CodeO cl (X.env.qual ++ "<lambda>")) ∧ t (WE W τ) σ HZ Q) := by
  constructor
  rintro pz sz τ HZ Q IZ ⟨hs, hc, ht⟩
  have pv1 := (pe_var (X := (cxOf Cg X.prog X.w X.K X.mg X.base Ng qg sg g cdg X.A X.stack s H Eg).tr pn xe) (pos := p1) (i := i) hN hv hd hcd).run pz sz τ HZ (fun v H1 => v = .ref fl ∧ H1 = HZ) IZ ⟨.ref fl, hs, rfl, rfl⟩
  refine wpAny_Call_Name_kw (thn pv1 ?_)
  rintro u1 s1 ⟨v, H1, J1, rv, rfl, rfl⟩
  have eu : u1 = Value.ref fl := rv
  subst eu
  have nofl : ∀ b : Addr, b ∉ ([] : List Addr) := by simp
  have g1 := J1.base.keep fl _ ho hn hfr (nofl _)
  have g2 := J1.base.keep D0 _ ho2 hn2 hfr2 (nofl _)
  refine PySem.W.callWith_F0 ⟨_, _, _, _, g1⟩ ?_
  have un : Un (frs X.stack) [] H H1 s.heap s1.heap := J1.base
  have cdo := J1.hok cl _ hc
  obtain ⟨⟨oc, vs, tq, hoc, hdc, hvc⟩, -, -⟩ := cdo
  refine wpAny_call (codeAny_mono (R := CR (L2.CX X.prog X.w) (envOfC qg sg s.heap.objs.size g cdg :: X.stack) X.prog X.w H1 s1 Q (WE W τ)) ?_ ?_)
  · refine PySem.W.kla_callFunE hr.depth g1 rfl LS.co LS.gen rfl ⟨cl, oc, vs, tq, rfl, hoc, hdc, hvc⟩ ?_
    rw [List.append_nil]
    refine hb s1 g2 _ _ _ _ ?_
    have lV : ∀ z ∈ ([(y, u)] : List (Str × Value)), sc.names.lookup z.1 = some .local := fun z hz => by
      rw [List.mem_singleton] at hz
      rw [hz]
      exact LS.loc
    refine wpAny_newFunctionEnv (fun z hz => (LS.own z hz).2) lV (fun h₁ hns hsb => ⟨J1.nolimit.fresh _ hsb, ?_⟩) LS.kind
    have kp : ∀ b o, s1.heap.get? b = some o → h₁.get? b = some o := by
      intro b o e
      exact hsb.extBut b o (Nat.ne_of_lt (Heap.lt_size e)) (Heap.get?_push_of_some _ e)
    have J := lam_startD (tk := s1.toks + ([(y, u)] : List (Str × Value)).length) (E := WE W τ) (fl := fl) (cl := cl) I LS ny J1.env0 hr.hd un hns kp
    refine PySem.W.kla_codeExpr (wpAny_mono ((hB _ _ s1 H1 (WE W τ) (hr.deeper _) hgd).run [] _ _ H1 Q J ht) ?_ fun e s' hq => hq)
    rintro v s' ⟨w', H', J', rv, q⟩
    exact ⟨w', H', J'.os, J'.bare, J'.base, J'.hok, rv, q⟩
  · intro r s' hq
    cases r with
    | error e => exact passAt tk τ pz H1 s1 e s' J1 hq
    | ok fo =>
      cases fo with
      | ret u => exact J1.after hq
      | next => exact False.elim hq
      | brk => exact False.elim hq
      | cont => exact False.elim hq
end
section
variable {L : Lx} {X : Cx}
theorem de_lamcallD {mt : M D → M D} {x a y : Str} {g co tb : Addr} {fd : FuncData} {k j : Nat} {n : Int} {dp : Pos} {Ng : List Str} {st : Stmt} {ps : Arguments} {bd : Expr} {sc : Scope} {i : IE} {p lpos pos : Pos} (T : Told L X.prog X.w X.mg X.base (k + 1) g x Ng st a mt) (F : Fun L.K x x st g fd) (S : FnScope Ng [a] (defScope st)) (hK : X.K = L.K)
    (gl : Gl X x) (hm : X.mg x = some (.ref g)) (kp : PySem.W.keepIn X.K (.ref g) = true) (bi : L2.Binds X.K fd [a] []) (h0 : Ng[0]? = some a) (va : Vis (defScope st) a) (B : TabB X.base X.mg co tb) (ec : X.env.code = .ref co) (mT : (tb, X.env.qual ++ "<lambda>") ∈ L.T) (uT : ∀ p ∈ L.T, p.1 = tb → p.2 = X.env.qual ++ "<lambda>")
    (hr : Room (k + 2) X.A) (hgd : X.A.guards = some []) (LS : LamD X.env.scope sc y) (ny : y ∉ X.N) (nd : ps.defaults = [.Constant (.int n) j dp]) (nk : ps.kw_defaults = [])
    (hbind : ∀ (q : Str) (cs : List (Str × Addr)) (D0 : Addr) (u doc pm cv ctv : Value) (s' : Shared), s'.heap.get? D0 = some (PySem.W.kdv_tup [u]) → BindsTo s' (PySem.W.kdv_fn "<lambda>" q ps (.expr bd) sc cs (.ref D0) doc pm cv ctv) ⟨[], []⟩ [(y, u)])
    (hB : ∀ (A : Around) (outer : List PySem.Env) (s : Shared) (H : Hp) (E : XK) (fl cl : Addr), Room k (A.deeper (lamEnv X sc s.heap.objs.size fl cl)) → A.guards = some [] → DE L (lamCx X A outer s H E sc fl cl) i bd)
    (hdb : (x == ("__debug__" : Str)) = false := by decide) (hd : (a == ("__debug__" : Str)) = false := by decide) (hcd : (a == ("__classdict__" : Str)) = false := by decide) :
    DE L X (iTold mt i) (.Call (.Name x p) [.Lambda ps bd sc lpos] [] pos) := fun W tk => by
  constructor
  rintro pins s σ H Q I ⟨Γ, g0, rp, w⟩
  obtain ⟨oc, od, kV, doc, pm, an, cdv, ct, osl, rfl, lk, hcg⟩ := F.ex
  refine wpAny_Call_Name_kw (ld_glob I gl hm (PySem.W.callWith_K (h₀ := X.base) I.ok.mod.kin kp ?_ (by rfl) (by rfl)) hdb)
  refine Calls.spliced_cons (lam_makeD I B ec mT uT rp.tab.1 nd nk (LS.has I.ok) ?_)
  intro fl cl D0 u pm' doc' ctv H1 s' J en nf T1 ho hn hfr ho2 hn2 hfr2 hco
  refine Calls.spliced_nil ⟨J.kIn, ?_⟩
  have st1 : Stp L g0 H g0 H1 := rp.ext en nf T1 g0.nt
  have rp1 := rp.step st1
  have w1 : (mt (i Γ)).wpB g0.bud (Wn L DenT g0 H1 Q) (fun _ _ => False) := M.wpB_mono (fun d b k v g' H' s2 e t => k v g' H' (st1.trans s2) e t) (fun _ _ x => x) _ _ (M.noX_any w)
  refine wpAny_call (codeAny_mono (R := CR C8.CX0 X.stack X.prog X.w H1 s' Q C8.E0) ?_ ?_)
  · refine run_ofS (N := Ng) (ps := [a]) (us := [.ref fl]) (vs := [.ref fl]) (hK ▸ lk) (hK ▸ hcg) S hr J.env0 (bi s' [.ref fl] J.kIn rfl) (.cons rfl .nil) rfl fun hr' => ?_
    have act : ∀ p1 p2, Act L (toldCx X.prog X.w L.K X.mg X.base Ng x st g cdv X.A X.stack s' H1) g0 H1 fl cl (X.env.qual ++ "<lambda>") (i Γ) (.Call (.Name a p1) [] [] p2) := by
      intro p1 p2 W' pn xe tk'
      rw [← hK] at tk' ⊢
      refine PE.imp (pe_actD (k := k) (t := fun E => Rd1 L DenT (fun cls d _ H => E cls d H) i) (i := 0) J LS ny ho hn hfr ho2 hn2 hfr2 (fun s2 e => hbind _ _ _ _ _ _ _ _ s2 e) tk' hr' hgd (fun A outer s H E hr2 hg2 => hB A outer s H E fl cl hr2 hg2 _ takes_lam) h0 va hd hcd) ?_
      rintro τ HZ Q' ⟨h1, h2, g1, s1, w2⟩
      exact ⟨h1, h2, Γ, g1, rp1.step s1, w2⟩
    obtain ⟨t, ht, hq⟩ := T.go cdv X.A X.stack s' H1 fl cl _ Q (i Γ) Γ g0 σ hr' hgd rp1 hco act w1
    rw [← hK] at ht
    exact ⟨t, ht.nox, hq⟩
  · intro r s2 hq
    cases r with
    | error e => exact (show False from hq).elim
    | ok fo =>
      cases fo with
      | ret u => exact J.after hq
      | next => exact False.elim hq
      | brk => exact False.elim hq
      | cont => exact False.elim hq
end
end DL
/-! Methods without keywords; == of own classes. -/
namespace DL
open PySem PySem.Spec PyProof.Rows L2
section
variable {L : Lx} {X : Cx} {g g' : Gh} {H H' : Hp} {σ : L2.St} {Γ : Env} {W : WX} {pos : Pos} {i j : IE} {a b : Expr}
theorem cal_fn {k n : Nat} {f : Addr} {fd : FuncData} {ps : List Str} {m : List D → M D} (F : FG L X.prog X.w X.mg X.base k f fd ps m) (hK : X.K = L.K) (hr : Room k X.A) (hgd : X.A.guards = some []) (bi : L2.Binds X.K fd ps []) (hn : n = ps.length) : CalG L X (.ref f) n [] m := by
  intro W pins s σ H Γ g us ws vs zs ds es Q tk I r rz l1 l2 rp l lz w
  obtain rfl : ws = [] := List.length_eq_zero_iff.mp l2
  cases rz
  cases lz
  rw [List.append_nil] at w
  have hl : us.length = ps.length := l1.trans hn
  have b := bi s us I.kIn (by rw [List.append_nil]; exact hl)
  rw [List.append_nil] at b
  exact call_fg (run_fg F hK hr hgd tk I r b hl (spd_of rp l w)) rfl
theorem rep_any {τ : L2.St} (r : Rep L Γ g τ H) : Rep L (List.replicate σ.length none) g σ H := by
  have no : ∀ (i : Nat) (b : B), (List.replicate σ.length (none : Option B))[i]? = some (some b) → False := fun i b e => by
    rw [List.getElem?_replicate] at e
    split at e <;> cases e
  exact ⟨r.sub, r.rnd, r.tab, fun i b e => (no i b e).elim, fun i j b c p e1 => (no i b e1).elim, r.nF, by rw [List.length_replicate]⟩
/-- what == of an own class is asked with -/
def eqTo (c : Nat) : D → Bool
  | .ins c' _ => decide (c' = c)
  | .tup _ => true
  | _ => false
def eqM (c : Nat) (m : List D → M D) (x y : D) : M D := match x with
  | .ins c' ds => if c' = c ∧ eqTo c y = true then ((m [.ins c' ds, y]).noX).bind fun d => match d with
    | .bl b => .ret (.bl b)
    | _ => .stuck else .stuck
  | _ => .stuck
def iEqM (c : Nat) (m : List D → M D) (i j : IE) : IE := fun Γ => (i Γ).bind fun x => (j Γ).bind fun y => eqM c m x y
def rdM (L : Lx) (c : Nat) (m : List D → M D) : R2 := fun x y H Q => ∃ Γ g σ dx dy, Rep L Γ g σ H ∧ Den L g x dx ∧ Den L g y dy ∧ (eqM c m dx dy).wpB g.bud (Wn L DenT g H Q) (fun _ _ => False)
structure EqOk (L : Lx) (c : Nat) (f : Addr) : Prop where
  fnd : PySem.W.findIn L.K (.ref (L.cA c)) "__eq__" = some (some (.ref f))
  fn : PySem.W.isFn L.K (.ref f) = true
  tup : PySem.W.notFirst L.K (L.cA c) (.type "tuple") = true
theorem op_eqM {c : Nat} {m : List D → M D} {f : Addr} (ok : EqOk L c f) (cg : CalG L X (.ref f) 2 [] m) (hK : X.K = L.K) (hu : X.A.units < cLine) : OpR X (compareOp .Eq) (rdM L c m) := by
  intro pins s σ H x y v u Q I rx ry ⟨Γ, g, σ', dx, dy, rp, tx, ty, w⟩
  show wpAny (model X.prog X.w) X.A (richCompare .Eq v u) (EP X pins σ Q) X.xe s
  unfold eqM at w
  split at w
  · rename_i c' ds
    split at w
    · rename_i hc
      obtain ⟨rfl, hy⟩ := hc
      have tx' := tx
      generalize hd : D.ins c' ds = dd at tx
      cases tx with
      | @ins ad cn dxx n vs ds' e1 e2 e3 =>
        obtain ⟨rfl, rfl⟩ := D.ins.inj hd
        have hA := rp.sub _ _ e1
        have rx' : v = Value.ref ad := rx
        subst rx'
        obtain ⟨mA, J, _⟩ := ins_get I.hok hA
        obtain ⟨od, J, _⟩ := J.look
        obtain ⟨mF, hF⟩ := I.fr
        have lk : ∃ tb, PySem.W.Looks (model X.prog X.w) s.heap (typeOf u) tb ∧ PySem.W.notFirst X.K (L.cA c') tb = true := by
          have ty' := ty
          cases ty with
          | @ins bd cn2 dxy n2 vs2 ds2 f1 f2 f3 =>
            have e : n2 = c' := of_decide_eq_true hy
            subst e
            obtain ⟨mB, J', _⟩ := ins_get I.hok (rp.sub _ _ f1)
            obtain ⟨od', J', _⟩ := J'.look
            have ry' : u = Value.ref bd := ry
            subst ry'
            exact ⟨_, J'.type, by simp [PySem.W.notFirst]⟩
          | @tup bd vs2 ds2 f1 f2 =>
            have ry' : u = Value.ref bd := ry
            subst ry'
            refine ⟨.type "tuple", ?_, hK ▸ ok.tup⟩
            have cls : ∃ o, s.heap.get? bd = some o ∧ o.cls = .type "tuple" := by
              rcases f1 with e | ⟨o, its, n3, k1, k2, k3, _⟩ | ⟨o, e, kc, _⟩
              · obtain ⟨_, its, _, ob, k1, k2, _⟩ := (show ObjOk X.prog X.w H s.heap bd (.tup vs2) from I.hok bd _ (rp.sub _ _ e.2))
                exact ⟨ob, k1, k2⟩
              · exact ⟨o, I.kIn _ _ (hK ▸ k1), k2⟩
              · obtain ⟨k1, _⟩ := (show ObjOk X.prog X.w H s.heap bd (.frz o (.tup vs2)) from I.hok bd _ (rp.sub _ _ e))
                exact ⟨o, k1, kc⟩
            obtain ⟨o, k1, k2⟩ := cls
            exact fun A Q E s k q => wpAny_typeOf_ref (k _ _ k1) (by rw [k2]; exact q)
          | _ => cases hy
        obtain ⟨tb, lk, nf⟩ := lk
        refine PySem.W.cmp_K (op := .Eq) (tb := tb) hu hF I.ok.mod.kin J lk nf (hK ▸ ok.fnd) (hK ▸ ok.fn) ?_
        have run := cg (fun _ _ _ _ => False) pins s σ H (List.replicate σ.length none) g [.ref ad, u] [] [.ref ad, y] [] [.ins c' ds, dy] [] (fun v H' => ∃ b, v = .bl b ∧ Q v H') L2.takes0 I (.cons rfl (.cons ry .nil)) .nil rfl rfl
        have w1 : (m ([.ins c' ds, dy] ++ [])).wpB g.bud (Wn L DenT g H fun v H' => ∃ b, v = .bl b ∧ Q v H') (XW L (fun _ _ _ _ => False) g σ H) := by
          rw [List.append_nil]
          refine M.wpB_mono (fun d b k => ?_) (fun _ _ x => x) _ _ (M.wpB_noX (E' := XW L (fun _ _ _ _ => False) g σ H) _ _ ((M.wpB_bind _ _).mp w))
          cases d with
          | bl bb =>
            intro v2 g2 H2 s2 e t2
            cases t2
            exact ⟨bb, rfl, k _ g2 H2 s2 e (.bl bb)⟩
          | _ => exact k.elim
        refine wpAny_mono (run (rep_any rp) (.cons tx' (.cons ty .nil)) .nil w1) (fun r s2 hq => ?_) fun _ _ z => z
        obtain ⟨v2, H2, I2, r2, bb, ev, q⟩ := hq
        subst ev
        have er : r = Value.bool bb := r2
        subst er
        exact ⟨.bl bb, H2, I2, rfl, q⟩
      | _ => cases hd
    · exact w.elim
  · exact w.elim
theorem noX_false {α : Type} {Q : α → Nat → Prop} {E : Ex → Nat → Prop} : ∀ {m : M α} {b : Nat}, m.noX.wpB b Q E → m.noX.wpB b Q (fun _ _ => False)
  | .ret _, _, h => h
  | .exc _, _, h => h.elim
  | .stuck, _, h => h
  | .choose _ _, 0, h => h.elim
  | .choose _ k, b + 1, h => fun i hi => noX_false (m := k i) (b := b) (h i hi)
  | .begun k, _, h => ⟨h.1, noX_false (m := k) (b := lim) h.2⟩
theorem iEqM_read {c : Nat} {m : List D → M D} {Q : VK} (h : Rd1 L DenT W (iEqM c m i j) σ H Q) : tOp (rdM L c m) (Rd1 L DenT W i) (Rd1 L DenT W j) σ H Q := by
  obtain ⟨Γ, g, rp, w⟩ := h
  refine Rd1.go rp w fun x H1 dx g1 r1 s1 t1 w => Rd1.go r1 w fun y H2 dy g2 r2 s2 t2 w => ?_
  refine ⟨Γ, g2, σ, dx, dy, r2, t1.mono s2.le s2.mu, t2, ?_⟩
  have key : (eqM c m dx dy).wpB g2.bud (fun d b => ∀ v g' H', Stp L g2 H2 g' H' → g'.bud = b → Den L g' v d → Q v H') (fun _ _ => False) := by
    have w2 := M.wpB_mono (Q' := fun d b => ∀ v g' H', Stp L g2 H2 g' H' → g'.bud = b → Den L g' v d → Q v H') (fun d b k v g' H' s e t => k v g' H' (s1.trans (s2.trans s)) e t) (fun _ _ x => x) _ _ w
    cases dx with
    | ins c' ds =>
      unfold eqM at w2 ⊢
      simp only at w2 ⊢
      split
      · rename_i hc
        rw [if_pos hc] at w2
        refine (M.wpB_bind _ _).mpr (M.wpB_mono (fun d b k => ?_) (fun _ _ x => x) _ _ (noX_false ((M.wpB_bind _ _).mp w2)))
        cases d with
        | bl bb => exact k
        | _ => exact k.elim
      · rename_i hc
        rw [if_neg hc] at w2
        exact w2.elim
    | _ => exact w2.elim
  exact key
/-- x == y, x of an own class -/
theorem de_eqM {c : Nat} {m : List D → M D} {f : Addr} (ok : EqOk L c f) (cg : CalG L X (.ref f) 2 [] m) (hK : X.K = L.K) (hu : X.A.units < cLine) (ha : DE L X i a) (hb : DE L X j b) (hm : behindInMarks .Eq b = false) : DE L X (iEqM c m i j) (.Compare a [.Eq] [b] pos) := fun W tk =>
  PE.imp (pe_cmpR (op_eqM ok cg hK hu) (ha W tk) (hb W tk) hm) fun σ H Q h => iEqM_read h
theorem dt_eqM {c : Nat} {m : List D → M D} {f : Addr} (ok : EqOk L c f) (cg : CalG L X (.ref f) 2 [] m) (hK : X.K = L.K) (hu : X.A.units < cLine) (ha : DE L X i a) (hb : DE L X j b) (hm : behindInMarks .Eq b = false) : DT L X (asB (iEqM c m i j)) (.Compare a [.Eq] [b] pos) := fun W tk => by
  refine PT.imp (pt_cmpR (op_eqM ok cg hK hu) (ha W tk) (hb W tk) hm) fun σ H Q ⟨Γ, g, r, w⟩ => iEqM_read ⟨Γ, g, r, M.wpB_mono (fun d b k v g' H' s e t => ?_) (fun _ _ x => x) _ _ ((M.wpB_bind _ _).mp w)⟩
  cases d with
  | bl c =>
    cases t
    exact ⟨c, rfl, k g' H' s e⟩
  | _ => exact k.elim
end
end DL
/-! Words for the generated texts with lambdas. -/
namespace DL
open PySem PySem.Spec PyProof.Rows L2
theorem u0 {k : Nat} {A : Around} (hr : Room k A) : A.units < cLine := by have := hr.un; omega
theorem code_of {K : PySem.W.Frag} {x qual : Str} {ps : Arguments} {body : List Stmt} {sc : Scope} {fd : FuncData} {p : He.Defn} (F : FunD K x qual ps body sc [] [] (He.fAd K p) fd) : fd.code = .ref (He.cT K p).1 := by
  obtain ⟨oc, od, dV, kV, doc, pm, an, cdv, ct, osl, rfl, lk, hcd, _⟩ := F.ex
  obtain ⟨c, rfl⟩ := He.codeIn_ref hcd
  have e : He.codeOf K p = c := He.codeOf_eq lk rfl
  show Value.ref c = .ref (He.codeOf K p)
  rw [e]
/-- the name of a lambda's code in the def x -/
abbrev lamQ (x : Str) : Str := (x ++ ".<locals>.") ++ "<lambda>"
end DL
/-! A text in a tuple of any things; x is True for any x. -/
namespace PySem.SeqAt
open PySem PySem.Spec PyProof.Rows AutoSeq1 MeetsSeq
theorem dict_eq_no_str (l : Addr) (es : Array DictEntry) (n : Nat) (dd : Option Addr) (sl : Array (Option Value)) (b : Str) (u : Tok) :
    Meets (Builtin.«dict.__eq__» ⟨[.ref l, .str b u], []⟩) (fun _ R s => s.heap.get? l = some { cls := .type "dict", dict := dd, data := .dict es n, slots := sl } ∧ R (.ok (.ret .notImplemented)) s) :=
  .of_wp fun prog w A R s h => by
    obtain ⟨hp, g, d, tk, os⟩ := s
    obtain ⟨hl, h⟩ := h
    have f1 := F.sub_str_dict
    wp_walk using wpAny_loadPart' hl
    exact ⟨_, rfl, h⟩
theorem str_eq_no_dict (b : Str) (u : Tok) (l : Addr) (es : Array DictEntry) (n : Nat) (dd : Option Addr) (sl : Array (Option Value)) :
    Meets (Builtin.«str.__eq__» ⟨[.str b u, .ref l], []⟩) (fun _ R s => s.heap.get? l = some { cls := .type "dict", dict := dd, data := .dict es n, slots := sl } ∧ R (.ok (.ret .notImplemented)) s) :=
  .of_wp fun prog w A R s h => by
    obtain ⟨hp, g, d, tk, os⟩ := s
    obtain ⟨hl, h⟩ := h
    wp_walk using wpAny_loadPart' hl, wpAny_load hl
    exact ⟨_, rfl, h⟩
section
variable {A : Around} {s : Shared}
theorem RcAt.dict_str' {l : Addr} {es : Array DictEntry} {n : Nat} {dd : Option Addr} {sl : Array (Option Value)} (b : Str) (u : Tok) (ho : s.heap.get? l = some { cls := .type "dict", dict := dd, data := .dict es n, slots := sl }) (hu : A.units < cLine) : RcAt A s (.ref l) (.str b u) false := by
  intro prog w E Q h
  refine rc_eq_decline_or (k := false) ⟨_, ho, rfl⟩ (typeIs_str s b u) (by decide) F.sub_str_dict F.slot_dict_eq F.slot_str_eq_refl ?_ ?_ ?_ (.inr hu) h
  · exact fun _ hq => call_meets F.slot_dict_eq ⟨_, ho, rfl⟩ F.entry_dict_eq (F.args_dict_eq_2 _ _) (dict_eq_no_str l es n dd sl b u) ⟨ho, hq⟩
  · exact fun _ hq => call_meets F.slot_str_eq_refl (typeIs_str s b u) F.entry_str_eq (F.args_str_eq_2 _ _) (str_eq_no_dict b u l es n dd sl) ⟨ho, hq⟩
  · exact fun _ hq => wpAny_of_eq (rfl : isSame (.ref l) (.str b u) = pure false) hq
theorem EqAt.dict_str' {l : Addr} {es : Array DictEntry} {n : Nat} {dd : Option Addr} {sl : Array (Option Value)} (b : Str) (u : Tok) (ho : s.heap.get? l = some { cls := .type "dict", dict := dd, data := .dict es n, slots := sl }) (hu : A.units < cLine) : EqAt A s (.ref l) (.str b u) false := by
  intro prog w E Q h
  unfold eqBool
  refine wpAny_holding (wpAny_ite_split (fun hab => absurd (eq_of_beq hab) nofun) fun _ => ?_)
  exact wpAny_bind (RcAt.dict_str' b u ho hu prog w E _ (wpAny_truthy_bool h))
end
end PySem.SeqAt
namespace DL
open PySem PySem.Spec PyProof.Rows L2
/-- things that a text is compared with -/
def anyD : D → Bool
  | .non | .bl _ | .int _ | .str _ | .tup _ | .lst _ | .dct _ _ => true
  | _ => false
def isTx (z : Str) : D → Bool
  | .str w => decide (w = z)
  | _ => false
def fInT (neg : Bool) : D → D → Option D
  | .str z, .tup ds => if ds.all anyD then some (.bl (if neg then !ds.any (isTx z) else ds.any (isTx z))) else none
  | _, _ => none
def eTx (z : Str) : Value → Bool
  | .str w _ => decide (w = z)
  | _ => false
section
variable {L : Lx} {X : Cx} {g : Gh} {H : Hp} {σ : L2.St}
theorem eq_any {pins : List (Addr × Obj)} {s : Shared} {A : Around} {v : V} {y : Value} {d : D} {z : Str} {u : Tok} (hK : X.K = L.K) (I : Inv X pins σ H s) (sub : ∀ a o, g.F a = some o → H a = some o) (hu : A.units < cLine) (t : Den L g v d) (r : RelV v y) (ha : anyD d = true) : SeqAt.EqAt A s y (.str z u) (eTx z y) ∧ eTx z y = isTx z d := by
  have key : ∀ {a : Addr} {b : Bool}, y = .ref a → SeqAt.EqAt A s (.ref a) (.str z u) false → isTx z d = false → SeqAt.EqAt A s y (.str z u) (eTx z y) ∧ eTx z y = isTx z d := by
    intro a b e h1 h2
    subst e
    exact ⟨h1, h2.symm⟩
  have td := t
  cases t with
  | non => cases (show y = Value.none from r); exact ⟨SeqAt.EqAt.none_str z u, rfl⟩
  | bl b => cases (show y = Value.bool b from r); exact ⟨SeqAt.EqAt.bool_str b z u, rfl⟩
  | int i => obtain ⟨t, rfl⟩ := r; exact ⟨SeqAt.EqAt.int_str i t z u, rfl⟩
  | str w =>
    obtain ⟨t, rfl⟩ := r
    have e : (w == z) = decide (w = z) := by by_cases h : w = z <;> simp [h]
    refine ⟨?_, rfl⟩
    show SeqAt.EqAt A s (.str w t) (.str z u) (decide (w = z))
    rw [← e]
    exact SeqAt.EqAt.str_str w t z u
  | @tup a vs ds e l =>
    have hq : SqT X.K H a vs := hK ▸ sqT_mono sub e.sq
    obtain ⟨its, _, pl, _⟩ := I.tuple hq
    exact key (b := false) r (SeqAt.EqAt.tuple_str z u pl hu) rfl
  | @lst a vs ds e l =>
    obtain ⟨_, its, n, _, ho⟩ := (show ObjOk X.prog X.w H s.heap a (.lst vs) from I.hok a _ (sub _ _ e))
    exact key (b := false) r (SeqAt.EqAt.list_str (items := its.toArray) z u ⟨_, ho, rfl, n, rfl⟩ hu) rfl
  | @dK a ks vs ds e h1 h2 =>
    obtain ⟨_, _, kvs, _, o, es, ep, ho, ⟨c1, _, _⟩, hd, _⟩ := (show ObjOk X.prog X.w H s.heap a (.dK (ks.zip vs)) from I.hok a _ (sub _ _ e))
    obtain ⟨cls, dd, dt, sl⟩ := o
    simp only at c1 hd
    subst c1 hd
    exact key (b := false) r (SeqAt.EqAt.dict_str' z u ho hu) rfl
  | @dT a ks vs ds e h1 h2 =>
    obtain ⟨_, _, kvs, _, o, es, ep, ho, ⟨c1, _, _⟩, hd, _⟩ := (show ObjOk X.prog X.w H s.heap a (.dT (ks.zip vs)) from I.hok a _ (sub _ _ e))
    obtain ⟨cls, dd, dt, sl⟩ := o
    simp only at c1 hd
    subst c1 hd
    exact key (b := false) r (SeqAt.EqAt.dict_str' z u ho hu) rfl
  | _ => cases ha
theorem eq_all {pins : List (Addr × Obj)} {s : Shared} {A : Around} {z : Str} {u : Tok} (hK : X.K = L.K) (I : Inv X pins σ H s) (sub : ∀ a o, g.F a = some o → H a = some o) (hu : A.units < cLine) : ∀ {vs : List V} {its : List Value} {ds : List D}, Vals vs its → DenL L g vs ds → ds.all anyD = true →
    (∀ y ∈ its, SeqAt.EqAt A s y (.str z u) (eTx z y)) ∧ its.any (eTx z) = ds.any (isTx z)
  | _, _, _, .nil, .nil, _ => ⟨fun y h => by simp at h, rfl⟩
  | _, _, _, .cons r rr, .cons t l, h => by
    rw [List.all_cons, Bool.and_eq_true] at h
    obtain ⟨h1, h2⟩ := eq_any (z := z) (u := u) hK I sub hu t r h.1
    obtain ⟨h3, h4⟩ := eq_all (z := z) (u := u) hK I sub hu rr l h.2
    refine ⟨fun y hy => ?_, by rw [List.any_cons, List.any_cons, h2, h4]⟩
    rcases List.mem_cons.mp hy with rfl | hy
    · exact h1
    · exact h3 y hy
theorem od_inT (hK : X.K = L.K) (hu : X.A.units + 1 < cLine) : OpD L X (compareOp .In) (fInT false) ∧ OpD L X (compareOp .NotIn) (fInT true) := by
  constructor
  all_goals
    intro pins st σ H x y v u Q I rx ry ⟨Γ, g, σ', dx, dy, d, rp, vx, vy, e, w⟩
    unfold fInT at e
    split at e
    · rename_i z ds
      split at e
      · rename_i ha
        cases e
        have ex := vx.str
        subst ex
        obtain ⟨t, rfl⟩ := rx
        obtain ⟨a, vs, rfl, h1, l1, _⟩ := vy.tup rp.sub
        cases ry
        obtain ⟨its, r, pl, _⟩ := I.tuple (hK ▸ h1)
        obtain ⟨k1, k2⟩ := eq_all (A := X.A.in1) (z := z) (u := t) hK I rp.sub hu r l1 ha
        have fin : ∀ b : Bool, b = (ds.any (isTx z)) → (∀ k : Bool, Wn L DenT g H Q (.bl k) g.bud → EP X pins σ Q (.bool k) st) := fun b _ k w => ⟨.bl k, H, I, rfl, w _ g H (Stp.refl rp) rfl (.bl k)⟩
        first
          | exact SeqAt.in_tupleAt (eTx z) pl (fun y hy => k1 y (by simpa using hy)) (by rw [show its.toArray.any (eTx z) = ds.any (isTx z) by rw [← k2]; simp]; exact fin _ rfl _ w)
          | exact SeqAt.notIn_tupleAt (eTx z) pl (fun y hy => k1 y (by simpa using hy)) (by rw [show its.toArray.any (eTx z) = ds.any (isTx z) by rw [← k2]; simp]; exact fin _ rfl _ w)
      · cases e
    · cases e
/-- x is True, x of any kind but a truth value -/
def fIsT : D → D → Option D
  | .non, .bl _ | .int _, .bl _ | .str _, .bl _ | .tup _, .bl _ | .lst _, .bl _ | .dct _ _, .bl _ => some (.bl false)
  | _, _ => none
theorem od_isT : OpD L X (compareOp .Is) fIsT := by
  intro pins st σ H x y v u Q I rx ry ⟨Γ, g, σ', dx, dy, d, rp, vx, vy, e, w⟩
  have hy : ∃ b, dy = .bl b ∧ d = .bl false := by
    unfold fIsT at e
    split at e <;> first
      | exact ⟨_, rfl, (Option.some.inj e).symm⟩
      | cases e
  obtain ⟨b, rfl, rfl⟩ := hy
  have ey := vy.bl
  subst ey
  have eu : u = Value.bool b := ry
  subst eu
  have nb : ∀ k, v ≠ Value.bool k := by
    intro k ev
    subst ev
    have hx : x = .bl k := by
      cases x <;> first
        | (cases rx; rfl)
        | (obtain ⟨t, ht⟩ := rx; cases ht)
        | cases rx
    subst hx
    cases dx <;> first
      | (rcases vx with h | ⟨_, _, _, e1, _⟩ | ⟨_, _, _, e1, _⟩ <;> first | (cases h; done) | (cases e1; done))
      | (cases e; done)
  have fin : EP X pins σ Q (.bool false) st := ⟨.bl false, H, I, rfl, w _ g H (Stp.refl rp) rfl (.bl false)⟩
  have pl : plainIs v (.bool b) = true := by
    cases x <;> first
      | (cases rx; rfl)
      | (obtain ⟨t, rfl⟩ := rx; rfl)
  exact wpAny_is_other pl (nb b) fin
def fInX := orD fInA (fInT false)
def fNotInX := orD fNotIn (fInT true)
def fIsX := orD fIs fIsT
theorem od_inX (hK : X.K = L.K) (hu : X.A.units + 65 < cLine) : OpD L X (compareOp .In) fInX := (od_inA hK hu).or (od_inT hK (by omega)).1
theorem od_notInX (hK : X.K = L.K) (hu : X.A.units + 65 < cLine) : OpD L X (compareOp .NotIn) fNotInX := (od_notInA hK hu).or (od_inT hK (by omega)).2
theorem od_isX : OpD L X (compareOp .Is) fIsX := od_is.or od_isT
end
end DL
/-! A thing of any kind in a list or a tuple of texts. -/
namespace PySem.SeqAt
open PySem PySem.Spec PyProof.Rows AutoSeq1 MeetsSeq
section
variable {A : Around} {s : Shared}
theorem RcAt.str_dict' {l : Addr} {es : Array DictEntry} {n : Nat} {dd : Option Addr} {sl : Array (Option Value)} (b : Str) (u : Tok) (ho : s.heap.get? l = some { cls := .type "dict", dict := dd, data := .dict es n, slots := sl }) (hu : A.units < cLine) : RcAt A s (.str b u) (.ref l) false := by
  intro prog w E Q h
  refine rc_eq_decline_or (k := false) (typeIs_str s b u) ⟨_, ho, rfl⟩ (by decide) F.sub_dict_str F.slot_str_eq F.slot_dict_eq_refl ?_ ?_ ?_ (.inr hu) h
  · exact fun _ hq => call_meets F.slot_str_eq (typeIs_str s b u) F.entry_str_eq (F.args_str_eq_2 _ _) (str_eq_no_dict b u l es n dd sl) ⟨ho, hq⟩
  · exact fun _ hq => call_meets F.slot_dict_eq_refl ⟨_, ho, rfl⟩ F.entry_dict_eq (F.args_dict_eq_2 _ _) (dict_eq_no_str l es n dd sl b u) ⟨ho, hq⟩
  · exact fun _ hq => wpAny_of_eq (rfl : isSame (.str b u) (.ref l) = pure false) hq
theorem EqAt.str_dict' {l : Addr} {es : Array DictEntry} {n : Nat} {dd : Option Addr} {sl : Array (Option Value)} (b : Str) (u : Tok) (ho : s.heap.get? l = some { cls := .type "dict", dict := dd, data := .dict es n, slots := sl }) (hu : A.units < cLine) : EqAt A s (.str b u) (.ref l) false := by
  intro prog w E Q h
  unfold eqBool
  refine wpAny_holding (wpAny_ite_split (fun hab => absurd (eq_of_beq hab) nofun) fun _ => ?_)
  exact wpAny_bind (RcAt.str_dict' b u ho hu prog w E _ (wpAny_truthy_bool h))
end
end PySem.SeqAt
namespace DL
open PySem PySem.Spec PyProof.Rows L2
section
variable {L : Lx} {X : Cx} {g : Gh} {H : Hp} {σ : L2.St}
theorem eq_anyR {pins : List (Addr × Obj)} {s : Shared} {A : Around} {v : V} {y : Value} {d : D} {z : Str} {u : Tok} (hK : X.K = L.K) (I : Inv X pins σ H s) (sub : ∀ a o, g.F a = some o → H a = some o) (hu : A.units < cLine) (t : Den L g v d) (r : RelV v y) (ha : anyD d = true) : SeqAt.EqAt A s (.str z u) y (isTx z d) := by
  cases t with
  | non => cases (show y = Value.none from r); exact SeqAt.EqAt.str_none z u
  | bl b => cases (show y = Value.bool b from r); exact SeqAt.EqAt.str_bool z u b
  | int i => obtain ⟨t, rfl⟩ := r; exact SeqAt.EqAt.str_int z u i t
  | str w =>
    obtain ⟨t, rfl⟩ := r
    have e : (z == w) = decide (w = z) := by rw [Bool.eq_iff_iff, beq_iff_eq, decide_eq_true_eq]; exact eq_comm
    show SeqAt.EqAt A s (.str z u) (.str w t) (decide (w = z))
    rw [← e]
    exact SeqAt.EqAt.str_str z u w t
  | @tup a vs ds e l =>
    have hq : SqT X.K H a vs := hK ▸ sqT_mono sub e.sq
    obtain ⟨its, _, pl, _⟩ := I.tuple hq
    cases (show y = Value.ref a from r)
    exact SeqAt.EqAt.str_tuple z u pl hu
  | @lst a vs ds e l =>
    obtain ⟨_, its, n, _, ho⟩ := (show ObjOk X.prog X.w H s.heap a (.lst vs) from I.hok a _ (sub _ _ e))
    cases (show y = Value.ref a from r)
    exact SeqAt.EqAt.str_list (items := its.toArray) z u ⟨_, ho, rfl, n, rfl⟩ hu
  | @dK a ks vs ds e h1 h2 =>
    obtain ⟨_, _, kvs, _, o, es, ep, ho, ⟨c1, _, _⟩, hd, _⟩ := (show ObjOk X.prog X.w H s.heap a (.dK (ks.zip vs)) from I.hok a _ (sub _ _ e))
    obtain ⟨cls, dd, dt, sl⟩ := o
    simp only at c1 hd
    subst c1 hd
    cases (show y = Value.ref a from r)
    exact SeqAt.EqAt.str_dict' z u ho hu
  | @dT a ks vs ds e h1 h2 =>
    obtain ⟨_, _, kvs, _, o, es, ep, ho, ⟨c1, _, _⟩, hd, _⟩ := (show ObjOk X.prog X.w H s.heap a (.dT (ks.zip vs)) from I.hok a _ (sub _ _ e))
    obtain ⟨cls, dd, dt, sl⟩ := o
    simp only at c1 hd
    subst c1 hd
    cases (show y = Value.ref a from r)
    exact SeqAt.EqAt.str_dict' z u ho hu
  | _ => cases ha
theorem eq_vwR {pins : List (Addr × Obj)} {s : Shared} {A : Around} {v : V} {y : Value} {d : D} {z : Str} {u : Tok} (hK : X.K = L.K) (I : Inv X pins σ H s) (sub : ∀ a o, g.F a = some o → H a = some o) (hu : A.units < cLine) (t : Vw L g H v d) (r : RelV v y) (ha : anyD d = true) : SeqAt.EqAt A s (.str z u) y (isTx z d) := by
  rcases t with h | ⟨p, vs, ds, rfl, rfl, hp, _, _⟩ | ⟨p, t, kvs, rfl, rfl, _, hd⟩
  · exact eq_anyR hK I sub hu h r ha
  · obtain ⟨_, its, n, _, ho⟩ := (show ObjOk X.prog X.w H s.heap p (.lst vs) from I.hok p _ hp)
    cases (show y = Value.ref p from r)
    exact SeqAt.EqAt.str_list (items := its.toArray) z u ⟨_, ho, rfl, n, rfl⟩ hu
  · cases (show y = Value.ref p from r)
    rcases hd with ⟨ks, vs, ds, hp, _⟩ | ⟨ks, vs, ds, hp, _⟩
    · obtain ⟨_, _, kvs', _, o, es, ep, ho, ⟨c1, _, _⟩, hd, _⟩ := (show ObjOk X.prog X.w H s.heap p (.dK (ks.zip vs)) from I.hok p _ hp)
      obtain ⟨cls, dd, dt, sl⟩ := o
      simp only at c1 hd
      subst c1 hd
      exact SeqAt.EqAt.str_dict' z u ho hu
    · obtain ⟨_, _, kvs', _, o, es, ep, ho, ⟨c1, _, _⟩, hd, _⟩ := (show ObjOk X.prog X.w H s.heap p (.dT (ks.zip vs)) from I.hok p _ hp)
      obtain ⟨cls, dd, dt, sl⟩ := o
      simp only at c1 hd
      subst c1 hd
      exact SeqAt.EqAt.str_dict' z u ho hu
def txOf (x : D) : D → Bool
  | .str z => isTx z x
  | _ => false
def isStr : D → Bool
  | .str _ => true
  | _ => false
def eV (x : D) : Value → Bool
  | .str z _ => isTx z x
  | _ => false
/-- x in xs, x of any kind, xs texts -/
def fInL (neg : Bool) : D → D → Option D
  | x, .lst ds => if (anyD x && ds.all isStr) = true then some (.bl (if neg then !ds.any (txOf x) else ds.any (txOf x))) else none
  | x, .tup ds => if (anyD x && ds.all isStr) = true then some (.bl (if neg then !ds.any (txOf x) else ds.any (txOf x))) else none
  | _, _ => none
theorem texts_at {x : D} : ∀ {vs : List V} {its : List Value} {ds : List D}, Vals vs its → DenL L g vs ds → ds.all isStr = true → (∀ y ∈ its, ∃ z u, y = Value.str z u) ∧ its.any (eV x) = ds.any (txOf x)
  | _, _, _, .nil, .nil, _ => ⟨fun y h => by simp at h, rfl⟩
  | _, _, _, .cons r rr, .cons (d := d) t l, h => by
    rw [List.all_cons, Bool.and_eq_true] at h
    obtain ⟨h3, h4⟩ := texts_at (x := x) rr l h.2
    cases t with
    | str z =>
      obtain ⟨u, rfl⟩ := r
      refine ⟨fun y hy => ?_, by rw [List.any_cons, List.any_cons, h4]; rfl⟩
      rcases List.mem_cons.mp hy with rfl | hy
      · exact ⟨z, u, rfl⟩
      · exact h3 y hy
    | _ => cases h.1
theorem od_inL (hK : X.K = L.K) (hu : X.A.units + 1 < cLine) : OpD L X (compareOp .In) (fInL false) ∧ OpD L X (compareOp .NotIn) (fInL true) := by
  constructor
  all_goals
    intro pins st σ H x y v u Q I rx ry ⟨Γ, g, σ', dx, dy, d, rp, vx, vy, e, w⟩
    have fin : ∀ k : Bool, Wn L DenT g H Q (.bl k) g.bud → EP X pins σ Q (.bool k) st := fun k w => ⟨.bl k, H, I, rfl, w _ g H (Stp.refl rp) rfl (.bl k)⟩
    have eqs : ∀ its : List Value, anyD dx = true → (∀ y ∈ its, ∃ z u, y = Value.str z u) → ∀ y, y ∈ its.toArray → SeqAt.EqAt X.A.in1 st y v (eV dx y) := fun its ha h y hy => by
      obtain ⟨z, t, rfl⟩ := h y (by simpa using hy)
      exact eq_vwR (A := X.A.in1) hK I rp.sub hu vx rx ha
    unfold fInL at e
    split at e
    · split at e
      · rename_i ds hc
        cases e
        rw [Bool.and_eq_true] at hc
        obtain ⟨a, vs, rfl, h1, l1⟩ := vy.lst rp.sub
        obtain ⟨_, its, n, r, ho⟩ := (show ObjOk X.prog X.w H st.heap a (.lst vs) from I.hok a _ h1)
        cases (show u = Value.ref a from ry)
        obtain ⟨k1, k2⟩ := texts_at (x := dx) r l1 hc.2
        have k3 : its.toArray.any (eV dx) = ds.any (txOf dx) := by rw [← k2]; simp
        first
          | exact SeqAt.in_listAt (items := its.toArray) (eV dx) ⟨_, ho, rfl, n, rfl⟩ (eqs its hc.1 k1) (by rw [k3]; exact fin _ w)
          | exact SeqAt.notIn_listAt (items := its.toArray) (eV dx) ⟨_, ho, rfl, n, rfl⟩ (eqs its hc.1 k1) (by rw [k3]; exact fin _ w)
      · cases e
    · split at e
      · rename_i ds hc
        cases e
        rw [Bool.and_eq_true] at hc
        obtain ⟨a, vs, rfl, h1, l1, _⟩ := vy.tup rp.sub
        cases (show u = Value.ref a from ry)
        obtain ⟨its, r, pl, _⟩ := I.tuple (hK ▸ h1)
        obtain ⟨k1, k2⟩ := texts_at (x := dx) r l1 hc.2
        have k3 : its.toArray.any (eV dx) = ds.any (txOf dx) := by rw [← k2]; simp
        first
          | exact SeqAt.in_tupleAt (eV dx) pl (eqs its hc.1 k1) (by rw [k3]; exact fin _ w)
          | exact SeqAt.notIn_tupleAt (eV dx) pl (eqs its hc.1 k1) (by rw [k3]; exact fin _ w)
      · cases e
    · cases e
def fInY := orD fInX (fInL false)
def fNotInY := orD fNotInX (fInL true)
theorem od_inY (hK : X.K = L.K) (hu : X.A.units + 65 < cLine) : OpD L X (compareOp .In) fInY := (od_inX hK hu).or (od_inL hK (by omega)).1
theorem od_notInY (hK : X.K = L.K) (hu : X.A.units + 65 < cLine) : OpD L X (compareOp .NotIn) fNotInY := (od_notInX hK hu).or (od_inL hK (by omega)).2
end
end DL
/-! t.index(x): a tuple with a known object. -/
namespace DL
open PySem PySem.Spec L2
section
variable {L : Lx} {X : Cx} {pos apos : Pos} {i j : IE} {a b : Expr}
def tyTup (K : PySem.W.Frag) (x : V) (H : Hp) : Prop := ∃ p xs, x = .ref p ∧ SqD true K H p xs
theorem ty_tup : TyOk X "tuple" (tyTup X.K) := by
  intro pins σ H s x v I r ty
  obtain ⟨p, xs, rfl, h⟩ := ty
  cases r
  rcases h with ⟨z, _⟩ | ⟨o, its, n, h1, h2, h3, h4, h5, h6⟩ | ⟨o, h1, h2, h3, _⟩
  · cases z
  · have g := I.kIn p o h1
    exact ⟨⟨o, g, h2⟩, fun b e => by cases e; exact ⟨o, g, h5⟩⟩
  · have g : s.heap.get? p = some o := (show ObjOk X.prog X.w H s.heap p (.frz o (.tup xs)) from I.hok p _ h1).1
    exact ⟨⟨o, g, h2⟩, fun b e => by cases e; exact ⟨o, g, h3⟩⟩
theorem idx_at {zs : List Str} {z : Str} (h : z ∈ zs) : zs[zs.idxOf z]? = some z := by
  have hl : zs.idxOf z < zs.length := List.findIdx_lt_length_of_exists ⟨z, h, beq_self_eq_true z⟩
  have e : (zs[zs.idxOf z] == z) = true := List.findIdx_getElem (w := hl)
  rw [List.getElem?_eq_getElem hl, LawfulBEq.eq_of_beq e]
theorem idx_before {zs : List Str} {z : Str} {m : Nat} (h : m < zs.idxOf z) : zs[m]? ≠ some z := fun e => by
  obtain ⟨hm, e⟩ := List.getElem?_eq_some_iff.mp e
  have q := List.not_of_lt_findIdx (p := fun x => x == z) (xs := zs) h
  rw [e] at q
  simp at q
def fIdx : D → D → Option D
  | .tup ds, .str z => (strsD ds).bind fun zs => if z ∈ zs then some (.int (zs.idxOf z : Nat)) else none
  | _, _ => none
def iIdx (i j : IE) : IE := fun Γ => (i Γ).bind fun x => match x with
  | .tup ds => (j Γ).bind fun y => match fIdx (.tup ds) y with
    | some d => .ret d
    | none => .stuck
  | _ => .stuck
theorem de_index (hK : X.K = L.K) (hf : L.fz = true) (ha : DE L X i a) (hb : DE L X j b)
    (hbase : attributeBase a "index" X.env (eval a X.env) = eval a X.env := by rfl)
    (hfew : ((backTo pos (starEach [b] X.env)).all (fun x => !x.1) && (backToKw pos (keywordEach [] X.env)).all (fun x => x.1.isSome)
      && decide ([b].length + ([] : List Keyword).length + (if ([] : List Keyword).isEmpty then 0 else 1) < 30)) = true := by rfl)
    (hline : (apos.endLine == pos.line) = true := by rfl) (hs : starEach [b] X.env = (false, eval b X.env) :: starEach [] X.env := by rfl) (hplain : (backTo pos (starEach [] X.env)).any (·.1) = false := by rfl) :
    DE L X (iIdx i j) (.Call (.Attribute a "index" apos) [b] [] pos) := fun W tk => by
  refine PE.imp (pe_mG ty_tup PySem.F.plainAttrs_tuple PySem.F.slot_tuple_index PySem.F.type_tuple_index mt_tup_index (ha W tk) (pa_cons (hb W tk) pa_nil hs) hbase hfew hline hs hplain) fun σ H Q ⟨Γ, g, rp, w⟩ => ?_
  refine Rd1.go rp w fun x H1 dx g1 r1 s1 t1 w => ?_
  cases dx with
  | tup ds =>
    cases id t1 with
    | @tup p vs _ e l =>
      refine ⟨⟨p, vs, rfl, hK ▸ hf ▸ e.mono r1.sub⟩, Rd1.go r1 w fun y H2 dy g2 r2 s2 t2 w => ?_⟩
      cases dy with
      | str z =>
        cases t2
        have ex : fIdx (.tup ds) (.str z) = (strsD ds).bind fun zs => if z ∈ zs then some (.int (zs.idxOf z : Nat)) else none := rfl
        rw [ex] at w
        cases hz : strsD ds with
        | none => rw [hz] at w; exact w.elim
        | some zs =>
          rw [hz, Option.bind_some] at w
          by_cases hm : z ∈ zs
          · rw [if_pos hm] at w
            have ev := l.strs hz
            refine ⟨p, zs, z, zs.idxOf z, rfl, rfl, hK ▸ ev ▸ sqT_mono r2.sub (e.mono s2.le).sq, ?_, fun m hm2 he => ?_, w _ g2 H2 (s1.trans s2) rfl (.int _)⟩
            · exact idx_at hm
            · exact idx_before hm2 he
          · rw [if_neg hm] at w; exact w.elim
      | _ => exact w.elim
  | _ => exact w.elim
end
end DL
/-! a list or a tuple of any things, compared with an empty one. -/
namespace DL
open PySem PySem.Spec L2
section
variable {L : Lx} {X : Cx}
def fEmp (neg : Bool) : D → D → Option D
  | .tup xs, .tup [] => some (.bl (if neg then !xs.isEmpty else xs.isEmpty))
  | .lst xs, .lst [] => some (.bl (if neg then !xs.isEmpty else xs.isEmpty))
  | _, _ => none
theorem od_emp (hK : X.K = L.K) (hu : X.A.units + 1 < cLine) : OpD L X (compareOp .Eq) (fEmp false) ∧ OpD L X (compareOp .NotEq) (fEmp true) := by
  have sz : ∀ {its : List Value} {vs : List V} {ds : List D} {g : Gh}, Vals vs its → DenL L g vs ds → its.toArray.size = ds.length := fun r l => by
    rw [List.size_toArray, ← r.length, l.length]
  constructor
  all_goals
    intro pins st σ H x y v u Q I rx ry ⟨Γ, g, σ', dx, dy, d, rp, vx, vy, e, w⟩
    have fin : ∀ k : Bool, Wn L DenT g H Q (.bl k) g.bud → EP X pins σ Q (.bool k) st := fun k w => ⟨.bl k, H, I, rfl, w _ g H (Stp.refl rp) rfl (.bl k)⟩
    unfold fEmp at e
    split at e
    · rename_i ds
      cases e
      obtain ⟨a, vs, rfl, h1, l1, _⟩ := vx.tup rp.sub
      obtain ⟨b, ws, rfl, h2, l2, _⟩ := vy.tup rp.sub
      cases rx
      cases ry
      obtain ⟨its, rv, p1, _⟩ := I.tuple (hK ▸ h1)
      obtain ⟨its2, rv2, p2, _⟩ := I.tuple (hK ▸ h2)
      cases l2
      cases rv2
      have hs := sz rv l1
      have q : ((List.range (min its.toArray.size ([] : List Value).toArray.size)).all (fun _ => true) && its.toArray.size == ([] : List Value).toArray.size) = ds.isEmpty := by
        rw [hs]
        cases ds <;> simp
      first
        | exact (q ▸ SeqAt.RcAt.tuples (e := fun _ => true) p1 p2 (by omega) (fun j _ h => absurd h (by simp)) : SeqAt.RcAt X.A st (.ref a) (.ref b) ds.isEmpty) X.prog X.w _ _ (fin _ w)
        | exact (q ▸ SeqAt.RcNeAt.tuples (e := fun _ => true) p1 p2 (by omega) (fun j _ h => absurd h (by simp)) : SeqAt.RcNeAt X.A st (.ref a) (.ref b) (!ds.isEmpty)) X.prog X.w _ _ (fin _ w)
    · rename_i ds
      cases e
      obtain ⟨a, vs, rfl, h1, l1⟩ := vx.lst rp.sub
      obtain ⟨b, ws, rfl, h2, l2⟩ := vy.lst rp.sub
      cases (id rx : v = Value.ref a)
      cases (id ry : u = Value.ref b)
      obtain ⟨its, rv, p1, _⟩ := I.list (.inl (.inl h1))
      obtain ⟨its2, rv2, p2, _⟩ := I.list (.inl (.inl h2))
      cases l2
      cases rv2
      have hs := sz rv l1
      by_cases z : ds = []
      · subst z
        first
          | exact (SeqAt.RcAt.lists (e := fun _ => true) p1.isList p2.isList hs (by omega) (fun j _ h => absurd h (by simp)) : SeqAt.RcAt X.A st (.ref a) (.ref b) ((List.range its.toArray.size).all fun _ => true)) X.prog X.w _ _ (by rw [hs]; exact fin _ w)
          | exact (SeqAt.RcNeAt.lists (e := fun _ => true) p1.isList p2.isList hs (by omega) (fun j _ h => absurd h (by simp)) : SeqAt.RcNeAt X.A st (.ref a) (.ref b) (!(List.range its.toArray.size).all fun _ => true)) X.prog X.w _ _ (by rw [hs]; exact fin _ w)
      · have hne : (its.toArray.size != ([] : List Value).toArray.size) = true := by
          rw [hs]
          cases ds with
          | nil => exact absurd rfl z
          | cons _ _ => rfl
        have ee : ds.isEmpty = false := by cases ds with | nil => exact absurd rfl z | cons _ _ => rfl
        rw [ee] at w
        first
          | exact SeqAt.RcAt.lists_lengths p1.isList p2.isList hne (by omega) X.prog X.w _ _ (fin _ w)
          | exact SeqAt.RcNeAt.lists_lengths p1.isList p2.isList hne (by omega) X.prog X.w _ _ (fin _ w)
    · cases e
def fEqV := orD fEq (fEmp false)
def fNeV := orD fNeD (fEmp true)
theorem od_eqV (hK : X.K = L.K) (hu : X.A.units + 64 < cLine) : OpD L X (compareOp .Eq) fEqV := (od_eq hK hu).or (od_emp hK (by omega)).1
theorem od_neV (hK : X.K = L.K) (hu : X.A.units + 64 < cLine) : OpD L X (compareOp .NotEq) fNeV := (od_ne0 hK hu).or (od_emp hK (by omega)).2
end
end DL
/-! Runs told step by step: what the words of a run do on data that are not fixed. -/
namespace DL
open PySem PySem.Spec L2
theorem M.bind_ite {α β : Type} {c : Prop} [Decidable c] (a b : M α) (f : α → M β) : (if c then a else b).bind f = if c then a.bind f else b.bind f := by split <;> rfl
theorem M.ret_bind {α β : Type} (a : α) (f : α → M β) : (M.ret a).bind f = f a := rfl
theorem M.stuck_bind {α β : Type} (f : α → M β) : (M.stuck : M α).bind f = .stuck := rfl
theorem M.exc_bind {α β : Type} (x : Ex) (f : α → M β) : (M.exc x : M α).bind f = .exc x := rfl
theorem M.choose_bind {α β : Type} (n : Nat) (k : Nat → M α) (f : α → M β) : (M.choose n k).bind f = .choose n fun i => (k i).bind f := rfl
theorem M.ret_noX {α : Type} (a : α) : (M.ret a).noX = .ret a := rfl
end DL
namespace DL
open PySem PySem.Spec L2
/-! comparisons -/
theorem fEq_int (i j : Int) : fEq (.int i) (.int j) = some (.bl (decide (i = j))) := by
  show some (D.bl (i == j)) = _
  exact congrArg (fun b => some (D.bl b)) (by by_cases h : i = j <;> simp [h])
theorem fEq_str (x y : Str) : fEq (.str x) (.str y) = some (.bl (decide (x = y))) := by
  show some (D.bl (x == y)) = _
  exact congrArg (fun b => some (D.bl b)) (by by_cases h : x = y <;> simp [h])
theorem fLe_int (i j : Int) : fLe (.int i) (.int j) = some (.bl (decide (i ≤ j))) := rfl
theorem fLt_int (i j : Int) : fLt (.int i) (.int j) = some (.bl (decide (i < j))) := rfl
theorem fGe_int (i j : Int) : fGe (.int i) (.int j) = some (.bl (decide (j ≤ i))) := rfl
theorem fGt_int (i j : Int) : fGt (.int i) (.int j) = some (.bl (decide (j < i))) := rfl
/-- x < y of texts -/
abbrev sLt (x y : Str) : Bool := decide (x.cps.toList < y.cps.toList)
theorem dLt_str (x y : Str) : dLt (.str x) (.str y) = sLt x y := by
  unfold dLt
  exact PySem.W.dataLt_str x y
theorem fLt_str (x y : Str) : fLt (.str x) (.str y) = some (.bl (sLt x y)) := by
  rw [← dLt_str]; rfl
theorem fLe_str (x y : Str) : fLe (.str x) (.str y) = some (.bl (!sLt y x)) := by
  rw [← dLt_str]; rfl
theorem fAdd_int (i j : Int) : fAdd (.int i) (.int j) = some (.int (i + j)) := rfl
theorem fSubI_int (i j : Int) : fSubI (.int i) (.int j) = some (.int (i - j)) := rfl
theorem fLen_tup (ds : List D) : fLen [.tup ds] = some (.int ds.length) := rfl
theorem fLen_lst (ds : List D) : fLen [.lst ds] = some (.int ds.length) := rfl
/-! comprehensions -/
theorem lcRun_pure {t : IG} {c : IT} {i : IE} {own : List Nat} {Γ : Env} {p : D → Bool} {e : D → D} : ∀ (ds acc : List D), (∀ d ∈ ds, ∃ Γ1, t d (wipeE Γ own) = .ret Γ1 ∧ c Γ1 = .ret (p d) ∧ (p d = true → i Γ1 = .ret (e d))) → acc.length + ds.length ≤ sizeLine →
    lcRun t c i own Γ acc ds = .ret (acc ++ (ds.filter p).map e)
  | [], acc, _, _ => by simp [lcRun]
  | d :: r, acc, h, hl => by
    obtain ⟨Γ1, e1, e2, e3⟩ := h d List.mem_cons_self
    rw [List.length_cons] at hl
    unfold lcRun
    rw [e1, M.ret_bind, e2, M.ret_bind]
    by_cases q : p d = true
    · rw [if_pos q, e3 q, M.ret_bind, if_pos (by omega), lcRun_pure r _ (fun d hd => h d (List.mem_cons_of_mem _ hd)) (by rw [List.length_append, List.length_singleton]; omega), List.filter_cons_of_pos q, List.map_cons, List.append_assoc]
      rfl
    · rw [if_neg q, lcRun_pure r _ (fun d hd => h d (List.mem_cons_of_mem _ hd)) (by omega), List.filter_cons_of_neg q]
theorem lc_pure {t : IG} {it : II} {c : IT} {i : IE} {own : List Nat} {Γ : Env} {ds : List D} {p : D → Bool} {e : D → D} (hi : it Γ = .ret ds) (h : ∀ d ∈ ds, ∃ Γ1, t d (wipeE Γ own) = .ret Γ1 ∧ c Γ1 = .ret (p d) ∧ (p d = true → i Γ1 = .ret (e d))) (hl : ds.length ≤ sizeLine) :
    iLc t it c i own Γ = .ret (.lst ((ds.filter p).map e)) := by
  unfold iLc
  rw [hi, M.ret_bind, lcRun_pure ds [] h (by simpa using hl)]
  rfl
/-- with no test -/
theorem lc_all {t : IG} {it : II} {i : IE} {own : List Nat} {Γ : Env} {ds : List D} {e : D → D} (hi : it Γ = .ret ds) (h : ∀ d ∈ ds, ∃ Γ1, t d (wipeE Γ own) = .ret Γ1 ∧ i Γ1 = .ret (e d)) (hl : ds.length ≤ sizeLine) :
    iLc t it cYes i own Γ = .ret (.lst (ds.map e)) := by
  rw [lc_pure (c := cYes) (p := fun _ => true) (e := e) hi (fun d hd => let ⟨Γ1, e1, e2⟩ := h d hd; ⟨Γ1, e1, rfl, fun _ => e2⟩) hl, List.filter_eq_self.mpr fun _ _ => rfl]
theorem bools_map (f : D → Bool) : ∀ ds : List D, boolsD (ds.map fun d => .bl (f d)) = some (ds.map f)
  | [] => rfl
  | d :: r => by
    show (boolsD (r.map fun d => .bl (f d))).map (f d :: ·) = _
    rw [bools_map f r]
    rfl
theorem fAll_map (f : D → Bool) (ds : List D) : fAll [.lst (ds.map fun d => .bl (f d))] = some (.bl (ds.all f)) := by
  show (boolsD _).map _ = _
  rw [bools_map]
  simp only [Option.map_some, Option.some.injEq, D.bl.injEq]
  rw [List.all_map]
  rfl
end DL
/-! Runs with draws: what they yield, and how many draws they take. Texts by their signs. -/
namespace DL
open PySem PySem.Spec L2
/-- at most k draws, no error, and P of what is yielded -/
def Yl {α : Type} (m : M α) (k : Nat) (P : α → Prop) : Prop := ∀ b, k ≤ b → b ≤ lim → m.wpB b (fun a c => c ≤ b ∧ b ≤ c + k ∧ P a) (fun _ _ => False)
section
variable {α β : Type} {m : M α} {k l : Nat} {P : α → Prop} {Q : β → Prop} {f : α → M β}
theorem Yl.ret {a : α} (h : P a) : Yl (.ret a) 0 P := fun b _ _ => ⟨Nat.le_refl _, Nat.le_refl _, h⟩
theorem Yl.bind (h : Yl m k P) (h2 : ∀ a, P a → Yl (f a) l Q) : Yl (m.bind f) (k + l) Q := fun b hb hl => by
  refine (M.wpB_bind _ _).mpr (M.wpB_mono (fun a c ⟨c1, c2, pa⟩ => ?_) (fun _ _ x => x) _ _ (h b (by omega) hl))
  exact M.wpB_mono (fun a' c' ⟨d1, d2, pa'⟩ => ⟨by omega, by omega, pa'⟩) (fun _ _ x => x) _ _ (h2 a pa c (by omega) (by omega))
theorem Yl.choose {n : Nat} {f : Nat → M α} (h : ∀ i, i < n → Yl (f i) k P) : Yl (.choose n f) (k + 1) P := fun b hb hl => by
  cases b with
  | zero => omega
  | succ b => exact fun i hi => M.wpB_mono (fun a c ⟨c1, c2, pa⟩ => ⟨by omega, by omega, pa⟩) (fun _ _ x => x) _ _ (h i hi b (by omega) (by omega))
theorem Yl.mono {k' : Nat} {P' : α → Prop} (h : Yl m k P) (hk : k ≤ k') (hP : ∀ a, P a → P' a) : Yl m k' P' := fun b hb hl =>
  M.wpB_mono (fun a c ⟨c1, c2, pa⟩ => ⟨c1, by omega, hP a pa⟩) (fun _ _ x => x) _ _ (h b (by omega) hl)
theorem Yl.noX (h : Yl m k P) : Yl m.noX k P := fun b hb hl => by
  have go : ∀ (m : M α) (b : Nat) {R : α → Nat → Prop}, m.wpB b R (fun _ _ => False) → m.noX.wpB b R (fun _ _ => False) := by
    intro m
    induction m with
    | ret a => exact fun _ _ h => h
    | exc x => exact fun _ _ h => h.elim
    | stuck => exact fun _ _ h => h
    | choose n k ih =>
      intro b R h
      cases b with
      | zero => exact h
      | succ b => exact fun i hi => ih i b (h i hi)
    | begun k ih => exact fun b R h => ⟨h.1, ih _ h.2⟩
  exact go _ _ (h b hb hl)
end
/-- a loop with a word that holds on -/
theorem Yl.loop {t : IG} {s : IS} {k : Nat} (ds : List D) (I : Nat → Env → Prop) (h : ∀ j d Γ, ds[j]? = some d → I j Γ → Yl ((t d Γ).bind s) k fun fl => ∃ Γ', fl = .nx Γ' ∧ I (j + 1) Γ') {Γ : Env} (h0 : I 0 Γ) :
    Yl (loop t s ds Γ) (k * ds.length) fun fl => ∃ Γ', fl = .nx Γ' ∧ I ds.length Γ' := by
  have go : ∀ (r : List D) (j : Nat) (Γ : Env), ds.drop j = r → j ≤ ds.length → I j Γ → Yl (DL.loop t s r Γ) (k * r.length) fun fl => ∃ Γ', fl = .nx Γ' ∧ I ds.length Γ' := by
    intro r
    induction r with
    | nil =>
      intro j Γ e hj hI
      have : j = ds.length := by
        have := congrArg List.length e
        rw [List.length_drop] at this
        simp at this
        omega
      subst this
      exact Yl.ret ⟨Γ, rfl, hI⟩
    | cons d r ih =>
      intro j Γ e hj hI
      have hlt : j < ds.length := by
        have := congrArg List.length e
        rw [List.length_drop, List.length_cons] at this
        omega
      have ed : ds[j]? = some d := by
        rw [← List.head?_drop, e]; rfl
      have er : ds.drop (j + 1) = r := by
        rw [← List.tail_drop, e]; rfl
      have e2 : DL.loop t s (d :: r) Γ = ((t d Γ).bind s).bind fun fl => match fl with
        | .nx Γ2 => DL.loop t s r Γ2
        | .ct Γ2 => DL.loop t s r Γ2
        | .bk Γ2 => .ret (.nx Γ2)
        | .rt d => .ret (.rt d) := by
        have assoc : ∀ (m : M Env) (g : Fl → M Fl), m.bind (fun Γ1 => (s Γ1).bind g) = (m.bind s).bind g := by
          intro m g
          induction m with
          | ret a => rfl
          | exc x => rfl
          | stuck => rfl
          | choose n k ih => simp only [M.bind]; congr; funext i; exact ih i
          | begun k ih => simp only [M.bind]; rw [ih]
        show (t d Γ).bind (fun Γ1 => (s Γ1).bind _) = _
        rw [assoc]
        try congr
      rw [e2, List.length_cons, Nat.mul_succ, Nat.add_comm]
      refine (h j d Γ ed hI).bind fun fl hfl => ?_
      obtain ⟨Γ', rfl, hI'⟩ := hfl
      exact ih (j + 1) Γ' er (by omega) hI'
  exact go ds 0 Γ rfl (Nat.zero_le _) h0
/-! ### texts by their signs -/
def S (l : List Nat) : Str := ⟨l.toArray⟩
theorem S_list (l : List Nat) : (S l).cps.toList = l := rfl
theorem S_length (l : List Nat) : (S l).length = l.length := by show l.toArray.size = _; simp
theorem S_inj {l m : List Nat} (h : S l = S m) : l = m := by
  have := congrArg (fun z => z.cps.toList) h
  exact this
theorem S_eq {l m : List Nat} : S l = S m ↔ l = m := ⟨S_inj, fun h => by rw [h]⟩
theorem S_add (l m : List Nat) : (S l ++ S m : Str) = S (l ++ m) := by
  show (⟨l.toArray ++ m.toArray⟩ : Str) = _
  unfold S
  congr 1
  simp
theorem fAdd_S (l m : List Nat) (h : l.length + m.length ≤ sizeLine) : fAdd (.str (S l)) (.str (S m)) = some (.str (S (l ++ m))) := by
  have e : fAddS (.str (S l)) (.str (S m)) = some (.str (S (l ++ m))) := by
    show (if (S l).length + (S m).length ≤ sizeLine then some (D.str (S l ++ S m)) else none) = _
    rw [S_length, S_length, if_pos h, S_add]
  show (match fAddS (.str (S l)) (.str (S m)) with | some d => some d | none => _) = _
  rw [e]
theorem fLen_S (l : List Nat) (h : l.length ≤ sizeLine) : fLen [.str (S l)] = some (.int l.length) := by
  show (if (S l).length ≤ sizeLine then some (D.int (S l).length) else none) = _
  rw [S_length, if_pos h]
theorem atI_nat {α : Type} (l : List α) {i : Nat} (h : i < l.length) : atI l (i : Int) = some l[i] := by
  unfold atI ixN
  rw [if_pos (by omega), if_pos (by omega)]
  simp [h]
theorem fIx_S (l : List Nat) {i : Nat} (h : i < l.length) (hl : l.length ≤ sizeLine) : fIx (.str (S l)) (.int i) = some (.str (S [l[i]])) := by
  show (if (S l).length ≤ sizeLine then (atI (S l).cps.toList (i : Int)).map fun c => D.str ⟨#[c]⟩ else none) = _
  rw [S_length, if_pos hl, S_list, atI_nat l h]
  rfl
theorem fIx_lst (ds : List D) {i : Nat} (h : i < ds.length) : fIx (.lst ds) (.int i) = some ds[i] := by
  have e : fIxL (.lst ds) (.int i) = some ds[i] := atI_nat ds h
  show (match fIxL (.lst ds) (.int i) with | some d => some d | none => _) = _
  rw [e]
theorem fIx_tup (ds : List D) {i : Nat} (h : i < ds.length) : fIx (.tup ds) (.int i) = some ds[i] := by
  have e : fIxT (.tup ds) (.int i) = some ds[i] := atI_nat ds h
  show (match fIxT (.tup ds) (.int i) with | some d => some d | none => _) = _
  rw [e]
theorem fSl_take (l : List Nat) (k : Nat) (hl : l.length ≤ sizeLine) : fSl (.str (S l)) none (some (k : Int)) = some (.str (S (l.take k))) := by
  have e : fSlS (.str (S l)) none (some (k : Int)) = some (.str (S (l.take k))) := by
    show (if (S l).length ≤ sizeLine then some (D.str (cutS (S l) none (some (k : Int)))) else none) = _
    rw [S_length, if_pos hl]
    unfold cutS
    rw [S_length, S_list, HT.sIx_nat, HT.sIx_none, Nat.sub_zero, List.drop_zero]
    congr 2
    unfold S
    congr 2
    by_cases h : k ≤ l.length
    · rw [Nat.min_eq_left h]
    · rw [Nat.min_eq_right (by omega), List.take_of_length_le (by omega), List.take_of_length_le (by omega)]
  exact e
theorem fSl_drop (l : List Nat) (k : Nat) (hl : l.length ≤ sizeLine) : fSl (.str (S l)) (some (k : Int)) none = some (.str (S (l.drop k))) := by
  have e : fSlS (.str (S l)) (some (k : Int)) none = some (.str (S (l.drop k))) := by
    show (if (S l).length ≤ sizeLine then some (D.str (cutS (S l) (some (k : Int)) none)) else none) = _
    rw [S_length, if_pos hl]
    unfold cutS
    rw [S_length, S_list, HT.sIx_nat, HT.sIx_none]
    congr 2
    unfold S
    congr 2
    by_cases h : k ≤ l.length
    · rw [Nat.min_eq_left h]
      exact List.take_of_length_le (by simp)
    · rw [Nat.min_eq_right (by omega), List.drop_of_length_le (Nat.le_refl _), List.drop_of_length_le (by omega), List.take_nil]
  exact e
def abc : List Nat := (List.range 26).map (97 + ·)
theorem abc_eq : Str.ofString "abcdefghijklmnopqrstuvwxyz" = S abc := by decide +kernel
theorem abc_len : abc.length = 26 := by decide
theorem abc_at {i : Nat} (h : i < abc.length) : abc[i] = 97 + i := by
  simp [abc]
theorem empty_eq : Str.ofString "" = S [] := by decide +kernel
/-- small letters -/
def Low (l : List Nat) : Prop := ∀ c ∈ l, 97 ≤ c ∧ c ≤ 122
end DL
/-! Runs with draws, word by word. -/
namespace DL
open PySem PySem.Spec L2
section
variable {α : Type} {m : M α} {k l : Nat} {P : α → Prop}
theorem Yl.of_eq {a : α} (e : m = .ret a) (h : P a) : Yl m 0 P := e ▸ Yl.ret h
theorem Yl.seq {s t : IS} {Γ : DL.Env} {I : DL.Env → Prop} {P : Fl → Prop} (h : Yl (s Γ) k fun fl => ∃ Γ', fl = .nx Γ' ∧ I Γ') (h2 : ∀ Γ', I Γ' → Yl (t Γ') l P) : Yl (DL.sSeq s t Γ) (k + l) P := by
  unfold DL.sSeq
  refine h.bind fun fl hfl => ?_
  obtain ⟨Γ', rfl, hI⟩ := hfl
  exact h2 Γ' hI
theorem Yl.fn {n : Nat} {body : IS} {ds : List D} {P : D → Prop} (h : Yl (body (env0 n ds)) k fun fl => ∃ d, fl = .rt d ∧ P d) : Yl (runFn n body ds) k P := by
  unfold runFn
  refine (Yl.bind (l := 0) h fun fl hfl => ?_).mono (Nat.le_refl _) fun _ x => x
  obtain ⟨d, rfl, hd⟩ := hfl
  exact Yl.ret hd
theorem Yl.for_ {t : IG} {it : II} {s : IS} {Γ : DL.Env} {kk : Nat} (I : Nat → DL.Env → Prop) (hi : Yl (it Γ) l fun r => ∃ n, r = rngD 0 n ∧ n ≤ kk) (h0 : I 0 Γ)
    (h : ∀ j Γ, j < kk → I j Γ → Yl ((t (.int (j : Nat)) Γ).bind s) k fun fl => ∃ Γ', fl = .nx Γ' ∧ I (j + 1) Γ') :
    Yl (DL.sFor t it s Γ) (l + k * kk) fun fl => ∃ Γ', fl = .nx Γ' ∧ ∃ n, n ≤ kk ∧ I n Γ' := by
  unfold DL.sFor
  refine hi.bind fun r hr => ?_
  obtain ⟨n, rfl, hn⟩ := hr
  have hl : (rngD 0 n).length = n := by unfold rngD; simp
  refine (Yl.loop (rngD 0 n) I (fun j d Γ e hI => ?_) h0).mono (by rw [hl]; exact Nat.mul_le_mul_left _ hn) fun fl hf => ?_
  · have hj : j < n := by
      have := (List.getElem?_eq_some_iff.mp e).1
      rw [hl] at this
      exact this
    have ed : d = .int (j : Nat) := by
      unfold rngD at e
      rw [List.getElem?_map, List.getElem?_range hj] at e
      simpa using e.symm
    subst ed
    exact h j Γ (by omega) hI
  · obtain ⟨Γ', e, hI⟩ := hf
    exact ⟨Γ', e, n, hn, by rw [hl] at hI; exact hI⟩
end
theorem rOk_nat : ∀ n : Fin 21, rOk ((n.1 : Nat) : Int) = true := by decide +kernel
theorem rOk_lt {n : Nat} (h : n < 21) : rOk (n : Int) = true := rOk_nat ⟨n, h⟩
def itR (ds : List D) : M (List D) := match ds with
  | [.int j] => if rOk j = true then .ret (rngD 0 j.toNat) else .stuck
  | _ => .stuck
theorem itR_int (j : Int) : itR [.int j] = if rOk j = true then .ret (rngD 0 j.toNat) else .stuck := by
  unfold itR
  simp only
theorem itR_ok (j : Int) (h : rOk j = true) : itR [.int j] = .ret (rngD 0 j.toNat) := by
  rw [itR_int, if_pos h]
theorem itR_nat {n : Nat} (h : n < 21) : itR [.int n] = .ret (rngD 0 n) := by
  rw [itR_ok _ (rOk_lt h), Int.toNat_natCast]
theorem iiR1_eq (i : IE) (Γ : DL.Env) : iiR1 i Γ = (evs [i] Γ).bind itR := rfl
theorem evs_one {i : IE} {Γ : DL.Env} {d : D} (h : i Γ = .ret d) : evs [i] Γ = .ret [d] := by
  unfold evs
  rw [h]
  rfl
theorem rng_eq {n : Nat} (h : n < 21) {i : IE} {Γ : DL.Env} (hi : i Γ = .ret (.int n)) : iiR1 i Γ = .ret (rngD 0 n) := by
  rw [iiR1_eq, evs_one hi, M.ret_bind, itR_nat h]
theorem M.bind_assoc {α β γ : Type} (m : M α) (f : α → M β) (g : β → M γ) : (m.bind f).bind g = m.bind fun a => (f a).bind g := by
  induction m with
  | ret a => rfl
  | exc x => rfl
  | stuck => rfl
  | choose n k ih => simp only [M.bind]; congr; funext i; exact ih i
  | begun k ih => simp only [M.bind]; rw [ih]
theorem evs_bind (i : IE) (Γ : DL.Env) : evs [i] Γ = (i Γ).bind fun d => .ret [d] := by
  unfold evs
  rfl
theorem Yl.rng {n : Nat} (h : n < 21) {i : IE} {Γ : DL.Env} {k : Nat} (hi : Yl (i Γ) k fun d => ∃ j : Nat, j ≤ n ∧ d = .int j) : Yl (iiR1 i Γ) k fun r => ∃ j, r = rngD 0 j ∧ j ≤ n := by
  rw [iiR1_eq, evs_bind, M.bind_assoc]
  refine (Yl.bind (l := 0) hi fun d hd => ?_).mono (Nat.le_refl _) fun _ x => x
  obtain ⟨j, hj, rfl⟩ := hd
  rw [M.ret_bind, itR_nat (by omega)]
  exact Yl.ret ⟨j, rfl, hj⟩
theorem Yl.evs_cons {i : IE} {is : List IE} {Γ : DL.Env} {k l : Nat} {P : D → Prop} {Q : List D → Prop} (h : Yl (i Γ) k P) (h2 : Yl (evs is Γ) l Q) : Yl (evs (i :: is) Γ) (k + l) fun ds => ∃ d r, ds = d :: r ∧ P d ∧ Q r := by
  unfold evs
  refine (Yl.bind (k := k) (l := l) h fun d hd => ?_)
  refine (Yl.bind (l := 0) h2 fun r hr => ?_)
  exact Yl.ret ⟨d, r, rfl, hd, hr⟩
theorem Yl.evs_nil {Γ : DL.Env} : Yl (evs [] Γ) 0 fun ds => ds = [] := Yl.ret rfl
theorem fMul_one (c : Nat) : fMul (.str (S [c])) (.int 8) = some (.str (S (List.replicate 8 c))) := rfl
theorem nodup_range {α : Type} {n : Nat} {g : Nat → α} (h : ∀ i j, i < j → j < n → g i ≠ g j) : ((List.range n).map g).Nodup := by
  rw [List.Nodup, List.pairwise_map]
  refine List.Pairwise.imp_of_mem (fun {a b} ha hb hab => ?_) List.pairwise_lt_range
  exact h a b hab (List.mem_range.mp hb)
/-- a comprehension over range(n) -/
theorem lc_rng {i : IE} {n : Nat} {Γ : DL.Env} {e : Nat → D} (hn : n < 21) {it : IE} (hit : it Γ = .ret (.int n)) {t : IG} {own : List Nat} (h : ∀ k, k < n → ∃ Γ1, t (.int (k : Nat)) (wipeE Γ own) = .ret Γ1 ∧ i Γ1 = .ret (e k)) :
    iLc t (iiR1 it) cYes i own Γ = .ret (.lst ((List.range n).map e)) := by
  have key : ∀ d ∈ rngD 0 n, ∃ k, k < n ∧ d = .int (k : Nat) := fun d hd => by
    unfold rngD at hd
    obtain ⟨k, hk, rfl⟩ := List.mem_map.mp hd
    exact ⟨k, List.mem_range.mp hk, by simp⟩
  rw [lc_all (ds := rngD 0 n) (e := fun d => match d with | .int k => e k.toNat | _ => .non) (rng_eq hn hit) (fun d hd => ?_) (by unfold rngD; rw [List.length_map, List.length_range, sizeLine_eq]; omega)]
  · unfold rngD
    rw [List.map_map]
    congr 2
    refine List.map_congr_left fun k _ => ?_
    simp
  · obtain ⟨k, hk, rfl⟩ := key d hd
    obtain ⟨Γ1, e1, e2⟩ := h k hk
    exact ⟨Γ1, e1, by rw [e2]; simp⟩
end DL
namespace Lw
open PySem PySem.Spec L2 DL
def topS (i : Nat) : Stmt := PySem.Challenge.pw_handedvotes_k01_whole_papers_and_ranges.main.body.getD i (.Pass ⟨0, 0, 0, 0⟩)
def clsS (i j : Nat) : Stmt := match topS i with
  | .ClassDef (body := body) .. => body.getD j (.Pass ⟨0, 0, 0, 0⟩)
  | _ => .Pass ⟨0, 0, 0, 0⟩
def tabB : List (String × TyK × Bool) := [("NoneType", .inl "bool", false), ("NoneType", .inl "int", false), ("NoneType", .inl "str", false), ("NoneType", .inl "tuple", false), ("bool", .inl "bool", true), ("bool", .inl "int", true), ("bool", .inl "str", false), ("bool", .inl "tuple", false), ("int", .inl "bool", false), ("int", .inl "int", true), ("int", .inl "str", false), ("int", .inl "tuple", false), ("str", .inl "bool", false), ("str", .inl "int", false), ("str", .inl "str", true), ("str", .inl "tuple", false), ("tuple", .inl "bool", false), ("tuple", .inl "int", false), ("tuple", .inl "str", false), ("tuple", .inl "tuple", true), ("list", .inl "bool", false), ("list", .inl "int", false), ("list", .inl "str", false), ("list", .inl "tuple", false), ("dict", .inl "bool", false), ("dict", .inl "int", false), ("dict", .inl "str", false), ("dict", .inl "tuple", false)]
def tabI : List (Nat × TyK × Bool) := []
def fIsI := fIsi (isTab tabB [] tabI)
def subT : List (Nat × Nat × Bool) := [(1, 1, true), (1, 2, false), (2, 1, false), (2, 2, true)]
def subX := subOf subT
/-- what the text's top has written -/
structure Md (L : Lx) (mg : Str → Option Value) (f : Nat → Addr) (fd : Nat → FuncData) (fI co tb : Nat → Addr) : Prop where
  F__law_begun : Fun L.K "_law_begun" "_law_begun" (topS 19) (f 0) (fd 0)
  g__law_begun : mg "_law_begun" = some (.ref (f 0))
  k__law_begun : PySem.W.keepIn L.K (.ref (f 0)) = true
  b__law_begun : Binds L.K (fd 0) ["script"] []
  F__law_next : Fun L.K "_law_next" "_law_next" (topS 20) (f 1) (fd 1)
  g__law_next : mg "_law_next" = some (.ref (f 1))
  k__law_next : PySem.W.keepIn L.K (.ref (f 1)) = true
  b__law_next : Binds L.K (fd 1) ["m", "many"] []
  F__law_names : Fun L.K "_law_names" "_law_names" (topS 21) (f 2) (fd 2)
  g__law_names : mg "_law_names" = some (.ref (f 2))
  k__law_names : PySem.W.keepIn L.K (.ref (f 2)) = true
  b__law_names : Binds L.K (fd 2) ["m", "many"] []
  F__law_many : Fun L.K "_law_many" "_law_many" (topS 26) (f 3) (fd 3)
  g__law_many : mg "_law_many" = some (.ref (f 3))
  k__law_many : PySem.W.keepIn L.K (.ref (f 3)) = true
  b__law_many : Binds L.K (fd 3) ["m", "most"] []
  F__law_kinds : Fun L.K "_law_kinds" "_law_kinds" (topS 27) (f 4) (fd 4)
  g__law_kinds : mg "_law_kinds" = some (.ref (f 4))
  k__law_kinds : PySem.W.keepIn L.K (.ref (f 4)) = true
  b__law_kinds : Binds L.K (fd 4) ["many"] []
  F_all_kinds : Fun L.K "all_kinds" "all_kinds" (topS 13) (f 5) (fd 5)
  g_all_kinds : mg "all_kinds" = some (.ref (f 5))
  k_all_kinds : PySem.W.keepIn L.K (.ref (f 5)) = true
  b_all_kinds : Binds L.K (fd 5) ["names"] []
  F__law_odd : Fun L.K "_law_odd" "_law_odd" (topS 24) (f 6) (fd 6)
  g__law_odd : mg "_law_odd" = some (.ref (f 6))
  k__law_odd : PySem.W.keepIn L.K (.ref (f 6)) = true
  b__law_odd : Binds L.K (fd 6) ["m"] []
  F__law_bent : Fun L.K "_law_bent" "_law_bent" (topS 25) (f 7) (fd 7)
  g__law_bent : mg "_law_bent" = some (.ref (f 7))
  k__law_bent : PySem.W.keepIn L.K (.ref (f 7)) = true
  b__law_bent : Binds L.K (fd 7) ["m", "thing"] []
  F__law_is_name : Fun L.K "_law_is_name" "_law_is_name" (topS 23) (f 8) (fd 8)
  g__law_is_name : mg "_law_is_name" = some (.ref (f 8))
  k__law_is_name : PySem.W.keepIn L.K (.ref (f 8)) = true
  b__law_is_name : Binds L.K (fd 8) ["thing"] []
  F__law_are_rising : Fun L.K "_law_are_rising" "_law_are_rising" (topS 31) (f 9) (fd 9)
  g__law_are_rising : mg "_law_are_rising" = some (.ref (f 9))
  k__law_are_rising : PySem.W.keepIn L.K (.ref (f 9)) = true
  b__law_are_rising : Binds L.K (fd 9) ["thing"] []
  F__is_word : Fun L.K "_is_word" "_is_word" (topS 16) (f 10) (fd 10)
  g__is_word : mg "_is_word" = some (.ref (f 10))
  k__is_word : PySem.W.keepIn L.K (.ref (f 10)) = true
  b__is_word : Binds L.K (fd 10) ["thing"] []
  F_is_ascending : Fun L.K "is_ascending" "is_ascending" (topS 5) (f 11) (fd 11)
  g_is_ascending : mg "is_ascending" = some (.ref (f 11))
  k_is_ascending : PySem.W.keepIn L.K (.ref (f 11)) = true
  b_is_ascending : Binds L.K (fd 11) ["things"] []
  F_are_names : Fun L.K "are_names" "are_names" (topS 11) (f 12) (fd 12)
  g_are_names : mg "are_names" = some (.ref (f 12))
  k_are_names : PySem.W.keepIn L.K (.ref (f 12)) = true
  b_are_names : Binds L.K (fd 12) ["thing"] []
  F_need_names : Fun L.K "need_names" "need_names" (topS 10) (f 13) (fd 13)
  g_need_names : mg "need_names" = some (.ref (f 13))
  k_need_names : PySem.W.keepIn L.K (.ref (f 13)) = true
  b_need_names : Binds L.K (fd 13) ["thing"] []
  F__law_told : Fun L.K "_law_told" "_law_told" (topS 32) (f 14) (fd 14)
  g__law_told : mg "_law_told" = some (.ref (f 14))
  k__law_told : PySem.W.keepIn L.K (.ref (f 14)) = true
  b__law_told : Binds L.K (fd 14) ["call"] []
  F__law_some_kinds : Fun L.K "_law_some_kinds" "_law_some_kinds" (topS 28) (f 15) (fd 15)
  g__law_some_kinds : mg "_law_some_kinds" = some (.ref (f 15))
  k__law_some_kinds : PySem.W.keepIn L.K (.ref (f 15)) = true
  b__law_some_kinds : Binds L.K (fd 15) ["m", "many", "most"] []
  F_is_paper : Fun L.K "is_paper" "is_paper" (topS 12) (f 16) (fd 16)
  g_is_paper : mg "is_paper" = some (.ref (f 16))
  k_is_paper : PySem.W.keepIn L.K (.ref (f 16)) = true
  b_is_paper : Binds L.K (fd 16) ["names", "thing"] []
  F__law_is_paper : Fun L.K "_law_is_paper" "_law_is_paper" (topS 30) (f 17) (fd 17)
  g__law_is_paper : mg "_law_is_paper" = some (.ref (f 17))
  k__law_is_paper : PySem.W.keepIn L.K (.ref (f 17)) = true
  b__law_is_paper : Binds L.K (fd 17) ["many", "thing"] []
  F__is_range : Fun L.K "_is_range" "_is_range" (topS 17) (f 18) (fd 18)
  g__is_range : mg "_is_range" = some (.ref (f 18))
  k__is_range : PySem.W.keepIn L.K (.ref (f 18)) = true
  b__is_range : Binds L.K (fd 18) ["names", "thing"] []
  F_need_kinds : Fun L.K "need_kinds" "need_kinds" (topS 14) (f 19) (fd 19)
  g_need_kinds : mg "need_kinds" = some (.ref (f 19))
  k_need_kinds : PySem.W.keepIn L.K (.ref (f 19)) = true
  b_need_kinds : Binds L.K (fd 19) ["names", "thing"] []
  F_raised : Fun L.K "raised" "raised" (topS 15) (f 20) (fd 20)
  g_raised : mg "raised" = some (.ref (f 20))
  k_raised : PySem.W.keepIn L.K (.ref (f 20)) = true
  b_raised : Binds L.K (fd 20) ["paper", "name"] []
  F__law_move : Fun L.K "_law_move" "_law_move" (topS 29) (f 21) (fd 21)
  g__law_move : mg "_law_move" = some (.ref (f 21))
  k__law_move : PySem.W.keepIn L.K (.ref (f 21)) = true
  b__law_move : Binds L.K (fd 21) ["paper", "name"] []
  F_law : Fun L.K "law" "law" (topS 33) (f 22) (fd 22)
  b_law : Binds L.K (fd 22) ["script"] []
  n_all : mg "all" = none
  n_bool : mg "bool" = none
  n_int : mg "int" = none
  n_isinstance : mg "isinstance" = none
  n_len : mg "len" = none
  n_list : mg "list" = none
  n_min : mg "min" = none
  n_range : mg "range" = none
  n_repr : mg "repr" = none
  n_set : mg "set" = none
  n_sorted : mg "sorted" = none
  n_str : mg "str" = none
  n_tuple : mg "tuple" = none
  n_zip : mg "zip" = none
  i_MOST_NAMES : ∃ t, mg "MOST_NAMES" = some (.int 4 t)
  i__FEWEST_NAMES : ∃ t, mg "_FEWEST_NAMES" = some (.int 2 t)
  i__MOST_LETTERS : ∃ t, mg "_MOST_LETTERS" = some (.int 8 t)
  cd_law : (fd 22).code = .ref (co 22)
  T_law : (tb 22, lamQ "law") ∈ L.T
  U_law : ∀ p ∈ L.T, p.1 = tb 22 → p.2 = lamQ "law"
  c1 : mg "BadNames" = some (.ref (L.cA 1))
  h1 : L.cF 1 = [("value" : Str)]
  x1 : PySem.DLX.ExT L.K (L.cA 1) (fI 1) "value" "BadNames.__init__" "ValueError" "ValueError.__new__" "ValueError.__init__" [.type "ValueError", .type "Exception", .type "BaseException", .type "object"]
  c2 : mg "BadKinds" = some (.ref (L.cA 2))
  h2 : L.cF 2 = [("value" : Str)]
  x2 : PySem.DLX.ExT L.K (L.cA 2) (fI 2) "value" "BadKinds.__init__" "ValueError" "ValueError.__new__" "ValueError.__init__" [.type "ValueError", .type "Exception", .type "BaseException", .type "object"]
  tab : TabOk L tabB [] tabI
  sb : ∀ e ∈ subT, PySem.W.exmOne L.K (.ref (L.cA e.1)) (.ref (L.cA e.2.1)) = some e.2.2
  er : L.er = none
  fz : L.fz = true
variable {L : Lx} {mg : Str → Option Value} {f : Nat → Addr} {fd : Nat → FuncData} {fI co tb : Nat → Addr}
theorem Md.ms (M : Md L mg f fd fI co tb) (a : Addr) : Md (L.ms a) mg f fd fI co tb := ⟨M.F__law_begun, M.g__law_begun, M.k__law_begun, M.b__law_begun, M.F__law_next, M.g__law_next, M.k__law_next, M.b__law_next, M.F__law_names, M.g__law_names, M.k__law_names, M.b__law_names, M.F__law_many, M.g__law_many, M.k__law_many, M.b__law_many, M.F__law_kinds, M.g__law_kinds, M.k__law_kinds, M.b__law_kinds, M.F_all_kinds, M.g_all_kinds, M.k_all_kinds, M.b_all_kinds, M.F__law_odd, M.g__law_odd, M.k__law_odd, M.b__law_odd, M.F__law_bent, M.g__law_bent, M.k__law_bent, M.b__law_bent, M.F__law_is_name, M.g__law_is_name, M.k__law_is_name, M.b__law_is_name, M.F__law_are_rising, M.g__law_are_rising, M.k__law_are_rising, M.b__law_are_rising, M.F__is_word, M.g__is_word, M.k__is_word, M.b__is_word, M.F_is_ascending, M.g_is_ascending, M.k_is_ascending, M.b_is_ascending, M.F_are_names, M.g_are_names, M.k_are_names, M.b_are_names, M.F_need_names, M.g_need_names, M.k_need_names, M.b_need_names, M.F__law_told, M.g__law_told, M.k__law_told, M.b__law_told, M.F__law_some_kinds, M.g__law_some_kinds, M.k__law_some_kinds, M.b__law_some_kinds, M.F_is_paper, M.g_is_paper, M.k_is_paper, M.b_is_paper, M.F__law_is_paper, M.g__law_is_paper, M.k__law_is_paper, M.b__law_is_paper, M.F__is_range, M.g__is_range, M.k__is_range, M.b__is_range, M.F_need_kinds, M.g_need_kinds, M.k_need_kinds, M.b_need_kinds, M.F_raised, M.g_raised, M.k_raised, M.b_raised, M.F__law_move, M.g__law_move, M.k__law_move, M.b__law_move, M.F_law, M.b_law, M.n_all, M.n_bool, M.n_int, M.n_isinstance, M.n_len, M.n_list, M.n_min, M.n_range, M.n_repr, M.n_set, M.n_sorted, M.n_str, M.n_tuple, M.n_zip, M.i_MOST_NAMES, M.i__FEWEST_NAMES, M.i__MOST_LETTERS, M.cd_law, M.T_law, M.U_law, M.c1, M.h1, M.x1, M.c2, M.h2, M.x2, ⟨M.tab.b, M.tab.e, M.tab.i⟩, M.sb, M.er, M.fz⟩
/-- the tables of code objects -/
structure Tbs (mg : Str → Option Value) (base : Heap) (co tb : Nat → Addr) : Prop where
  t_law : LamX.TabB base mg (co 22) (tb 22)
end Lw
namespace Lw
open PySem PySem.Spec L2 DL
section
abbrev s25 : Stmt := topS 19
theorem sc25 : FnScope ["script", "cell"] ["script"] (defScope s25) := ⟨rfl, rfl, rfl, by decide +kernel, rfl, by decide +kernel, by decide +kernel⟩
instance : DecidablePred bitsOk := fun z => by unfold bitsOk; infer_instance
def mBegun : List D → M D
  | [.scr ns] => if ns.length ≤ 63 ∧ ∀ z ∈ ns, bitsOk z then .begun (.ret .rnd) else .stuck
  | _ => .stuck
theorem iteP {b : Bool} {A B : Prop} (h : b = true) (a : A) : if b = true then A else B := by rw [if_pos h]; exact a
theorem iteN {b : Bool} {A B : Prop} (h : b = false) (a : B) : if b = true then A else B := by rw [h]; simpa using a
theorem merge3 (x y z : V) : mergeK [] [(Sum.inr "cells", x), (Sum.inr "left", y), (Sum.inr "at", z)] = ([(Sum.inr "cells", x), (Sum.inr "left", y), (Sum.inr "at", z)] : List (Key × V)) := by
  have n1 : ¬ ((("cells" : Str)) = "left") := by decide +kernel
  have n2 : ¬ ((("cells" : Str)) = "at") := by decide +kernel
  have n3 : ¬ ((("left" : Str)) = "at") := by decide +kernel
  simp [mergeK, putK, n1, n2, n3]
variable {L : Lx} {P : Program} {w : World} {mg : Str → Option Value} {base : Heap}
theorem f25 {f : Addr} {fd : FuncData} (F : Fun L.K "_law_begun" "_law_begun" s25 f fd) (nlist : mg "list" = none) : FG L P w mg base 2 f fd ["script"] mBegun := by
  refine fg_raw F sc25 fun cdv A outer s H E vs Q hr sp hl => ?_
  obtain ⟨Γ, g, σ, ds, rp, l, wp⟩ := sp
  unfold mBegun at wp
  split at wp
  · rename_i ns
    split at wp
    · rename_i hn
      obtain ⟨a, rfl, hq⟩ : ∃ a, vs = [.ref a] ∧ SqL L.K g.F a (ns.map V.int) := by
        cases l with
        | cons h l =>
          cases h with
          | scr e =>
            cases l
            exact ⟨_, rfl, e⟩
      have hu := hu_of hr
      refine ⟨_, pss_one (ps_ret (pe_disp (pps_cons pe_str (pe_callTy call_list_of (by rfl) nlist (by decide +kernel) (pa_cons (pv 0) pa_nil))
        (pps_cons pe_str (pe_lc (own := [("cell", 1)]) rfl sc25.nd (pi_list (pv 0)) (show BlkOk ["script", "cell"] (defScope s25) _ _ from ⟨rfl, by decide +kernel, by decide +kernel, by decide +kernel, by decide +kernel⟩)
          (fun s H C cl fp => pg_name (i := 1) sc25.nd rfl (.inl rfl)) (fun s H C cl fp => pts_one (pt_cmpR op_ge (pv 1) (pe_op op_pow pe_int pe_int) (nomark _))) (fun s H C cl fp => pv 1))
        (pps_cons pe_str pe_int pps_nil))) rfl rfl (by simp) (by decide))), ?_⟩
      have up : ∀ {H1 : Hp} {x : Addr} {o u : HO}, H1 x = none → ∀ y, H1 y = some u → upd H1 x o y = some u := fun n y e => upd_keep n e
      have memo : g.mu = none := by
        cases q : g.mu with
        | none => rfl
        | some m =>
          obtain ⟨c, l, cs, ls, at_, _, _, _, _, _, _, _, _, h0, h1⟩ := rp.rnd.2 m q
          have := wp.1
          omega
      have fin : ∀ (p c D : Addr) (H2 : Hp), (∀ y o, H y = some o → H2 y = some o) → H p = none → H c = none → H D = none → c ≠ D → H2 p = some (.dK [(Sum.inr "cells", .ref c), (Sum.inr "left", .ref D), (Sum.inr "at", .int 0)]) →
          H2 c = some (.lst (ns.map V.int)) → H2 D = some (.lst ((ns.filter fun z => decide (10 ^ 18 ≤ z)).map V.int)) → Q (.ref p) H2 := fun p c D H2 kp np nc nD ncd e1 e2 e3 => by
        have inm : ∀ y o, H y = some o → ¬ InM (some p) H2 y := fun y o e ⟨m, em, h⟩ => by
          cases em
          rcases h with h | ⟨kvs, k, e', h⟩
          · rw [h, np] at e; cases e
          · rw [e1] at e'
            cases e'
            simp only [List.mem_cons, Prod.mk.injEq, V.ref.injEq, List.not_mem_nil, or_false] at h
            rcases h with ⟨_, h⟩ | ⟨_, h⟩ | ⟨_, h⟩
            · rw [h, nc] at e; cases e
            · rw [h, nD] at e; cases e
            · cases h
        have fl : ∀ z ∈ ns.filter (fun z => decide (10 ^ 18 ≤ z)), bitsOk z ∧ 0 ≤ z := fun z hz => by
          have := List.mem_filter.mp hz
          refine ⟨hn.2 z this.1, ?_⟩
          have h := of_decide_eq_true this.2
          omega
        refine wp.2 (.ref p) { F := g.F, mu := some p, bud := lim, nt := g.nt } H2 ⟨fun _ _ e => e, fun m e => (by rw [memo] at e; cases e), fun y o e => kp y o (rp.sub y o e), fun y o e _ _ => ⟨kp y o e, inm y o e⟩, fun y h => ⟨?_, fun e => e⟩, fun y o e => inm y o (rp.sub y o e), ⟨fun e => (by cases e), fun m e => ?_⟩, ?_, ⟨fun q hq => ?_, fun ea en ed eu he => ?_⟩⟩ rfl (.rnd rfl)
        · cases e : H y with
          | none => exact absurd e h
          | some o => rw [kp y o e]; simp
        · cases e
          exact ⟨c, D, ns, _, 0, e1, e2, e3, ncd, hn.1, Nat.le_trans (List.length_filter_le _ _) hn.1, hn.2, fl, by decide, by simp⟩
        · show lim ≤ g.bud
          rw [wp.1]; omega
        · obtain ⟨ps, a1, a2, a3⟩ := rp.tab.1 q hq
          exact ⟨ps, kp _ _ a1, a2, fun pos cv hc => let ⟨c', z1, z2⟩ := a3 pos cv hc; ⟨c', z1, kp _ _ z2⟩⟩
        · obtain ⟨f, a1, a2⟩ := rp.tab.2 ea en ed eu he
          exact ⟨f, a1, kp _ _ a2⟩
      intro p np
      have q0 := sqL_mono (K := L.K) (fun y o e => up (o := .dK []) np y (rp.sub y o e)) hq
      refine ⟨_, rfl, a, _, rfl, .inl q0, fun c nc => ?_⟩
      have q1 := sqL_mono (K := L.K) (fun y o e => up (o := .lst (ns.map V.int)) nc y e) q0
      refine ⟨_, rfl, a, rfl, ⟨_, q1⟩, fun D nD => ?_⟩
      refine ⟨fun j m Hj => j ≤ ns.length ∧ m = ns.length - j ∧ Hj D = some (.lst (((ns.take j).filter fun z => decide (10 ^ 18 ≤ z)).map V.int)) ∧ ∀ y o, upd (upd H p (.dK [])) c (.lst (ns.map V.int)) y = some o → Hj y = some o, ⟨_, Nat.zero_le _, rfl, upd_same, fun y o e => up nD y e⟩, ?_⟩
      rintro j m Hj ⟨hj, rfl, eD, kp⟩
      have qj := sqL_mono (K := L.K) kp q1
      by_cases hlt : j < ns.length
      · refine .inr ⟨⟨_, _, qj, by rw [List.getElem?_map, List.getElem?_eq_getElem hlt]; rfl⟩, fun Hn => Hn D = some (.lst (((ns.take (j + 1)).filter fun z => decide (10 ^ 18 ≤ z)).map V.int)) ∧ ∀ y o, upd (upd H p (.dK [])) c (.lst (ns.map V.int)) y = some o → Hn y = some o, fun H' h => ⟨_, by omega, hlt, rfl, h⟩, fun x H' h => ?_⟩
        obtain ⟨rfl, hx⟩ := h
        have ex := hx _ qj
        rw [List.getElem?_map, List.getElem?_eq_getElem hlt] at ex
        cases ex
        have et : ns.take (j + 1) = ns.take j ++ [ns[j]] := List.take_succ_eq_append_getElem hlt
        refine ⟨rfl, _, rfl, _, _, rfl, rfl, ⟨by decide, by decide, by decide⟩, _, _, rfl, rfl, _, rfl, ?_⟩
        by_cases hz : (10 : Int) ^ 18 ≤ ns[j]
        · have et2 : (ns.take (j + 1)).filter (fun z => decide (10 ^ 18 ≤ z)) = (ns.take j).filter (fun z => decide (10 ^ 18 ≤ z)) ++ [ns[j]] := by
            rw [et, List.filter_append, List.filter_cons_of_pos (by exact decide_eq_true hz), List.filter_nil]
          refine iteP (decide_eq_true hz) ⟨_, rfl, _, eD, ?_, ?_, fun y o e => ?_⟩
          · rw [List.length_map]
            exact Nat.lt_of_le_of_lt (List.length_filter_le _ _) (Nat.lt_of_le_of_lt (List.length_take_le _ _) (Nat.lt_of_le_of_lt (Nat.le_trans hj hn.1) (by decide)))
          · rw [et2, List.map_append, upd_same]; rfl
          · have : y ≠ D := fun z => by rw [z, nD] at e; cases e
            rw [upd_ne this]; exact kp y o e
        · have et2 : (ns.take (j + 1)).filter (fun z => decide (10 ^ 18 ≤ z)) = (ns.take j).filter (fun z => decide (10 ^ 18 ≤ z)) := by
            rw [et, List.filter_append, List.filter_cons_of_neg (by rw [decide_eq_false hz]; decide), List.filter_nil, List.append_nil]
          refine iteN (decide_eq_false hz) ⟨?_, kp⟩
          rw [et2]; exact eD
      · have e : j = ns.length := by omega
        subst e
        rw [List.take_length] at eD
        refine .inl ⟨⟨_, qj, by simp⟩, ?_⟩
        have npc : c ≠ p := fun z => by rw [z, upd_same] at nc; cases nc
        have nDc : c ≠ D := fun z => by rw [z, upd_same] at nD; cases nD
        have nDp : D ≠ p := fun z => by rw [z, upd_ne npc.symm, upd_same] at nD; cases nD
        have ncH : H c = none := by rw [upd_ne npc] at nc; exact nc
        have nDH : H D = none := by rw [upd_ne nDc.symm, upd_ne nDp] at nD; exact nD
        have ep := kp p (.dK []) (by rw [upd_ne npc.symm, upd_same])
        refine ⟨ep, [(Sum.inr "cells", .ref c), (Sum.inr "left", .ref D), (Sum.inr "at", .int 0)], rfl, by show 3 ≤ 15; decide, ?_⟩
        rw [merge3]
        refine fin p c D _ (fun y o e => ?_) np ncH nDH nDc upd_same ?_ ?_
        · have n1 : y ≠ p := fun z => by rw [z, np] at e; cases e
          have n2 : y ≠ c := fun z => by rw [z, ncH] at e; cases e
          rw [upd_ne n1]
          exact kp y o (by rw [upd_ne n2, upd_ne n1]; exact e)
        · rw [upd_ne npc]; exact kp c _ upd_same
        · rw [upd_ne nDp]; exact eD
    · exact wp.elim
  · exact wp.elim
end
section
abbrev s26 : Stmt := topS 20
theorem sc26 : FnScope ["m", "many", "rest", "at", "bits", "cell", "blend"] ["m", "many"] (defScope s26) := ⟨rfl, rfl, rfl, by decide +kernel, rfl, by decide +kernel, by decide +kernel⟩
def mNext : List D → M D
  | [.rnd, .int n] => if 0 < n ∧ n < 2 ^ 60 then .choose n.toNat fun i => .ret (.int (i : Nat)) else .stuck
  | _ => .stuck
theorem iteT' {α : Type} [DecidableEq α] {x y : α} {A B : Prop} (h : ¬ x = y) (a : A) : if (!decide (x = y)) = true then A else B := by
  rw [decide_eq_false h]
  exact iteT a
theorem iteF' {α : Type} [DecidableEq α] {x y : α} {A B : Prop} (h : x = y) (a : B) : if (!decide (x = y)) = true then A else B := by
  rw [decide_eq_true h]
  exact iteF a
theorem iteFz {z : Int} {A B : Prop} (h : ¬ z = 0) (a : B) : if decide (V.int z = V.int 0) = true then A else B := by
  rw [decide_eq_false (fun e => h (V.int.inj e))]
  exact iteF a
variable {L : Lx} {P : Program} {w : World} {mg : Str → Option Value} {base : Heap}
theorem f26 {f : Addr} {fd : FuncData} (F : Fun L.K "_law_next" "_law_next" s26 f fd) (nlen : mg "len" = none) (nint : mg "int" = none) : FG L P w mg base 2 f fd ["m", "many"] mNext := by
  refine fg_raw F sc26 fun cdv A outer s H E vs Q hr sp hl => ?_
  obtain ⟨Γ, g, σ, ds, rp, l, wp⟩ := sp
  unfold mNext at wp
  split at wp
  · rename_i n
    split at wp
    · rename_i hn
      obtain ⟨am, rfl, hm⟩ : ∃ am, vs = [.ref am, .int n] ∧ g.mu = some am := by
        cases l with
        | cons a l =>
          cases a with
          | rnd e =>
            cases l with
            | cons b l =>
              cases b
              cases l
              exact ⟨_, rfl, e⟩
      obtain ⟨c, ll, cs, ls, at0, e1, e2, e3, ncl, hcs, hls, bcs, bls, hat, hbud⟩ := rp.rnd.2 am hm
      have hu := hu_of hr
      obtain ⟨b, eb⟩ : ∃ b, g.bud = b + 1 := by
        cases q : g.bud with
        | zero => rw [q] at wp; exact wp.elim
        | succ b => exact ⟨b, rfl⟩
      rw [eb] at wp
      have hu64 : (A.deeper (PyProof.Rows.envOfC "_law_next" (defScope s26) s.heap.objs.size f cdv)).units + 64 < cLine := hr.units
      refine ⟨_, pss_cons (ps_while (passes_of rfl) (PW.pt (pw_and (pt_cmpR (op_neD hu64) (pe_dget hu (pv 0) pe_str (fun _ _ => rfl)) (pe_lst pa_nil) (nomark _)) (pw_and1 (pt_cmpR op_eq (pe_ix ix_list (pe_dget hu (pv 0) pe_str (fun _ _ => rfl)) pe_int (fun _ _ => rfl)) pe_int (nomark _)))))
          (pss_one (ps_dput hu (pv 0) pe_str (pe_slice sl_list (pe_dget hu (pv 0) pe_str (fun _ _ => rfl)) (po_some pe_int) po_none) rfl)))
        (pss_cons (ps_if (pt_cmpR (op_neD hu64) (pe_dget hu (pv 0) pe_str (fun _ _ => rfl)) (pe_lst pa_nil) (nomark _))
            (pss_cons (ps_set (i := 2) sc26.nd rfl (.inl rfl) (pe_ix ix_list (pe_dget hu (pv 0) pe_str (fun _ _ => rfl)) pe_int (fun _ _ => rfl)))
            (pss_cons (ps_asg (pe_op op_fdivW (pv 2) (pv 1)) (pg_sub (pe_dget hu (pv 0) pe_str (fun _ _ => rfl)) pe_int set_list))
            (pss_one (ps_ret (pe_op op_mod (pe_callTy call_int1 (by rfl) nint (by decide +kernel) (pa_cons (pv 2) pa_nil)) (pv 1)))))) pss_nil)
        (pss_cons (ps_par (i := 3) (j := 4) rfl sc26.nd rfl rfl (by decide) rfl rfl (pa_cons (pe_op op_add (pe_dget hu (pv 0) pe_str (fun _ _ => rfl)) pe_int) (pa_cons (pe_dget hu (pv 0) pe_str (fun _ _ => rfl)) pa_nil)) (by rfl))
        (pss_cons (ps_dput hu (pv 0) pe_str (pv 3) rfl)
        (pss_cons (ps_set (i := 5) sc26.nd rfl (.inl rfl) (pe_ifExp (pt_cmpR (op_neD hu64) (pv 4) (pe_lst pa_nil) (nomark _))
            (pe_callTy call_int1 (by rfl) nint (by decide +kernel) (pa_cons (pe_ix ix_list (pv 4) (pe_op op_mod (pe_callTy call_int1 (by rfl) nint (by decide +kernel) (pa_cons (pe_op op_add (pe_op op_mulW (pv 3) (pv 3)) (pe_op op_fdivW (pv 3) pe_int)) pa_nil)) (pe_callB call_len (by rfl) nlen (by decide +kernel) (pa_cons (pv 4) pa_nil))) (fun _ _ => rfl)) pa_nil)) pe_int))
        (pss_cons (ps_set (i := 6) sc26.nd rfl (.inl rfl) (pe_op op_mod (pe_callTy call_int1 (by rfl) nint (by decide +kernel) (pa_cons (pe_op op_add (pe_op op_add (pe_op op_mul (pv 5) pe_int) (pe_op op_mulW (pv 3) pe_int)) (pe_op op_mulW (pe_op op_mulW pe_int (pv 3)) (pv 3))) pa_nil)) pe_int))
        (pss_one (ps_ret (pe_op op_mod (pe_callTy call_int1 (by rfl) nint (by decide +kernel) (pa_cons (pe_op op_fdivW (pe_op op_mod (pe_callTy call_int1 (by rfl) nint (by decide +kernel) (pa_cons (pe_op op_add (pe_op op_mulW (pv 6) pe_int) (pe_op op_mulW pe_int (pv 3))) pa_nil)) pe_int) pe_int) pa_nil)) (pv 1)))))))))
        , ?_⟩
      have m0 : MS am c ll cs H ll ls at0 H := ⟨e1, e2, e3, ncl, ⟨_, e3⟩, .inl rfl, fun a o e _ _ => e⟩
      have fin : ∀ (l' : Addr) (ls' : List Int) (at_ r : Int) (H1 : Hp), MS am c ll cs H l' ls' at_ H1 → ls'.length ≤ 63 → (∀ z ∈ ls', bitsOk z ∧ 0 ≤ z) → (0 ≤ at_ ∧ at_.toNat + b ≤ lim) → 0 ≤ r → r < n → Q (.int r) H1 := fun l' ls' at_ r H1 s h1 h2 h3 h4 h5 => by
        have ok : MOk b H1 am := ⟨c, l', cs, ls', at_, s.atM, s.atC, s.atL, s.ncl, hcs, h1, bcs, h2, h3.1, h3.2⟩
        have q := wp r.toNat (by omega) (.int r) { g with bud := b } H1 (s.stp rp hm e1 e2 e3 ok (by omega)) rfl
        rw [show ((r.toNat : Nat) : Int) = r by omega] at q
        exact q (.int r)
      refine ⟨fun k σ1 H1 => σ1 = L2.start ["m", "many", "rest", "at", "bits", "cell", "blend"] [V.ref am, V.int n] ∧ ∃ l' ls', k = ls'.length ∧ MS am c ll cs H l' ls' at0 H1 ∧ ls'.length ≤ 63 ∧ ∀ z ∈ ls', bitsOk z ∧ 0 ≤ z, ⟨ls.length, rfl, ll, ls, rfl, m0, hls, bls⟩, ?_⟩
      rintro k σ1 H1 ⟨rfl, l1, ls1, rfl, s1, z1, b1⟩
      refine rd_l s1 rfl ⟨by decide, fun p1 n1 => ne_nil s1.atL n1 ⟨_, rfl, ?_⟩⟩
      have s2 : MS am c ll cs H l1 ls1 at0 (upd H1 p1 (.lst [])) := s1.lay n1
      have n64 : n.natAbs.log2 < 9000 := Nat.lt_trans (Nat.log2_lt (by omega) |>.mpr (show n.natAbs < 2 ^ 60 by omega)) (by decide)
      cases ls1 with
      | nil =>
        refine iteF (rd_l s2 rfl ⟨by decide, fun p2 n2 => ne_nil s2.atL n2 ⟨_, rfl, iteF ?_⟩⟩)
        have s3 := s2.lay (o := .lst []) n2
        refine rd_a s3 rfl ⟨_, _, rfl, rfl, rd_c s3 rfl ⟨_, _, rfl, ?_⟩⟩
        refine ⟨_, rfl, _, rfl, am, _, rfl, DPut.k (k := Sum.inr "at") s3.atM (by show 3 < sizeLine; decide), ?_⟩
        have s4 := s3.setAt (at0 + 1)
        have ha : 0 ≤ at0 + 1 := by omega
        have hb : (at0 + 1).toNat + b ≤ lim := by omega
        have hbits := lim_abs ha (show (at0 + 1).toNat ≤ lim + 1 by omega)
        have big : ∀ (cell : Int) (H2 : Hp), bitsOk cell → MS am c ll cs H l1 [] (at0 + 1) H2 → CMul cell 40692 ∧ CMulW (at0 + 1) 65539 ∧ CMulW 7001 (at0 + 1) ∧ CMulW (7001 * (at0 + 1)) (at0 + 1) ∧ CMulW ((cell * 40692 + (at0 + 1) * 65539 + 7001 * (at0 + 1) * (at0 + 1)) % 2147483399) 48271 ∧ CMulW 1013 (at0 + 1) := fun cell H2 _ _ => by
          have e1 : (7001 : Int).natAbs < 2 ^ 13 := by decide
          have m1 := wide_lt e1 hbits
          have r0 := Int.emod_nonneg (cell * 40692 + (at0 + 1) * 65539 + 7001 * (at0 + 1) * (at0 + 1)) (show (2147483399 : Int) ≠ 0 by decide)
          have r1 := Int.emod_lt_of_pos (cell * 40692 + (at0 + 1) * 65539 + 7001 * (at0 + 1) * (at0 + 1)) (show (0 : Int) < 2147483399 by decide)
          have r2 : ((cell * 40692 + (at0 + 1) * 65539 + 7001 * (at0 + 1) * (at0 + 1)) % 2147483399).natAbs < 2 ^ 32 := by
            have : (2 : Nat) ^ 32 = 4294967296 := by decide
            omega
          exact ⟨.inr ⟨by decide, by decide⟩, wide_mul hbits (show (65539 : Int).natAbs < 2 ^ 17 by decide) (by decide) (by decide) (by decide), wide_mul e1 hbits (by decide) (by decide) (by decide), wide_mul m1 hbits (by decide) (by decide) (by decide),
            wide_mul r2 (show (48271 : Int).natAbs < 2 ^ 16 by decide) (by decide) (by decide) (by decide), wide_mul (show (1013 : Int).natAbs < 2 ^ 10 by decide) hbits (by decide) (by decide) (by decide)⟩
        refine ⟨_, rfl, by decide, fun p3 n3 => ne_nil s4.atC n3 ⟨_, rfl, ?_⟩⟩
        have s5 := s4.lay (o := .lst []) n3
        have wsq : CMulW (at0 + 1) (at0 + 1) := wide_mul hbits hbits (by decide) (by decide) (by decide)
        by_cases hcs0 : cs = []
        · refine iteF' hcs0 ?_
          obtain ⟨q1, q2, q3, q4, q5, q6⟩ := big 5 _ (Nat.lt_of_lt_of_le (show (5 : Int).natAbs < 2 ^ 3 by decide) (Nat.pow_le_pow_right (by decide) (by decide))) s5
          refine ⟨_, rfl, _, _, rfl, rfl, q1, _, rfl, _, _, rfl, rfl, q2, _, _, rfl, rfl, _, rfl, _, _, rfl, rfl, q3, _, rfl, _, _, rfl, rfl, q4, _, _, rfl, rfl, .inl ⟨_, rfl, _, _, rfl, rfl, (by show (0 : Int) < 2147483399; decide), ?_⟩⟩
          refine ⟨_, rfl, _, _, rfl, rfl, q5, _, rfl, _, _, rfl, rfl, q6, _, _, rfl, rfl, .inl ⟨_, rfl, _, _, rfl, rfl, (by show (0 : Int) < 2147483647; decide), _, _, rfl, rfl, ⟨by decide, by decide⟩, .inl ⟨_, rfl, _, rfl, _, _, rfl, rfl, hn.1, ?_⟩⟩⟩
          exact fin l1 [] (at0 + 1) _ _ s5 (by decide) (by intro z hz; cases hz) ⟨ha, hb⟩ (Int.emod_nonneg _ (by omega)) (Int.emod_lt_of_pos _ hn.1)
        · refine iteT' hcs0 ?_
          have lpos : 0 < (cs.length : Int) := by
            have : cs.length ≠ 0 := fun z => hcs0 (List.eq_nil_of_length_eq_zero z)
            omega
          have i0 := Int.emod_nonneg ((at0 + 1) * (at0 + 1) + (at0 + 1) / 2) (show (cs.length : Int) ≠ 0 by omega)
          have i1 := Int.emod_lt_of_pos ((at0 + 1) * (at0 + 1) + (at0 + 1) / 2) lpos
          obtain ⟨z, hz, ez⟩ := at_ints (zs := cs) i0 i1
          obtain ⟨q1, q2, q3, q4, q5, q6⟩ := big z _ (bcs z hz) s5
          refine ⟨_, rfl, _, rfl, _, rfl, _, _, rfl, rfl, wsq, _, rfl, _, _, rfl, rfl, ⟨by decide, by decide⟩, _, _, rfl, rfl, .inl ⟨_, rfl, _, rfl, _, cs.length, rfl, .inl ⟨_, SqL.of s5.atC, by simp⟩, _, _, rfl, rfl, lpos, c, _, _, .int z, rfl, rfl, SqL.of s5.atC, ez, .inl ⟨_, rfl, ?_⟩⟩⟩
          refine ⟨_, rfl, _, _, rfl, rfl, q1, _, rfl, _, _, rfl, rfl, q2, _, _, rfl, rfl, _, rfl, _, _, rfl, rfl, q3, _, rfl, _, _, rfl, rfl, q4, _, _, rfl, rfl, .inl ⟨_, rfl, _, _, rfl, rfl, (by show (0 : Int) < 2147483399; decide), ?_⟩⟩
          refine ⟨_, rfl, _, _, rfl, rfl, q5, _, rfl, _, _, rfl, rfl, q6, _, _, rfl, rfl, .inl ⟨_, rfl, _, _, rfl, rfl, (by show (0 : Int) < 2147483647; decide), _, _, rfl, rfl, ⟨by decide, by decide⟩, .inl ⟨_, rfl, _, rfl, _, _, rfl, rfl, hn.1, ?_⟩⟩⟩
          exact fin l1 [] (at0 + 1) _ _ s5 (by decide) (by intro z hz; cases hz) ⟨ha, hb⟩ (Int.emod_nonneg _ (by omega)) (Int.emod_lt_of_pos _ hn.1)
      | cons z ls1 =>
        have bz := b1 z List.mem_cons_self
        refine iteT (rd_l s2 rfl ⟨l1, _, 0, .int z, rfl, rfl, SqL.of s2.atL, atI_nat (j := 0) rfl, by rfl, _, rfl, ?_⟩)
        by_cases hz : z = 0
        · subst hz
          refine iteT ⟨_, fun σ' H' h => h, ?_⟩
          refine rd_l s2 rfl ⟨1, rfl, l1, _, rfl, SqL.of s2.atL, fun p n2 => ⟨_, rfl, am, _, rfl, DPut.k (k := Sum.inr "left") (upd_keep n2 s2.atM) (by show 3 < sizeLine; decide), ls1.length, Nat.lt_succ_self _, rfl, p, ls1, rfl, ?_, Nat.le_of_succ_le z1, fun z hz => b1 z (List.mem_cons_of_mem _ hz)⟩⟩
          have s3 := s2.lay (o := .lst (cutV ((0 :: ls1).map V.int) (some 1) none)) n2
          have ec : cutV ((0 :: ls1).map V.int) (some 1) none = ls1.map V.int := by
            simp [cutV, HT.sIx, List.take_of_length_le]
          refine s3.setLeft (p := p) (zs := ls1) (by rw [upd_same, ec]) ?_ fun e => ?_
          · cases q : H p with
            | none => rfl
            | some o =>
              have h1 : p ≠ am := fun e => by rw [e, s2.atM] at n2; cases n2
              have h2 : p ≠ ll := fun e => by obtain ⟨zs, e'⟩ := s2.old; rw [e, e'] at n2; cases n2
              rw [s2.keep p o q h1 h2] at n2; cases n2
          · rw [← e, s2.atC] at n2; cases n2
        · refine iteFz hz (rd_l s2 rfl ⟨by decide, fun p2 n2 => ne_nil s2.atL n2 ⟨_, rfl, iteT ?_⟩⟩)
          have s3 := s2.lay (o := .lst []) n2
          refine rd_l s3 rfl ⟨l1, _, 0, .int z, rfl, rfl, SqL.of s3.atL, atI_nat (j := 0) rfl, ?_⟩
          refine ⟨_, rfl, _, rfl, _, _, rfl, rfl, ⟨hn.1, n64⟩, rd_l s3 rfl ⟨l1, _, 0, 0, rfl, rfl, s3.atL, (by unfold ixN; rw [if_pos (by decide), if_pos (by simp only [List.length_map, List.length_cons]; omega)]; rfl), ?_⟩⟩
          have s4 := s3.setItem (zs := (z / n) :: ls1)
          refine ⟨_, rfl, .inl ⟨_, rfl, _, rfl, _, _, rfl, rfl, hn.1, ?_⟩⟩
          have dz : 0 ≤ z / n := Int.ediv_nonneg bz.2 (by omega)
          have dl : z / n ≤ z := Int.ediv_le_self _ bz.2
          exact fin l1 ((z / n) :: ls1) at0 _ _ s4 z1 (fun y hy => by
            rcases List.mem_cons.mp hy with e | hy
            · subst e; exact ⟨wide_le dz dl bz.1, dz⟩
            · exact b1 y (List.mem_cons_of_mem _ hy)) ⟨hat, by omega⟩ (Int.emod_nonneg _ (by omega)) (Int.emod_lt_of_pos _ hn.1)
    · exact wp.elim
  · exact wp.elim
end
end Lw
namespace Lw
open PySem PySem.Spec L2 DL
variable {L : Lx} {P : Program} {w : World} {mg : Str → Option Value} {base : Heap} {f : Nat → Addr} {fd : Nat → FuncData} {fI co tb : Nat → Addr}
theorem g__law_begun (M : Md L mg f fd fI co tb) : FG L P w mg base 2 (f 0) (fd 0) ["script"] mBegun := f25 M.F__law_begun M.n_list
abbrev m__law_begun := mBegun
theorem g__law_next (M : Md L mg f fd fI co tb) : FG L P w mg base 2 (f 1) (fd 1) ["m", "many"] mNext := f26 M.F__law_next M.n_len M.n_int
abbrev m__law_next := mNext
abbrev N__law_names : List Str := ["m", "many", "letters", "stem", "k", "at", "first", "by", "word"]
abbrev s__law_names : Stmt := (topS 21)
theorem sc__law_names : FnScope N__law_names ["m", "many"] (defScope s__law_names) := ⟨rfl, rfl, rfl, by decide +kernel, rfl, by decide +kernel, by decide +kernel⟩
def b__law_names : IS := (sSeq (sAsg (gT [(gN 2), (gN 3)]) (iTup [(iLit (.str (PySem.Str.ofString "abcdefghijklmnopqrstuvwxyz"))), (iLit (.str (PySem.Str.ofString "")))]))
  (sSeq (sFor (gN 4) (iiR1 (iCall (m__law_next) [(iVar 0), (iLit (.int 8))])) (sSet 3 (iOp fAdd (iVar 3) (iOp fIx (iVar 2) (iCall (m__law_next) [(iVar 0), (iLit (.int 26))])))))
  (sSeq (sAsg (gT [(gN 5), (gN 6), (gN 7)]) (iTup [(iCall (m__law_next) [(iVar 0), (iOp fAdd (iBi fLen [(iVar 3)]) (iLit (.int 1)))]), (iCall (m__law_next) [(iVar 0), (iLit (.int 26))]), (iOp fIx (iLst [(iLit (.int 1)), (iLit (.int 3)), (iLit (.int 5)), (iLit (.int 7)), (iLit (.int 9)), (iLit (.int 11))]) (iCall (m__law_next) [(iVar 0), (iLit (.int 6))]))]))
  (sSeq (sSet 8 (iSl fSl (iOp fAdd (iVar 3) (iOp fMul (iOp fIx (iVar 2) (iVar 6)) (iLit (.int 8)))) oNone (oSome (iLit (.int 8)))))
  (sSeq (sIf (andB (asB (iOp fGt (iVar 7) (iLit (.int 5)))) (asB (iOp fLt (iVar 1) (iLit (.int 9))))) (sRet (iLc (gN 4) (iiR1 (iVar 1)) cYes (iIf (asB (iOp fGt (iVar 7) (iLit (.int 7)))) (iSl fSl (iVar 8) (oSome (iVar 4)) oNone) (iSl fSl (iVar 8) oNone (oSome (iOp fSubI (iOp fAdd (iVar 4) (iLit (.int 9))) (iVar 1))))) [4])) sPass)
  (sRet (iLc (gN 4) (iiR1 (iVar 1)) cYes (iOp fAdd (iOp fAdd (iSl fSl (iVar 3) oNone (oSome (iVar 5))) (iOp fIx (iVar 2) (iOp fModI (iBi fInt [(iOp fAdd (iVar 6) (iOp fMul (iVar 7) (iVar 4)))]) (iLit (.int 26))))) (iSl fSl (iVar 3) (oSome (iVar 5)) oNone)) [4])))))))
theorem d__law_names (M : Md L mg f fd fI co tb) {f' : Addr} {cdv : Value} {A : Around} {outer : List PySem.Env} {s : Shared} {H : Hp} {E : XK} (hr : Room (2) (A.deeper (PyProof.Rows.envOfC "_law_names" (defScope s__law_names) s.heap.objs.size f' cdv))) (hg : A.guards = some []) :
    DSs L (cxOf (L2.CX P w) P w L.K mg base N__law_names "_law_names" (defScope s__law_names) f' cdv A outer s H E) (b__law_names) (defBody s__law_names) := by
  have hu : (A.deeper (PyProof.Rows.envOfC "_law_names" (defScope s__law_names) s.heap.objs.size f' cdv)).units + 64 < cLine := hr.units
  exact (dss_cons (ds_asg (de_tup (da_cons dstr (da_cons dstr da_nil))) (dg_tup rfl rfl (dgs_cons (dg_name (n := 2) sc__law_names.nd rfl (Or.inr rfl)) (dgs_cons (dg_name (n := 3) sc__law_names.nd rfl (Or.inr rfl)) dgs_nil))))
  (dss_cons (ds_for (passes_of rfl) rfl (di_range1 (by rfl) M.n_range (da_cons (de_call (g__law_next M) rfl (hr.mono (by omega)) hg (by rfl) M.g__law_next M.k__law_next M.b__law_next rfl (da_cons (dvar 0) (da_cons dint da_nil))) da_nil)) (dg_name (n := 4) sc__law_names.nd rfl (Or.inl rfl)) (dss_one (ds_set (n := 3) sc__law_names.nd rfl (Or.inr rfl) (de_bin (od_add rfl) (dvar 3).dv (de_ix (ixd rfl) (dvar 2).dv (de_call (g__law_next M) rfl (hr.mono (by omega)) hg (by rfl) M.g__law_next M.k__law_next M.b__law_next rfl (da_cons (dvar 0) (da_cons dint da_nil))).dv).dv))))
  (dss_cons (ds_asg (de_tup (da_cons (de_call (g__law_next M) rfl (hr.mono (by omega)) hg (by rfl) M.g__law_next M.k__law_next M.b__law_next rfl (da_cons (dvar 0) (da_cons (de_bin (od_add rfl) (de_bi (ca_len rfl) (by rfl) M.n_len (by decide +kernel) (dav_cons (dvar 3).dv dav_nil)).dv dint.dv) da_nil))) (da_cons (de_call (g__law_next M) rfl (hr.mono (by omega)) hg (by rfl) M.g__law_next M.k__law_next M.b__law_next rfl (da_cons (dvar 0) (da_cons dint da_nil))) (da_cons (de_ix (ixd rfl) (df_lst (da_cons dint (da_cons dint (da_cons dint (da_cons dint (da_cons dint (da_cons dint da_nil))))))).de.dv (de_call (g__law_next M) rfl (hr.mono (by omega)) hg (by rfl) M.g__law_next M.k__law_next M.b__law_next rfl (da_cons (dvar 0) (da_cons dint da_nil))).dv) da_nil)))) (dg_tup rfl rfl (dgs_cons (dg_name (n := 5) sc__law_names.nd rfl (Or.inr rfl)) (dgs_cons (dg_name (n := 6) sc__law_names.nd rfl (Or.inr rfl)) (dgs_cons (dg_name (n := 7) sc__law_names.nd rfl (Or.inr rfl)) dgs_nil)))))
  (dss_cons (ds_set (n := 8) sc__law_names.nd rfl (Or.inr rfl) (de_sl (sld rfl) (de_bin (od_add rfl) (dvar 3).dv (de_bin (od_mul rfl) (de_ix (ixd rfl) (dvar 2).dv (dvar 6).dv).dv dint.dv).dv).dv do_none (do_some dint)))
  (dss_cons (ds_if (DW.dt (dw_and (dt_cmp (od_gt rfl hu) (dvar 7).dv dint.dv (nomark _)) (dw_and1 (dt_cmp (od_lt rfl hu) (dvar 1).dv dint.dv (nomark _))))) (dss_one (ds_ret (df_lc (own := [("k", 4)]) rfl sc__law_names.nd (di_range1 (by rfl) M.n_range (da_cons (dvar 1) da_nil)) (show BlkOk N__law_names (defScope s__law_names) _ [("k", 4)] from ⟨rfl, by decide +kernel, by decide +kernel, by decide +kernel, by decide +kernel⟩) (fun s H C cl fp => (pg_name (i := 4) sc__law_names.nd rfl (by first | exact .inl rfl | exact .inr rfl))) (gk_name (by decide)) (fun s H C cl fp => pts_nil) tk_yes (fun s H C cl fp => (de_if (dt_cmp (od_gt rfl hu) (dvar 7).dv dint.dv (nomark _)) (de_sl (sld rfl) (dvar 8).dv (do_some (dvar 4)) do_none) (de_sl (sld rfl) (dvar 8).dv do_none (do_some (de_bin od_subI (de_bin (od_add rfl) (dvar 4).dv dint.dv).dv (dvar 1).dv)))))).de)) dss_nil)
  (dss_one (ds_ret (df_lc (own := [("k", 4)]) rfl sc__law_names.nd (di_range1 (by rfl) M.n_range (da_cons (dvar 1) da_nil)) (show BlkOk N__law_names (defScope s__law_names) _ [("k", 4)] from ⟨rfl, by decide +kernel, by decide +kernel, by decide +kernel, by decide +kernel⟩) (fun s H C cl fp => (pg_name (i := 4) sc__law_names.nd rfl (by first | exact .inl rfl | exact .inr rfl))) (gk_name (by decide)) (fun s H C cl fp => pts_nil) tk_yes (fun s H C cl fp => (de_bin (od_add rfl) (de_bin (od_add rfl) (de_sl (sld rfl) (dvar 3).dv do_none (do_some (dvar 5))).dv (de_ix (ixd rfl) (dvar 2).dv (de_bin od_modI (de_ty ca_int (by rfl) M.n_int (by decide +kernel) (dav_cons (de_bin (od_add rfl) (dvar 6).dv (de_bin (od_mul rfl) (dvar 7).dv (dvar 4).dv).dv).dv dav_nil)).dv dint.dv).dv).dv).dv (de_sl (sld rfl) (dvar 3).dv (do_some (dvar 5)) do_none).dv))).de)))))))
def m__law_names : List D → M D := runFn 9 b__law_names
theorem g__law_names (M : Md L mg f fd fI co tb) : FG L P w mg base 3 (f 2) (fd 2) ["m", "many"] m__law_names := fg_of (N := N__law_names) M.F__law_names sc__law_names fun cdv A outer s H E hr hg => d__law_names M hr hg
abbrev N__law_many : List Str := ["m", "most"]
abbrev s__law_many : Stmt := (topS 26)
theorem sc__law_many : FnScope N__law_many ["m", "most"] (defScope s__law_many) := ⟨rfl, rfl, rfl, by decide +kernel, rfl, by decide +kernel, by decide +kernel⟩
def b__law_many : IS := (sRet (iBi fTuple [(iBi fSorted [(iCall (m__law_names) [(iVar 0), (iOp fAdd (iLit (.int 2)) (iCall (m__law_next) [(iVar 0), (iOp fSubI (iVar 1) (iLit (.int 1)))]))])])]))
theorem d__law_many (M : Md L mg f fd fI co tb) {f' : Addr} {cdv : Value} {A : Around} {outer : List PySem.Env} {s : Shared} {H : Hp} {E : XK} (hr : Room (3) (A.deeper (PyProof.Rows.envOfC "_law_many" (defScope s__law_many) s.heap.objs.size f' cdv))) (hg : A.guards = some []) :
    DSs L (cxOf (L2.CX P w) P w L.K mg base N__law_many "_law_many" (defScope s__law_many) f' cdv A outer s H E) (b__law_many) (defBody s__law_many) := by
  have hu : (A.deeper (PyProof.Rows.envOfC "_law_many" (defScope s__law_many) s.heap.objs.size f' cdv)).units + 64 < cLine := hr.units
  exact (dss_one (ds_ret (de_ty (ca_tuple rfl) (by rfl) M.n_tuple (by decide +kernel) (dav_cons (df_bi (ca_sorted rfl (u66 hr)) (by rfl) M.n_sorted (by decide +kernel) (dav_cons (de_call (g__law_names M) rfl (hr.mono (by omega)) hg (by rfl) M.g__law_names M.k__law_names M.b__law_names rfl (da_cons (dvar 0) (da_cons (de_bin (od_add rfl) dint.dv (de_call (g__law_next M) rfl (hr.mono (by omega)) hg (by rfl) M.g__law_next M.k__law_next M.b__law_next rfl (da_cons (dvar 0) (da_cons (de_bin od_subI (dvar 1).dv dint.dv) da_nil))).dv) da_nil))).dv dav_nil)).de.dv dav_nil))))
def m__law_many : List D → M D := runFn 2 b__law_many
theorem g__law_many (M : Md L mg f fd fI co tb) : FG L P w mg base 4 (f 3) (fd 3) ["m", "most"] m__law_many := fg_of (N := N__law_many) M.F__law_many sc__law_many fun cdv A outer s H E hr hg => d__law_many M hr hg
abbrev N__law_kinds : List Str := ["many", "found", "rows", "k", "longer", "row", "one"]
abbrev s__law_kinds : Stmt := (topS 27)
theorem sc__law_kinds : FnScope N__law_kinds ["many"] (defScope s__law_kinds) := ⟨rfl, rfl, rfl, by decide +kernel, rfl, by decide +kernel, by decide +kernel⟩
def b__law_kinds : IS := (sSeq (sPar 1 2 (iLst []) (iLst [(iTup [])]))
  (sSeq (sFor (gN 3) (iiR1 (iBi fLen [(iVar 0)])) (sSeq (sSet 4 (iLst []))
  (sSeq (sFor (gN 5) (iiA (iVar 2)) (sSet 4 (iOp fAdd (iVar 4) (iLc (gN 6) (iiA (iVar 0)) (asB (iOp fNotIn (iVar 6) (iVar 5))) (iOp fAdd (iVar 5) (iTup [(iVar 6)])) [6]))))
  (sPar 1 2 (iOp fAdd (iVar 1) (iVar 4)) (iVar 4)))))
  (sRet (iBi fSorted [(iVar 1)]))))
theorem d__law_kinds (M : Md L mg f fd fI co tb) {f' : Addr} {cdv : Value} {A : Around} {outer : List PySem.Env} {s : Shared} {H : Hp} {E : XK} (hr : Room (0) (A.deeper (PyProof.Rows.envOfC "_law_kinds" (defScope s__law_kinds) s.heap.objs.size f' cdv))) (hg : A.guards = some []) :
    DSs L (cxOf (L2.CX P w) P w L.K mg base N__law_kinds "_law_kinds" (defScope s__law_kinds) f' cdv A outer s H E) (b__law_kinds) (defBody s__law_kinds) := by
  have hu : (A.deeper (PyProof.Rows.envOfC "_law_kinds" (defScope s__law_kinds) s.heap.objs.size f' cdv)).units + 64 < cLine := hr.units
  exact (dss_cons (ds_par (n := 1) (m := 2) rfl sc__law_kinds.nd rfl rfl (by decide) rfl rfl (da_cons (df_lst da_nil).de (da_cons (df_lst (da_cons (de_tup da_nil) da_nil)).de da_nil)) (by rfl))
  (dss_cons (ds_for (passes_of rfl) rfl (di_range1 (by rfl) M.n_range (da_cons (de_bi (ca_len rfl) (by rfl) M.n_len (by decide +kernel) (dav_cons (dvar 0).dv dav_nil)) da_nil)) (dg_name (n := 3) sc__law_kinds.nd rfl (Or.inl rfl)) (dss_cons (ds_set (n := 4) sc__law_kinds.nd rfl (Or.inl rfl) (df_lst da_nil).de)
  (dss_cons (ds_for (passes_of rfl) rfl (di_any rfl (dvar 2)) (dg_name (n := 5) sc__law_kinds.nd rfl (Or.inr rfl)) (dss_one (ds_set (n := 4) sc__law_kinds.nd rfl (Or.inl rfl) (de_bin (od_add rfl) (dvar 4).dv (df_lc (own := [("one", 6)]) rfl sc__law_kinds.nd (di_any rfl (dvar 0)) (show BlkOk N__law_kinds (defScope s__law_kinds) _ [("one", 6)] from ⟨rfl, by decide +kernel, by decide +kernel, by decide +kernel, by decide +kernel⟩) (fun s H C cl fp => (pg_name (i := 6) sc__law_kinds.nd rfl (by first | exact .inl rfl | exact .inr rfl))) (gk_name (by decide)) (fun s H C cl fp => (pts_of (dt_cmp (od_notInA rfl (u65 hr)) (dvar 6).dv (dvar 5).dv (by with_unfolding_all rfl)))) tk_one (fun s H C cl fp => (de_bin (od_add rfl) (dvar 5).dv (de_tup (da_cons (dvar 6) da_nil)).dv))).de.dv))))
  (dss_one (ds_par (n := 1) (m := 2) rfl sc__law_kinds.nd rfl rfl (by decide) rfl rfl (da_cons (de_bin (od_add rfl) (dvar 1).dv (dvar 4).dv) (da_cons (dvar 4) da_nil)) (by rfl))))))
  (dss_one (ds_ret (df_bi (ca_sorted rfl (u66 hr)) (by rfl) M.n_sorted (by decide +kernel) (dav_cons (dvar 1).dv dav_nil)).de))))
def m__law_kinds : List D → M D := runFn 7 b__law_kinds
theorem g__law_kinds (M : Md L mg f fd fI co tb) : FG L P w mg base 1 (f 4) (fd 4) ["many"] m__law_kinds := fg_of (N := N__law_kinds) M.F__law_kinds sc__law_kinds fun cdv A outer s H E hr hg => d__law_kinds M hr hg
abbrev N_all_kinds : List Str := ["names", "kinds", "longest", "_", "paper", "name"]
abbrev s_all_kinds : Stmt := (topS 13)
theorem sc_all_kinds : FnScope N_all_kinds ["names"] (defScope s_all_kinds) := ⟨rfl, rfl, rfl, by decide +kernel, rfl, by decide +kernel, by decide +kernel⟩
def b_all_kinds : IS := (sSeq (sOwn 1 (iLst []))
  (sSeq (sSet 2 (iLst [(iTup [])]))
  (sSeq (sFor (gN 3) (iiA (iVar 0)) (sSeq (sSet 2 (iLc2 (gN 4) (iiA (iVar 2)) (iiA (iVar 0)) (gN 5) (asB (iOp fNotIn (iVar 5) (iVar 4))) (iOp fAdd (iVar 4) (iTup [(iVar 5)])) [4, 5] [5]))
  (sExt 1 (iVar 2))))
  (sRet (iBi fTuple [(iBi fSorted [(iUse 1)])])))))
theorem d_all_kinds (M : Md L mg f fd fI co tb) {f' : Addr} {cdv : Value} {A : Around} {outer : List PySem.Env} {s : Shared} {H : Hp} {E : XK} (hr : Room (0) (A.deeper (PyProof.Rows.envOfC "all_kinds" (defScope s_all_kinds) s.heap.objs.size f' cdv))) (hg : A.guards = some []) :
    DSs L (cxOf (L2.CX P w) P w L.K mg base N_all_kinds "all_kinds" (defScope s_all_kinds) f' cdv A outer s H E) (b_all_kinds) (defBody s_all_kinds) := by
  have hu : (A.deeper (PyProof.Rows.envOfC "all_kinds" (defScope s_all_kinds) s.heap.objs.size f' cdv)).units + 64 < cLine := hr.units
  exact (dss_cons (ds_own (n := 1) sc_all_kinds.nd rfl (Or.inl rfl) (df_lst da_nil))
  (dss_cons (ds_set (n := 2) sc_all_kinds.nd rfl (Or.inl rfl) (df_lst (da_cons (de_tup da_nil) da_nil)).de)
  (dss_cons (ds_for (passes_of rfl) rfl (di_any rfl (dvar 0)) (dg_name (n := 3) sc_all_kinds.nd rfl (Or.inl rfl)) (dss_cons (ds_setLc2 (n := 2) (own := [("paper", 4), ("name", 5)]) (vs1 := [5]) rfl sc_all_kinds.nd rfl rfl (sw_true rfl rfl rfl (by decide +kernel)) (di_any rfl (dvar 2)) (show BlkOk N_all_kinds (defScope s_all_kinds) _ [("paper", 4), ("name", 5)] from ⟨rfl, by decide +kernel, by decide +kernel, by decide +kernel, by decide +kernel⟩) (by decide) (fun s H C cl fp => (pg_name (i := 4) sc_all_kinds.nd rfl (by first | exact .inl rfl | exact .inr rfl))) (gks_name (by decide)) (fun s H C cl fp => (di_any rfl (dvar 0))) (fun s H C cl fp => (pg_name (i := 5) sc_all_kinds.nd rfl (by first | exact .inl rfl | exact .inr rfl))) (gk_name (by decide)) (fun s H C cl fp => (pts_of (dt_cmp (od_notInA rfl (u65 hr)) (dvar 5).dv (dvar 4).dv (by with_unfolding_all rfl)))) tk_one (fun s H C cl fp => (de_bin (od_add rfl) (dvar 4).dv (de_tup (da_cons (dvar 5) da_nil)).dv)))
  (dss_one (ds_ext (n := 1) (fun W tk => pe_bm PySem.F.plainAttrs_list PySem.F.slot_list_extend PySem.F.type_list_extend mt_extend (pv 1) (pa_cons ((dvar 2) W tk) pa_nil))))))
  (dss_one (ds_ret (de_ty (ca_tuple rfl) (by rfl) M.n_tuple (by decide +kernel) (dav_cons (df_bi (ca_sorted rfl (u66 hr)) (by rfl) M.n_sorted (by decide +kernel) (dav_cons (duse 1) dav_nil)).de.dv dav_nil)))))))
def m_all_kinds : List D → M D := runFn 6 b_all_kinds
theorem g_all_kinds (M : Md L mg f fd fI co tb) : FG L P w mg base 1 (f 5) (fd 5) ["names"] m_all_kinds := fg_of (N := N_all_kinds) M.F_all_kinds sc_all_kinds fun cdv A outer s H E hr hg => d_all_kinds M hr hg
end Lw
namespace Lw
open PySem PySem.Spec L2 DL
variable {L : Lx} {P : Program} {w : World} {mg : Str → Option Value} {base : Heap} {f : Nat → Addr} {fd : Nat → FuncData} {fI co tb : Nat → Addr}
abbrev N__law_odd : List Str := ["m", "some"]
abbrev s__law_odd : Stmt := (topS 24)
theorem sc__law_odd : FnScope N__law_odd ["m"] (defScope s__law_odd) := ⟨rfl, rfl, rfl, by decide +kernel, rfl, by decide +kernel, by decide +kernel⟩
def b__law_odd : IS := (sSeq (sSet 1 (iLst [(iLit .non), (iLit (.int 0)), (iLit (.int 1)), (iLit (.int 2)), (iLit (.int 3)), (iNeg (iLit (.int 1))), (iLit (.int 101)), (iNeg (iLit (.int 10))), (iLit (.bl true)), (iLit (.bl false)), (iLit (.str (PySem.Str.ofString ""))), (iLit (.str (PySem.Str.ofString "a"))), (iLit (.str (PySem.Str.ofString "abcdefghi"))), (iLit (.str (PySem.Str.ofString "A"))), (iLit (.str (PySem.Str.ofString "in"))), (iLit (.str (PySem.Str.ofString "out"))), (iTup []), (iTup [(iTup [])]), (iTup [(iLit (.str (PySem.Str.ofString "a"))), (iLit (.int 0))])]))
  (sSeq (sSet 1 (iOp fAdd (iVar 1) (iLst [(iLst []), (iLit (.dct false [])), (iOp fPowI (iLit (.int 10)) (iLit (.int 30))), (iTup [(iLit (.str (PySem.Str.ofString "halves")))]), (iTup [(iLit (.str (PySem.Str.ofString "in"))), (iLit (.str (PySem.Str.ofString "a")))]), (iLit (.str (PySem.Str.ofString "a1"))), (iTup [(iLit .non)]), (iTup [(iLit (.int 0))]), (iTup [(iLit (.str (PySem.Str.ofString "a")))]), (iTup [(iLit (.str (PySem.Str.ofString "b"))), (iLit (.str (PySem.Str.ofString "a")))])])))
  (sRet (iOp fIx (iVar 1) (iCall (m__law_next) [(iVar 0), (iLit (.int 29))])))))
theorem d__law_odd (M : Md L mg f fd fI co tb) {f' : Addr} {cdv : Value} {A : Around} {outer : List PySem.Env} {s : Shared} {H : Hp} {E : XK} (hr : Room (2) (A.deeper (PyProof.Rows.envOfC "_law_odd" (defScope s__law_odd) s.heap.objs.size f' cdv))) (hg : A.guards = some []) :
    DSs L (cxOf (L2.CX P w) P w L.K mg base N__law_odd "_law_odd" (defScope s__law_odd) f' cdv A outer s H E) (b__law_odd) (defBody s__law_odd) := by
  have hu : (A.deeper (PyProof.Rows.envOfC "_law_odd" (defScope s__law_odd) s.heap.objs.size f' cdv)).units + 64 < cLine := hr.units
  exact (dss_cons (ds_set (n := 1) sc__law_odd.nd rfl (Or.inl rfl) (df_lst (da_cons dnon (da_cons dint (da_cons dint (da_cons dint (da_cons dint (da_cons (de_neg dint) (da_cons dint (da_cons (de_neg dint) (da_cons dbool (da_cons dbool (da_cons dstr (da_cons dstr (da_cons dstr (da_cons dstr (da_cons dstr (da_cons dstr (da_cons (de_tup da_nil) (da_cons (de_tup (da_cons (de_tup da_nil) da_nil)) (da_cons (de_tup (da_cons dstr (da_cons dint da_nil))) da_nil)))))))))))))))))))).de)
  (dss_cons (ds_set (n := 1) sc__law_odd.nd rfl (Or.inl rfl) (de_bin (od_add rfl) (dvar 1).dv (df_lst (da_cons (df_lst da_nil).de (da_cons de_dnew (da_cons (de_bin od_powI dint.dv dint.dv) (da_cons (de_tup (da_cons dstr da_nil)) (da_cons (de_tup (da_cons dstr (da_cons dstr da_nil))) (da_cons dstr (da_cons (de_tup (da_cons dnon da_nil)) (da_cons (de_tup (da_cons dint da_nil)) (da_cons (de_tup (da_cons dstr da_nil)) (da_cons (de_tup (da_cons dstr (da_cons dstr da_nil))) da_nil))))))))))).de.dv))
  (dss_one (ds_ret (de_ix (ixd rfl) (dvar 1).dv (de_call (g__law_next M) rfl (hr.mono (by omega)) hg (by rfl) M.g__law_next M.k__law_next M.b__law_next rfl (da_cons (dvar 0) (da_cons dint da_nil))).dv)))))
def m__law_odd : List D → M D := runFn 2 b__law_odd
theorem g__law_odd (M : Md L mg f fd fI co tb) : FG L P w mg base 3 (f 6) (fd 6) ["m"] m__law_odd := fg_of (N := N__law_odd) M.F__law_odd sc__law_odd fun cdv A outer s H E hr hg => d__law_odd M hr hg
abbrev N__law_bent : List Str := ["m", "thing", "at", "pick"]
abbrev s__law_bent : Stmt := (topS 25)
theorem sc__law_bent : FnScope N__law_bent ["m", "thing"] (defScope s__law_bent) := ⟨rfl, rfl, rfl, by decide +kernel, rfl, by decide +kernel, by decide +kernel⟩
def b__law_bent (rec : List D → M D) : IS := (sSeq (sIf (andB (asB (iBi fIsI [(iVar 1), (iLit (.ty "str"))])) (asB (iOp fEq (iCall (m__law_next) [(iVar 0), (iLit (.int 2))]) (iLit (.int 0))))) (sRet (iOp fIx (iLst [(iOp fAdd (iVar 1) (iLit (.str (PySem.Str.ofString "b")))), (iSl fSl (iVar 1) (oSome (iLit (.int 1))) oNone), (iOp fAdd (iVar 1) (iLit (.str (PySem.Str.ofString "A")))), (iOp fAdd (iVar 1) (iLit (.str (PySem.Str.ofString " ")))), (iOp fMul (iVar 1) (iLit (.int 2))), (iOp fAdd (iVar 1) (iLit (.str (PySem.Str.ofString "1"))))]) (iCall (m__law_next) [(iVar 0), (iLit (.int 6))]))) sPass)
  (sSeq (sIf (andB (asB (iBi fIsI [(iVar 1), (iLit (.ty "int"))])) (andB (notB (asB (iBi fIsI [(iVar 1), (iLit (.ty "bool"))]))) (asB (iOp fEq (iCall (m__law_next) [(iVar 0), (iLit (.int 2))]) (iLit (.int 0)))))) (sRet (iOp fAdd (iVar 1) (iOp fIx (iLst [(iLit (.int 1)), (iNeg (iLit (.int 1))), (iLit (.int 2)), (iNeg (iLit (.int 2))), (iLit (.int 10)), (iNeg (iLit (.int 10)))]) (iCall (m__law_next) [(iVar 0), (iLit (.int 6))])))) sPass)
  (sSeq (sIf (orB (notB (asB (iBi fIsI [(iVar 1), (iLit (.ty "tuple"))]))) (orB (asB (iOp fEqV (iVar 1) (iTup []))) (asB (iOp fEq (iCall (m__law_next) [(iVar 0), (iLit (.int 6))]) (iLit (.int 0)))))) (sRet (iCall (m__law_odd) [(iVar 0)])) sPass)
  (sSeq (sPar 2 3 (iCall (m__law_next) [(iVar 0), (iBi fLen [(iVar 1)])]) (iCall (m__law_next) [(iVar 0), (iLit (.int 11))]))
  (sSeq (sIf (asB (iOp fEq (iVar 3) (iLit (.int 0)))) (sRet (iOp fAdd (iSl fSl (iVar 1) oNone (oSome (iVar 2))) (iSl fSl (iVar 1) (oSome (iOp fAdd (iVar 2) (iLit (.int 1)))) oNone))) sPass)
  (sSeq (sIf (asB (iOp fEq (iVar 3) (iLit (.int 1)))) (sRet (iOp fAdd (iVar 1) (iSl fSl (iVar 1) (oSome (iVar 2)) (oSome (iOp fAdd (iVar 2) (iLit (.int 1))))))) sPass)
  (sSeq (sIf (asB (iOp fEq (iVar 3) (iLit (.int 2)))) (sRet (iBi fList [(iVar 1)])) sPass)
  (sSeq (sIf (asB (iOp fEq (iVar 3) (iLit (.int 3)))) (sRet (iOp fAdd (iOp fAdd (iSl fSl (iVar 1) oNone (oSome (iVar 2))) (iTup [(iCall (m__law_odd) [(iVar 0)])])) (iSl fSl (iVar 1) (oSome (iVar 2)) oNone))) sPass)
  (sSeq (sIf (asB (iOp fEq (iVar 3) (iLit (.int 4)))) (sRet (iRev (iVar 1))) sPass)
  (sRet (iOp fAdd (iOp fAdd (iSl fSl (iVar 1) oNone (oSome (iVar 2))) (iTup [(iCall (rec) [(iVar 0), (iOp fIx (iVar 1) (iVar 2))])])) (iSl fSl (iVar 1) (oSome (iOp fAdd (iVar 2) (iLit (.int 1)))) oNone))))))))))))
theorem d__law_bent (M : Md L mg f fd fI co tb) {f' : Addr} {cdv : Value} {A : Around} {outer : List PySem.Env} {s : Shared} {H : Hp} {E : XK} {n : Nat} (hr : Room (3 + n) (A.deeper (PyProof.Rows.envOfC "_law_bent" (defScope s__law_bent) s.heap.objs.size f' cdv))) (hg : A.guards = some []) {rec : List D → DL.M D} (F : FG L P w mg base (3 + n) (f 7) (fd 7) ["m", "thing"] rec) :
    DSs L (cxOf (L2.CX P w) P w L.K mg base N__law_bent "_law_bent" (defScope s__law_bent) f' cdv A outer s H E) (b__law_bent rec) (defBody s__law_bent) := by
  have hrec := hr
  have hu : (A.deeper (PyProof.Rows.envOfC "_law_bent" (defScope s__law_bent) s.heap.objs.size f' cdv)).units + 64 < cLine := hr.units
  exact (dss_cons (ds_if (DW.dt (dw_and (dt_val (de_bi (ca_isi M.tab rfl) (by rfl) M.n_isinstance (by decide +kernel) (dav_cons (dvar 1).dv (dav_cons (de_type (t := "str") (by rfl) M.n_str (by decide +kernel)).dv dav_nil)))) (dw_and1 (dt_cmp (od_eq rfl hu) (de_call (g__law_next M) rfl (hr.mono (by omega)) hg (by rfl) M.g__law_next M.k__law_next M.b__law_next rfl (da_cons (dvar 0) (da_cons dint da_nil))).dv dint.dv (nomark _))))) (dss_one (ds_ret (de_ix (ixd rfl) (df_lst (da_cons (de_bin (od_add rfl) (dvar 1).dv dstr.dv) (da_cons (de_sl (sld rfl) (dvar 1).dv (do_some dint) do_none) (da_cons (de_bin (od_add rfl) (dvar 1).dv dstr.dv) (da_cons (de_bin (od_add rfl) (dvar 1).dv dstr.dv) (da_cons (de_bin (od_mul rfl) (dvar 1).dv dint.dv) (da_cons (de_bin (od_add rfl) (dvar 1).dv dstr.dv) da_nil))))))).de.dv (de_call (g__law_next M) rfl (hr.mono (by omega)) hg (by rfl) M.g__law_next M.k__law_next M.b__law_next rfl (da_cons (dvar 0) (da_cons dint da_nil))).dv))) dss_nil)
  (dss_cons (ds_if (DW.dt (dw_and (dt_val (de_bi (ca_isi M.tab rfl) (by rfl) M.n_isinstance (by decide +kernel) (dav_cons (dvar 1).dv (dav_cons (de_type (t := "int") (by rfl) M.n_int (by decide +kernel)).dv dav_nil)))) (dw_and (dt_not (dt_val (de_bi (ca_isi M.tab rfl) (by rfl) M.n_isinstance (by decide +kernel) (dav_cons (dvar 1).dv (dav_cons (de_type (t := "bool") (by rfl) M.n_bool (by decide +kernel)).dv dav_nil))))) (dw_and1 (dt_cmp (od_eq rfl hu) (de_call (g__law_next M) rfl (hr.mono (by omega)) hg (by rfl) M.g__law_next M.k__law_next M.b__law_next rfl (da_cons (dvar 0) (da_cons dint da_nil))).dv dint.dv (nomark _)))))) (dss_one (ds_ret (de_bin (od_add rfl) (dvar 1).dv (de_ix (ixd rfl) (df_lst (da_cons dint (da_cons (de_neg dint) (da_cons dint (da_cons (de_neg dint) (da_cons dint (da_cons (de_neg dint) da_nil))))))).de.dv (de_call (g__law_next M) rfl (hr.mono (by omega)) hg (by rfl) M.g__law_next M.k__law_next M.b__law_next rfl (da_cons (dvar 0) (da_cons dint da_nil))).dv).dv))) dss_nil)
  (dss_cons (ds_if (DW.dt (dw_or (dt_not (dt_val (de_bi (ca_isi M.tab rfl) (by rfl) M.n_isinstance (by decide +kernel) (dav_cons (dvar 1).dv (dav_cons (de_type (t := "tuple") (by rfl) M.n_tuple (by decide +kernel)).dv dav_nil))))) (dw_or (dt_cmp (od_eqV rfl hu) (dvar 1).dv (de_tup da_nil).dv (nomark _)) (dw_or1 (dt_cmp (od_eq rfl hu) (de_call (g__law_next M) rfl (hr.mono (by omega)) hg (by rfl) M.g__law_next M.k__law_next M.b__law_next rfl (da_cons (dvar 0) (da_cons dint da_nil))).dv dint.dv (nomark _)))))) (dss_one (ds_ret (de_call (g__law_odd M) rfl (hr.mono (by omega)) hg (by rfl) M.g__law_odd M.k__law_odd M.b__law_odd rfl (da_cons (dvar 0) da_nil)))) dss_nil)
  (dss_cons (ds_par (n := 2) (m := 3) rfl sc__law_bent.nd rfl rfl (by decide) rfl rfl (da_cons (de_call (g__law_next M) rfl (hr.mono (by omega)) hg (by rfl) M.g__law_next M.k__law_next M.b__law_next rfl (da_cons (dvar 0) (da_cons (de_bi (ca_len rfl) (by rfl) M.n_len (by decide +kernel) (dav_cons (dvar 1).dv dav_nil)) da_nil))) (da_cons (de_call (g__law_next M) rfl (hr.mono (by omega)) hg (by rfl) M.g__law_next M.k__law_next M.b__law_next rfl (da_cons (dvar 0) (da_cons dint da_nil))) da_nil)) (by rfl))
  (dss_cons (ds_if (dt_cmp (od_eq rfl hu) (dvar 3).dv dint.dv (nomark _)) (dss_one (ds_ret (de_bin (od_add rfl) (de_sl (sld rfl) (dvar 1).dv do_none (do_some (dvar 2))).dv (de_sl (sld rfl) (dvar 1).dv (do_some (de_bin (od_add rfl) (dvar 2).dv dint.dv)) do_none).dv))) dss_nil)
  (dss_cons (ds_if (dt_cmp (od_eq rfl hu) (dvar 3).dv dint.dv (nomark _)) (dss_one (ds_ret (de_bin (od_add rfl) (dvar 1).dv (de_sl (sld rfl) (dvar 1).dv (do_some (dvar 2)) (do_some (de_bin (od_add rfl) (dvar 2).dv dint.dv))).dv))) dss_nil)
  (dss_cons (ds_if (dt_cmp (od_eq rfl hu) (dvar 3).dv dint.dv (nomark _)) (dss_one (ds_ret (df_ty (ca_list rfl) (by rfl) M.n_list (by decide +kernel) (dav_cons (dvar 1).dv dav_nil)).de)) dss_nil)
  (dss_cons (ds_if (dt_cmp (od_eq rfl hu) (dvar 3).dv dint.dv (nomark _)) (dss_one (ds_ret (de_bin (od_add rfl) (de_bin (od_add rfl) (de_sl (sld rfl) (dvar 1).dv do_none (do_some (dvar 2))).dv (de_tup (da_cons (de_call (g__law_odd M) rfl (hr.mono (by omega)) hg (by rfl) M.g__law_odd M.k__law_odd M.b__law_odd rfl (da_cons (dvar 0) da_nil)) da_nil)).dv).dv (de_sl (sld rfl) (dvar 1).dv (do_some (dvar 2)) do_none).dv))) dss_nil)
  (dss_cons (ds_if (dt_cmp (od_eq rfl hu) (dvar 3).dv dint.dv (nomark _)) (dss_one (ds_ret (de_rev rfl (dvar 1).dv))) dss_nil)
  (dss_one (ds_ret (de_bin (od_add rfl) (de_bin (od_add rfl) (de_sl (sld rfl) (dvar 1).dv do_none (do_some (dvar 2))).dv (de_tup (da_cons (de_call F rfl hrec hg (by rfl) M.g__law_bent M.k__law_bent M.b__law_bent rfl (da_cons (dvar 0) (da_cons (de_ix (ixd rfl) (dvar 1).dv (dvar 2).dv) da_nil))) da_nil)).dv).dv (de_sl (sld rfl) (dvar 1).dv (do_some (de_bin (od_add rfl) (dvar 2).dv dint.dv)) do_none).dv))))))))))))
def m__law_bent : Nat → List D → M D
  | 0 => fun _ => .stuck
  | n + 1 => runFn 4 (b__law_bent (m__law_bent n))
theorem g__law_bent (M : Md L mg f fd fI co tb) : ∀ n : Nat, FG L P w mg base (3 + n) (f 7) (fd 7) ["m", "thing"] (m__law_bent n)
  | 0 => fg_none
  | n + 1 => fg_of (N := N__law_bent) M.F__law_bent sc__law_bent fun cdv A outer s H E hr hg => d__law_bent M hr hg (g__law_bent M n)
abbrev N__law_is_name : List Str := ["thing", "sign"]
abbrev s__law_is_name : Stmt := (topS 23)
theorem sc__law_is_name : FnScope N__law_is_name ["thing"] (defScope s__law_is_name) := ⟨rfl, rfl, rfl, by decide +kernel, rfl, by decide +kernel, by decide +kernel⟩
def b__law_is_name : IS := (sSeq (sIf (orB (notB (asB (iBi fIsI [(iVar 0), (iLit (.ty "str"))]))) (notB (asB (iChain fLe fLe (iLit (.int 1)) (iBi fLen [(iVar 0)]) (iLit (.int 8)))))) (sRet (iLit (.bl false))) sPass)
  (sRet (iOp fEq (iLc (gN 1) (iiA (iVar 0)) (asB (iOp fNotIn (iVar 1) (iLit (.str (PySem.Str.ofString "abcdefghijklmnopqrstuvwxyz"))))) (iVar 1) [1]) (iLst []))))
theorem d__law_is_name (M : Md L mg f fd fI co tb) {f' : Addr} {cdv : Value} {A : Around} {outer : List PySem.Env} {s : Shared} {H : Hp} {E : XK} (hr : Room (0) (A.deeper (PyProof.Rows.envOfC "_law_is_name" (defScope s__law_is_name) s.heap.objs.size f' cdv))) (hg : A.guards = some []) :
    DSs L (cxOf (L2.CX P w) P w L.K mg base N__law_is_name "_law_is_name" (defScope s__law_is_name) f' cdv A outer s H E) (b__law_is_name) (defBody s__law_is_name) := by
  have hu : (A.deeper (PyProof.Rows.envOfC "_law_is_name" (defScope s__law_is_name) s.heap.objs.size f' cdv)).units + 64 < cLine := hr.units
  exact (dss_cons (ds_if (DW.dt (dw_or (dt_not (dt_val (de_bi (ca_isi M.tab rfl) (by rfl) M.n_isinstance (by decide +kernel) (dav_cons (dvar 0).dv (dav_cons (de_type (t := "str") (by rfl) M.n_str (by decide +kernel)).dv dav_nil))))) (dw_or1 (dt_not (dt_chain (od_le rfl hu) (od_le rfl hu) dint.dv (de_bi (ca_len rfl) (by rfl) M.n_len (by decide +kernel) (dav_cons (dvar 0).dv dav_nil)).dv dint.dv))))) (dss_one (ds_ret dbool)) dss_nil)
  (dss_one (ds_ret (de_cmp (od_eq rfl hu) (df_lc (own := [("sign", 1)]) rfl sc__law_is_name.nd (di_any rfl (dvar 0)) (show BlkOk N__law_is_name (defScope s__law_is_name) _ [("sign", 1)] from ⟨rfl, by decide +kernel, by decide +kernel, by decide +kernel, by decide +kernel⟩) (fun s H C cl fp => (pg_name (i := 1) sc__law_is_name.nd rfl (by first | exact .inl rfl | exact .inr rfl))) (gk_name (by decide)) (fun s H C cl fp => (pts_of (dt_cmp (od_notInA rfl (u65 hr)) (dvar 1).dv dstr.dv (by with_unfolding_all rfl)))) tk_one (fun s H C cl fp => (dvar 1))).de.dv (df_lst da_nil).de.dv (nomark _)))))
def m__law_is_name : List D → M D := runFn 2 b__law_is_name
theorem g__law_is_name (M : Md L mg f fd fI co tb) : FG L P w mg base 1 (f 8) (fd 8) ["thing"] m__law_is_name := fg_of (N := N__law_is_name) M.F__law_is_name sc__law_is_name fun cdv A outer s H E hr hg => d__law_is_name M hr hg
abbrev N__law_are_rising : List Str := ["thing", "one", "other"]
abbrev s__law_are_rising : Stmt := (topS 31)
theorem sc__law_are_rising : FnScope N__law_are_rising ["thing"] (defScope s__law_are_rising) := ⟨rfl, rfl, rfl, by decide +kernel, rfl, by decide +kernel, by decide +kernel⟩
def b__law_are_rising : IS := (sRet (iOp fEq (iLc (gT [gN 1, gN 2]) (iiZ (iVar 0) (iSl fSl (iVar 0) (oSome (iLit (.int 1))) oNone)) (notB (asB (iOp fLt (iVar 1) (iVar 2)))) (iLit (.int 1)) [1, 2]) (iLst [])))
theorem d__law_are_rising (M : Md L mg f fd fI co tb) {f' : Addr} {cdv : Value} {A : Around} {outer : List PySem.Env} {s : Shared} {H : Hp} {E : XK} (hr : Room (0) (A.deeper (PyProof.Rows.envOfC "_law_are_rising" (defScope s__law_are_rising) s.heap.objs.size f' cdv))) (hg : A.guards = some []) :
    DSs L (cxOf (L2.CX P w) P w L.K mg base N__law_are_rising "_law_are_rising" (defScope s__law_are_rising) f' cdv A outer s H E) (b__law_are_rising) (defBody s__law_are_rising) := by
  have hu : (A.deeper (PyProof.Rows.envOfC "_law_are_rising" (defScope s__law_are_rising) s.heap.objs.size f' cdv)).units + 64 < cLine := hr.units
  exact (dss_one (ds_ret (de_cmp (od_eq rfl hu) (df_lc (own := [("one", 1), ("other", 2)]) rfl sc__law_are_rising.nd (di_zip rfl (by rfl) M.n_zip (da_cons (dvar 0) (da_cons (de_sl (sld rfl) (dvar 0).dv (do_some dint) do_none) da_nil))) (show BlkOk N__law_are_rising (defScope s__law_are_rising) _ [("one", 1), ("other", 2)] from ⟨rfl, by decide +kernel, by decide +kernel, by decide +kernel, by decide +kernel⟩) (fun s H C cl fp => (pg_tup rfl (pgs_cons (pg_name (i := 1) sc__law_are_rising.nd rfl (by first | exact .inl rfl | exact .inr rfl)) (pgs_cons (pg_name (i := 2) sc__law_are_rising.nd rfl (by first | exact .inl rfl | exact .inr rfl)) pgs_nil)))) (gk_tup (ns := [1, 2]) (by decide)) (fun s H C cl fp => (pts_of (dt_not (dt_cmp (od_lt rfl hu) (dvar 1).dv (dvar 2).dv (nomark _))))) tk_one (fun s H C cl fp => dint)).de.dv (df_lst da_nil).de.dv (nomark _))))
def m__law_are_rising : List D → M D := runFn 3 b__law_are_rising
theorem g__law_are_rising (M : Md L mg f fd fI co tb) : FG L P w mg base 1 (f 9) (fd 9) ["thing"] m__law_are_rising := fg_of (N := N__law_are_rising) M.F__law_are_rising sc__law_are_rising fun cdv A outer s H E hr hg => d__law_are_rising M hr hg
abbrev N__is_word : List Str := ["thing", "letter"]
abbrev s__is_word : Stmt := (topS 16)
theorem sc__is_word : FnScope N__is_word ["thing"] (defScope s__is_word) := ⟨rfl, rfl, rfl, by decide +kernel, rfl, by decide +kernel, by decide +kernel⟩
def b__is_word : IS := (sSeq (sIf (orB (notB (asB (iBi fIsI [(iVar 0), (iLit (.ty "str"))]))) (notB (asB (iChain fLe fLe (iLit (.int 1)) (iBi fLen [(iVar 0)]) (iLit (.int 8)))))) (sRet (iLit (.bl false))) sPass)
  (sRet (iBi fAll [(iLc (gN 1) (iiA (iVar 0)) cYes (iChain fLe fLe (iLit (.str (PySem.Str.ofString "a"))) (iVar 1) (iLit (.str (PySem.Str.ofString "z")))) [1])])))
theorem d__is_word (M : Md L mg f fd fI co tb) {f' : Addr} {cdv : Value} {A : Around} {outer : List PySem.Env} {s : Shared} {H : Hp} {E : XK} (hr : Room (0) (A.deeper (PyProof.Rows.envOfC "_is_word" (defScope s__is_word) s.heap.objs.size f' cdv))) (hg : A.guards = some []) :
    DSs L (cxOf (L2.CX P w) P w L.K mg base N__is_word "_is_word" (defScope s__is_word) f' cdv A outer s H E) (b__is_word) (defBody s__is_word) := by
  have hu : (A.deeper (PyProof.Rows.envOfC "_is_word" (defScope s__is_word) s.heap.objs.size f' cdv)).units + 64 < cLine := hr.units
  exact (dss_cons (ds_if (DW.dt (dw_or (dt_not (dt_val (de_bi (ca_isi M.tab rfl) (by rfl) M.n_isinstance (by decide +kernel) (dav_cons (dvar 0).dv (dav_cons (de_type (t := "str") (by rfl) M.n_str (by decide +kernel)).dv dav_nil))))) (dw_or1 (dt_not (dt_chain (od_le rfl hu) (od_le rfl hu) dint.dv (de_bi (ca_len rfl) (by rfl) M.n_len (by decide +kernel) (dav_cons (dvar 0).dv dav_nil)).dv (dgint (by rfl) M.i__MOST_LETTERS).dv))))) (dss_one (ds_ret dbool)) dss_nil)
  (dss_one (ds_ret (de_bi (ca_all rfl) (by rfl) M.n_all (by decide +kernel) (dav_cons (df_lc (own := [("letter", 1)]) rfl sc__is_word.nd (di_any rfl (dvar 0)) (show BlkOk N__is_word (defScope s__is_word) _ [("letter", 1)] from ⟨rfl, by decide +kernel, by decide +kernel, by decide +kernel, by decide +kernel⟩) (fun s H C cl fp => (pg_name (i := 1) sc__is_word.nd rfl (by first | exact .inl rfl | exact .inr rfl))) (gk_name (by decide)) (fun s H C cl fp => pts_nil) tk_yes (fun s H C cl fp => (de_chain (od_le rfl hu) (od_le rfl hu) dstr.dv (dvar 1).dv dstr.dv))).de.dv dav_nil)))))
def m__is_word : List D → M D := runFn 2 b__is_word
theorem g__is_word (M : Md L mg f fd fI co tb) : FG L P w mg base 1 (f 10) (fd 10) ["thing"] m__is_word := fg_of (N := N__is_word) M.F__is_word sc__is_word fun cdv A outer s H E hr hg => d__is_word M hr hg
abbrev N_is_ascending : List Str := ["things", "low", "high"]
abbrev s_is_ascending : Stmt := (topS 5)
theorem sc_is_ascending : FnScope N_is_ascending ["things"] (defScope s_is_ascending) := ⟨rfl, rfl, rfl, by decide +kernel, rfl, by decide +kernel, by decide +kernel⟩
def b_is_ascending : IS := (sRet (iBi fAll [(iLc (gT [gN 1, gN 2]) (iiZ (iVar 0) (iSl fSl (iVar 0) (oSome (iLit (.int 1))) oNone)) cYes (iOp fLt (iVar 1) (iVar 2)) [1, 2])]))
theorem d_is_ascending (M : Md L mg f fd fI co tb) {f' : Addr} {cdv : Value} {A : Around} {outer : List PySem.Env} {s : Shared} {H : Hp} {E : XK} (hr : Room (0) (A.deeper (PyProof.Rows.envOfC "is_ascending" (defScope s_is_ascending) s.heap.objs.size f' cdv))) (hg : A.guards = some []) :
    DSs L (cxOf (L2.CX P w) P w L.K mg base N_is_ascending "is_ascending" (defScope s_is_ascending) f' cdv A outer s H E) (b_is_ascending) (defBody s_is_ascending) := by
  have hu : (A.deeper (PyProof.Rows.envOfC "is_ascending" (defScope s_is_ascending) s.heap.objs.size f' cdv)).units + 64 < cLine := hr.units
  exact (dss_one (ds_ret (de_bi (ca_all rfl) (by rfl) M.n_all (by decide +kernel) (dav_cons (df_lc (own := [("low", 1), ("high", 2)]) rfl sc_is_ascending.nd (di_zip rfl (by rfl) M.n_zip (da_cons (dvar 0) (da_cons (de_sl (sld rfl) (dvar 0).dv (do_some dint) do_none) da_nil))) (show BlkOk N_is_ascending (defScope s_is_ascending) _ [("low", 1), ("high", 2)] from ⟨rfl, by decide +kernel, by decide +kernel, by decide +kernel, by decide +kernel⟩) (fun s H C cl fp => (pg_tup rfl (pgs_cons (pg_name (i := 1) sc_is_ascending.nd rfl (by first | exact .inl rfl | exact .inr rfl)) (pgs_cons (pg_name (i := 2) sc_is_ascending.nd rfl (by first | exact .inl rfl | exact .inr rfl)) pgs_nil)))) (gk_tup (ns := [1, 2]) (by decide)) (fun s H C cl fp => pts_nil) tk_yes (fun s H C cl fp => (de_cmp (od_lt rfl hu) (dvar 1).dv (dvar 2).dv (nomark _)))).de.dv dav_nil))))
def m_is_ascending : List D → M D := runFn 3 b_is_ascending
theorem g_is_ascending (M : Md L mg f fd fI co tb) : FG L P w mg base 1 (f 11) (fd 11) ["things"] m_is_ascending := fg_of (N := N_is_ascending) M.F_is_ascending sc_is_ascending fun cdv A outer s H E hr hg => d_is_ascending M hr hg
end Lw
namespace Lw
open PySem PySem.Spec L2 DL
variable {L : Lx} {P : Program} {w : World} {mg : Str → Option Value} {base : Heap} {f : Nat → Addr} {fd : Nat → FuncData} {fI co tb : Nat → Addr}
abbrev N_are_names : List Str := ["thing", "name"]
abbrev s_are_names : Stmt := (topS 11)
theorem sc_are_names : FnScope N_are_names ["thing"] (defScope s_are_names) := ⟨rfl, rfl, rfl, by decide +kernel, rfl, by decide +kernel, by decide +kernel⟩
def b_are_names : IS := (sSeq (sIf (orB (notB (asB (iBi fIsI [(iVar 0), (iLit (.ty "tuple"))]))) (notB (asB (iChain fLe fLe (iLit (.int 2)) (iBi fLen [(iVar 0)]) (iLit (.int 4)))))) (sRet (iLit (.bl false))) sPass)
  (sRet (iAnd (iBi fAll [(iLc (gN 1) (iiA (iVar 0)) cYes (iCall (m__is_word) [(iVar 1)]) [1])]) (iCall (m_is_ascending) [(iVar 0)]))))
theorem d_are_names (M : Md L mg f fd fI co tb) {f' : Addr} {cdv : Value} {A : Around} {outer : List PySem.Env} {s : Shared} {H : Hp} {E : XK} (hr : Room (1) (A.deeper (PyProof.Rows.envOfC "are_names" (defScope s_are_names) s.heap.objs.size f' cdv))) (hg : A.guards = some []) :
    DSs L (cxOf (L2.CX P w) P w L.K mg base N_are_names "are_names" (defScope s_are_names) f' cdv A outer s H E) (b_are_names) (defBody s_are_names) := by
  have hu : (A.deeper (PyProof.Rows.envOfC "are_names" (defScope s_are_names) s.heap.objs.size f' cdv)).units + 64 < cLine := hr.units
  exact (dss_cons (ds_if (DW.dt (dw_or (dt_not (dt_val (de_bi (ca_isi M.tab rfl) (by rfl) M.n_isinstance (by decide +kernel) (dav_cons (dvar 0).dv (dav_cons (de_type (t := "tuple") (by rfl) M.n_tuple (by decide +kernel)).dv dav_nil))))) (dw_or1 (dt_not (dt_chain (od_le rfl hu) (od_le rfl hu) (dgint (by rfl) M.i__FEWEST_NAMES).dv (de_bi (ca_len rfl) (by rfl) M.n_len (by decide +kernel) (dav_cons (dvar 0).dv dav_nil)).dv (dgint (by rfl) M.i_MOST_NAMES).dv))))) (dss_one (ds_ret dbool)) dss_nil)
  (dss_one (ds_ret (de_and (de_bi (ca_all rfl) (by rfl) M.n_all (by decide +kernel) (dav_cons (df_lc (own := [("name", 1)]) rfl sc_are_names.nd (di_any rfl (dvar 0)) (show BlkOk N_are_names (defScope s_are_names) _ [("name", 1)] from ⟨rfl, by decide +kernel, by decide +kernel, by decide +kernel, by decide +kernel⟩) (fun s H C cl fp => (pg_name (i := 1) sc_are_names.nd rfl (by first | exact .inl rfl | exact .inr rfl))) (gk_name (by decide)) (fun s H C cl fp => pts_nil) tk_yes (fun s H C cl fp => (de_call (g__is_word M) rfl (hr.mono (by omega)) hg (by rfl) M.g__is_word M.k__is_word M.b__is_word rfl (da_cons (dvar 1) da_nil)))).de.dv dav_nil)) (de_one (de_call (g_is_ascending M) rfl (hr.mono (by omega)) hg (by rfl) M.g_is_ascending M.k_is_ascending M.b_is_ascending rfl (da_cons (dvar 0) da_nil)))))))
def m_are_names : List D → M D := runFn 2 b_are_names
theorem g_are_names (M : Md L mg f fd fI co tb) : FG L P w mg base 2 (f 12) (fd 12) ["thing"] m_are_names := fg_of (N := N_are_names) M.F_are_names sc_are_names fun cdv A outer s H E hr hg => d_are_names M hr hg
abbrev N_need_names : List Str := ["thing"]
abbrev s_need_names : Stmt := (topS 10)
theorem sc_need_names : FnScope N_need_names ["thing"] (defScope s_need_names) := ⟨rfl, rfl, rfl, by decide +kernel, rfl, by decide +kernel, by decide +kernel⟩
def b_need_names : IS := (sSeq (sIf (notB (asB (iCall (m_are_names) [(iVar 0)]))) (sRaise 1 (iVar 0)) sPass)
  (sRet (iVar 0)))
theorem d_need_names (M : Md L mg f fd fI co tb) {f' : Addr} {cdv : Value} {A : Around} {outer : List PySem.Env} {s : Shared} {H : Hp} {E : XK} (hr : Room (2) (A.deeper (PyProof.Rows.envOfC "need_names" (defScope s_need_names) s.heap.objs.size f' cdv))) (hg : A.guards = some []) :
    DSs L (cxOf (L2.CX P w) P w L.K mg base N_need_names "need_names" (defScope s_need_names) f' cdv A outer s H E) (b_need_names) (defBody s_need_names) := by
  have hu : (A.deeper (PyProof.Rows.envOfC "need_names" (defScope s_need_names) s.heap.objs.size f' cdv)).units + 64 < cLine := hr.units
  exact (dss_cons (ds_if (dt_not (dt_val (de_call (g_are_names M) rfl (hr.mono (by omega)) hg (by rfl) M.g_are_names M.k_are_names M.b_are_names rfl (da_cons (dvar 0) da_nil)))) (dss_one (ds_raise rfl M.x1 rfl M.h1 (dep1 hr) (by rfl) M.c1 (dvar 0))) dss_nil)
  (dss_one (ds_ret (dvar 0))))
def m_need_names : List D → M D := runFn 1 b_need_names
theorem g_need_names (M : Md L mg f fd fI co tb) : FG L P w mg base 3 (f 13) (fd 13) ["thing"] m_need_names := fg_of (N := N_need_names) M.F_need_names sc_need_names fun cdv A outer s H E hr hg => d_need_names M hr hg
abbrev N__law_told : List Str := ["call", "e"]
abbrev s__law_told : Stmt := (topS 32)
theorem sc__law_told : FnScope N__law_told ["call"] (defScope s__law_told) := ⟨rfl, rfl, rfl, by decide +kernel, rfl, by decide +kernel, by decide +kernel⟩
def m__law_told (th : M D) : M D := tBody 2 (sTryRet subX (fun _ => (th.bind fun d => .ret (.lst [d]))) [(1, some 1, (iTup [(iLit (.str (PySem.Str.ofString "names"))), (iBi fRp [(iErr (fun c => decide (c = 1)) 1)])])), (2, some 1, (iTup [(iLit (.str (PySem.Str.ofString "kinds"))), (iBi fRp [(iErr (fun c => decide (c = 2)) 1)])]))])
theorem g__law_told (M : Md L mg f fd fI co tb) (k : Nat) : Told L P w mg base k (f 14) "_law_told" N__law_told s__law_told "call" m__law_told :=
  told_ret (sub := subX) (cl := [(1, some 1, (iTup [(iLit (.str (PySem.Str.ofString "names"))), (iBi fRp [(iErr (fun c => decide (c = 1)) 1)])])), (2, some 1, (iTup [(iLit (.str (PySem.Str.ofString "kinds"))), (iBi fRp [(iErr (fun c => decide (c = 2)) 1)])]))]) M.er (by decide) rfl sc__law_told.nd (sub_ok M.sb) act_lst (fun cdg A outer s H hr hg => have hu := hr.units; (hd_as (k := 1) (j := 1) (i := (iTup [(iLit (.str (PySem.Str.ofString "names"))), (iBi fRp [(iErr (fun c => decide (c = 1)) 1)])])) ⟨by rfl, by decide, .inl M.c1⟩ rfl rfl (fun a oe cls d pn hz hf n dd u hc hd => (de_tup (da_cons dstr (da_cons (de_bi (ca_rp rfl hg hu) (by rfl) M.n_repr (by decide +kernel) (dav_cons (de_err (ok := fun c => decide (c = 1)) hz hf hc hd rfl (fun c hc => by obtain rfl := of_decide_eq_true hc; exact ⟨M.h1, xfC_of M.x1, M.x1.noN⟩) (pv 1)).dv dav_nil)) da_nil)))) (hd_as (k := 2) (j := 1) (i := (iTup [(iLit (.str (PySem.Str.ofString "kinds"))), (iBi fRp [(iErr (fun c => decide (c = 2)) 1)])])) ⟨by rfl, by decide, .inl M.c2⟩ rfl rfl (fun a oe cls d pn hz hf n dd u hc hd => (de_tup (da_cons dstr (da_cons (de_bi (ca_rp rfl hg hu) (by rfl) M.n_repr (by decide +kernel) (dav_cons (de_err (ok := fun c => decide (c = 2)) hz hf hc hd rfl (fun c hc => by obtain rfl := of_decide_eq_true hc; exact ⟨M.h2, xfC_of M.x2, M.x2.noN⟩) (pv 1)).dv dav_nil)) da_nil)))) hd_nil)))
abbrev N__law_some_kinds : List Str := ["m", "many", "most", "kinds", "some", "k", "kind"]
abbrev s__law_some_kinds : Stmt := (topS 28)
theorem sc__law_some_kinds : FnScope N__law_some_kinds ["m", "many", "most"] (defScope s__law_some_kinds) := ⟨rfl, rfl, rfl, by decide +kernel, rfl, by decide +kernel, by decide +kernel⟩
def b__law_some_kinds : IS := (sSeq (sSet 3 (iCall (m__law_kinds) [(iVar 1)]))
  (sSeq (sSet 4 (iLc (gN 5) (iiR1 (iOp fAdd (iLit (.int 1)) (iCall (m__law_next) [(iVar 0), (iVar 2)]))) cYes (iOp fIx (iVar 3) (iCall (m__law_next) [(iVar 0), (iBi fLen [(iVar 3)])])) [5]))
  (sRet (iBi fTuple [(iLc (gN 6) (iiA (iVar 3)) (asB (iOp fInA (iVar 6) (iVar 4))) (iVar 6) [6])]))))
theorem d__law_some_kinds (M : Md L mg f fd fI co tb) {f' : Addr} {cdv : Value} {A : Around} {outer : List PySem.Env} {s : Shared} {H : Hp} {E : XK} (hr : Room (2) (A.deeper (PyProof.Rows.envOfC "_law_some_kinds" (defScope s__law_some_kinds) s.heap.objs.size f' cdv))) (hg : A.guards = some []) :
    DSs L (cxOf (L2.CX P w) P w L.K mg base N__law_some_kinds "_law_some_kinds" (defScope s__law_some_kinds) f' cdv A outer s H E) (b__law_some_kinds) (defBody s__law_some_kinds) := by
  have hu : (A.deeper (PyProof.Rows.envOfC "_law_some_kinds" (defScope s__law_some_kinds) s.heap.objs.size f' cdv)).units + 64 < cLine := hr.units
  exact (dss_cons (ds_set (n := 3) sc__law_some_kinds.nd rfl (Or.inr rfl) (de_call (g__law_kinds M) rfl (hr.mono (by omega)) hg (by rfl) M.g__law_kinds M.k__law_kinds M.b__law_kinds rfl (da_cons (dvar 1) da_nil)))
  (dss_cons (ds_set (n := 4) sc__law_some_kinds.nd rfl (Or.inr rfl) (df_lc (own := [("k", 5)]) rfl sc__law_some_kinds.nd (di_range1 (by rfl) M.n_range (da_cons (de_bin (od_add rfl) dint.dv (de_call (g__law_next M) rfl (hr.mono (by omega)) hg (by rfl) M.g__law_next M.k__law_next M.b__law_next rfl (da_cons (dvar 0) (da_cons (dvar 2) da_nil))).dv) da_nil)) (show BlkOk N__law_some_kinds (defScope s__law_some_kinds) _ [("k", 5)] from ⟨rfl, by decide +kernel, by decide +kernel, by decide +kernel, by decide +kernel⟩) (fun s H C cl fp => (pg_name (i := 5) sc__law_some_kinds.nd rfl (by first | exact .inl rfl | exact .inr rfl))) (gk_name (by decide)) (fun s H C cl fp => pts_nil) tk_yes (fun s H C cl fp => (de_ix (ixd rfl) (dvar 3).dv (de_call (g__law_next M) rfl (hr.mono (by omega)) hg (by rfl) M.g__law_next M.k__law_next M.b__law_next rfl (da_cons (dvar 0) (da_cons (de_bi (ca_len rfl) (by rfl) M.n_len (by decide +kernel) (dav_cons (dvar 3).dv dav_nil)) da_nil))).dv))).de)
  (dss_one (ds_ret (de_ty (ca_tuple rfl) (by rfl) M.n_tuple (by decide +kernel) (dav_cons (df_lc (own := [("kind", 6)]) rfl sc__law_some_kinds.nd (di_any rfl (dvar 3)) (show BlkOk N__law_some_kinds (defScope s__law_some_kinds) _ [("kind", 6)] from ⟨rfl, by decide +kernel, by decide +kernel, by decide +kernel, by decide +kernel⟩) (fun s H C cl fp => (pg_name (i := 6) sc__law_some_kinds.nd rfl (by first | exact .inl rfl | exact .inr rfl))) (gk_name (by decide)) (fun s H C cl fp => (pts_of (dt_cmp (od_inA rfl (u65 hr)) (dvar 6).dv (dvar 4).dv (by with_unfolding_all rfl)))) tk_one (fun s H C cl fp => (dvar 6))).de.dv dav_nil))))))
def m__law_some_kinds : List D → M D := runFn 7 b__law_some_kinds
theorem g__law_some_kinds (M : Md L mg f fd fI co tb) : FG L P w mg base 3 (f 15) (fd 15) ["m", "many", "most"] m__law_some_kinds := fg_of (N := N__law_some_kinds) M.F__law_some_kinds sc__law_some_kinds fun cdv A outer s H E hr hg => d__law_some_kinds M hr hg
abbrev N_is_paper : List Str := ["names", "thing", "name"]
abbrev s_is_paper : Stmt := (topS 12)
theorem sc_is_paper : FnScope N_is_paper ["names", "thing"] (defScope s_is_paper) := ⟨rfl, rfl, rfl, by decide +kernel, rfl, by decide +kernel, by decide +kernel⟩
def b_is_paper : IS := (sSeq (sIf (orB (notB (asB (iBi fIsI [(iVar 1), (iLit (.ty "tuple"))]))) (notB (asB (iChain fLe fLe (iLit (.int 1)) (iBi fLen [(iVar 1)]) (iBi fLen [(iVar 0)]))))) (sRet (iLit (.bl false))) sPass)
  (sSeq (sIf (notB (asB (iBi fAll [(iLc (gN 2) (iiA (iVar 1)) cYes (iAnd (iBi fIsI [(iVar 2), (iLit (.ty "str"))]) (iOp fInA (iVar 2) (iVar 0))) [2])]))) (sRet (iLit (.bl false))) sPass)
  (sRet (iOp fEq (iLenT (iVar 1)) (iBi fLen [(iVar 1)])))))
theorem d_is_paper (M : Md L mg f fd fI co tb) {f' : Addr} {cdv : Value} {A : Around} {outer : List PySem.Env} {s : Shared} {H : Hp} {E : XK} (hr : Room (0) (A.deeper (PyProof.Rows.envOfC "is_paper" (defScope s_is_paper) s.heap.objs.size f' cdv))) (hg : A.guards = some []) :
    DSs L (cxOf (L2.CX P w) P w L.K mg base N_is_paper "is_paper" (defScope s_is_paper) f' cdv A outer s H E) (b_is_paper) (defBody s_is_paper) := by
  have hu : (A.deeper (PyProof.Rows.envOfC "is_paper" (defScope s_is_paper) s.heap.objs.size f' cdv)).units + 64 < cLine := hr.units
  exact (dss_cons (ds_if (DW.dt (dw_or (dt_not (dt_val (de_bi (ca_isi M.tab rfl) (by rfl) M.n_isinstance (by decide +kernel) (dav_cons (dvar 1).dv (dav_cons (de_type (t := "tuple") (by rfl) M.n_tuple (by decide +kernel)).dv dav_nil))))) (dw_or1 (dt_not (dt_chain (od_le rfl hu) (od_le rfl hu) dint.dv (de_bi (ca_len rfl) (by rfl) M.n_len (by decide +kernel) (dav_cons (dvar 1).dv dav_nil)).dv (de_bi (ca_len rfl) (by rfl) M.n_len (by decide +kernel) (dav_cons (dvar 0).dv dav_nil)).dv))))) (dss_one (ds_ret dbool)) dss_nil)
  (dss_cons (ds_if (dt_not (dt_val (de_bi (ca_all rfl) (by rfl) M.n_all (by decide +kernel) (dav_cons (df_lc (own := [("name", 2)]) rfl sc_is_paper.nd (di_any rfl (dvar 1)) (show BlkOk N_is_paper (defScope s_is_paper) _ [("name", 2)] from ⟨rfl, by decide +kernel, by decide +kernel, by decide +kernel, by decide +kernel⟩) (fun s H C cl fp => (pg_name (i := 2) sc_is_paper.nd rfl (by first | exact .inl rfl | exact .inr rfl))) (gk_name (by decide)) (fun s H C cl fp => pts_nil) tk_yes (fun s H C cl fp => (de_and (de_bi (ca_isi M.tab rfl) (by rfl) M.n_isinstance (by decide +kernel) (dav_cons (dvar 2).dv (dav_cons (de_type (t := "str") (by rfl) M.n_str (by decide +kernel)).dv dav_nil))) (de_one (de_cmp (od_inA rfl (u65 hr)) (dvar 2).dv (dvar 0).dv (by with_unfolding_all rfl)))))).de.dv dav_nil)))) (dss_one (ds_ret dbool)) dss_nil)
  (dss_one (ds_ret (de_cmp (od_eq rfl hu) (de_lenT rfl rfl (by rfl) M.n_len (by rfl) M.n_set (dvar 1)).dv (de_bi (ca_len rfl) (by rfl) M.n_len (by decide +kernel) (dav_cons (dvar 1).dv dav_nil)).dv (nomark _))))))
def m_is_paper : List D → M D := runFn 3 b_is_paper
theorem g_is_paper (M : Md L mg f fd fI co tb) : FG L P w mg base 1 (f 16) (fd 16) ["names", "thing"] m_is_paper := fg_of (N := N_is_paper) M.F_is_paper sc_is_paper fun cdv A outer s H E hr hg => d_is_paper M hr hg
abbrev N__law_is_paper : List Str := ["many", "thing", "at", "one"]
abbrev s__law_is_paper : Stmt := (topS 30)
theorem sc__law_is_paper : FnScope N__law_is_paper ["many", "thing"] (defScope s__law_is_paper) := ⟨rfl, rfl, rfl, by decide +kernel, rfl, by decide +kernel, by decide +kernel⟩
def b__law_is_paper : IS := (sSeq (sIf (orB (notB (asB (iBi fIsI [(iVar 1), (iLit (.ty "tuple"))]))) (orB (asB (iOp fEqV (iVar 1) (iTup []))) (asB (iOp fNeV (iLc (gN 3) (iiA (iVar 1)) (asB (iOp fNotInY (iVar 3) (iBi fList [(iVar 0)]))) (iVar 3) [3]) (iLst []))))) (sRet (iLit (.bl false))) sPass)
  (sRet (iOp fEq (iLc (gN 2) (iiR1 (iBi fLen [(iVar 1)])) (asB (iOp fInA (iOp fIx (iVar 1) (iVar 2)) (iSl fSl (iVar 1) oNone (oSome (iVar 2))))) (iVar 2) [2]) (iLst []))))
theorem d__law_is_paper (M : Md L mg f fd fI co tb) {f' : Addr} {cdv : Value} {A : Around} {outer : List PySem.Env} {s : Shared} {H : Hp} {E : XK} (hr : Room (0) (A.deeper (PyProof.Rows.envOfC "_law_is_paper" (defScope s__law_is_paper) s.heap.objs.size f' cdv))) (hg : A.guards = some []) :
    DSs L (cxOf (L2.CX P w) P w L.K mg base N__law_is_paper "_law_is_paper" (defScope s__law_is_paper) f' cdv A outer s H E) (b__law_is_paper) (defBody s__law_is_paper) := by
  have hu : (A.deeper (PyProof.Rows.envOfC "_law_is_paper" (defScope s__law_is_paper) s.heap.objs.size f' cdv)).units + 64 < cLine := hr.units
  exact (dss_cons (ds_if (DW.dt (dw_or (dt_not (dt_val (de_bi (ca_isi M.tab rfl) (by rfl) M.n_isinstance (by decide +kernel) (dav_cons (dvar 1).dv (dav_cons (de_type (t := "tuple") (by rfl) M.n_tuple (by decide +kernel)).dv dav_nil))))) (dw_or (dt_cmp (od_eqV rfl hu) (dvar 1).dv (de_tup da_nil).dv (nomark _)) (dw_or1 (dt_cmp (od_neV rfl hu) (df_lc (own := [("one", 3)]) rfl sc__law_is_paper.nd (di_any rfl (dvar 1)) (show BlkOk N__law_is_paper (defScope s__law_is_paper) _ [("one", 3)] from ⟨rfl, by decide +kernel, by decide +kernel, by decide +kernel, by decide +kernel⟩) (fun s H C cl fp => (pg_name (i := 3) sc__law_is_paper.nd rfl (by first | exact .inl rfl | exact .inr rfl))) (gk_name (by decide)) (fun s H C cl fp => (pts_of (dt_cmp (od_notInY rfl (u65 hr)) (dvar 3).dv (df_ty (ca_list rfl) (by rfl) M.n_list (by decide +kernel) (dav_cons (dvar 0).dv dav_nil)).de.dv (by with_unfolding_all rfl)))) tk_one (fun s H C cl fp => (dvar 3))).de.dv (df_lst da_nil).de.dv (nomark _)))))) (dss_one (ds_ret dbool)) dss_nil)
  (dss_one (ds_ret (de_cmp (od_eq rfl hu) (df_lc (own := [("at", 2)]) rfl sc__law_is_paper.nd (di_range1 (by rfl) M.n_range (da_cons (de_bi (ca_len rfl) (by rfl) M.n_len (by decide +kernel) (dav_cons (dvar 1).dv dav_nil)) da_nil)) (show BlkOk N__law_is_paper (defScope s__law_is_paper) _ [("at", 2)] from ⟨rfl, by decide +kernel, by decide +kernel, by decide +kernel, by decide +kernel⟩) (fun s H C cl fp => (pg_name (i := 2) sc__law_is_paper.nd rfl (by first | exact .inl rfl | exact .inr rfl))) (gk_name (by decide)) (fun s H C cl fp => (pts_of (dt_cmp (od_inA rfl (u65 hr)) (de_ix (ixd rfl) (dvar 1).dv (dvar 2).dv).dv (de_sl (sld rfl) (dvar 1).dv do_none (do_some (dvar 2))).dv (by with_unfolding_all rfl)))) tk_one (fun s H C cl fp => (dvar 2))).de.dv (df_lst da_nil).de.dv (nomark _)))))
def m__law_is_paper : List D → M D := runFn 4 b__law_is_paper
theorem g__law_is_paper (M : Md L mg f fd fI co tb) : FG L P w mg base 1 (f 17) (fd 17) ["many", "thing"] m__law_is_paper := fg_of (N := N__law_is_paper) M.F__law_is_paper sc__law_is_paper fun cdv A outer s H E hr hg => d__law_is_paper M hr hg
end Lw
namespace Lw
open PySem PySem.Spec L2 DL
variable {L : Lx} {P : Program} {w : World} {mg : Str → Option Value} {base : Heap} {f : Nat → Addr} {fd : Nat → FuncData} {fI co tb : Nat → Addr}
abbrev N__is_range : List Str := ["names", "thing", "kind"]
abbrev s__is_range : Stmt := (topS 17)
theorem sc__is_range : FnScope N__is_range ["names", "thing"] (defScope s__is_range) := ⟨rfl, rfl, rfl, by decide +kernel, rfl, by decide +kernel, by decide +kernel⟩
def b__is_range : IS := (sSeq (sIf (orB (notB (asB (iBi fIsI [(iVar 1), (iLit (.ty "tuple"))]))) (asB (iOp fEq (iBi fLen [(iVar 1)]) (iLit (.int 0))))) (sRet (iLit (.bl false))) sPass)
  (sRet (iAnd (iBi fAll [(iLc (gN 2) (iiA (iVar 1)) cYes (iCall (m_is_paper) [(iVar 0), (iVar 2)]) [2])]) (iCall (m_is_ascending) [(iVar 1)]))))
theorem d__is_range (M : Md L mg f fd fI co tb) {f' : Addr} {cdv : Value} {A : Around} {outer : List PySem.Env} {s : Shared} {H : Hp} {E : XK} (hr : Room (1) (A.deeper (PyProof.Rows.envOfC "_is_range" (defScope s__is_range) s.heap.objs.size f' cdv))) (hg : A.guards = some []) :
    DSs L (cxOf (L2.CX P w) P w L.K mg base N__is_range "_is_range" (defScope s__is_range) f' cdv A outer s H E) (b__is_range) (defBody s__is_range) := by
  have hu : (A.deeper (PyProof.Rows.envOfC "_is_range" (defScope s__is_range) s.heap.objs.size f' cdv)).units + 64 < cLine := hr.units
  exact (dss_cons (ds_if (DW.dt (dw_or (dt_not (dt_val (de_bi (ca_isi M.tab rfl) (by rfl) M.n_isinstance (by decide +kernel) (dav_cons (dvar 1).dv (dav_cons (de_type (t := "tuple") (by rfl) M.n_tuple (by decide +kernel)).dv dav_nil))))) (dw_or1 (dt_cmp (od_eq rfl hu) (de_bi (ca_len rfl) (by rfl) M.n_len (by decide +kernel) (dav_cons (dvar 1).dv dav_nil)).dv dint.dv (nomark _))))) (dss_one (ds_ret dbool)) dss_nil)
  (dss_one (ds_ret (de_and (de_bi (ca_all rfl) (by rfl) M.n_all (by decide +kernel) (dav_cons (df_lc (own := [("kind", 2)]) rfl sc__is_range.nd (di_any rfl (dvar 1)) (show BlkOk N__is_range (defScope s__is_range) _ [("kind", 2)] from ⟨rfl, by decide +kernel, by decide +kernel, by decide +kernel, by decide +kernel⟩) (fun s H C cl fp => (pg_name (i := 2) sc__is_range.nd rfl (by first | exact .inl rfl | exact .inr rfl))) (gk_name (by decide)) (fun s H C cl fp => pts_nil) tk_yes (fun s H C cl fp => (de_call (g_is_paper M) rfl (hr.mono (by omega)) hg (by rfl) M.g_is_paper M.k_is_paper M.b_is_paper rfl (da_cons (dvar 0) (da_cons (dvar 2) da_nil))))).de.dv dav_nil)) (de_one (de_call (g_is_ascending M) rfl (hr.mono (by omega)) hg (by rfl) M.g_is_ascending M.k_is_ascending M.b_is_ascending rfl (da_cons (dvar 1) da_nil)))))))
def m__is_range : List D → M D := runFn 3 b__is_range
theorem g__is_range (M : Md L mg f fd fI co tb) : FG L P w mg base 2 (f 18) (fd 18) ["names", "thing"] m__is_range := fg_of (N := N__is_range) M.F__is_range sc__is_range fun cdv A outer s H E hr hg => d__is_range M hr hg
abbrev N_need_kinds : List Str := ["names", "thing"]
abbrev s_need_kinds : Stmt := (topS 14)
theorem sc_need_kinds : FnScope N_need_kinds ["names", "thing"] (defScope s_need_kinds) := ⟨rfl, rfl, rfl, by decide +kernel, rfl, by decide +kernel, by decide +kernel⟩
def b_need_kinds : IS := (sSeq (sExpr (iCall (m_need_names) [(iVar 0)]))
  (sSeq (sIf (notB (asB (iCall (m__is_range) [(iVar 0), (iVar 1)]))) (sRaise 2 (iVar 1)) sPass)
  (sRet (iVar 1))))
theorem d_need_kinds (M : Md L mg f fd fI co tb) {f' : Addr} {cdv : Value} {A : Around} {outer : List PySem.Env} {s : Shared} {H : Hp} {E : XK} (hr : Room (3) (A.deeper (PyProof.Rows.envOfC "need_kinds" (defScope s_need_kinds) s.heap.objs.size f' cdv))) (hg : A.guards = some []) :
    DSs L (cxOf (L2.CX P w) P w L.K mg base N_need_kinds "need_kinds" (defScope s_need_kinds) f' cdv A outer s H E) (b_need_kinds) (defBody s_need_kinds) := by
  have hu : (A.deeper (PyProof.Rows.envOfC "need_kinds" (defScope s_need_kinds) s.heap.objs.size f' cdv)).units + 64 < cLine := hr.units
  exact (dss_cons (ds_expr (de_call (g_need_names M) rfl (hr.mono (by omega)) hg (by rfl) M.g_need_names M.k_need_names M.b_need_names rfl (da_cons (dvar 0) da_nil)).dv)
  (dss_cons (ds_if (dt_not (dt_val (de_call (g__is_range M) rfl (hr.mono (by omega)) hg (by rfl) M.g__is_range M.k__is_range M.b__is_range rfl (da_cons (dvar 0) (da_cons (dvar 1) da_nil))))) (dss_one (ds_raise rfl M.x2 rfl M.h2 (dep1 hr) (by rfl) M.c2 (dvar 1))) dss_nil)
  (dss_one (ds_ret (dvar 1)))))
def m_need_kinds : List D → M D := runFn 2 b_need_kinds
theorem g_need_kinds (M : Md L mg f fd fI co tb) : FG L P w mg base 4 (f 19) (fd 19) ["names", "thing"] m_need_kinds := fg_of (N := N_need_kinds) M.F_need_kinds sc_need_kinds fun cdv A outer s H E hr hg => d_need_kinds M hr hg
abbrev N_raised : List Str := ["paper", "name", "place"]
abbrev s_raised : Stmt := (topS 15)
theorem sc_raised : FnScope N_raised ["paper", "name"] (defScope s_raised) := ⟨rfl, rfl, rfl, by decide +kernel, rfl, by decide +kernel, by decide +kernel⟩
def b_raised : IS := (sSeq (sIf (asB (iOp fNotIn (iVar 1) (iVar 0))) (sRet (iOp fAdd (iVar 0) (iTup [(iVar 1)]))) sPass)
  (sSeq (sSet 2 (iIdx (iVar 0) (iVar 1)))
  (sSeq (sIf (asB (iOp fEq (iVar 2) (iLit (.int 0)))) (sRet (iLit .non)) sPass)
  (sRet (iOp fAdd (iOp fAdd (iSl fSl (iVar 0) oNone (oSome (iOp fSubI (iVar 2) (iLit (.int 1))))) (iTup [(iVar 1), (iOp fIx (iVar 0) (iOp fSubI (iVar 2) (iLit (.int 1))))])) (iSl fSl (iVar 0) (oSome (iOp fAdd (iVar 2) (iLit (.int 1)))) oNone))))))
theorem d_raised (M : Md L mg f fd fI co tb) {f' : Addr} {cdv : Value} {A : Around} {outer : List PySem.Env} {s : Shared} {H : Hp} {E : XK} (hr : Room (0) (A.deeper (PyProof.Rows.envOfC "raised" (defScope s_raised) s.heap.objs.size f' cdv))) (hg : A.guards = some []) :
    DSs L (cxOf (L2.CX P w) P w L.K mg base N_raised "raised" (defScope s_raised) f' cdv A outer s H E) (b_raised) (defBody s_raised) := by
  have hu : (A.deeper (PyProof.Rows.envOfC "raised" (defScope s_raised) s.heap.objs.size f' cdv)).units + 64 < cLine := hr.units
  exact (dss_cons (ds_if (dt_cmp (od_notInA rfl (u65 hr)) (dvar 1).dv (dvar 0).dv (by with_unfolding_all rfl)) (dss_one (ds_ret (de_bin (od_add rfl) (dvar 0).dv (de_tup (da_cons (dvar 1) da_nil)).dv))) dss_nil)
  (dss_cons (ds_set (n := 2) sc_raised.nd rfl (Or.inl rfl) (de_index rfl M.fz (dvar 0) (dvar 1)))
  (dss_cons (ds_if (dt_cmp (od_eq rfl hu) (dvar 2).dv dint.dv (nomark _)) (dss_one (ds_ret dnon)) dss_nil)
  (dss_one (ds_ret (de_bin (od_add rfl) (de_bin (od_add rfl) (de_sl (sld rfl) (dvar 0).dv do_none (do_some (de_bin od_subI (dvar 2).dv dint.dv))).dv (de_tup (da_cons (dvar 1) (da_cons (de_ix (ixd rfl) (dvar 0).dv (de_bin od_subI (dvar 2).dv dint.dv).dv) da_nil))).dv).dv (de_sl (sld rfl) (dvar 0).dv (do_some (de_bin (od_add rfl) (dvar 2).dv dint.dv)) do_none).dv))))))
def m_raised : List D → M D := runFn 3 b_raised
theorem g_raised (M : Md L mg f fd fI co tb) : FG L P w mg base 1 (f 20) (fd 20) ["paper", "name"] m_raised := fg_of (N := N_raised) M.F_raised sc_raised fun cdv A outer s H E hr hg => d_raised M hr hg
abbrev N__law_move : List Str := ["paper", "name", "at"]
abbrev s__law_move : Stmt := (topS 29)
theorem sc__law_move : FnScope N__law_move ["paper", "name"] (defScope s__law_move) := ⟨rfl, rfl, rfl, by decide +kernel, rfl, by decide +kernel, by decide +kernel⟩
def b__law_move : IS := (sSeq (sIf (asB (iOp fNotIn (iVar 1) (iVar 0))) (sRet (iOp fAdd (iVar 0) (iTup [(iVar 1)]))) sPass)
  (sSeq (sSet 2 (iIdx (iVar 0) (iVar 1)))
  (sRet (iIf (asB (iOp fEq (iVar 2) (iLit (.int 0)))) (iLit .non) (iOp fAdd (iOp fAdd (iSl fSl (iVar 0) oNone (oSome (iOp fSubI (iVar 2) (iLit (.int 1))))) (iTup [(iVar 1), (iOp fIx (iVar 0) (iOp fSubI (iVar 2) (iLit (.int 1))))])) (iSl fSl (iVar 0) (oSome (iOp fAdd (iVar 2) (iLit (.int 1)))) oNone))))))
theorem d__law_move (M : Md L mg f fd fI co tb) {f' : Addr} {cdv : Value} {A : Around} {outer : List PySem.Env} {s : Shared} {H : Hp} {E : XK} (hr : Room (0) (A.deeper (PyProof.Rows.envOfC "_law_move" (defScope s__law_move) s.heap.objs.size f' cdv))) (hg : A.guards = some []) :
    DSs L (cxOf (L2.CX P w) P w L.K mg base N__law_move "_law_move" (defScope s__law_move) f' cdv A outer s H E) (b__law_move) (defBody s__law_move) := by
  have hu : (A.deeper (PyProof.Rows.envOfC "_law_move" (defScope s__law_move) s.heap.objs.size f' cdv)).units + 64 < cLine := hr.units
  exact (dss_cons (ds_if (dt_cmp (od_notInA rfl (u65 hr)) (dvar 1).dv (dvar 0).dv (by with_unfolding_all rfl)) (dss_one (ds_ret (de_bin (od_add rfl) (dvar 0).dv (de_tup (da_cons (dvar 1) da_nil)).dv))) dss_nil)
  (dss_cons (ds_set (n := 2) sc__law_move.nd rfl (Or.inl rfl) (de_index rfl M.fz (dvar 0) (dvar 1)))
  (dss_one (ds_ret (de_if (dt_cmp (od_eq rfl hu) (dvar 2).dv dint.dv (nomark _)) dnon (de_bin (od_add rfl) (de_bin (od_add rfl) (de_sl (sld rfl) (dvar 0).dv do_none (do_some (de_bin od_subI (dvar 2).dv dint.dv))).dv (de_tup (da_cons (dvar 1) (da_cons (de_ix (ixd rfl) (dvar 0).dv (de_bin od_subI (dvar 2).dv dint.dv).dv) da_nil))).dv).dv (de_sl (sld rfl) (dvar 0).dv (do_some (de_bin (od_add rfl) (dvar 2).dv dint.dv)) do_none).dv))))))
def m__law_move : List D → M D := runFn 3 b__law_move
theorem g__law_move (M : Md L mg f fd fI co tb) : FG L P w mg base 1 (f 21) (fd 21) ["paper", "name"] m__law_move := fg_of (N := N__law_move) M.F__law_move sc__law_move fun cdv A outer s H E hr hg => d__law_move M hr hg
abbrev N_law : List Str := ["script", "m", "turn", "many", "kinds", "some", "thing", "kept", "is_so", "one", "part", "name", "x"]
abbrev s_law : Stmt := (topS 33)
theorem sc_law : FnScope N_law ["script"] (defScope s_law) := ⟨rfl, rfl, rfl, by decide +kernel, rfl, by decide +kernel, by decide +kernel⟩
def b_law : IS := (sSeq (sSet 1 (iCall (m__law_begun) [(iVar 0)]))
  (sSeq (sFor (gN 2) (iiR1 (iOp fAdd (iLit (.int 4)) (iBi fMin2 [(iBi fLen [(iVar 0)]), (iLit (.int 8))]))) (sSeq (sSet 3 (iCall (m__law_many) [(iVar 1), (iLit (.int 4))]))
  (sSeq (sSet 4 (iCall (m__law_kinds) [(iVar 3)]))
  (sSeq (sIf (asB (iOp fNeD (iBi fRp [(iCall (m_all_kinds) [(iVar 3)])]) (iBi fRp [(iBi fTuple [(iVar 4)])]))) (sRet (iLit (.bl false))) sPass)
  (sSeq (sSet 5 (iLst [(iVar 3), (iRev (iVar 3)), (iOp fAdd (iVar 3) (iSl fSl (iVar 3) oNone (oSome (iLit (.int 1))))), (iOp fAdd (iVar 3) (iTup [(iLit (.str (PySem.Str.ofString "zz")))])), (iTup []), (iBi fList [(iVar 3)]), (iSl fSl (iVar 3) oNone (oSome (iLit (.int 1)))), (iCall (m__law_bent 6) [(iVar 1), (iVar 3)])]))
  (sSeq (sSet 5 (iOp fAdd (iVar 5) (iLst [(iBi fTuple [(iBi fSorted [(iCall (m__law_names) [(iVar 1), (iLit (.int 5))])])]), (iCall (m__law_bent 6) [(iVar 1), (iCall (m__law_bent 6) [(iVar 1), (iVar 3)])]), (iCall (m__law_odd) [(iVar 1)])])))
  (sSeq (sFor (gN 6) (iiA (iVar 5)) (sSeq (sSet 7 (iBi fRp [(iVar 6)]))
  (sSeq (sSet 8 (iAnd (iBi fIsI [(iVar 6), (iLit (.ty "tuple"))]) (iChain fLe fLe (iLit (.int 2)) (iBi fLen [(iVar 6)]) (iLit (.int 4)))))
  (sSeq (sSet 8 (iAnd (iVar 8) (iAnd (iOp fEqV (iLc (gN 12) (iiA (iVar 6)) (notB (asB (iCall (m__law_is_name) [(iVar 12)]))) (iVar 12) [12]) (iLst [])) (iCall (m__law_are_rising) [(iVar 6)]))))
  (sIf (asB (iOp fNeD (iBi fRp [(iTold m__law_told (iCall (m_need_names) [(iVar 6)]))]) (iBi fRp [(iIf (asB (iVar 8)) (iLst [(iVar 6)]) (iTup [(iLit (.str (PySem.Str.ofString "names"))), (iVar 7)]))]))) (sRet (iLit (.bl false))) sPass)))))
  (sSeq (sAsg (gT [(gN 9), (gN 10)]) (iTup [(iOp fIx (iVar 4) (iCall (m__law_next) [(iVar 1), (iBi fLen [(iVar 4)])])), (iCall (m__law_some_kinds) [(iVar 1), (iVar 3), (iLit (.int 5))])]))
  (sSeq (sFor (gN 6) (iiA (iLst [(iVar 9), (iRev (iVar 9)), (iBi fList [(iVar 9)]), (iOp fAdd (iVar 9) (iTup [(iLit (.str (PySem.Str.ofString "zz")))])), (iOp fMul (iVar 9) (iLit (.int 2))), (iCall (m__law_bent 6) [(iVar 1), (iVar 9)]), (iCall (m__law_odd) [(iVar 1)]), (iVar 3), (iTup [])])) (sIf (asB (iOp fNeD (iBi fRp [(iCall (m_is_paper) [(iVar 3), (iVar 6)])]) (iBi fRp [(iCall (m__law_is_paper) [(iVar 3), (iVar 6)])]))) (sRet (iLit (.bl false))) sPass))
  (sSeq (sSet 5 (iLst [(iVar 10), (iRev (iVar 10)), (iOp fAdd (iVar 10) (iSl fSl (iVar 10) oNone (oSome (iLit (.int 1))))), (iBi fList [(iVar 10)]), (iTup []), (iOp fAdd (iVar 10) (iTup [(iTup [(iLit (.str (PySem.Str.ofString "zz")))])])), (iCall (m__law_bent 6) [(iVar 1), (iVar 10)]), (iCall (m__law_odd) [(iVar 1)])]))
  (sSeq (sFor (gN 6) (iiA (iVar 5)) (sSeq (sSet 8 (iAnd (iBi fIsI [(iVar 6), (iLit (.ty "tuple"))]) (iAnd (iOp fNeV (iVar 6) (iTup [])) (iOp fEqV (iLc (gN 12) (iiA (iVar 6)) (notB (asB (iCall (m__law_is_paper) [(iVar 3), (iVar 12)]))) (iVar 12) [12]) (iLst [])))))
  (sSeq (sSet 8 (iAnd (iVar 8) (iCall (m__law_are_rising) [(iVar 6)])))
  (sIf (asB (iOp fNeD (iBi fRp [(iTold m__law_told (iCall (m_need_kinds) [(iVar 3), (iVar 6)]))]) (iBi fRp [(iIf (asB (iVar 8)) (iLst [(iVar 6)]) (iTup [(iLit (.str (PySem.Str.ofString "kinds"))), (iBi fRp [(iVar 6)])]))]))) (sRet (iLit (.bl false))) sPass))))
  (sSeq (sIf (asB (iOp fNeD (iBi fRp [(iLc (gN 11) (iiA (iVar 3)) cYes (iCall (m_raised) [(iVar 9), (iVar 11)]) [11])]) (iBi fRp [(iLc (gN 11) (iiA (iVar 3)) cYes (iCall (m__law_move) [(iVar 9), (iVar 11)]) [11])]))) (sRet (iLit (.bl false))) sPass)
  (sIf (asB (iOp fNeD (iTold m__law_told (iCall (m_need_kinds) [(iRev (iVar 3)), (iLit (.int 5))])) (iTup [(iLit (.str (PySem.Str.ofString "names"))), (iBi fRp [(iRev (iVar 3))])]))) (sRet (iLit (.bl false))) sPass)))))))))))))
  (sRet (iLit (.bl true)))))
theorem d_law (M : Md L mg f fd fI co tb) (B : Tbs mg base co tb) {f' : Addr} {A : Around} {outer : List PySem.Env} {s : Shared} {H : Hp} {E : XK} (hr : Room (10) (A.deeper (PyProof.Rows.envOfC "law" (defScope s_law) s.heap.objs.size f' (.ref (co 22))))) (hg : A.guards = some []) :
    DSs L (cxOf (L2.CX P w) P w L.K mg base N_law "law" (defScope s_law) f' (.ref (co 22)) A outer s H E) (b_law) (defBody s_law) := by
  have hu : (A.deeper (PyProof.Rows.envOfC "law" (defScope s_law) s.heap.objs.size f' (.ref (co 22)))).units + 64 < cLine := hr.units
  exact (dss_cons (ds_set (n := 1) sc_law.nd rfl (Or.inl rfl) (de_call (g__law_begun M) rfl (hr.mono (by omega)) hg (by rfl) M.g__law_begun M.k__law_begun M.b__law_begun rfl (da_cons (dvar 0) da_nil)))
  (dss_cons (ds_for (passes_of rfl) rfl (di_range1 (by rfl) M.n_range (da_cons (de_bin (od_add rfl) dint.dv (de_bi (ca_min2 rfl) (by rfl) M.n_min (by decide +kernel) (dav_cons (de_bi (ca_len rfl) (by rfl) M.n_len (by decide +kernel) (dav_cons (dvar 0).dv dav_nil)).dv (dav_cons dint.dv dav_nil))).dv) da_nil)) (dg_name (n := 2) sc_law.nd rfl (Or.inl rfl)) (dss_cons (ds_set (n := 3) sc_law.nd rfl (Or.inr rfl) (de_call (g__law_many M) rfl (hr.mono (by omega)) hg (by rfl) M.g__law_many M.k__law_many M.b__law_many rfl (da_cons (dvar 1) (da_cons dint da_nil))))
  (dss_cons (ds_set (n := 4) sc_law.nd rfl (Or.inl rfl) (de_call (g__law_kinds M) rfl (hr.mono (by omega)) hg (by rfl) M.g__law_kinds M.k__law_kinds M.b__law_kinds rfl (da_cons (dvar 3) da_nil)))
  (dss_cons (ds_if (dt_cmp (od_ne0 rfl hu) (de_bi (ca_rp rfl hg hu) (by rfl) M.n_repr (by decide +kernel) (dav_cons (de_call (g_all_kinds M) rfl (hr.mono (by omega)) hg (by rfl) M.g_all_kinds M.k_all_kinds M.b_all_kinds rfl (da_cons (dvar 3) da_nil)).dv dav_nil)).dv (de_bi (ca_rp rfl hg hu) (by rfl) M.n_repr (by decide +kernel) (dav_cons (de_ty (ca_tuple rfl) (by rfl) M.n_tuple (by decide +kernel) (dav_cons (dvar 4).dv dav_nil)).dv dav_nil)).dv (nomark _)) (dss_one (ds_ret dbool)) dss_nil)
  (dss_cons (ds_set (n := 5) sc_law.nd rfl (Or.inl rfl) (df_lst (da_cons (dvar 3) (da_cons (de_rev rfl (dvar 3).dv) (da_cons (de_bin (od_add rfl) (dvar 3).dv (de_sl (sld rfl) (dvar 3).dv do_none (do_some dint)).dv) (da_cons (de_bin (od_add rfl) (dvar 3).dv (de_tup (da_cons dstr da_nil)).dv) (da_cons (de_tup da_nil) (da_cons (df_ty (ca_list rfl) (by rfl) M.n_list (by decide +kernel) (dav_cons (dvar 3).dv dav_nil)).de (da_cons (de_sl (sld rfl) (dvar 3).dv do_none (do_some dint)) (da_cons (de_call (g__law_bent M 6) rfl (hr.mono (by omega)) hg (by rfl) M.g__law_bent M.k__law_bent M.b__law_bent rfl (da_cons (dvar 1) (da_cons (dvar 3) da_nil))) da_nil))))))))).de)
  (dss_cons (ds_set (n := 5) sc_law.nd rfl (Or.inl rfl) (de_bin (od_add rfl) (dvar 5).dv (df_lst (da_cons (de_ty (ca_tuple rfl) (by rfl) M.n_tuple (by decide +kernel) (dav_cons (df_bi (ca_sorted rfl (u66 hr)) (by rfl) M.n_sorted (by decide +kernel) (dav_cons (de_call (g__law_names M) rfl (hr.mono (by omega)) hg (by rfl) M.g__law_names M.k__law_names M.b__law_names rfl (da_cons (dvar 1) (da_cons dint da_nil))).dv dav_nil)).de.dv dav_nil)) (da_cons (de_call (g__law_bent M 6) rfl (hr.mono (by omega)) hg (by rfl) M.g__law_bent M.k__law_bent M.b__law_bent rfl (da_cons (dvar 1) (da_cons (de_call (g__law_bent M 6) rfl (hr.mono (by omega)) hg (by rfl) M.g__law_bent M.k__law_bent M.b__law_bent rfl (da_cons (dvar 1) (da_cons (dvar 3) da_nil))) da_nil))) (da_cons (de_call (g__law_odd M) rfl (hr.mono (by omega)) hg (by rfl) M.g__law_odd M.k__law_odd M.b__law_odd rfl (da_cons (dvar 1) da_nil)) da_nil)))).de.dv))
  (dss_cons (ds_for (passes_of rfl) rfl (di_any rfl (dvar 5)) (dg_name (n := 6) sc_law.nd rfl (Or.inr rfl)) (dss_cons (ds_set (n := 7) sc_law.nd rfl (Or.inl rfl) (de_bi (ca_rp rfl hg hu) (by rfl) M.n_repr (by decide +kernel) (dav_cons (dvar 6).dv dav_nil)))
  (dss_cons (ds_set (n := 8) sc_law.nd rfl (Or.inl rfl) (de_and (de_bi (ca_isi M.tab rfl) (by rfl) M.n_isinstance (by decide +kernel) (dav_cons (dvar 6).dv (dav_cons (de_type (t := "tuple") (by rfl) M.n_tuple (by decide +kernel)).dv dav_nil))) (de_one (de_chain (od_le rfl hu) (od_le rfl hu) dint.dv (de_bi (ca_len rfl) (by rfl) M.n_len (by decide +kernel) (dav_cons (dvar 6).dv dav_nil)).dv dint.dv))))
  (dss_cons (ds_set (n := 8) sc_law.nd rfl (Or.inl rfl) (de_and (dvar 8) (de_and (de_cmp (od_eqV rfl hu) (df_lc (own := [("x", 12)]) rfl sc_law.nd (di_any rfl (dvar 6)) (show BlkOk N_law (defScope s_law) _ [("x", 12)] from ⟨rfl, by decide +kernel, by decide +kernel, by decide +kernel, by decide +kernel⟩) (fun s H C cl fp => (pg_name (i := 12) sc_law.nd rfl (by first | exact .inl rfl | exact .inr rfl))) (gk_name (by decide)) (fun s H C cl fp => (pts_of (dt_not (dt_val (de_call (g__law_is_name M) rfl (hr.mono (by omega)) hg (by rfl) M.g__law_is_name M.k__law_is_name M.b__law_is_name rfl (da_cons (dvar 12) da_nil)))))) tk_one (fun s H C cl fp => (dvar 12))).de.dv (df_lst da_nil).de.dv (nomark _)) (de_one (de_call (g__law_are_rising M) rfl (hr.mono (by omega)) hg (by rfl) M.g__law_are_rising M.k__law_are_rising M.b__law_are_rising rfl (da_cons (dvar 6) da_nil))))))
  (dss_one (ds_if (dt_cmp (od_ne0 rfl hu) (de_bi (ca_rp rfl hg hu) (by rfl) M.n_repr (by decide +kernel) (dav_cons (de_lamcall (k := 3) (i := (iCall (m_need_names) [(iVar 6)])) (g__law_told M (3 + 1)) M.F__law_told sc__law_told rfl (by rfl) M.g__law_told M.k__law_told M.b__law_told rfl (.inl rfl) (by exact B.t_law) (by rfl) (by exact M.T_law) (by exact M.U_law) (hr.mono (by omega)) hg (by exact LamX.lamS_by (show LamX.lamSB (defScope s_law) _ = true from (by decide +kernel))) (by rfl) (by exact fun _ _ _ _ _ => rfl) (by exact fun A outer s H E fl cl hr hg => have hu := hr.units; (de_call (g_need_names M) rfl (hr.mono (by omega)) hg (by rfl) M.g_need_names M.k_need_names M.b_need_names rfl (da_cons (dvar 6) da_nil)))).dv dav_nil)).dv (de_bi (ca_rp rfl hg hu) (by rfl) M.n_repr (by decide +kernel) (dav_cons (de_if (dt_val (dvar 8)) (df_lst (da_cons (dvar 6) da_nil)).de (de_tup (da_cons dstr (da_cons (dvar 7) da_nil)))).dv dav_nil)).dv (nomark _)) (dss_one (ds_ret dbool)) dss_nil))))))
  (dss_cons (ds_asg (de_tup (da_cons (de_ix (ixd rfl) (dvar 4).dv (de_call (g__law_next M) rfl (hr.mono (by omega)) hg (by rfl) M.g__law_next M.k__law_next M.b__law_next rfl (da_cons (dvar 1) (da_cons (de_bi (ca_len rfl) (by rfl) M.n_len (by decide +kernel) (dav_cons (dvar 4).dv dav_nil)) da_nil))).dv) (da_cons (de_call (g__law_some_kinds M) rfl (hr.mono (by omega)) hg (by rfl) M.g__law_some_kinds M.k__law_some_kinds M.b__law_some_kinds rfl (da_cons (dvar 1) (da_cons (dvar 3) (da_cons dint da_nil)))) da_nil))) (dg_tup rfl rfl (dgs_cons (dg_name (n := 9) sc_law.nd rfl (Or.inr rfl)) (dgs_cons (dg_name (n := 10) sc_law.nd rfl (Or.inl rfl)) dgs_nil))))
  (dss_cons (ds_for (passes_of rfl) rfl (di_any rfl (df_lst (da_cons (dvar 9) (da_cons (de_rev rfl (dvar 9).dv) (da_cons (df_ty (ca_list rfl) (by rfl) M.n_list (by decide +kernel) (dav_cons (dvar 9).dv dav_nil)).de (da_cons (de_bin (od_add rfl) (dvar 9).dv (de_tup (da_cons dstr da_nil)).dv) (da_cons (de_bin (od_mul rfl) (dvar 9).dv dint.dv) (da_cons (de_call (g__law_bent M 6) rfl (hr.mono (by omega)) hg (by rfl) M.g__law_bent M.k__law_bent M.b__law_bent rfl (da_cons (dvar 1) (da_cons (dvar 9) da_nil))) (da_cons (de_call (g__law_odd M) rfl (hr.mono (by omega)) hg (by rfl) M.g__law_odd M.k__law_odd M.b__law_odd rfl (da_cons (dvar 1) da_nil)) (da_cons (dvar 3) (da_cons (de_tup da_nil) da_nil)))))))))).de) (dg_name (n := 6) sc_law.nd rfl (Or.inr rfl)) (dss_one (ds_if (dt_cmp (od_ne0 rfl hu) (de_bi (ca_rp rfl hg hu) (by rfl) M.n_repr (by decide +kernel) (dav_cons (de_call (g_is_paper M) rfl (hr.mono (by omega)) hg (by rfl) M.g_is_paper M.k_is_paper M.b_is_paper rfl (da_cons (dvar 3) (da_cons (dvar 6) da_nil))).dv dav_nil)).dv (de_bi (ca_rp rfl hg hu) (by rfl) M.n_repr (by decide +kernel) (dav_cons (de_call (g__law_is_paper M) rfl (hr.mono (by omega)) hg (by rfl) M.g__law_is_paper M.k__law_is_paper M.b__law_is_paper rfl (da_cons (dvar 3) (da_cons (dvar 6) da_nil))).dv dav_nil)).dv (nomark _)) (dss_one (ds_ret dbool)) dss_nil)))
  (dss_cons (ds_set (n := 5) sc_law.nd rfl (Or.inl rfl) (df_lst (da_cons (dvar 10) (da_cons (de_rev rfl (dvar 10).dv) (da_cons (de_bin (od_add rfl) (dvar 10).dv (de_sl (sld rfl) (dvar 10).dv do_none (do_some dint)).dv) (da_cons (df_ty (ca_list rfl) (by rfl) M.n_list (by decide +kernel) (dav_cons (dvar 10).dv dav_nil)).de (da_cons (de_tup da_nil) (da_cons (de_bin (od_add rfl) (dvar 10).dv (de_tup (da_cons (de_tup (da_cons dstr da_nil)) da_nil)).dv) (da_cons (de_call (g__law_bent M 6) rfl (hr.mono (by omega)) hg (by rfl) M.g__law_bent M.k__law_bent M.b__law_bent rfl (da_cons (dvar 1) (da_cons (dvar 10) da_nil))) (da_cons (de_call (g__law_odd M) rfl (hr.mono (by omega)) hg (by rfl) M.g__law_odd M.k__law_odd M.b__law_odd rfl (da_cons (dvar 1) da_nil)) da_nil))))))))).de)
  (dss_cons (ds_for (passes_of rfl) rfl (di_any rfl (dvar 5)) (dg_name (n := 6) sc_law.nd rfl (Or.inr rfl)) (dss_cons (ds_set (n := 8) sc_law.nd rfl (Or.inl rfl) (de_and (de_bi (ca_isi M.tab rfl) (by rfl) M.n_isinstance (by decide +kernel) (dav_cons (dvar 6).dv (dav_cons (de_type (t := "tuple") (by rfl) M.n_tuple (by decide +kernel)).dv dav_nil))) (de_and (de_cmp (od_neV rfl hu) (dvar 6).dv (de_tup da_nil).dv (nomark _)) (de_one (de_cmp (od_eqV rfl hu) (df_lc (own := [("x", 12)]) rfl sc_law.nd (di_any rfl (dvar 6)) (show BlkOk N_law (defScope s_law) _ [("x", 12)] from ⟨rfl, by decide +kernel, by decide +kernel, by decide +kernel, by decide +kernel⟩) (fun s H C cl fp => (pg_name (i := 12) sc_law.nd rfl (by first | exact .inl rfl | exact .inr rfl))) (gk_name (by decide)) (fun s H C cl fp => (pts_of (dt_not (dt_val (de_call (g__law_is_paper M) rfl (hr.mono (by omega)) hg (by rfl) M.g__law_is_paper M.k__law_is_paper M.b__law_is_paper rfl (da_cons (dvar 3) (da_cons (dvar 12) da_nil))))))) tk_one (fun s H C cl fp => (dvar 12))).de.dv (df_lst da_nil).de.dv (nomark _))))))
  (dss_cons (ds_set (n := 8) sc_law.nd rfl (Or.inl rfl) (de_and (dvar 8) (de_one (de_call (g__law_are_rising M) rfl (hr.mono (by omega)) hg (by rfl) M.g__law_are_rising M.k__law_are_rising M.b__law_are_rising rfl (da_cons (dvar 6) da_nil)))))
  (dss_one (ds_if (dt_cmp (od_ne0 rfl hu) (de_bi (ca_rp rfl hg hu) (by rfl) M.n_repr (by decide +kernel) (dav_cons (de_lamcall (k := 4) (i := (iCall (m_need_kinds) [(iVar 3), (iVar 6)])) (g__law_told M (4 + 1)) M.F__law_told sc__law_told rfl (by rfl) M.g__law_told M.k__law_told M.b__law_told rfl (.inl rfl) (by exact B.t_law) (by rfl) (by exact M.T_law) (by exact M.U_law) (hr.mono (by omega)) hg (by exact LamX.lamS_by (show LamX.lamSB (defScope s_law) _ = true from (by decide +kernel))) (by rfl) (by exact fun _ _ _ _ _ => rfl) (by exact fun A outer s H E fl cl hr hg => have hu := hr.units; (de_call (g_need_kinds M) rfl (hr.mono (by omega)) hg (by rfl) M.g_need_kinds M.k_need_kinds M.b_need_kinds rfl (da_cons (dvar 3) (da_cons (dvar 6) da_nil))))).dv dav_nil)).dv (de_bi (ca_rp rfl hg hu) (by rfl) M.n_repr (by decide +kernel) (dav_cons (de_if (dt_val (dvar 8)) (df_lst (da_cons (dvar 6) da_nil)).de (de_tup (da_cons dstr (da_cons (de_bi (ca_rp rfl hg hu) (by rfl) M.n_repr (by decide +kernel) (dav_cons (dvar 6).dv dav_nil)) da_nil)))).dv dav_nil)).dv (nomark _)) (dss_one (ds_ret dbool)) dss_nil)))))
  (dss_cons (ds_if (dt_cmp (od_ne0 rfl hu) (de_bi (ca_rp rfl hg hu) (by rfl) M.n_repr (by decide +kernel) (dav_cons (df_lc (own := [("name", 11)]) rfl sc_law.nd (di_any rfl (dvar 3)) (show BlkOk N_law (defScope s_law) _ [("name", 11)] from ⟨rfl, by decide +kernel, by decide +kernel, by decide +kernel, by decide +kernel⟩) (fun s H C cl fp => (pg_name (i := 11) sc_law.nd rfl (by first | exact .inl rfl | exact .inr rfl))) (gk_name (by decide)) (fun s H C cl fp => pts_nil) tk_yes (fun s H C cl fp => (de_call (g_raised M) rfl (hr.mono (by omega)) hg (by rfl) M.g_raised M.k_raised M.b_raised rfl (da_cons (dvar 9) (da_cons (dvar 11) da_nil))))).de.dv dav_nil)).dv (de_bi (ca_rp rfl hg hu) (by rfl) M.n_repr (by decide +kernel) (dav_cons (df_lc (own := [("name", 11)]) rfl sc_law.nd (di_any rfl (dvar 3)) (show BlkOk N_law (defScope s_law) _ [("name", 11)] from ⟨rfl, by decide +kernel, by decide +kernel, by decide +kernel, by decide +kernel⟩) (fun s H C cl fp => (pg_name (i := 11) sc_law.nd rfl (by first | exact .inl rfl | exact .inr rfl))) (gk_name (by decide)) (fun s H C cl fp => pts_nil) tk_yes (fun s H C cl fp => (de_call (g__law_move M) rfl (hr.mono (by omega)) hg (by rfl) M.g__law_move M.k__law_move M.b__law_move rfl (da_cons (dvar 9) (da_cons (dvar 11) da_nil))))).de.dv dav_nil)).dv (nomark _)) (dss_one (ds_ret dbool)) dss_nil)
  (dss_one (ds_if (dt_cmp (od_ne0 rfl hu) (de_lamcall (k := 4) (i := (iCall (m_need_kinds) [(iRev (iVar 3)), (iLit (.int 5))])) (g__law_told M (4 + 1)) M.F__law_told sc__law_told rfl (by rfl) M.g__law_told M.k__law_told M.b__law_told rfl (.inl rfl) (by exact B.t_law) (by rfl) (by exact M.T_law) (by exact M.U_law) (hr.mono (by omega)) hg (by exact LamX.lamS_by (show LamX.lamSB (defScope s_law) _ = true from (by decide +kernel))) (by rfl) (by exact fun _ _ _ _ _ => rfl) (by exact fun A outer s H E fl cl hr hg => have hu := hr.units; (de_call (g_need_kinds M) rfl (hr.mono (by omega)) hg (by rfl) M.g_need_kinds M.k_need_kinds M.b_need_kinds rfl (da_cons (de_rev rfl (dvar 3).dv) (da_cons dint da_nil))))).dv (de_tup (da_cons dstr (da_cons (de_bi (ca_rp rfl hg hu) (by rfl) M.n_repr (by decide +kernel) (dav_cons (de_rev rfl (dvar 3).dv).dv dav_nil)) da_nil))).dv (nomark _)) (dss_one (ds_ret dbool)) dss_nil))))))))))))))
  (dss_one (ds_ret dbool))))
def m_law : List D → M D := runFn 13 b_law
theorem g_law (M : Md L mg f fd fI co tb) (B : Tbs mg base co tb) : FG L P w mg base 11 (f 22) (fd 22) ["script"] m_law := fg_ofC (N := N_law) M.F_law sc_law M.cd_law fun A outer s H E hr hg => d_law M B hr hg
end Lw
namespace DL
open PySem PySem.Spec L2
theorem plL_str : ∀ zs : List Str, D.plL (zs.map D.str) = true
  | [] => rfl
  | z :: zs => by
    show (D.pl (.str z) && D.plL (zs.map D.str)) = true
    rw [plL_str zs]; rfl
theorem fNe_nil (zs : List Str) : fNeD (.lst (zs.map D.str)) (.lst []) = some (.bl (!zs.isEmpty)) := by
  have e : okEq (.lst (zs.map D.str)) (.lst []) = true := by
    unfold okEq
    rw [Bool.and_eq_true, Bool.and_eq_true]
    refine ⟨⟨plL_str zs, rfl⟩, decide_eq_true ?_⟩
    have : D.dep (.lst []) ≤ 60 := by decide
    omega
  show (if okEq (.lst (zs.map D.str)) (.lst []) = true then some (D.bl (!dEq (.lst (zs.map D.str)) (.lst []))) else none) = _
  rw [if_pos e]
  cases zs <;> rfl
theorem fAdd_lst (xs ys : List D) (h : xs.length + ys.length ≤ sizeLine) : fAdd (.lst xs) (.lst ys) = some (.lst (xs ++ ys)) := by
  have e : fAddL (.lst xs) (.lst ys) = some (.lst (xs ++ ys)) := if_pos h
  show (match fAddL (.lst xs) (.lst ys) with | some d => some d | none => _) = _
  rw [e]
theorem fAdd_tup (xs ys : List D) (h : xs.length + ys.length ≤ sizeLine) : fAdd (.tup xs) (.tup ys) = some (.tup (xs ++ ys)) := by
  have e : fAddT (.tup xs) (.tup ys) = some (.tup (xs ++ ys)) := if_pos h
  exact e
theorem cutD_take (ds : List D) (k : Nat) : cutD ds none (some (k : Int)) = ds.take k := by
  unfold cutD
  rw [HT.sIx_nat, HT.sIx_none, Nat.sub_zero, List.drop_zero]
  by_cases h : k ≤ ds.length
  · rw [Nat.min_eq_left h]
  · rw [Nat.min_eq_right (by omega), List.take_of_length_le (by omega), List.take_of_length_le (by omega)]
theorem cutD_drop (ds : List D) (k : Nat) : cutD ds (some (k : Int)) none = ds.drop k := by
  unfold cutD
  rw [HT.sIx_nat, HT.sIx_none]
  by_cases h : k ≤ ds.length
  · rw [Nat.min_eq_left h]
    exact List.take_of_length_le (by simp)
  · rw [Nat.min_eq_right (by omega), List.drop_of_length_le (Nat.le_refl _), List.drop_of_length_le (by omega), List.take_nil]
theorem fSl_ltake (ds : List D) (k : Nat) : fSl (.lst ds) none (some (k : Int)) = some (.lst (ds.take k)) := by
  show some (D.lst (cutD ds none (some (k : Int)))) = _
  rw [cutD_take]
theorem fSl_ldrop (ds : List D) (k : Nat) : fSl (.lst ds) (some (k : Int)) none = some (.lst (ds.drop k)) := by
  show some (D.lst (cutD ds (some (k : Int)) none)) = _
  rw [cutD_drop]
theorem take_perm {α : Type} (l : List α) {i : Nat} (h : i < l.length) : (l[i] :: (l.take i ++ l.drop (i + 1))).Perm l := by
  have e : l = l.take i ++ l[i] :: l.drop (i + 1) := by
    rw [← List.drop_eq_getElem_cons h, List.take_append_drop]
  exact (List.perm_middle.symm).trans (List.Perm.of_eq e.symm)
theorem dEq_str (x y : Str) : dEq (.str x) (.str y) = decide (x = y) := by
  show (x == y) = _
  by_cases h : x = y <;> simp [h]
theorem fInA_str (x : Str) (zs : List Str) : fInA (.str x) (.tup (zs.map D.str)) = some (.bl (decide (x ∈ zs))) := by
  have e : okIn (.str x) (zs.map D.str) = true := by
    unfold okIn
    rw [plL_str]
    show (true && true && _) = true
    rw [Bool.true_and, Bool.true_and]
    refine decide_eq_true ?_
    have : D.dep (.str x) ≤ 60 := by show 0 ≤ 60; decide
    omega
  have e2 : dIn (.str x) (zs.map D.str) = decide (x ∈ zs) := by
    unfold dIn
    rw [List.any_map]
    induction zs with
    | nil => simp
    | cons z zs ih =>
      have ih := ih (by
        unfold okIn
        rw [plL_str]
        show (true && true && _) = true
        rw [Bool.true_and, Bool.true_and]
        refine decide_eq_true ?_
        have : D.dep (.str x) ≤ 60 := by show 0 ≤ 60; decide
        omega)
      rw [List.any_cons, ih]
      show (dEq (.str z) (.str x) || decide (x ∈ zs)) = _
      rw [dEq_str, ← Bool.decide_or]
      exact decide_eq_decide.mpr ⟨fun h => h.elim (fun h => by rw [h]; exact List.mem_cons_self) (List.mem_cons_of_mem _), fun h => (List.mem_cons.mp h).elim (fun h => .inl h.symm) .inr⟩
  have e3 : fIn false (.str x) (.tup (zs.map D.str)) = some (.bl (decide (x ∈ zs))) := by
    show (if okIn (.str x) (zs.map D.str) = true then some (D.bl (dIn (.str x) (zs.map D.str))) else none) = _
    rw [if_pos e, e2]
  show (match fIn false (.str x) (.tup (zs.map D.str)) with | some d => some d | none => _) = _
  rw [e3]
theorem strsD_str : ∀ zs : List Str, strsD (zs.map D.str) = some zs
  | [] => rfl
  | z :: zs => by
    show (strsD (zs.map D.str)).map (z :: ·) = _
    rw [strsD_str zs]; rfl
theorem met_nodup {zs : List Str} (h : zs.Nodup) : PySem.DLS.met zs = zs := by
  have go : ∀ (l q : List Str), (q ++ l).Nodup → l.foldl (fun q x => if q.any (· == x) then q else q ++ [x]) q = q ++ l := by
    intro l
    induction l with
    | nil => intro q _; simp
    | cons x l ih =>
      intro q hn
      have nx : x ∉ q := fun hx => by
        have := (List.nodup_append.mp hn).2.2 x hx x List.mem_cons_self
        exact this rfl
      have e : (q.any (· == x)) = false := by
        rw [List.any_eq_false]
        intro y hy
        simp only [beq_iff_eq]
        exact fun e => nx (e ▸ hy)
      rw [List.foldl_cons, if_neg (by rw [e]; decide), ih (q ++ [x]) (by rw [List.append_assoc]; exact hn), List.append_assoc]
      rfl
  unfold PySem.DLS.met
  exact (go zs [] (by simpa using h)).trans (by simp)
theorem fLenT_str {zs : List Str} (h : zs.Nodup) (hl : zs.length ≤ 1000) : fLenT (.tup (zs.map D.str)) = some (.int zs.length) := by
  show (strsD (zs.map D.str)).bind _ = _
  rw [strsD_str]
  show (if zs.length ≤ 1000 then some (D.int (PySem.DLS.met zs).length) else none) = _
  rw [if_pos hl, met_nodup h]
theorem ins1_map {α β : Type} {f : α → β} {le : β → β → Bool} (x : α) : ∀ l : List α, ins1 le (f x) (l.map f) = (ins1 (fun a b => le (f a) (f b)) x l).map f
  | [] => rfl
  | y :: ys => by
    show (if le (f x) (f y) = true then f x :: f y :: ys.map f else f y :: ins1 le (f x) (ys.map f)) = (if le (f x) (f y) = true then x :: y :: ys else y :: ins1 (fun a b => le (f a) (f b)) x ys).map f
    rw [ins1_map x ys]
    by_cases h : le (f x) (f y) = true
    · rw [if_pos h, if_pos h]; rfl
    · rw [if_neg h, if_neg h]; rfl
theorem isort_map {α β : Type} {f : α → β} {le : β → β → Bool} : ∀ l : List α, isort le (l.map f) = (isort (fun a b => le (f a) (f b)) l).map f
  | [] => rfl
  | x :: xs => by
    show ins1 le (f x) (isort le (xs.map f)) = _
    rw [isort_map xs, ins1_map]
    rfl
theorem ins1_perm {α : Type} {le : α → α → Bool} (x : α) : ∀ l : List α, (ins1 le x l).Perm (x :: l)
  | [] => .refl _
  | y :: ys => by
    unfold ins1
    split
    · exact .refl _
    · exact ((ins1_perm x ys).cons y).trans (.swap x y ys)
theorem isort_perm {α : Type} {le : α → α → Bool} : ∀ l : List α, (isort le l).Perm l
  | [] => .refl _
  | x :: xs => (ins1_perm x _).trans ((isort_perm xs).cons x)
theorem sLt_total {x y : Str} (h : sLt y x = false) (n : x ≠ y) : sLt x y = true := by
  have h1 : ¬ y.cps.toList < x.cps.toList := of_decide_eq_false h
  have n1 : x.cps.toList ≠ y.cps.toList := fun e => n (PySem.W.str_of_cps e)
  refine decide_eq_true ?_
  rcases List.le_iff_lt_or_eq.mp (List.not_lt.mp h1) with h2 | h2
  · exact h2
  · exact absurd h2 n1
/-- texts in order -/
def ssort (zs : List Str) : List Str := isort (fun a b => dLe (.str a) (.str b)) zs
theorem sortD_str (zs : List Str) : sortD (zs.map D.str) = (ssort zs).map D.str := isort_map zs
theorem ssort_perm (zs : List Str) : (ssort zs).Perm zs := isort_perm zs
theorem ssort_asc {zs : List Str} (h : zs.Nodup) : (ssort zs).Pairwise fun x y => sLt x y = true := by
  have h1 : ((ssort zs).map D.str).Pairwise fun a b => dLe a b = true := by
    rw [← sortD_str]
    exact isort_pair dLe_total _
  rw [List.pairwise_map] at h1
  have h2 : (ssort zs).Nodup := (ssort_perm zs).nodup_iff.mpr h
  refine (h1.and h2).imp fun {x y} ⟨a, b⟩ => sLt_total ?_ b
  have e : dLe (.str x) (.str y) = !dLt (.str y) (.str x) := rfl
  rw [e, dLt_str] at a
  simpa using a
theorem okSort_str (zs : List Str) : okSort (zs.map D.str) = true := by
  unfold okSort
  have p : D.plL (zs.map D.str) = true := by
    induction zs with
    | nil => rfl
    | cons z zs ih =>
      show (D.pl (.str z) && D.plL (zs.map D.str)) = true
      rw [ih]; rfl
  have q : ∀ d ∈ zs.map D.str, ∃ z, d = .str z := fun d hd => by
    obtain ⟨z, _, rfl⟩ := List.mem_map.mp hd
    exact ⟨z, rfl⟩
  rw [p, Bool.true_and, Bool.and_eq_true, Bool.and_eq_true, Bool.or_eq_true]
  refine ⟨⟨List.all_eq_true.mpr fun x hx => List.all_eq_true.mpr fun y hy => ?_, .inr (List.all_eq_true.mpr fun x hx => ?_)⟩, List.all_eq_true.mpr fun x hx => ?_⟩
  · obtain ⟨a, rfl⟩ := q x hx
    obtain ⟨b, rfl⟩ := q y hy
    rfl
  · obtain ⟨a, rfl⟩ := q x hx
    rfl
  · obtain ⟨a, rfl⟩ := q x hx
    rfl
theorem fSorted_str (zs : List Str) : fSorted [.lst (zs.map D.str)] = some (.lst ((ssort zs).map D.str)) := by
  show (if okSort (zs.map D.str) = true then some (D.lst (sortD (zs.map D.str))) else none) = _
  rw [if_pos (okSort_str zs), sortD_str]
/-- signs that stand for themselves in a repr -/
def safeC (c : Nat) : Bool := c == 32 || (48 ≤ c && c ≤ 57) || (65 ≤ c && c ≤ 90) || (97 ≤ c && c ≤ 122)
def SafeL (l : List Nat) : Prop := ∀ c ∈ l, safeC c = true
theorem reprChar_fin : ∀ c : Fin 123, safeC c.1 = true → Builtin.Str.reprChar 39 c.1 = [c.1] := by decide +kernel
theorem safe_lt {c : Nat} (h : safeC c = true) : c < 123 ∧ c ≠ 39 := by
  unfold safeC at h
  simp only [Bool.or_eq_true, Bool.and_eq_true, beq_iff_eq, decide_eq_true_eq] at h
  omega
theorem reprChar_safe {c : Nat} (h : safeC c = true) : Builtin.Str.reprChar 39 c = [c] := reprChar_fin ⟨c, (safe_lt h).1⟩ h
theorem fold_safe : ∀ (l : List Nat) (acc : Array Nat), SafeL l → (l.foldl (fun out c => out ++ (Builtin.Str.reprChar 39 c).toArray) acc).toList = acc.toList ++ l
  | [], acc, _ => by simp
  | c :: r, acc, h => by
    rw [List.foldl_cons, fold_safe r _ fun x hx => h x (List.mem_cons_of_mem _ hx), reprChar_safe (h c List.mem_cons_self)]
    simp
theorem repr_safe {z : Str} (h : SafeL z.cps.toList) : (reprText z).cps.toList = 39 :: (z.cps.toList ++ [39]) := by
  have q : reprQuote z = 39 := by
    unfold reprQuote
    have : z.cps.contains 39 = false := by
      cases e : z.cps.contains 39 with
      | false => rfl
      | true =>
        have m : 39 ∈ z.cps.toList := by
          rw [Array.contains_iff_mem] at e
          exact Array.mem_toList_iff.mpr e
        exact absurd rfl (safe_lt (h 39 m)).2
    rw [this]
    rfl
  unfold reprText
  rw [q, Array.toList_push, ← Array.foldl_toList, fold_safe _ _ h]
  rfl
theorem Yl.ret_or {s t : IS} {Γ Γ' : DL.Env} {k l : Nat} {P : D → Prop} (h : Yl (s Γ) k fun fl => (∃ d, fl = .rt d ∧ P d) ∨ fl = .nx Γ') (h2 : Yl (t Γ') l fun fl => ∃ d, fl = .rt d ∧ P d) : Yl (DL.sSeq s t Γ) (k + l) fun fl => ∃ d, fl = .rt d ∧ P d := by
  unfold DL.sSeq
  refine Yl.bind h fun fl hf => ?_
  rcases hf with ⟨d, rfl, hd⟩ | rfl
  · exact (Yl.ret ⟨d, rfl, hd⟩).mono (Nat.zero_le _) fun _ x => x
  · exact h2
theorem Yl.if_ret {c : IT} {i : IE} {Γ : DL.Env} {k l : Nat} {P : D → Prop} (h : Yl (c Γ) k fun _ => True) (h2 : Yl (i Γ) l P) : Yl (DL.sIf c (DL.sRet i) DL.sPass Γ) (k + l) fun fl => (∃ d, fl = .rt d ∧ P d) ∨ fl = .nx Γ := by
  unfold DL.sIf
  refine Yl.bind h fun b _ => ?_
  cases b with
  | true =>
    rw [if_pos rfl]
    unfold DL.sRet
    exact (Yl.bind (l := 0) h2 fun d hd => Yl.ret (.inl ⟨d, rfl, hd⟩)).mono (Nat.le_refl _) fun _ x => x
  | false =>
    rw [if_neg (by decide)]
    exact (Yl.ret (.inr rfl)).mono (Nat.zero_le _) fun _ x => x
theorem op_ok {i j : IE} {Γ : DL.Env} {a b d : D} {f : D → D → Option D} (h : i Γ = .ret a) (h2 : j Γ = .ret b) (h3 : f a b = some d) : iOp f i j Γ = .ret d := by
  unfold iOp
  rw [h, M.ret_bind, h2, M.ret_bind, h3]
theorem fSl_ttake (ds : List D) (k : Nat) : fSl (.tup ds) none (some (k : Int)) = some (.tup (ds.take k)) := by
  show some (D.tup (cutD ds none (some (k : Int)))) = _
  rw [cutD_take]
theorem fSl_tdrop (ds : List D) (k : Nat) : fSl (.tup ds) (some (k : Int)) none = some (.tup (ds.drop k)) := by
  show some (D.tup (cutD ds (some (k : Int)) none)) = _
  rw [cutD_drop]
theorem cutD_one (ds : List D) {k : Nat} (h : k < ds.length) : cutD ds (some (k : Int)) (some ((k + 1 : Nat) : Int)) = [ds[k]] := by
  unfold cutD
  rw [HT.sIx_nat, HT.sIx_nat, Nat.min_eq_left (by omega), Nat.min_eq_left (by omega), List.drop_eq_getElem_cons h]
  have : k + 1 - k = 1 := by omega
  rw [this]
  rfl
theorem fSl_tone (ds : List D) {k : Nat} (h : k < ds.length) : fSl (.tup ds) (some (k : Int)) (some ((k + 1 : Nat) : Int)) = some (.tup [ds[k]]) := by
  show some (D.tup (cutD ds (some (k : Int)) (some ((k + 1 : Nat) : Int)))) = _
  rw [cutD_one ds h]
theorem S_self (s : Str) : S s.cps.toList = s := by
  cases s
  rfl
theorem fMul_two (l : List Nat) (h : l.length ≤ 1000) : ∃ m, fMul (.str (S l)) (.int 2) = some (.str (S m)) ∧ m.length ≤ 2 * l.length ∧ ∀ c ∈ m, c ∈ l := by
  have e : fMulS (.str (S l)) (.int 2) = some (.str (Txt.mul (S l) 2)) := by
    show (if (0 : Int) ≤ 2 ∧ (2 : Int) ≤ 1000 ∧ (S l).length ≤ 1000 then some (D.str (Txt.mul (S l) 2)) else none) = _
    rw [if_pos ⟨by decide, by decide, by rw [S_length]; exact h⟩]
  have e2 : fMul (.str (S l)) (.int 2) = some (.str (Txt.mul (S l) 2)) := by
    show (match fMulS (.str (S l)) (.int 2) with | some d => some d | none => _) = _
    rw [e]
  rw [e2]
  by_cases h0 : l.length = 0
  · obtain rfl := List.length_eq_zero_iff.mp h0
    exact ⟨[], rfl, by simp, by simp⟩
  · refine ⟨l ++ l, ?_, by rw [List.length_append]; omega, fun c hc => (List.mem_append.mp hc).elim id id⟩
    have c : ((2 : Int) == 1 || (S l).length == 0) = false := by
      rw [S_length]
      simp [h0]
    unfold Txt.mul
    rw [if_neg (by decide), c, if_neg (by decide)]
    have : (⟨(List.replicate (2 : Int).toNat (S l).cps).foldl (· ++ ·) #[]⟩ : Str) = S (l ++ l) := by
      show (⟨#[] ++ l.toArray ++ l.toArray⟩ : Str) = _
      unfold S
      simp
    rw [this]
/-- the empty tuple compared with any tuple -/
theorem fEq_empty (xs : List D) : fEq (.tup xs) (.tup []) = some (.bl xs.isEmpty) := by
  by_cases h : okEq (.tup xs) (.tup []) = true
  · have e2 : fEqD (.tup xs) (.tup []) = some (.bl (dEq (.tup xs) (.tup []))) := if_pos h
    show (match fEqD (.tup xs) (.tup []) with | some d => some d | none => _) = _
    rw [e2]
    cases xs <;> rfl
  · have e2 : fEqD (.tup xs) (.tup []) = none := if_neg h
    show (match fEqD (.tup xs) (.tup []) with | some d => some d | none => fEq0 false (.tup xs) (.tup [])) = _
    rw [e2]
    cases xs <;> rfl
/-- `if c: return i`, and what follows -/
theorem Yl.if_or {c : IT} {i : IE} {t : IS} {Γ : DL.Env} {k l m : Nat} {Q : Bool → Prop} {P : D → Prop} (h : Yl (c Γ) k Q) (h2 : Q true → Yl (i Γ) l P) (h3 : Q false → Yl (t Γ) m fun fl => ∃ d, fl = .rt d ∧ P d) :
    Yl (DL.sSeq (DL.sIf c (DL.sRet i) DL.sPass) t Γ) (k + (l + m)) fun fl => ∃ d, fl = .rt d ∧ P d := by
  unfold DL.sSeq DL.sIf
  rw [M.bind_assoc]
  refine Yl.bind h fun b hb => ?_
  cases b with
  | true =>
    rw [if_pos rfl]
    unfold DL.sRet
    rw [M.bind_assoc]
    exact (Yl.bind (l := 0) (h2 hb) fun d hd => Yl.ret ⟨d, rfl, hd⟩).mono (by omega) fun _ x => x
  | false =>
    rw [if_neg (by decide)]
    exact (h3 hb).mono (by omega) fun _ x => x
theorem Yl.op {f : D → D → Option D} {i j : IE} {Γ : DL.Env} {k l : Nat} {P Q R : D → Prop} (h : Yl (i Γ) k P) (h2 : Yl (j Γ) l Q) (h3 : ∀ a b, P a → Q b → ∃ d, f a b = some d ∧ R d) : Yl (iOp f i j Γ) (k + l) R := by
  unfold iOp
  refine Yl.bind h fun a ha => ?_
  refine (Yl.bind (l := 0) h2 fun b hb => ?_).mono (Nat.le_refl _) fun _ x => x
  obtain ⟨d, e, r⟩ := h3 a b ha hb
  rw [e]
  exact Yl.ret r
theorem Yl.eqV {i : IE} {Γ : DL.Env} {a : D} (e : i Γ = .ret a) : Yl (i Γ) 0 fun d => d = a := Yl.of_eq e rfl
/-- any thing: of so many nestings, its texts so long and of plain signs, its numbers not too great -/
def anB (w : Nat) : Nat → D → Bool
  | 0, .non | 0, .bl _ => true
  | 0, .int i => decide (i.natAbs ≤ 10 ^ 30 + w)
  | 0, .str s => decide (s.cps.toList.length ≤ w) && s.cps.toList.all safeC
  | 0, .tup xs | 0, .lst xs => xs.isEmpty
  | 0, .dct _ kvs => kvs.isEmpty
  | _ + 1, .non | _ + 1, .bl _ => true
  | _ + 1, .int i => decide (i.natAbs ≤ 10 ^ 30 + w)
  | _ + 1, .str s => decide (s.cps.toList.length ≤ w) && s.cps.toList.all safeC
  | k + 1, .tup xs | k + 1, .lst xs => decide (xs.length ≤ 8 + k) && xs.all (anB w k)
  | _ + 1, .dct _ kvs => kvs.isEmpty
  | _, _ => false
abbrev An (w k : Nat) (d : D) : Prop := anB w k d = true
theorem An.str {w k : Nat} {s : Str} : An w k (.str s) ↔ s.cps.toList.length ≤ w ∧ SafeL s.cps.toList := by
  have e : anB w k (.str s) = (decide (s.cps.toList.length ≤ w) && s.cps.toList.all safeC) := by cases k <;> rfl
  unfold An SafeL
  rw [e, Bool.and_eq_true, decide_eq_true_eq, List.all_eq_true]
theorem An.int {w k : Nat} {i : Int} : An w k (.int i) ↔ i.natAbs ≤ 10 ^ 30 + w := by
  cases k <;> simp [An, anB]
theorem An.tup {w k : Nat} {xs : List D} : An w (k + 1) (.tup xs) ↔ xs.length ≤ 8 + k ∧ ∀ x ∈ xs, An w k x := by
  simp [An, anB]
theorem An.lst {w k : Nat} {xs : List D} : An w (k + 1) (.lst xs) ↔ xs.length ≤ 8 + k ∧ ∀ x ∈ xs, An w k x := by
  simp [An, anB]
theorem An.mono : ∀ {w w' k k' : Nat} {d : D}, An w k d → w ≤ w' → k ≤ k' → An w' k' d
  | w, w', 0, k', d, h, hw, _ => by
    cases d with
    | str s => exact An.str.mpr ⟨Nat.le_trans (An.str.mp h).1 hw, (An.str.mp h).2⟩
    | int i => exact An.int.mpr (Nat.le_trans (An.int.mp h) (by omega))
    | tup xs =>
      have : xs = [] := by simpa [An, anB] using h
      subst this
      cases k' <;> simp [An, anB]
    | lst xs =>
      have : xs = [] := by simpa [An, anB] using h
      subst this
      cases k' <;> simp [An, anB]
    | non | bl _ => cases k' <;> rfl
    | dct t kvs => cases k' <;> exact h
    | _ => cases h
  | w, w', k + 1, 0, d, h, hw, hk => absurd hk (by omega)
  | w, w', k + 1, k' + 1, d, h, hw, hk => by
    cases d with
    | str s => exact An.str.mpr ⟨Nat.le_trans (An.str.mp h).1 hw, (An.str.mp h).2⟩
    | int i => exact An.int.mpr (Nat.le_trans (An.int.mp h) (by omega))
    | tup xs =>
      have h := An.tup.mp h
      exact An.tup.mpr ⟨Nat.le_trans h.1 (by omega), fun x hx => (h.2 x hx).mono hw (by omega)⟩
    | lst xs =>
      have h := An.lst.mp h
      exact An.lst.mpr ⟨Nat.le_trans h.1 (by omega), fun x hx => (h.2 x hx).mono hw (by omega)⟩
    | non | bl _ => rfl
    | dct t kvs => exact h
    | _ => cases h
end DL
namespace Lw
open PySem PySem.Spec L2 DL
def isP : D → Bool
  | .non | .bl _ | .int _ | .str _ | .tup _ | .lst _ | .dct _ _ => true
  | _ => false
def isTu : D → Bool
  | .tup _ => true
  | _ => false
def isSt : D → Bool
  | .str _ => true
  | _ => false
theorem isi_tup {x : D} (h : isP x = true) : fIsI [x, .ty "tuple"] = some (.bl (isTu x)) := by
  cases x <;> first | rfl | (simp [isP] at h)
theorem isi_str {x : D} (h : isP x = true) : fIsI [x, .ty "str"] = some (.bl (isSt x)) := by
  cases x <;> first | rfl | (simp [isP] at h)
theorem slice1 (ds : List D) : fSl (.tup ds) (some 1) none = some (.tup (ds.drop 1)) := by
  show some (D.tup (cutD ds (some 1) none)) = _
  unfold cutD
  have e1 : HT.sIx ds.length 0 (some 1) = min 1 ds.length := HT.sIx_nat ds.length 0 1
  rw [e1, show HT.sIx ds.length ds.length none = ds.length from rfl]
  congr 2
  cases ds with
  | nil => rfl
  | cons d r =>
    have : min 1 (d :: r).length = 1 := by simp
    rw [this, List.drop_succ_cons, List.drop_zero]
    exact List.take_of_length_le (by simp)
theorem tup2 {i j : IE} {Γ : DL.Env} {a b : D} (h1 : i Γ = .ret a) (h2 : j Γ = .ret b) : DL.iTup [i, j] Γ = .ret (.tup [a, b]) := by
  unfold DL.iTup evs evs evs
  rw [h1, M.ret_bind, h2]
  simp only [M.ret_bind]
  exact if_pos (by show 2 ≤ sizeLine; rw [sizeLine_eq]; decide)
theorem seq_nx {s t : IS} {Γ Γ' : DL.Env} (h : s Γ = .ret (.nx Γ')) : DL.sSeq s t Γ = t Γ' := by
  unfold DL.sSeq
  rw [h]
  rfl
theorem if_no {c : IT} {s : IS} {Γ : DL.Env} (h : c Γ = .ret false) : DL.sIf c s DL.sPass Γ = .ret (.nx Γ) := by
  unfold DL.sIf
  rw [h]
  rfl
theorem not_yes {i : IE} {Γ : DL.Env} (h : i Γ = .ret (.bl true)) : notB (asB i) Γ = .ret false := by
  unfold notB asB
  rw [h]
  rfl
theorem call1 {m : List D → M D} {i : IE} {Γ : DL.Env} {a : D} (h : i Γ = .ret a) : iCall m [i] Γ = m [a] := by
  unfold iCall
  rw [evs_one h]
  rfl
theorem call2 {m : List D → M D} {i j : IE} {Γ : DL.Env} {a b : D} (h : i Γ = .ret a) (h2 : j Γ = .ret b) : iCall m [i, j] Γ = m [a, b] := by
  unfold iCall evs
  rw [h, M.ret_bind, evs_one h2]
  rfl
theorem call3 {m : List D → M D} {i j k : IE} {Γ : DL.Env} {a b c : D} (h : i Γ = .ret a) (h2 : j Γ = .ret b) (h3 : k Γ = .ret c) : iCall m [i, j, k] Γ = m [a, b, c] := by
  unfold iCall evs evs
  rw [h, M.ret_bind, h2, M.ret_bind, evs_one h3]
  rfl
theorem An.isP {w k : Nat} {d : D} (h : An w k d) : isP d = true := by
  cases k <;> cases d <;> first | rfl | (cases h)
def WordOk (z : Str) : Prop := 1 ≤ z.cps.size ∧ z.cps.size ≤ 8 ∧ ∀ c ∈ z.cps.toList, 97 ≤ c ∧ c ≤ 122
/-- names as they should be -/
structure NamesOk (zs : List Str) : Prop where
  two : 2 ≤ zs.length
  four : zs.length ≤ 4
  word : ∀ z ∈ zs, WordOk z
  asc : zs.Pairwise fun x y => sLt x y = true
theorem asc_nodup {zs : List Str} (h : zs.Pairwise fun x y => sLt x y = true) : zs.Nodup := by
  refine h.imp fun {x y} h e => ?_
  subst e
  have : x.cps.toList < x.cps.toList := of_decide_eq_true h
  exact List.lt_irrefl _ this
end Lw
namespace Lw
open PySem PySem.Spec L2 DL
theorem Yl_next {n : Nat} (h : 0 < n) (h2 : n ≤ 1000) : Yl (m__law_next [.rnd, .int n]) 1 fun d => ∃ i : Nat, i < n ∧ d = .int i := by
  have e : m__law_next [.rnd, .int n] = .choose n fun i => .ret (D.int (i : Nat)) := by
    show (if 0 < (n : Int) ∧ (n : Int) < 2 ^ 60 then M.choose (n : Int).toNat fun i => .ret (D.int (i : Nat)) else .stuck) = _
    rw [if_pos ⟨by omega, by omega⟩]
    rfl
  rw [e]
  exact Yl.choose fun i hi => Yl.ret ⟨i, hi, rfl⟩
/-- a draw among so many, n written -/
theorem Yl_nextL {Γ : DL.Env} {n : Nat} (h : 0 < n) (h2 : n ≤ 1000) {j : IE} (hm : Γ[0]? = some (some (.fz .rnd))) (hj : j Γ = .ret (.int n)) : Yl (iCall m__law_next [iVar 0, j] Γ) 1 fun d => ∃ i : Nat, i < n ∧ d = .int i := by
  have e : iCall m__law_next [iVar 0, j] Γ = m__law_next [.rnd, .int n] := by
    unfold iCall evs evs evs iVar
    rw [hm]
    simp only [M.ret_bind]
    rw [hj]
    rfl
  rw [e]
  exact Yl_next h h2
/-- the frame of _law_names -/
abbrev envN (n : Nat) (l : List Nat) (k a f b w : Option B) : DL.Env := [some (.fz .rnd), some (.fz (.int n)), some (.fz (.str (S abc))), some (.fz (.str (S l))), k, a, f, b, w]
def lnStem : IS := DL.sFor (DL.gN 4) (iiR1 (iCall m__law_next [iVar 0, iLit (.int 8)])) (DL.sSet 3 (iOp fAdd (iVar 3) (iOp fIx (iVar 2) (iCall m__law_next [iVar 0, iLit (.int 26)]))))
theorem stem_ok (n : Nat) : Yl (lnStem (envN n [] none none none none none)) 8 fun fl => ∃ Γ', fl = .nx Γ' ∧ ∃ l k, Γ' = envN n l k none none none none ∧ Low l ∧ l.length ≤ 7 := by
  unfold lnStem
  refine (Yl.for_ (l := 1) (k := 1) (kk := 7) (fun j Γ => ∃ l k, Γ = envN n l k none none none none ∧ Low l ∧ l.length = j) (Yl.rng (by decide) ((Yl_nextL (n := 8) (by decide) (by decide) rfl rfl).mono (Nat.le_refl _) fun d ⟨i, hi, e⟩ => ⟨i, by omega, e⟩)) ⟨[], none, rfl, fun c hc => (by simp at hc), rfl⟩ ?_).mono (by decide) ?_
  · rintro j Γ hj ⟨l, k, rfl, hl, hn⟩
    have hs : l.length + 1 ≤ sizeLine := by rw [sizeLine_eq]; omega
    show Yl ((DL.sSet 3 (iOp fAdd (iVar 3) (iOp fIx (iVar 2) (iCall m__law_next [iVar 0, iLit (.int 26)])))) (envN n l (some (.fz (.int (j : Nat)))) none none none none)) 1 _
    unfold DL.sSet iOp
    refine (Yl.bind (k := 1) (l := 0) (P := fun d => ∃ m, d = .str (S m) ∧ Low m ∧ m.length = j + 1) ?_ ?_)
    · show Yl (((iCall m__law_next [iVar 0, iLit (.int 26)] (envN n l (some (.fz (.int (j : Nat)))) none none none none)).bind fun y => match fIx (.str (S abc)) y with
        | some d => .ret d
        | none => .stuck).bind fun y => match fAdd (.str (S l)) y with
        | some d => .ret d
        | none => .stuck) 1 _
      rw [M.bind_assoc]
      refine (Yl.bind (l := 0) (Yl_nextL (n := 26) (by decide) (by decide) rfl rfl) fun d hd => ?_)
      obtain ⟨i, hi, rfl⟩ := hd
      rw [fIx_S abc (i := i) (by rw [abc_len]; exact hi) (by rw [abc_len, sizeLine_eq]; decide)]
      rw [abc_at]
      simp only [M.ret_bind]
      rw [fAdd_S l [97 + i] (by simpa using hs)]
      refine Yl.ret ⟨_, rfl, fun c hc => ?_, by simp [hn]⟩
      rcases List.mem_append.mp hc with h | h
      · exact hl c h
      · rw [List.mem_singleton] at h
        omega
    · rintro d ⟨m, rfl, hm, hml⟩
      exact Yl.ret ⟨_, rfl, m, _, rfl, hm, hml⟩
  · rintro fl ⟨Γ', e, j, hj, l, k, e2, hl, hn⟩
    exact ⟨Γ', e, l, k, e2, hl, by omega⟩
theorem fLenV {Γ : DL.Env} {l : List Nat} (h : l.length ≤ sizeLine) (e : Γ[3]? = some (some (.fz (.str (S l))))) : iOp fAdd (iBi fLen [iVar 3]) (iLit (.int 1)) Γ = .ret (.int ((l.length + 1 : Nat) : Int)) := by
  unfold iOp iBi iLit evs evs iVar
  rw [e]
  simp only [M.ret_bind]
  rw [fLen_S l h]
  rfl
def bys : List D := [.int 1, .int 3, .int 5, .int 7, .int 9, .int 11]
def lnPick : IS := DL.sAsg (DL.gT [DL.gN 5, DL.gN 6, DL.gN 7]) (iTup [iCall m__law_next [iVar 0, iOp fAdd (iBi fLen [iVar 3]) (iLit (.int 1))], iCall m__law_next [iVar 0, iLit (.int 26)], iOp fIx (iLst [iLit (.int 1), iLit (.int 3), iLit (.int 5), iLit (.int 7), iLit (.int 9), iLit (.int 11)]) (iCall m__law_next [iVar 0, iLit (.int 6)])])
theorem pick_ok (n : Nat) (l : List Nat) (k : Option B) (hl : l.length ≤ 7) : Yl (lnPick (envN n l k none none none none)) 3 fun fl => ∃ Γ', fl = .nx Γ' ∧ ∃ a f y : Nat, Γ' = envN n l k (some (.fz (.int a))) (some (.fz (.int f))) (some (.fz (.int y))) none ∧ a ≤ l.length ∧ f < 26 ∧ y ∈ [1, 3, 5, 7, 9, 11] := by
  unfold lnPick DL.sAsg DL.iTup
  have h1 : Yl (iCall m__law_next [iVar 0, iOp fAdd (iBi fLen [iVar 3]) (iLit (.int 1))] (envN n l k none none none none)) 1 fun d => ∃ i : Nat, i < l.length + 1 ∧ d = .int i :=
    Yl_nextL (n := l.length + 1) (by omega) (by omega) rfl (fLenV (by rw [sizeLine_eq]; omega) rfl)
  have h2 : Yl (iCall m__law_next [iVar 0, iLit (.int 26)] (envN n l k none none none none)) 1 fun d => ∃ i : Nat, i < 26 ∧ d = .int i := Yl_nextL (n := 26) (by decide) (by decide) rfl rfl
  have h3 : Yl (iOp fIx (iLst [iLit (.int 1), iLit (.int 3), iLit (.int 5), iLit (.int 7), iLit (.int 9), iLit (.int 11)]) (iCall m__law_next [iVar 0, iLit (.int 6)]) (envN n l k none none none none)) 1 fun d => ∃ y : Nat, y ∈ [1, 3, 5, 7, 9, 11] ∧ d = .int y := by
    have e0 : iLst [iLit (.int 1), iLit (.int 3), iLit (.int 5), iLit (.int 7), iLit (.int 9), iLit (.int 11)] (envN n l k none none none none) = .ret (.lst bys) := by
      show (if 6 ≤ sizeLine then M.ret (D.lst bys) else .stuck) = _
      rw [if_pos (by rw [sizeLine_eq]; decide)]
    unfold iOp
    rw [e0, M.ret_bind]
    refine (Yl.bind (k := 1) (l := 0) (Yl_nextL (n := 6) (by decide) (by decide) rfl rfl) fun d hd => ?_)
    obtain ⟨i, hi, rfl⟩ := hd
    rw [fIx_lst bys (i := i) hi]
    refine Yl.ret ?_
    have : ∀ j : Fin 6, ∃ y : Nat, y ∈ [1, 3, 5, 7, 9, 11] ∧ bys[j.1]'j.2 = .int y := fun j => by
      match j with
      | 0 => exact ⟨1, by decide, rfl⟩
      | 1 => exact ⟨3, by decide, rfl⟩
      | 2 => exact ⟨5, by decide, rfl⟩
      | 3 => exact ⟨7, by decide, rfl⟩
      | 4 => exact ⟨9, by decide, rfl⟩
      | 5 => exact ⟨11, by decide, rfl⟩
    exact this ⟨i, hi⟩
  rw [M.bind_assoc]
  refine (Yl.bind (k := 3) (l := 0) (Yl.evs_cons h1 (Yl.evs_cons h2 (Yl.evs_cons h3 Yl.evs_nil))) fun ds hd => ?_)
  obtain ⟨d1, _, rfl, ⟨a, ha, rfl⟩, d2, _, rfl, ⟨f, hf, rfl⟩, d3, _, rfl, ⟨y, hy, rfl⟩, rfl⟩ := hd
  have e : (if [D.int (a : Nat), .int (f : Nat), .int (y : Nat)].length ≤ sizeLine then M.ret (D.tup [.int (a : Nat), .int (f : Nat), .int (y : Nat)]) else .stuck) = .ret (.tup [.int (a : Nat), .int (f : Nat), .int (y : Nat)]) := if_pos (by show 3 ≤ sizeLine; rw [sizeLine_eq]; decide)
  rw [e]
  exact Yl.ret ⟨_, rfl, a, f, y, rfl, by omega, hf, hy⟩
def lnWord : IS := DL.sSet 8 (iSl fSl (iOp fAdd (iVar 3) (iOp fMul (iOp fIx (iVar 2) (iVar 6)) (iLit (.int 8)))) oNone (oSome (iLit (.int 8))))
def wordL (l : List Nat) (f : Nat) : List Nat := (l ++ List.replicate 8 (97 + f)).take 8
theorem word_ok (n : Nat) (l : List Nat) (k : Option B) (hl : l.length ≤ 7) (a f y : Nat) (hf : f < 26) : lnWord (envN n l k (some (.fz (.int a))) (some (.fz (.int f))) (some (.fz (.int y))) none) = .ret (.nx (envN n l k (some (.fz (.int a))) (some (.fz (.int f))) (some (.fz (.int y))) (some (.fz (.str (S (wordL l f))))))) := by
  unfold lnWord DL.sSet iSl iOp iVar iLit oNone oSome
  simp only [List.getElem?_cons_succ, List.getElem?_cons_zero, M.ret_bind]
  rw [fIx_S abc (i := f) (by rw [abc_len]; exact hf) (by rw [abc_len, sizeLine_eq]; decide), abc_at]
  simp only [M.ret_bind]
  rw [fMul_one]
  simp only [M.ret_bind]
  rw [fAdd_S l (List.replicate 8 (97 + f)) (by rw [List.length_replicate, sizeLine_eq]; omega)]
  simp only [M.ret_bind]
  rw [show (8 : Int) = ((8 : Nat) : Int) from rfl, fSl_take _ _ (by rw [List.length_append, List.length_replicate, sizeLine_eq]; omega)]
  rfl
theorem wordL_len (l : List Nat) (f : Nat) : (wordL l f).length = 8 := by
  unfold wordL
  rw [List.length_take, List.length_append, List.length_replicate]
  omega
theorem wordL_low {l : List Nat} {f : Nat} (h : Low l) (hf : f < 26) : Low (wordL l f) := fun c hc => by
  unfold wordL at hc
  rcases List.mem_append.mp (List.mem_of_mem_take hc) with h1 | h1
  · exact h c h1
  · have := List.eq_of_mem_replicate h1
    omega
abbrev envW (n : Nat) (l : List Nat) (k : Option B) (a f y : Nat) : DL.Env := envN n l k (some (.fz (.int a))) (some (.fz (.int f))) (some (.fz (.int y))) (some (.fz (.str (S (wordL l f)))))
theorem sz8 {l : List Nat} (h : l.length ≤ 1000) : l.length ≤ sizeLine := by rw [sizeLine_eq]; omega
def lnEl1 : IE := iIf (asB (iOp fGt (iVar 7) (iLit (.int 7)))) (iSl fSl (iVar 8) (oSome (iVar 4)) oNone) (iSl fSl (iVar 8) oNone (oSome (iOp fSubI (iOp fAdd (iVar 4) (iLit (.int 9))) (iVar 1))))
theorem el1_big (n : Nat) (l : List Nat) (a f y k : Nat) (hy : 7 < y) : lnEl1 (envW n l (some (.fz (.int k))) a f y) = .ret (.str (S ((wordL l f).drop k))) := by
  unfold lnEl1 DL.iIf
  have e : asB (iOp fGt (iVar 7) (iLit (.int 7))) (envW n l (some (.fz (.int k))) a f y) = .ret (decide (7 < y)) := by
    show (match fGt (D.int y) (.int 7) with | some d => M.ret d | none => .stuck).bind _ = _
    rw [fGt_int]
    show M.ret (decide ((7 : Int) < (y : Int))) = _
    congr 1
    exact decide_eq_decide.mpr (by omega)
  rw [e, M.ret_bind, if_pos (decide_eq_true hy)]
  unfold iSl oSome oNone iVar
  simp only [List.getElem?_cons_succ, List.getElem?_cons_zero, M.ret_bind]
  rw [fSl_drop _ _ (sz8 (by rw [wordL_len]; decide))]
theorem el1_cut (n : Nat) (l : List Nat) (a f y k : Nat) (hy : y ≤ 7) (hn : n ≤ 9) : lnEl1 (envW n l (some (.fz (.int k))) a f y) = .ret (.str (S ((wordL l f).take (k + 9 - n)))) := by
  unfold lnEl1 DL.iIf
  have e : asB (iOp fGt (iVar 7) (iLit (.int 7))) (envW n l (some (.fz (.int k))) a f y) = .ret (decide (7 < y)) := by
    show (match fGt (D.int y) (.int 7) with | some d => M.ret d | none => .stuck).bind _ = _
    rw [fGt_int]
    show M.ret (decide ((7 : Int) < (y : Int))) = _
    congr 1
    exact decide_eq_decide.mpr (by omega)
  rw [e, M.ret_bind, if_neg (by simpa using hy)]
  unfold iSl oSome oNone iOp iVar iLit
  simp only [List.getElem?_cons_succ, List.getElem?_cons_zero, M.ret_bind, fAdd_int, fSubI_int]
  rw [show ((k : Int) + 9 - (n : Int)) = ((k + 9 - n : Nat) : Int) by omega, fSl_take _ _ (sz8 (by rw [wordL_len]; decide))]
def lnEl2 : IE := iOp fAdd (iOp fAdd (iSl fSl (iVar 3) oNone (oSome (iVar 5))) (iOp fIx (iVar 2) (iOp fModI (iBi fInt [iOp fAdd (iVar 6) (iOp fMul (iVar 7) (iVar 4))]) (iLit (.int 26))))) (iSl fSl (iVar 3) (oSome (iVar 5)) oNone)
def midL (l : List Nat) (a f y k : Nat) : List Nat := l.take a ++ [97 + (f + y * k) % 26] ++ l.drop a
theorem fMul_small (y k : Nat) (hy : y ≤ 11) (hk : k < 21) : fMul (.int y) (.int k) = some (.int ((y * k : Nat) : Int)) := by
  have c : ∀ (i : Fin 12) (j : Fin 21), decide (((i.1 : Nat) : Int).natAbs.log2 + ((j.1 : Nat) : Int).natAbs.log2 < 1000000) = true := by decide +kernel
  have e : fMulI (.int y) (.int k) = some (.int ((y : Int) * (k : Int))) := by
    show (if (decide ((y : Int).natAbs.log2 + (k : Int).natAbs.log2 < 1000000)) = true then some (D.int ((y : Int) * (k : Int))) else none) = _
    rw [if_pos (c ⟨y, by omega⟩ ⟨k, hk⟩)]
  show (match fMulI (.int y) (.int k) with | some d => some d | none => _) = _
  rw [e, Int.natCast_mul]
theorem fModI_26 (x : Nat) : fModI (.int x) (.int 26) = some (.int ((x % 26 : Nat) : Int)) := by
  rfl
theorem el2_ok (n : Nat) (l : List Nat) (a f y k : Nat) (hl : l.length ≤ 7) (hy : y ≤ 11) (hk : k < 21) : lnEl2 (envW n l (some (.fz (.int k))) a f y) = .ret (.str (S (midL l a f y k))) := by
  unfold lnEl2 iOp iSl oSome oNone iBi iLit evs evs iVar
  simp only [List.getElem?_cons_succ, List.getElem?_cons_zero, M.ret_bind]
  rw [fMul_small y k hy hk]
  simp only [M.ret_bind, fAdd_int]
  rw [show fInt [D.int ((f : Int) + ((y * k : Nat) : Int))] = some (.int ((f + y * k : Nat) : Int)) by rw [Int.natCast_add]; rfl]
  simp only [M.ret_bind]
  rw [fModI_26]
  simp only [M.ret_bind]
  rw [fIx_S abc (i := (f + y * k) % 26) (by rw [abc_len]; omega) (by rw [abc_len, sizeLine_eq]; decide), abc_at, fSl_take l a (sz8 (by omega)), fSl_drop l a (sz8 (by omega))]
  simp only [M.ret_bind]
  rw [fAdd_S _ _ (by rw [sizeLine_eq, List.length_take, List.length_singleton]; omega)]
  simp only [M.ret_bind]
  rw [fAdd_S _ _ (by rw [sizeLine_eq, List.length_append, List.length_take, List.length_singleton, List.length_drop]; omega)]
  rfl
end Lw
namespace Lw
open PySem PySem.Spec L2 DL
theorem word_of {l : List Nat} (h1 : 1 ≤ l.length) (h2 : l.length ≤ 8) (h3 : Low l) : WordOk (S l) := ⟨by show 1 ≤ l.toArray.size; simpa using h1, by show l.toArray.size ≤ 8; simpa using h2, h3⟩
theorem low_drop {l : List Nat} (h : Low l) (k : Nat) : Low (l.drop k) := fun c hc => h c (List.mem_of_mem_drop hc)
theorem low_take {l : List Nat} (h : Low l) (k : Nat) : Low (l.take k) := fun c hc => h c (List.mem_of_mem_take hc)
/-- what names are drawn -/
def NamesD (n : Nat) (d : D) : Prop := ∃ zs : List Str, d = .lst (zs.map D.str) ∧ zs.length = n ∧ (∀ z ∈ zs, WordOk z) ∧ zs.Nodup
theorem namesD_of {n : Nat} {g : Nat → List Nat} (h1 : ∀ k, k < n → 1 ≤ (g k).length ∧ (g k).length ≤ 8 ∧ Low (g k)) (h2 : ∀ i j, i < j → j < n → g i ≠ g j) : NamesD n (.lst ((List.range n).map fun k => .str (S (g k)))) := by
  refine ⟨(List.range n).map fun k => S (g k), by rw [List.map_map]; rfl, by simp, fun z hz => ?_, nodup_range fun i j hi hj e => h2 i j hi hj (S_inj e)⟩
  obtain ⟨k, hk, rfl⟩ := List.mem_map.mp hz
  obtain ⟨a, b, c⟩ := h1 k (List.mem_range.mp hk)
  exact word_of a b c
theorem mid_low {l : List Nat} {a f y k : Nat} (h : Low l) : Low (midL l a f y k) := fun c hc => by
  unfold midL at hc
  rcases List.mem_append.mp hc with h1 | h1
  · rcases List.mem_append.mp h1 with h1 | h1
    · exact h c (List.mem_of_mem_take h1)
    · rw [List.mem_singleton] at h1
      omega
  · exact h c (List.mem_of_mem_drop h1)
theorem mid_len {l : List Nat} {a f y k : Nat} (ha : a ≤ l.length) : (midL l a f y k).length = l.length + 1 := by
  unfold midL
  rw [List.length_append, List.length_append, List.length_take, List.length_singleton, List.length_drop]
  omega
theorem mid_inj {l : List Nat} {a f y i j : Nat} (h : midL l a f y i = midL l a f y j) : (f + y * i) % 26 = (f + y * j) % 26 := by
  unfold midL at h
  have h1 := List.append_cancel_right h
  have h2 := List.append_cancel_left h1
  have h3 : 97 + (f + y * i) % 26 = 97 + (f + y * j) % 26 := by simpa using h2
  omega
def lnRet1 : IS := DL.sIf (andB (asB (iOp fGt (iVar 7) (iLit (.int 5)))) (asB (iOp fLt (iVar 1) (iLit (.int 9))))) (DL.sRet (iLc (gN 4) (iiR1 (iVar 1)) cYes lnEl1 [4])) DL.sPass
def lnRet2 : IS := DL.sRet (iLc (gN 4) (iiR1 (iVar 1)) cYes lnEl2 [4])
theorem test_ok (n : Nat) (l : List Nat) (k : Option B) (a f y : Nat) (hn : n ≤ 5) : andB (asB (iOp fGt (iVar 7) (iLit (.int 5)))) (asB (iOp fLt (iVar 1) (iLit (.int 9)))) (envW n l k a f y) = .ret (decide (5 < y)) := by
  have e1 : asB (iOp fGt (iVar 7) (iLit (.int 5))) (envW n l k a f y) = .ret (decide (5 < y)) := by
    show (match fGt (D.int y) (.int 5) with | some d => M.ret d | none => .stuck).bind _ = _
    rw [fGt_int]
    show M.ret (decide ((5 : Int) < (y : Int))) = _
    congr 1
    exact decide_eq_decide.mpr (by omega)
  have e2 : asB (iOp fLt (iVar 1) (iLit (.int 9))) (envW n l k a f y) = .ret true := by
    show (match fLt (D.int n) (.int 9) with | some d => M.ret d | none => .stuck).bind _ = _
    rw [fLt_int]
    show M.ret (decide ((n : Int) < 9)) = _
    congr 1
    exact decide_eq_true (by omega)
  unfold andB
  rw [e1, M.ret_bind, e2]
  cases decide (5 < y) <;> rfl
theorem tail_ok {n : Nat} (h2 : 2 ≤ n) (hn : n ≤ 5) {l : List Nat} (hl : l.length ≤ 7) (low : Low l) (k : Option B) {a f y : Nat} (ha : a ≤ l.length) (hf : f < 26) (hy : y ∈ [1, 3, 5, 7, 9, 11]) :
    Yl (DL.sSeq lnRet1 lnRet2 (envW n l k a f y)) 0 fun fl => ∃ d, fl = .rt d ∧ NamesD n d := by
  have hw := wordL_len l f
  have lw := wordL_low low hf
  by_cases h5 : 5 < y
  · have e : ∀ g : Nat → List Nat, (∀ j, j < n → lnEl1 (envW n l (some (.fz (.int (j : Nat)))) a f y) = .ret (.str (S (g j)))) → DL.sSeq lnRet1 lnRet2 (envW n l k a f y) = .ret (.rt (.lst ((List.range n).map fun j => .str (S (g j))))) := fun g hg => by
      unfold DL.sSeq lnRet1 DL.sIf
      rw [test_ok n l k a f y hn, M.ret_bind, if_pos (decide_eq_true h5)]
      unfold DL.sRet
      rw [lc_rng (n := n) (e := fun j => .str (S (g j))) (by omega) rfl fun j hj => ⟨_, rfl, hg j hj⟩]
      rfl
    by_cases h7 : 7 < y
    · rw [e (fun j => (wordL l f).drop j) fun j hj => el1_big n l a f y j h7]
      refine Yl.ret ⟨_, rfl, namesD_of (g := fun j => (wordL l f).drop j) (fun j hj => ⟨?_, ?_, low_drop lw j⟩) fun i j hi hj e => ?_⟩
      · rw [List.length_drop, hw]; omega
      · rw [List.length_drop, hw]; omega
      · have := congrArg List.length e
        rw [List.length_drop, List.length_drop, hw] at this
        omega
    · rw [e (fun j => (wordL l f).take (j + 9 - n)) fun j hj => el1_cut n l a f y j (by omega) (by omega)]
      refine Yl.ret ⟨_, rfl, namesD_of (g := fun j => (wordL l f).take (j + 9 - n)) (fun j hj => ⟨?_, ?_, low_take lw _⟩) fun i j hi hj e => ?_⟩
      · rw [List.length_take, hw]; omega
      · rw [List.length_take, hw]; omega
      · have := congrArg List.length e
        rw [List.length_take, List.length_take, hw] at this
        omega
  · have hy2 : y = 1 ∨ y = 3 ∨ y = 5 := by
      simp only [List.mem_cons, List.not_mem_nil, or_false] at hy
      omega
    have e : DL.sSeq lnRet1 lnRet2 (envW n l k a f y) = .ret (.rt (.lst ((List.range n).map fun j => .str (S (midL l a f y j))))) := by
      unfold DL.sSeq lnRet1 DL.sIf
      rw [test_ok n l k a f y hn, M.ret_bind, if_neg (by simpa using h5)]
      have e3 : lnRet2 (envW n l k a f y) = .ret (.rt (.lst ((List.range n).map fun j => .str (S (midL l a f y j))))) := by
        unfold lnRet2 DL.sRet
        rw [lc_rng (n := n) (e := fun j => .str (S (midL l a f y j))) (by omega) rfl fun j hj => ⟨_, rfl, el2_ok n l a f y j hl (by omega) (by omega)⟩]
        rfl
      unfold DL.sPass
      rw [M.ret_bind]
      exact e3
    rw [e]
    refine Yl.ret ⟨_, rfl, namesD_of (fun j hj => ⟨?_, ?_, mid_low low⟩) fun i j hi hj e => ?_⟩
    · rw [mid_len ha]; omega
    · rw [mid_len ha]; omega
    · have := mid_inj e
      have hj2 : j ≤ 4 := by omega
      rcases hy2 with rfl | rfl | rfl <;> omega
theorem law_names {n : Nat} (h2 : 2 ≤ n) (hn : n ≤ 5) : Yl (m__law_names [.rnd, .int n]) 11 (NamesD n) := by
  unfold m__law_names b__law_names
  rw [abc_eq, empty_eq]
  refine Yl.fn ?_
  have e0 : env0 9 [D.rnd, .int (n : Nat)] = [some (.fz .rnd), some (.fz (.int n)), none, none, none, none, none, none, none] := rfl
  rw [e0]
  refine (Yl.seq (k := 0) (l := 11) (I := fun Γ => Γ = envN n [] none none none none none) (Yl.of_eq (a := .nx (envN n [] none none none none none)) ?_ ⟨_, rfl, rfl⟩) ?_).mono (by decide) fun _ x => x
  · unfold DL.sAsg DL.iTup
    show (if 2 ≤ sizeLine then M.ret (D.tup [.str (S abc), .str (S [])]) else .stuck).bind _ = _
    rw [if_pos (by rw [sizeLine_eq]; decide)]
    rfl
  · rintro Γ rfl
    refine Yl.seq (k := 8) (l := 3) (stem_ok n) ?_
    rintro Γ ⟨l, k, rfl, low, hl⟩
    refine Yl.seq (k := 3) (l := 0) (pick_ok n l k hl) ?_
    rintro Γ ⟨a, f, y, rfl, ha, hf, hy⟩
    refine Yl.seq (k := 0) (l := 0) (I := fun Γ => Γ = envW n l k a f y) (Yl.of_eq (word_ok n l k hl a f y hf) ⟨_, rfl, rfl⟩) ?_
    rintro Γ rfl
    exact tail_ok h2 hn hl low k ha hf hy
end Lw
namespace Lw
open PySem PySem.Spec L2 DL
/-- valid names, as a tuple -/
def NamesT (d : D) : Prop := ∃ zs : List Str, d = .tup (zs.map D.str) ∧ NamesOk zs
theorem law_many : Yl (m__law_many [.rnd, .int 4]) 12 NamesT := by
  unfold m__law_many b__law_many
  refine Yl.fn ?_
  have e0 : env0 2 [D.rnd, .int 4] = [some (.fz .rnd), some (.fz (.int 4))] := rfl
  rw [e0]
  unfold DL.sRet iBi
  refine (Yl.bind (k := 12) (l := 0) (P := NamesT) ?_ fun d hd => Yl.ret ⟨d, rfl, hd⟩)
  rw [evs_bind, M.bind_assoc, M.bind_assoc, evs_bind, M.bind_assoc]
  refine (Yl.bind (k := 12) (l := 0) (P := fun d => ∃ n, 2 ≤ n ∧ n ≤ 4 ∧ NamesD n d) ?_ fun d hd => ?_)
  · unfold iCall
    refine (Yl.bind (k := 1) (l := 11) (Yl.evs_cons (k := 0) (l := 1) (P := fun d => d = .rnd) (Yl.of_eq (a := .rnd) rfl rfl) (Yl.evs_cons (k := 1) (l := 0) (P := fun d => ∃ n : Nat, 2 ≤ n ∧ n ≤ 4 ∧ d = .int n) ?_ Yl.evs_nil)) fun ds hd => ?_)
    · unfold iOp
      refine (Yl.bind (k := 0) (l := 1) (P := fun d => d = .int 2) (Yl.of_eq (a := .int 2) rfl rfl) fun d hd => ?_)
      subst hd
      refine (Yl.bind (k := 1) (l := 0) (Yl_nextL (n := 3) (by decide) (by decide) rfl rfl) fun d hd => ?_)
      obtain ⟨i, hi, rfl⟩ := hd
      exact Yl.ret ⟨2 + i, by omega, by omega, rfl⟩
    · obtain ⟨_, _, rfl, rfl, _, _, rfl, ⟨n, h1, h2, rfl⟩, rfl⟩ := hd
      exact (law_names h1 (by omega)).mono (Nat.le_refl _) fun d hd => ⟨n, h1, h2, hd⟩
  · obtain ⟨n, h1, h2, zs, rfl, hl, hw, hn⟩ := hd
    simp only [M.ret_bind]
    rw [fSorted_str]
    refine Yl.ret ⟨ssort zs, rfl, ?_, ?_, fun z hz => hw z ((ssort_perm zs).mem_iff.mp hz), ssort_asc hn⟩
    · rw [(ssort_perm zs).length_eq]; omega
    · rw [(ssort_perm zs).length_eq]; omega
end Lw
namespace Lw
open PySem PySem.Spec L2 DL
def odds : List D := [.non, .int 0, .int 1, .int 2, .int 3, .int (-1), .int 101, .int (-10), .bl true, .bl false, .str (Str.ofString ""), .str (Str.ofString "a"), .str (Str.ofString "abcdefghi"), .str (Str.ofString "A"), .str (Str.ofString "in"), .str (Str.ofString "out"), .tup [], .tup [.tup []], .tup [.str (Str.ofString "a"), .int 0],
  .lst [], .dct false [], .int (10 ^ 30), .tup [.str (Str.ofString "halves")], .tup [.str (Str.ofString "in"), .str (Str.ofString "a")], .str (Str.ofString "a1"), .tup [.non], .tup [.int 0], .tup [.str (Str.ofString "a")], .tup [.str (Str.ofString "b"), .str (Str.ofString "a")]]
theorem odds_ok : odds.all (anB 9 1) = true := by decide +kernel
theorem odd1 : DL.sSet 1 (DL.iLst [(iLit .non), (iLit (.int 0)), (iLit (.int 1)), (iLit (.int 2)), (iLit (.int 3)), (iNeg (iLit (.int 1))), (iLit (.int 101)), (iNeg (iLit (.int 10))), (iLit (.bl true)), (iLit (.bl false)), (iLit (.str (PySem.Str.ofString ""))), (iLit (.str (PySem.Str.ofString "a"))), (iLit (.str (PySem.Str.ofString "abcdefghi"))), (iLit (.str (PySem.Str.ofString "A"))), (iLit (.str (PySem.Str.ofString "in"))), (iLit (.str (PySem.Str.ofString "out"))), (DL.iTup []), (DL.iTup [(DL.iTup [])]), (DL.iTup [(iLit (.str (PySem.Str.ofString "a"))), (iLit (.int 0))])]) [some (.fz .rnd), none] = .ret (.nx [some (.fz .rnd), some (.fz (.lst (odds.take 19)))]) := by kernel_rfl
theorem odd2 : DL.sSet 1 (iOp fAdd (iVar 1) (DL.iLst [(DL.iLst []), (iLit (.dct false [])), (iOp fPowI (iLit (.int 10)) (iLit (.int 30))), (DL.iTup [(iLit (.str (PySem.Str.ofString "halves")))]), (DL.iTup [(iLit (.str (PySem.Str.ofString "in"))), (iLit (.str (PySem.Str.ofString "a")))]), (iLit (.str (PySem.Str.ofString "a1"))), (DL.iTup [(iLit .non)]), (DL.iTup [(iLit (.int 0))]), (DL.iTup [(iLit (.str (PySem.Str.ofString "a")))]), (DL.iTup [(iLit (.str (PySem.Str.ofString "b"))), (iLit (.str (PySem.Str.ofString "a")))])])) [some (.fz .rnd), some (.fz (.lst (odds.take 19)))] = .ret (.nx [some (.fz .rnd), some (.fz (.lst odds))]) := by kernel_rfl
theorem odd3 : Yl (DL.sRet (iOp fIx (iVar 1) (iCall (m__law_next) [(iVar 0), (iLit (.int 29))])) [some (.fz .rnd), some (.fz (.lst odds))]) 1 fun fl => ∃ d, fl = .rt d ∧ An 9 1 d := by
  have key : ∀ l : List D, l.length = 29 → l.all (anB 9 1) = true → Yl (DL.sRet (iOp fIx (iVar 1) (iCall (m__law_next) [(iVar 0), (iLit (.int 29))])) [some (.fz .rnd), some (.fz (.lst l))]) 1 fun fl => ∃ d, fl = .rt d ∧ An 9 1 d := fun l h1 h2 => by
    unfold DL.sRet iOp
    rw [M.bind_assoc]
    refine (Yl.bind (k := 0) (l := 1) (P := fun d => d = .lst l) (Yl.of_eq rfl rfl) fun d hd => ?_)
    subst hd
    rw [M.bind_assoc]
    refine (Yl.bind (k := 1) (l := 0) (Yl_nextL (n := 29) (by decide) (by decide) rfl rfl) fun d hd => ?_)
    obtain ⟨i, hi, rfl⟩ := hd
    have hl : i < l.length := by rw [h1]; exact hi
    rw [fIx_lst l (i := i) hl]
    exact Yl.ret ⟨_, rfl, List.all_eq_true.mp h2 _ (List.getElem_mem hl)⟩
  exact key odds (by decide +kernel) odds_ok
theorem law_odd : Yl (m__law_odd [.rnd]) 1 (An 9 1) := by
  unfold m__law_odd
  refine Yl.fn ?_
  have e : b__law_odd (env0 2 [D.rnd]) = DL.sRet (iOp fIx (iVar 1) (iCall (m__law_next) [(iVar 0), (iLit (.int 29))])) [some (.fz .rnd), some (.fz (.lst odds))] := by
    unfold b__law_odd
    have e0 : env0 2 [D.rnd] = [some (.fz .rnd), none] := rfl
    rw [e0, seq_nx odd1, seq_nx odd2]
  rw [e]
  exact odd3
theorem lst6 {i1 i2 i3 i4 i5 i6 : IE} {Γ : DL.Env} {a1 a2 a3 a4 a5 a6 : D} (h1 : i1 Γ = .ret a1) (h2 : i2 Γ = .ret a2) (h3 : i3 Γ = .ret a3) (h4 : i4 Γ = .ret a4) (h5 : i5 Γ = .ret a5) (h6 : i6 Γ = .ret a6) :
    DL.iLst [i1, i2, i3, i4, i5, i6] Γ = .ret (.lst [a1, a2, a3, a4, a5, a6]) := by
  unfold DL.iLst
  simp only [evs, h1, h2, h3, h4, h5, h6, M.ret_bind]
  exact if_pos (by show 6 ≤ sizeLine; rw [sizeLine_eq]; decide)
end Lw
namespace Lw
open PySem PySem.Spec L2 DL
abbrev envV (v : D) (a p : Option B) : DL.Env := [some (.fz .rnd), some (.fz v), a, p]
def isIn : D → Bool
  | .int _ | .bl _ => true
  | _ => false
def isBl : D → Bool
  | .bl _ => true
  | _ => false
theorem isi_int {x : D} (h : isP x = true) : fIsI [x, .ty "int"] = some (.bl (isIn x)) := by
  cases x <;> first | rfl | (simp [isP] at h)
theorem isi_bl {x : D} (h : isP x = true) : fIsI [x, .ty "bool"] = some (.bl (isBl x)) := by
  cases x <;> first | rfl | (simp [isP] at h)
theorem asIs {t : String} {i : IE} {Γ : DL.Env} {v : D} {b : Bool} (e : i Γ = .ret v) (h : fIsI [v, .ty t] = some (.bl b)) : asB (iBi fIsI [i, iLit (.ty t)]) Γ = .ret b := by
  unfold asB iBi
  simp only [evs, e, M.ret_bind, iLit, h]
theorem drawEq {n k : Nat} {Γ : DL.Env} (h0 : 0 < n) (h1 : n ≤ 1000) (hm : Γ[0]? = some (some (.fz .rnd))) : Yl (asB (iOp fEq (iCall m__law_next [iVar 0, iLit (.int n)]) (iLit (.int k))) Γ) 1 fun _ => True := by
  unfold asB iOp
  rw [M.bind_assoc]
  refine (Yl.bind (k := 1) (l := 0) (Yl_nextL h0 h1 hm rfl) fun d hd => ?_)
  obtain ⟨i, _, rfl⟩ := hd
  show Yl (((match fEq (.int i) (.int k) with | some d => M.ret d | none => .stuck) : M D).bind _) 0 _
  rw [fEq_int]
  exact Yl.ret trivial
theorem pick_is (k : Nat) {v : D} {at_ p : Nat} : asB (iOp fEq (iVar 3) (iLit (.int (k : Nat)))) (envV v (some (.fz (.int at_))) (some (.fz (.int p)))) = .ret (decide (p = k)) := by
  show ((match fEq (.int p) (.int k) with | some d => M.ret d | none => .stuck) : M D).bind _ = _
  rw [fEq_int]
  show M.ret (decide ((p : Int) = (k : Int))) = _
  congr 1
  exact decide_eq_decide.mpr (by omega)
theorem bt_ix {xs : List D} {a : Nat} {p : Option B} (h : a < xs.length) : iOp fIx (iVar 1) (iVar 2) (envV (.tup xs) (some (.fz (.int a))) p) = .ret xs[a] := by
  show (match fIx (.tup xs) (.int a) with | some d => M.ret d | none => .stuck) = _
  rw [fIx_tup xs h]
theorem bt_lo {xs : List D} {a : Nat} {p : Option B} : iSl fSl (iVar 1) oNone (oSome (iVar 2)) (envV (.tup xs) (some (.fz (.int a))) p) = .ret (.tup (xs.take a)) := by
  show (match fSl (.tup xs) none (some (a : Int)) with | some d => M.ret d | none => .stuck) = _
  rw [fSl_ttake]
theorem bt_hi {xs : List D} {a : Nat} {p : Option B} : iSl fSl (iVar 1) (oSome (iVar 2)) oNone (envV (.tup xs) (some (.fz (.int a))) p) = .ret (.tup (xs.drop a)) := by
  show (match fSl (.tup xs) (some (a : Int)) none with | some d => M.ret d | none => .stuck) = _
  rw [fSl_tdrop]
theorem bt_hi1 {xs : List D} {a : Nat} {p : Option B} : iSl fSl (iVar 1) (oSome (iOp fAdd (iVar 2) (iLit (.int 1)))) oNone (envV (.tup xs) (some (.fz (.int a))) p) = .ret (.tup (xs.drop (a + 1))) := by
  show (match fSl (.tup xs) (some ((a + 1 : Nat) : Int)) none with | some d => M.ret d | none => .stuck) = _
  rw [fSl_tdrop]
theorem bt_one {xs : List D} {a : Nat} {p : Option B} (h : a < xs.length) : iSl fSl (iVar 1) (oSome (iVar 2)) (oSome (iOp fAdd (iVar 2) (iLit (.int 1)))) (envV (.tup xs) (some (.fz (.int a))) p) = .ret (.tup [xs[a]]) := by
  show (match fSl (.tup xs) (some (a : Int)) (some ((a + 1 : Nat) : Int)) with | some d => M.ret d | none => .stuck) = _
  rw [fSl_tone xs h]
theorem add3 {i j k : IE} {Γ : DL.Env} {as bs : List D} {y : D → Prop} {kk : Nat} (hi : i Γ = .ret (.tup as)) (hj : Yl (j Γ) kk y) (hk : k Γ = .ret (.tup bs)) (hl : as.length + bs.length + 1 ≤ sizeLine) : Yl (iOp fAdd (iOp fAdd i (DL.iTup [j])) k Γ) kk fun d => ∃ v, y v ∧ d = .tup (as ++ [v] ++ bs) := by
  unfold iOp
  rw [M.bind_assoc, hi, M.ret_bind]
  have e : DL.iTup [j] Γ = (j Γ).bind fun d => .ret (.tup [d]) := by
    unfold DL.iTup
    rw [evs_bind, M.bind_assoc]
    congr
  rw [e, M.bind_assoc, M.bind_assoc]
  refine (Yl.bind (l := 0) hj fun v hv => ?_).mono (Nat.le_refl _) fun _ x => x
  rw [M.ret_bind, fAdd_tup _ _ (by rw [List.length_singleton]; omega)]
  simp only [M.ret_bind]
  rw [hk, M.ret_bind, fAdd_tup _ _ (by rw [List.length_append, List.length_singleton]; omega)]
  exact Yl.ret ⟨v, hv, rfl⟩
theorem one_b : Str.ofString "b" = S [98] := by decide +kernel
theorem one_A : Str.ofString "A" = S [65] := by decide +kernel
theorem one_s : Str.ofString " " = S [32] := by decide +kernel
theorem one_1 : Str.ofString "1" = S [49] := by decide +kernel
/-- a text bent -/
theorem bent_s {w k : Nat} {l : List Nat} {a p : Option B} (hs : SafeL l) (hl : l.length ≤ w) (hw : w ≤ 400) (h1 : 1 ≤ w) : Yl (iOp fIx (iLst [(iOp fAdd (iVar 1) (iLit (.str (PySem.Str.ofString "b")))), (iSl fSl (iVar 1) (oSome (iLit (.int 1))) oNone), (iOp fAdd (iVar 1) (iLit (.str (PySem.Str.ofString "A")))), (iOp fAdd (iVar 1) (iLit (.str (PySem.Str.ofString " ")))), (iOp fMul (iVar 1) (iLit (.int 2))), (iOp fAdd (iVar 1) (iLit (.str (PySem.Str.ofString "1"))))]) (iCall (m__law_next) [(iVar 0), (iLit (.int 6))]) (envV (.str (S l)) a p)) 1 (An (2 * w + 1) k) := by
  obtain ⟨m2, em, lm, mm⟩ := fMul_two l (by omega)
  have ad : ∀ (z : Str) (c : Nat), z = S [c] → iOp fAdd (iVar 1) (iLit (.str z)) (envV (.str (S l)) a p) = .ret (.str (S (l ++ [c]))) := fun z c hz => by
    subst hz
    exact op_ok rfl rfl (fAdd_S l [c] (by rw [List.length_singleton, sizeLine_eq]; omega))
  have sl : iSl fSl (iVar 1) (oSome (iLit (.int 1))) oNone (envV (.str (S l)) a p) = .ret (.str (S (l.drop 1))) := by
    show (match fSl (.str (S l)) (some ((1 : Nat) : Int)) none with | some d => M.ret d | none => .stuck) = _
    rw [fSl_drop l 1 (sz8 (by omega))]
  have six := lst6 (ad _ 98 one_b) sl (ad _ 65 one_A) (ad _ 32 one_s) (op_ok (i := iVar 1) (j := iLit (.int 2)) (Γ := envV (.str (S l)) a p) rfl rfl em) (ad _ 49 one_1)
  refine (Yl.op (k := 0) (l := 1) (Yl.eqV six) (Yl_nextL (n := 6) (by decide) (by decide) rfl rfl) fun x y hx hy => ?_).mono (by decide) fun _ x => x
  subst hx
  obtain ⟨j, hj, rfl⟩ := hy
  have bo : ∀ m : List Nat, m.length ≤ 2 * w + 1 → SafeL m → An (2 * w + 1) k (.str (S m)) := fun m h h2 => An.str.mpr ⟨h, h2⟩
  have a1 : ∀ c, safeC c = true → An (2 * w + 1) k (.str (S (l ++ [c]))) := fun c hc => bo _ (by rw [List.length_append, List.length_singleton]; omega) fun x hx => by
    rcases List.mem_append.mp hx with h | h
    · exact hs x h
    · rw [List.mem_singleton] at h; exact h ▸ hc
  match j, hj with
  | 0, _ => exact ⟨_, rfl, a1 98 (by decide)⟩
  | 1, _ => exact ⟨_, rfl, bo _ (by rw [List.length_drop]; omega) fun x hx => hs x (List.mem_of_mem_drop hx)⟩
  | 2, _ => exact ⟨_, rfl, a1 65 (by decide)⟩
  | 3, _ => exact ⟨_, rfl, a1 32 (by decide)⟩
  | 4, _ => exact ⟨_, rfl, bo _ (by omega) fun x hx => hs x (mm x hx)⟩
  | 5, _ => exact ⟨_, rfl, a1 49 (by decide)⟩
/-- a number bent -/
theorem bent_i {w k : Nat} {n : Int} {a p : Option B} (hn : n.natAbs ≤ 10 ^ 30 + w) (h9 : 9 ≤ w) : Yl (iOp fAdd (iVar 1) (iOp fIx (iLst [(iLit (.int 1)), (iNeg (iLit (.int 1))), (iLit (.int 2)), (iNeg (iLit (.int 2))), (iLit (.int 10)), (iNeg (iLit (.int 10)))]) (iCall (m__law_next) [(iVar 0), (iLit (.int 6))])) (envV (.int n) a p)) 1 (An (2 * w + 1) k) := by
  have six : iLst [(iLit (.int 1)), (iNeg (iLit (.int 1))), (iLit (.int 2)), (iNeg (iLit (.int 2))), (iLit (.int 10)), (iNeg (iLit (.int 10)))] (envV (.int n) a p) = .ret (.lst [.int 1, .int (-1), .int 2, .int (-2), .int 10, .int (-10)]) := lst6 rfl rfl rfl rfl rfl rfl
  refine (Yl.op (k := 0) (l := 1) (P := fun d => d = .int n) (Q := fun d => ∃ i : Int, d = .int i ∧ i.natAbs ≤ 10) (Yl.of_eq rfl rfl) ((Yl.op (k := 0) (l := 1) (Yl.eqV six) (Yl_nextL (n := 6) (by decide) (by decide) rfl rfl) fun x y hx hy => ?_).mono (by decide) fun _ x => x) fun x y hx hy => ?_).mono (by decide) fun _ x => x
  · subst hx
    obtain ⟨j, hj, rfl⟩ := hy
    match j, hj with
    | 0, _ => exact ⟨_, rfl, _, rfl, by decide⟩
    | 1, _ => exact ⟨_, rfl, _, rfl, by decide⟩
    | 2, _ => exact ⟨_, rfl, _, rfl, by decide⟩
    | 3, _ => exact ⟨_, rfl, _, rfl, by decide⟩
    | 4, _ => exact ⟨_, rfl, _, rfl, by decide⟩
    | 5, _ => exact ⟨_, rfl, _, rfl, by decide⟩
  · subst hx
    obtain ⟨i, rfl, hi⟩ := hy
    exact ⟨_, rfl, An.int.mpr (by omega)⟩
end Lw
namespace Lw
open PySem PySem.Spec L2 DL
theorem fEqV_empty (xs : List D) : fEqV (.tup xs) (.tup []) = some (.bl xs.isEmpty) := by
  show (match fEq (.tup xs) (.tup []) with | some d => some d | none => _) = _
  rw [fEq_empty]
def btTail (rec : List D → M D) : IS := (sSeq (sPar 2 3 (iCall (m__law_next) [(iVar 0), (iBi fLen [(iVar 1)])]) (iCall (m__law_next) [(iVar 0), (iLit (.int 11))]))
  (sSeq (sIf (asB (iOp fEq (iVar 3) (iLit (.int 0)))) (sRet (iOp fAdd (iSl fSl (iVar 1) oNone (oSome (iVar 2))) (iSl fSl (iVar 1) (oSome (iOp fAdd (iVar 2) (iLit (.int 1)))) oNone))) sPass)
  (sSeq (sIf (asB (iOp fEq (iVar 3) (iLit (.int 1)))) (sRet (iOp fAdd (iVar 1) (iSl fSl (iVar 1) (oSome (iVar 2)) (oSome (iOp fAdd (iVar 2) (iLit (.int 1))))))) sPass)
  (sSeq (sIf (asB (iOp fEq (iVar 3) (iLit (.int 2)))) (sRet (iBi fList [(iVar 1)])) sPass)
  (sSeq (sIf (asB (iOp fEq (iVar 3) (iLit (.int 3)))) (sRet (iOp fAdd (iOp fAdd (iSl fSl (iVar 1) oNone (oSome (iVar 2))) (iTup [(iCall (m__law_odd) [(iVar 0)])])) (iSl fSl (iVar 1) (oSome (iVar 2)) oNone))) sPass)
  (sSeq (sIf (asB (iOp fEq (iVar 3) (iLit (.int 4)))) (sRet (iRev (iVar 1))) sPass)
  (sRet (iOp fAdd (iOp fAdd (iSl fSl (iVar 1) oNone (oSome (iVar 2))) (iTup [(iCall (rec) [(iVar 0), (iOp fIx (iVar 1) (iVar 2))])])) (iSl fSl (iVar 1) (oSome (iOp fAdd (iVar 2) (iLit (.int 1)))) oNone)))))))))
theorem bt_tail {rec : List D → M D} {xs : List D} {k w r : Nat} (hx : ∀ x ∈ xs, An w k x) (h0 : xs ≠ []) (hl : xs.length ≤ 8 + k) (hk : k ≤ 8) (h9 : 9 ≤ w) (hw : w ≤ 400) (hr : ∀ x ∈ xs, Yl (rec [.rnd, x]) r (An (2 * w + 1) (k + 1))) : Yl (btTail rec (envV (.tup xs) none none)) (r + 3) fun fl => ∃ d, fl = .rt d ∧ An (2 * w + 1) (k + 2) d := by
  have hlen : 0 < xs.length := List.length_pos_iff.mpr h0
  have hz : 802 ≤ sizeLine := by rw [sizeLine_eq]; omega
  have hx' : ∀ x ∈ xs, An (2 * w + 1) (k + 1) x := fun x h => (hx x h).mono (by omega) (by omega)
  unfold btTail
  refine (Yl.seq (k := 2) (l := r + 1) (I := fun Γ => ∃ a p : Nat, a < xs.length ∧ p < 11 ∧ Γ = envV (.tup xs) (some (.fz (.int a))) (some (.fz (.int p)))) ?_ ?_).mono (by omega) fun _ x => x
  · unfold sPar
    refine (Yl.bind (k := 2) (l := 0) (Yl.evs_cons (k := 1) (l := 1) (Yl_nextL (n := xs.length) hlen (by omega) rfl rfl) (Yl.evs_cons (k := 1) (l := 0) (Yl_nextL (n := 11) (by decide) (by decide) rfl rfl) Yl.evs_nil)) fun ds hd => ?_)
    obtain ⟨_, _, rfl, ⟨a, ha, rfl⟩, _, _, rfl, ⟨p, hp, rfl⟩, rfl⟩ := hd
    exact Yl.ret ⟨_, rfl, a, p, ha, hp, rfl⟩
  · rintro Γ ⟨a, p, ha, hp, rfl⟩
    have tk : ∀ x ∈ xs.take a, An (2 * w + 1) (k + 1) x := fun x h => hx' x (List.mem_of_mem_take h)
    have dr : ∀ m, ∀ x ∈ xs.drop m, An (2 * w + 1) (k + 1) x := fun m x h => hx' x (List.mem_of_mem_drop h)
    have l1 : (xs.take a).length ≤ xs.length := by rw [List.length_take]; omega
    have l2 : ∀ m, (xs.drop m).length ≤ xs.length := fun m => by rw [List.length_drop]; omega
    have mid : ∀ (v : D) (m : Nat), a ≤ m → An (2 * w + 1) (k + 1) v → An (2 * w + 1) (k + 2) (.tup (xs.take a ++ [v] ++ xs.drop m)) := fun v m hm hv => by
      refine An.tup.mpr ⟨?_, fun x hx => ?_⟩
      · rw [List.length_append, List.length_append, List.length_take, List.length_drop, List.length_singleton]; omega
      · rcases List.mem_append.mp hx with hx | hx
        · rcases List.mem_append.mp hx with hx | hx
          · exact tk x hx
          · rw [List.mem_singleton] at hx
            exact hx ▸ hv
        · exact dr m x hx
    have hoR : Yl (iOp fAdd (iOp fAdd (iSl fSl (iVar 1) oNone (oSome (iVar 2))) (iTup [(iCall (rec) [(iVar 0), (iOp fIx (iVar 1) (iVar 2))])])) (iSl fSl (iVar 1) (oSome (iOp fAdd (iVar 2) (iLit (.int 1)))) oNone) (envV (.tup xs) (some (.fz (.int a))) (some (.fz (.int p))))) r (An (2 * w + 1) (k + 2)) := by
      refine (add3 bt_lo (j := iCall rec [iVar 0, iOp fIx (iVar 1) (iVar 2)]) (y := An (2 * w + 1) (k + 1)) (by rw [call2 (a := .rnd) rfl (bt_ix ha)]; exact hr _ (List.getElem_mem ha)) bt_hi1 (by have := l2 (a + 1); omega)).mono (Nat.le_refl _) fun d hd => ?_
      obtain ⟨v, hv, rfl⟩ := hd
      exact mid v (a + 1) (by omega) hv
    have hoO : Yl (iOp fAdd (iOp fAdd (iSl fSl (iVar 1) oNone (oSome (iVar 2))) (iTup [(iCall (m__law_odd) [(iVar 0)])])) (iSl fSl (iVar 1) (oSome (iVar 2)) oNone) (envV (.tup xs) (some (.fz (.int a))) (some (.fz (.int p))))) 1 (An (2 * w + 1) (k + 2)) := by
      refine (add3 bt_lo (y := An (2 * w + 1) (k + 1)) (by rw [call1 (a := .rnd) rfl]; exact law_odd.mono (Nat.le_refl _) fun d h => h.mono (by omega) (by omega)) bt_hi (by have := l2 a; omega)).mono (Nat.le_refl _) fun d hd => ?_
      obtain ⟨v, hv, rfl⟩ := hd
      exact mid v a (by omega) hv
    refine (Yl.if_or (k := 0) (l := 0) (m := r + 1) (Q := fun _ => True) (Yl.of_eq (pick_is 0) trivial) (fun _ => Yl.of_eq (a := .tup (xs.take a ++ xs.drop (a + 1))) (op_ok bt_lo bt_hi1 (fAdd_tup _ _ (by have := l2 (a + 1); omega))) ?_) fun _ => ?_).mono (by omega) fun _ x => x
    · refine An.tup.mpr ⟨?_, fun x hx => ?_⟩
      · rw [List.length_append, List.length_take, List.length_drop]; omega
      · rcases List.mem_append.mp hx with h | h
        · exact tk x h
        · exact dr _ x h
    refine (Yl.if_or (k := 0) (l := 0) (m := r + 1) (Q := fun _ => True) (Yl.of_eq (pick_is 1) trivial) (fun _ => Yl.of_eq (a := .tup (xs ++ [xs[a]])) (op_ok (a := .tup xs) rfl (bt_one ha) (fAdd_tup _ _ (by rw [List.length_singleton]; omega))) ?_) fun _ => ?_).mono (by omega) fun _ x => x
    · refine An.tup.mpr ⟨?_, fun x hx => ?_⟩
      · rw [List.length_append, List.length_singleton]; omega
      · rcases List.mem_append.mp hx with h | h
        · exact hx' x h
        · rw [List.mem_singleton] at h
          exact h ▸ hx' _ (List.getElem_mem ha)
    refine (Yl.if_or (k := 0) (l := 0) (m := r + 1) (Q := fun _ => True) (Yl.of_eq (pick_is 2) trivial) (fun _ => Yl.of_eq (a := .lst xs) rfl (An.lst.mpr ⟨by omega, hx'⟩)) fun _ => ?_).mono (by omega) fun _ x => x
    refine (Yl.if_or (k := 0) (l := 1) (m := r) (Q := fun _ => True) (Yl.of_eq (pick_is 3) trivial) (fun _ => hoO) fun _ => ?_).mono (by omega) fun _ x => x
    refine (Yl.if_or (k := 0) (l := 0) (m := r) (Q := fun _ => True) (Yl.of_eq (pick_is 4) trivial) (fun _ => Yl.of_eq (a := .tup xs.reverse) rfl (An.tup.mpr ⟨by rw [List.length_reverse]; omega, fun x h => hx' x (List.mem_reverse.mp h)⟩)) fun _ => ?_).mono (by omega) fun _ x => x
    unfold DL.sRet
    exact (Yl.bind (k := r) (l := 0) hoR fun d hd => Yl.ret ⟨_, rfl, hd⟩)
theorem bent_body {rec : List D → M D} {v : D} {k w r : Nat} (hv : An w k v) (hk : k ≤ 8) (h9 : 9 ≤ w) (hw : w ≤ 400) (hr : ∀ j x, j + 1 = k → An w j x → Yl (rec [.rnd, x]) r (An (2 * w + 1) (j + 1))) : Yl (runFn 4 (b__law_bent rec) [.rnd, v]) (r + 9) (An (2 * w + 1) (k + 1)) := by
  have hp := An.isP hv
  unfold b__law_bent
  refine Yl.fn ?_
  have e0 : env0 4 [D.rnd, v] = envV v none none := rfl
  rw [e0]
  refine (Yl.if_or (k := 1) (l := 1) (m := r + 7) (Q := fun b => b = true → isSt v = true) ?_ ?_ fun _ => ?_).mono (by omega) fun _ x => x
  · unfold andB
    rw [asIs (v := v) rfl (isi_str hp), M.ret_bind]
    cases e : isSt v with
    | true =>
      rw [if_pos rfl]
      exact (drawEq (k := 0) (by decide) (by decide) rfl).mono (Nat.le_refl _) fun _ _ _ => rfl
    | false =>
      rw [if_neg (by decide)]
      exact (Yl.ret (fun h => by cases h)).mono (by decide) fun _ x => x
  · intro h
    have h := h rfl
    cases v with
    | str s =>
      have hl := An.str.mp hv
      have := bent_s (k := k + 1) (a := none) (p := none) hl.2 hl.1 hw (by omega)
      rw [S_self] at this
      exact this
    | _ => cases h
  refine (Yl.if_or (k := 1) (l := 1) (m := r + 5) (Q := fun b => b = true → ∃ n, v = .int n) ?_ ?_ fun _ => ?_).mono (by omega) fun _ x => x
  · unfold andB
    rw [asIs (v := v) rfl (isi_int hp), M.ret_bind]
    cases e : isIn v with
    | true =>
      rw [if_pos rfl]
      unfold notB
      rw [asIs (v := v) rfl (isi_bl hp), M.ret_bind, M.ret_bind]
      cases v with
      | int n =>
        rw [if_pos (by rfl)]
        exact (drawEq (k := 0) (by decide) (by decide) rfl).mono (Nat.le_refl _) fun _ _ _ => ⟨n, rfl⟩
      | bl b =>
        rw [if_neg (by simp [isBl])]
        exact (Yl.ret (fun h => by cases h)).mono (by decide) fun _ x => x
      | _ => cases e
    | false =>
      rw [if_neg (by decide)]
      exact (Yl.ret (fun h => by cases h)).mono (by decide) fun _ x => x
  · intro h
    obtain ⟨n, rfl⟩ := h rfl
    exact bent_i (An.int.mp hv) h9
  refine (Yl.if_or (k := 1) (l := 1) (m := r + 3) (Q := fun b => b = false → ∃ xs, v = .tup xs ∧ xs ≠ []) ?_ ?_ fun h => ?_).mono (by omega) fun _ x => x
  · unfold orB notB
    rw [asIs (v := v) rfl (isi_tup hp), M.ret_bind, M.ret_bind]
    cases v with
    | tup xs =>
      rw [if_neg (by simp [isTu])]
      have te : asB (iOp fEqV (iVar 1) (DL.iTup [])) (envV (.tup xs) none none) = .ret xs.isEmpty := by
        have e1 : DL.iTup [] (envV (.tup xs) none none) = .ret (.tup []) := by
          unfold DL.iTup evs
          rw [M.ret_bind]
          exact if_pos (Nat.zero_le _)
        unfold asB
        rw [op_ok (a := .tup xs) rfl e1 (fEqV_empty xs)]
        rfl
      rw [te, M.ret_bind]
      cases xs with
      | nil =>
        rw [if_pos (by rfl)]
        exact (Yl.ret (fun h => by cases h)).mono (by decide) fun _ x => x
      | cons x r =>
        rw [if_neg (by simp)]
        exact (drawEq (k := 0) (by decide) (by decide) rfl).mono (Nat.le_refl _) fun _ _ _ => ⟨_, rfl, by simp⟩
    | _ =>
      rw [if_pos (by rfl)]
      exact (Yl.ret (fun h => by cases h)).mono (by decide) fun _ x => x
  · intro _
    rw [call1 (a := .rnd) rfl]
    exact law_odd.mono (Nat.le_refl _) fun d h => h.mono (by omega) (by omega)
  · obtain ⟨xs, rfl, h0⟩ := h rfl
    cases k with
    | zero =>
      have : xs = [] := by simpa [An, anB] using hv
      exact absurd this h0
    | succ j =>
      have ht := An.tup.mp hv
      exact bt_tail ht.2 h0 ht.1 (by omega) h9 hw fun x hx => hr j x rfl (ht.2 x hx)
theorem law_bent {w : Nat} (h9 : 9 ≤ w) (hw : w ≤ 400) : ∀ (n k : Nat) (v : D), k < n → k ≤ 8 → An w k v → Yl (m__law_bent n [.rnd, v]) (9 * (k + 1)) (An (2 * w + 1) (k + 1))
  | 0, k, v, h, _, _ => absurd h (by omega)
  | n + 1, k, v, h, h8, hv => by
    show Yl (runFn 4 (b__law_bent (m__law_bent n)) [.rnd, v]) _ _
    refine (bent_body (r := 9 * k) hv h8 h9 hw fun j x e hx => ?_).mono (by omega) fun _ x => x
    subst e
    exact law_bent h9 hw n j x (by omega) (by omega) hx
end Lw
/-! repr of any thing. -/
namespace DL
open PySem PySem.Spec L2
def R (d : D) : List Nat := d.sw.shown.cps.toList
def Rst : List (List Nat) → List Nat
  | [] => [41]
  | x :: r => 44 :: 32 :: (x ++ Rst r)
def tupL : List (List Nat) → List Nat
  | [] => [40, 41]
  | [x] => 40 :: (x ++ [44, 41])
  | x :: r => 40 :: (x ++ Rst r)
theorem app_list (a b : Str) : (a ++ b : Str).cps.toList = a.cps.toList ++ b.cps.toList := by
  show (a.cps ++ b.cps).toList = _
  simp
theorem comma : (Str.ofString ", ").cps.toList = [44, 32] := by decide +kernel
theorem par_o : (Str.ofString "(").cps.toList = [40] := by decide +kernel
theorem par_c : (Str.ofString ")").cps.toList = [41] := by decide +kernel
theorem par_c1 : (Str.ofString ",)").cps.toList = [44, 41] := by decide +kernel
theorem join_list : ∀ (x : Str) (r : List Str), (Str.join (Str.ofString ", ") (x :: r)).cps.toList ++ [41] = x.cps.toList ++ Rst (r.map fun t => t.cps.toList)
  | x, [] => rfl
  | x, y :: r => by
    show (x ++ Str.ofString ", " ++ Str.join (Str.ofString ", ") (y :: r) : Str).cps.toList ++ [41] = _
    rw [app_list, app_list, comma, List.append_assoc, join_list y r]
    simp [Rst]
theorem tupleText_list (ts : List Str) : (tupleText ts).cps.toList = tupL (ts.map fun t => t.cps.toList) := by
  match ts with
  | [] => decide +kernel
  | [x] =>
    show (Str.ofString "(" ++ x ++ Str.ofString ",)" : Str).cps.toList = _
    rw [app_list, app_list, par_o, par_c1]
    simp [tupL]
  | x :: y :: r =>
    show (Str.ofString "(" ++ Str.join (Str.ofString ", ") (x :: y :: r) ++ Str.ofString ")" : Str).cps.toList = _
    rw [app_list, app_list, par_o, par_c, List.append_assoc, join_list]
    rfl
theorem shownAll_map : ∀ xs : List D, (PyData.shownAll (D.swL xs)).map (fun t => t.cps.toList) = xs.map R
  | [] => by simp [D.swL, PyData.shownAll]
  | x :: r => by
    simp only [D.swL, PyData.shownAll, List.map_cons, shownAll_map r]
    rfl
theorem R_tup (xs : List D) : R (.tup xs) = tupL (xs.map R) := by
  unfold R
  simp only [D.sw, PyData.shown]
  rw [tupleText_list, shownAll_map]
  rfl
theorem tupL_len {ls : List (List Nat)} {w : Nat} (h : ∀ l ∈ ls, l.length ≤ w) : (tupL ls).length ≤ ls.length * (w + 2) + 3 := by
  have rs : ∀ r : List (List Nat), (∀ l ∈ r, l.length ≤ w) → (Rst r).length ≤ r.length * (w + 2) + 1 := by
    intro r
    induction r with
    | nil => intro _; simp [Rst]
    | cons x r ih =>
      intro h
      have a := ih fun l hl => h l (List.mem_cons_of_mem _ hl)
      have b := h x List.mem_cons_self
      simp only [Rst, List.length_cons, List.length_append]
      rw [Nat.succ_mul]
      omega
  match ls, h with
  | [], _ => simp [tupL]
  | [x], h =>
    have b := h x List.mem_cons_self
    simp only [tupL, List.length_cons, List.length_append, List.length_nil]
    omega
  | x :: y :: r, h =>
    have b := h x List.mem_cons_self
    have a := rs (y :: r) fun l hl => h l (List.mem_cons_of_mem _ hl)
    simp only [tupL, List.length_cons, List.length_append] at a ⊢
    rw [Nat.succ_mul]
    omega
theorem all_of {p : D → Bool} {q : List D → Bool} (h0 : q [] = true) (h1 : ∀ x r, q (x :: r) = (p x && q r)) : ∀ {xs : List D}, (∀ x ∈ xs, p x = true) → q xs = true
  | [], _ => h0
  | x :: r, h => by
    rw [h1, h x List.mem_cons_self, all_of h0 h1 fun y hy => h y (List.mem_cons_of_mem _ hy)]
    rfl
theorem swL_show {xs : List D} (h : ∀ x ∈ xs, x.sw.showable = true) : PyData.showableAll (D.swL xs) = true := by
  induction xs with
  | nil => simp [D.swL, PyData.showableAll]
  | cons x r ih =>
    simp only [D.swL, PyData.showableAll, Bool.and_eq_true]
    exact ⟨h x List.mem_cons_self, ih fun y hy => h y (List.mem_cons_of_mem _ hy)⟩
theorem swL_depth {xs : List D} {k : Nat} (h : ∀ x ∈ xs, x.sw.depth ≤ k) : PyData.depthAll (D.swL xs) ≤ k := by
  induction xs with
  | nil => simp [D.swL, PyData.depthAll]
  | cons x r ih =>
    simp only [D.swL, PyData.depthAll]
    exact Nat.max_le.mpr ⟨h x List.mem_cons_self, ih fun y hy => h y (List.mem_cons_of_mem _ hy)⟩
theorem textFrom_len2 {w : Nat} : ∀ (ts : List Str) (k : Nat) (acc : Str), (∀ t ∈ ts, t.cps.toList.length ≤ w) → (textFrom k acc ts).cps.toList.length ≤ acc.cps.toList.length + ts.length * (w + 2)
  | [], k, acc, _ => by simp [textFrom]
  | t :: ts, k, acc, h => by
    have b := h t List.mem_cons_self
    have a := textFrom_len2 ts (k + 1) (acc ++ (if k > 0 then ", " else "" : String) ++ t) fun x hx => h x (List.mem_cons_of_mem _ hx)
    show (textFrom (k + 1) (acc ++ (if k > 0 then ", " else "" : String) ++ t) ts).cps.toList.length ≤ _
    rw [app_list, app_list, List.length_append, List.length_append] at a
    have c : (Str.ofString (if k > 0 then ", " else "" : String)).cps.toList.length ≤ 2 := by
      split
      · decide +kernel
      · decide +kernel
    rw [List.length_cons, Nat.succ_mul]
    omega
theorem shownAll_len (xs : List D) : (PyData.shownAll (D.swL xs)).length = xs.length := by
  have := congrArg List.length (shownAll_map xs)
  simpa using this
mutual
theorem py_sw : ∀ (d : D), d.pl = true → d.py = d.sw
  | .non, _ | .bl _, _ | .int _, _ | .str _, _ => by simp only [D.py, D.sw]
  | .tup xs, h => by simp only [D.py, D.sw]; rw [pyL_sw xs (by simpa only [D.pl] using h)]
  | .lst xs, h => by simp only [D.py, D.sw]; rw [pyL_sw xs (by simpa only [D.pl] using h)]
  | .dct _ _, h | .ins _ _, h | .exc _ _, h | .err _ _, h | .ty _, h | .clo _, h | .rnd, h | .scr _, h | .pr _, h => by simp only [D.pl] at h; cases h
theorem pyL_sw : ∀ (xs : List D), D.plL xs = true → D.pyL xs = D.swL xs
  | [], _ => by simp only [D.pyL, D.swL]
  | x :: r, h => by
    simp only [D.plL, Bool.and_eq_true] at h
    simp only [D.pyL, D.swL]
    rw [py_sw x h.1, pyL_sw r h.2]
end
theorem fold_repr (q : Nat) : ∀ (l : List Nat) (acc : Array Nat), (l.foldl (fun out c => out ++ (Builtin.Str.reprChar q c).toArray) acc).toList = acc.toList ++ l.flatMap (Builtin.Str.reprChar q)
  | [], acc => by simp
  | c :: r, acc => by
    rw [List.foldl_cons, fold_repr q r]
    simp
theorem reprText_list (z : Str) : (reprText z).cps.toList = reprQuote z :: (z.cps.toList.flatMap (Builtin.Str.reprChar (reprQuote z)) ++ [reprQuote z]) := by
  unfold reprText
  rw [Array.toList_push, ← Array.foldl_toList, fold_repr]
  rfl
theorem quote_is (z : Str) : reprQuote z = 39 ∨ reprQuote z = 34 := by
  unfold reprQuote
  split <;> simp
theorem rc39 : ∀ c : Fin 128, (Builtin.Str.reprChar 39 c.1).length ≤ 4 ∧ ∀ x ∈ Builtin.Str.reprChar 39 c.1, x < 128 := by decide +kernel
theorem rc34 : ∀ c : Fin 128, (Builtin.Str.reprChar 34 c.1).length ≤ 4 ∧ ∀ x ∈ Builtin.Str.reprChar 34 c.1, x < 128 := by decide +kernel
theorem flat_len {f : Nat → List Nat} : ∀ {l : List Nat}, (∀ c ∈ l, (f c).length ≤ 4) → (l.flatMap f).length ≤ 4 * l.length
  | [], _ => by simp
  | c :: r, h => by
    rw [List.flatMap_cons, List.length_append, List.length_cons]
    have := h c List.mem_cons_self
    have := flat_len (l := r) fun x hx => h x (List.mem_cons_of_mem _ hx)
    omega
/-- a thing whose repr is told -/
structure Ok (k w : Nat) (d : D) : Prop where
  ok : d.okw = true
  sh : d.sw.showable = true
  dp : d.sw.depth ≤ k
  ln : (R d).length ≤ w
  as : ∀ c ∈ R d, c < 128
theorem Ok.mono {k w k' w' : Nat} {d : D} (h : Ok k w d) (hk : k ≤ k') (hw : w ≤ w') : Ok k' w' d := ⟨h.ok, h.sh, Nat.le_trans h.dp hk, Nat.le_trans h.ln hw, h.as⟩
theorem Ok.str {z : Str} {n : Nat} (h : ∀ c ∈ z.cps.toList, c < 128) (hn : z.cps.toList.length ≤ n) : Ok 0 (4 * n + 2) (.str z) := by
  have e : R (.str z) = reprQuote z :: (z.cps.toList.flatMap (Builtin.Str.reprChar (reprQuote z)) ++ [reprQuote z]) := by
    unfold R
    simp only [D.sw, PyData.shown]
    exact reprText_list z
  have key : ∀ c ∈ z.cps.toList, (Builtin.Str.reprChar (reprQuote z) c).length ≤ 4 ∧ ∀ x ∈ Builtin.Str.reprChar (reprQuote z) c, x < 128 := fun c hc => by
    rcases quote_is z with q | q <;> rw [q]
    · exact rc39 ⟨c, h c hc⟩
    · exact rc34 ⟨c, h c hc⟩
  refine ⟨rfl, ?_, ?_, ?_, ?_⟩
  · simp only [D.sw, PyData.showable]
  · simp only [D.sw, PyData.depth]; exact Nat.le_refl _
  · rw [e, List.length_cons, List.length_append, List.length_singleton]
    have := flat_len fun c hc => (key c hc).1
    omega
  · rw [e]
    intro c hc
    have q : reprQuote z < 128 := by rcases quote_is z with q | q <;> rw [q] <;> decide
    rcases List.mem_cons.mp hc with rfl | hc
    · exact q
    rcases List.mem_append.mp hc with hc | hc
    · obtain ⟨x, hx, hc⟩ := List.mem_flatMap.mp hc
      exact (key x hx).2 c hc
    · rw [List.mem_singleton] at hc
      exact hc ▸ q
theorem Ok.non : Ok 0 4 .non := ⟨rfl, by decide +kernel, by decide +kernel, by decide +kernel, by decide +kernel⟩
theorem Ok.bl (b : Bool) : Ok 0 5 (.bl b) := by
  cases b
  · exact ⟨rfl, by decide +kernel, by decide +kernel, by decide +kernel, by decide +kernel⟩
  · exact ⟨rfl, by decide +kernel, by decide +kernel, by decide +kernel, by decide +kernel⟩
theorem Ok.dct (t : Bool) : Ok 1 2 (.dct t []) := by
  cases t
  · exact ⟨rfl, by decide +kernel, by decide +kernel, by decide +kernel, by decide +kernel⟩
  · exact ⟨rfl, by decide +kernel, by decide +kernel, by decide +kernel, by decide +kernel⟩
theorem dig_as (n : Nat) : ∀ c ∈ (Str.ofString (toString n)).cps.toList, c < 128 := by
  have e : toString n = String.ofList (Nat.toDigits 10 n) := rfl
  rw [e, Str.ofString_eq_toList]
  intro c hc
  obtain ⟨x, hx, rfl⟩ : ∃ x, x ∈ Nat.toDigits 10 n ∧ x.toNat = c := by simpa using hc
  have hd : x.isDigit = true := Nat.isDigit_of_mem_toDigits (b := 10) (n := n) (by decide) (by decide) hx
  have h2 : 48 ≤ x.toNat ∧ x.toNat ≤ 57 := by
    simp only [Char.isDigit, Bool.and_eq_true, decide_eq_true_eq] at hd
    exact ⟨hd.1, hd.2⟩
  omega
theorem dig_len {n : Nat} (h : n < 10 ^ 31) : (Str.ofString (toString n)).cps.toList.length ≤ 31 := by
  have e : toString n = String.ofList (Nat.toDigits 10 n) := rfl
  rw [e, Str.ofString_eq_toList]
  simpa using (Nat.length_toDigits_le_iff (b := 10) (n := n) (k := 31) (by decide) (by decide)).mpr h
theorem Ok.int {i : Int} (h : i.natAbs < 10 ^ 31) : Ok 0 40 (.int i) := by
  refine ⟨rfl, ?_, ?_, ?_, ?_⟩
  · simp only [D.sw, PyData.showable, decide_eq_true_eq]
    by_cases z : i.natAbs = 0
    · rw [z]; decide
    · exact Nat.lt_trans ((Nat.log2_lt z).mpr (Nat.lt_trans h (by decide : 10 ^ 31 < 2 ^ 110))) (by decide)
  · simp only [D.sw, PyData.depth]; exact Nat.le_refl _
  · cases i with
    | ofNat n => exact Nat.le_trans (dig_len (n := n) h) (by decide)
    | negSucc n =>
      have e : R (.int (.negSucc n)) = (Str.ofString ("-" ++ toString (n + 1))).cps.toList := rfl
      have := dig_len (n := n + 1) h
      rw [Str.ofString_eq_toList] at this
      rw [e, Str.ofString_eq_toList]
      simp at this ⊢
      omega
  · cases i with
    | ofNat n => exact dig_as n
    | negSucc n =>
      have e : R (.int (.negSucc n)) = (Str.ofString ("-" ++ toString (n + 1))).cps.toList := rfl
      have := dig_as (n + 1)
      rw [Str.ofString_eq_toList] at this
      rw [e, Str.ofString_eq_toList]
      intro c hc
      simp only [String.toList_append, List.map_append, List.mem_append] at hc
      rcases hc with hc | hc
      · have : c = 45 := by simpa using hc
        omega
      · exact this c (by simpa using hc)
theorem Rs_as : ∀ {ls : List (List Nat)}, (∀ l ∈ ls, ∀ c ∈ l, c < 128) → ∀ c ∈ Rst ls, c < 128
  | [], _, c, hc => by simp [Rst] at hc; omega
  | x :: r, h, c, hc => by
    simp only [Rst, List.mem_cons, List.mem_append] at hc
    rcases hc with rfl | rfl | hc | hc
    · decide
    · decide
    · exact h x List.mem_cons_self c hc
    · exact Rs_as (fun l hl => h l (List.mem_cons_of_mem _ hl)) c hc
theorem tupL_as : ∀ {ls : List (List Nat)}, (∀ l ∈ ls, ∀ c ∈ l, c < 128) → ∀ c ∈ tupL ls, c < 128
  | [], _, c, hc => by
    simp only [tupL, List.mem_cons, List.not_mem_nil, or_false] at hc
    omega
  | [x], h, c, hc => by
    simp only [tupL, List.mem_cons, List.mem_append, List.not_mem_nil, or_false] at hc
    rcases hc with rfl | hc | rfl | rfl
    · decide
    · exact h x List.mem_cons_self c hc
    · decide
    · decide
  | x :: y :: r, h, c, hc => by
    have hc' : c = 40 ∨ c ∈ x ∨ c ∈ Rst (y :: r) := by simpa [tupL] using hc
    rcases hc' with rfl | hc | hc
    · decide
    · exact h x List.mem_cons_self c hc
    · exact Rs_as (fun l hl => h l (List.mem_cons_of_mem _ hl)) c hc
theorem textFrom_as : ∀ (ts : List Str) (k : Nat) (acc : Str), (∀ c ∈ acc.cps.toList, c < 128) → (∀ t ∈ ts, ∀ c ∈ t.cps.toList, c < 128) → ∀ c ∈ (textFrom k acc ts).cps.toList, c < 128
  | [], k, acc, h, _ => by simpa [textFrom] using h
  | t :: ts, k, acc, h, h2 => by
    show ∀ c ∈ (textFrom (k + 1) (acc ++ (if k > 0 then ", " else "" : String) ++ t) ts).cps.toList, c < 128
    refine textFrom_as ts (k + 1) _ (fun c hc => ?_) fun x hx => h2 x (List.mem_cons_of_mem _ hx)
    rw [app_list, app_list, List.mem_append, List.mem_append] at hc
    rcases hc with (hc | hc) | hc
    · exact h c hc
    · have e : ∀ b : Bool, ∀ c ∈ (Str.ofString (if b = true then ", " else "" : String)).cps.toList, c < 128 := by decide +kernel
      refine e (decide (k > 0)) c ?_
      simpa using hc
    · exact h2 t List.mem_cons_self c hc
theorem Ok.tup {k w n : Nat} {xs : List D} (h : ∀ x ∈ xs, Ok k w x) (hn : xs.length ≤ n) : Ok (k + 1) (n * (w + 2) + 3) (.tup xs) := by
  refine ⟨?_, ?_, ?_, ?_, ?_⟩
  · simp only [D.okw]
    exact all_of (p := D.okw) (q := D.okwL) rfl (fun _ _ => rfl) fun x hx => (h x hx).ok
  · simp only [D.sw, PyData.showable]
    exact swL_show fun x hx => (h x hx).sh
  · simp only [D.sw, PyData.depth]
    exact Nat.succ_le_succ (swL_depth fun x hx => (h x hx).dp)
  · rw [R_tup]
    refine Nat.le_trans (tupL_len (w := w) fun l hl => ?_) ?_
    · obtain ⟨x, hx, rfl⟩ := List.mem_map.mp hl
      exact (h x hx).ln
    · rw [List.length_map]
      have : xs.length * (w + 2) ≤ n * (w + 2) := Nat.mul_le_mul_right _ hn
      omega
  · rw [R_tup]
    refine tupL_as fun l hl => ?_
    obtain ⟨x, hx, rfl⟩ := List.mem_map.mp hl
    exact (h x hx).as
theorem Ok.lst {k w n : Nat} {xs : List D} (h : ∀ x ∈ xs, Ok k w x) (hn : xs.length ≤ n) : Ok (k + 1) (n * (w + 2) + 3) (.lst xs) := by
  have e : R (.lst xs) = (textFrom 0 (Str.ofString "[") (PyData.shownAll (D.swL xs)) ++ Str.ofString "]" : Str).cps.toList := by
    unfold R
    simp only [D.sw, PyData.shown]
    rfl
  have each : ∀ t ∈ PyData.shownAll (D.swL xs), ∃ x ∈ xs, R x = t.cps.toList := fun t ht => by
    have m : t.cps.toList ∈ (PyData.shownAll (D.swL xs)).map fun t => t.cps.toList := List.mem_map.mpr ⟨t, ht, rfl⟩
    rw [shownAll_map] at m
    exact List.mem_map.mp m
  refine ⟨?_, ?_, ?_, ?_, ?_⟩
  · simp only [D.okw]
    exact all_of (p := D.okw) (q := D.okwL) rfl (fun _ _ => rfl) fun x hx => (h x hx).ok
  · simp only [D.sw, PyData.showable]
    exact swL_show fun x hx => (h x hx).sh
  · simp only [D.sw, PyData.depth]
    exact Nat.succ_le_succ (swL_depth fun x hx => (h x hx).dp)
  · have a := textFrom_len2 (w := w) (PyData.shownAll (D.swL xs)) 0 (Str.ofString "[") fun t ht => by
      obtain ⟨x, hx, e⟩ := each t ht
      exact e ▸ (h x hx).ln
    rw [e, app_list, List.length_append]
    rw [shownAll_len] at a
    have c1 : (Str.ofString "[").cps.toList.length = 1 := by decide +kernel
    have c2 : (Str.ofString "]").cps.toList.length = 1 := by decide +kernel
    have : xs.length * (w + 2) ≤ n * (w + 2) := Nat.mul_le_mul_right _ hn
    omega
  · rw [e, app_list]
    intro c hc
    rcases List.mem_append.mp hc with hc | hc
    · refine textFrom_as _ _ _ (by decide +kernel) (fun t ht => ?_) c hc
      obtain ⟨x, hx, e⟩ := each t ht
      exact e ▸ (h x hx).as
    · have : ∀ c ∈ (Str.ofString "]").cps.toList, c < 128 := by decide +kernel
      exact this c hc
theorem Ok.rp {k w : Nat} {d : D} (h : Ok k w d) (hk : k ≤ 20) (hw : w ≤ 10000000) : fRp [d] = some (.str d.sw.shown) := by
  have e : d.sw.shown.length = (R d).length := by
    unfold R
    rw [Array.length_toList]
    rfl
  have h3 : d.sw.shown.length ≤ sizeLine := by
    rw [e, sizeLine_eq]
    have := h.ln
    omega
  have h2 : d.sw.depth ≤ 20 := Nat.le_trans h.dp hk
  have key : fRepr [d] = some (.str d.sw.shown) ∨ fRepr [d] = none := by
    show (match d.shw with | some z => if z.showable = true ∧ z.depth ≤ 20 ∧ z.shown.length ≤ sizeLine then some (D.str z.shown) else none | none => none) = _ ∨ (match d.shw with | some z => if z.showable = true ∧ z.depth ≤ 20 ∧ z.shown.length ≤ sizeLine then some (D.str z.shown) else none | none => none) = _
    by_cases p : ∃ t, d = .dct t []
    · obtain ⟨t, rfl⟩ := p
      left
      have e1 : (D.dct t []).shw = some (.dict []) := rfl
      have e2 : (D.dct t []).sw = .dict [] := by simp only [D.sw]
      rw [e2] at h2 h3 ⊢
      have h1 := h.sh
      rw [e2] at h1
      rw [e1]
      exact if_pos ⟨h1, h2, h3⟩
    · have e1 : d.shw = if d.pl = true then some d.py else none := by
        unfold D.shw
        split
        · rename_i t
          exact absurd ⟨t, rfl⟩ p
        · rfl
      by_cases q : d.pl = true
      · left
        rw [e1, if_pos q, py_sw d q]
        exact if_pos ⟨h.sh, h2, h3⟩
      · right
        rw [e1, if_neg q]
  show (match fRepr [d] with | some d => some d | none => fReprW [d]) = _
  rcases key with e | e
  · rw [e]
  · rw [e]
    exact if_pos ⟨h.ok, h.sh, h2, h3⟩
theorem Ok.rpS {k w : Nat} {d : D} (h : Ok k w d) (hk : k ≤ 20) (hw : w ≤ 10000000) : ∃ z, fRp [d] = some (.str z) ∧ z.cps.toList.length ≤ w ∧ ∀ c ∈ z.cps.toList, c < 128 := ⟨_, h.rp hk hw, h.ln, h.as⟩
end DL
namespace DL
open PySem PySem.Spec L2
/-- a list of texts, numbers, truth values or their tuples, beside an empty one -/
theorem fEq_lnil {xs : List D} (h : D.plL xs = true) : fEq (.lst xs) (.lst []) = some (.bl xs.isEmpty) := by
  have e : okEq (.lst xs) (.lst []) = true := by
    unfold okEq
    rw [Bool.and_eq_true, Bool.and_eq_true]
    refine ⟨⟨h, rfl⟩, decide_eq_true ?_⟩
    have : D.dep (.lst []) ≤ 60 := by decide
    omega
  show (match (if okEq (.lst xs) (.lst []) = true then some (D.bl (dEq (.lst xs) (.lst []))) else none) with | some d => some d | none => _) = _
  rw [if_pos e]
  cases xs <;> rfl
theorem fEqV_lnil (xs : List D) : fEqV (.lst xs) (.lst []) = some (.bl xs.isEmpty) := by
  show (match (match (if okEq (.lst xs) (.lst []) = true then some (D.bl (dEq (.lst xs) (.lst []))) else none) with | some d => some d | none => fEq0 false (.lst xs) (.lst [])) with | some d => some d | none => fEmp false (.lst xs) (.lst [])) = _
  by_cases e : okEq (.lst xs) (.lst []) = true
  · rw [if_pos e]
    cases xs <;> rfl
  · rw [if_neg e]
    cases xs <;> rfl
theorem fNeV_lnil (xs : List D) : fNeV (.lst xs) (.lst []) = some (.bl (!xs.isEmpty)) := by
  show (match (if okEq (.lst xs) (.lst []) = true then some (D.bl (!dEq (.lst xs) (.lst []))) else none) with | some d => some d | none => fEmp true (.lst xs) (.lst [])) = _
  by_cases e : okEq (.lst xs) (.lst []) = true
  · rw [if_pos e]
    cases xs <;> rfl
  · rw [if_neg e]
    cases xs <;> rfl
theorem fNeV_tnil (xs : List D) : fNeV (.tup xs) (.tup []) = some (.bl (!xs.isEmpty)) := by
  show (match (if okEq (.tup xs) (.tup []) = true then some (D.bl (!dEq (.tup xs) (.tup []))) else none) with | some d => some d | none => fEmp true (.tup xs) (.tup [])) = _
  by_cases e : okEq (.tup xs) (.tup []) = true
  · rw [if_pos e]
    cases xs <;> rfl
  · rw [if_neg e]
    cases xs <;> rfl
theorem filter_empty {α : Type} (p : α → Bool) (l : List α) : (l.filter fun x => !p x).isEmpty = l.all p := by
  induction l with
  | nil => rfl
  | cons x r ih =>
    cases h : p x <;> simp [List.filter_cons, h, ih]
theorem map_isEmpty {α β : Type} (f : α → β) (l : List α) : (l.map f).isEmpty = l.isEmpty := by cases l <;> rfl
end DL
namespace Lw
open PySem PySem.Spec L2 DL
/-- the things that are asked about -/
abbrev Th (d : D) : Prop := An 39 3 d
theorem Th.p {d : D} (h : Th d) : isP d = true := An.isP h
theorem Th.len {z : Str} (h : Th (.str z)) : fLen [.str z] = some (.int z.cps.size) := by
  have e : z.cps.toList.length = z.cps.size := Array.length_toList
  have := (An.str.mp h).1
  show (if z.length ≤ sizeLine then some (D.int z.length) else none) = _
  rw [if_pos (by show z.cps.size ≤ sizeLine; rw [sizeLine_eq]; omega)]
  rfl
theorem Th.items {xs : List D} (h : Th (.tup xs)) : xs.length ≤ 10 ∧ ∀ x ∈ xs, Th x := by
  obtain ⟨h1, h2⟩ := An.tup.mp h
  exact ⟨h1, fun x hx => (h2 x hx).mono (by decide) (by decide)⟩
def lowC (c : Nat) : Bool := decide (97 ≤ c ∧ c ≤ 122)
def wordB : D → Bool
  | .str z => decide (1 ≤ z.cps.size) && (decide (z.cps.size ≤ 8) && z.cps.toList.all lowC)
  | _ => false
theorem word_iff {z : Str} : wordB (.str z) = true ↔ WordOk z := by
  unfold wordB WordOk lowC
  simp only [Bool.and_eq_true, decide_eq_true_eq, List.all_eq_true]
theorem chain_sign (c : Nat) : (!sLt ⟨#[c]⟩ (Str.ofString "a") && !sLt (Str.ofString "z") ⟨#[c]⟩) = lowC c := by
  have e1 : (Str.ofString "a").cps.toList = [97] := by decide +kernel
  have e2 : (Str.ofString "z").cps.toList = [122] := by decide +kernel
  have a : sLt ⟨#[c]⟩ (Str.ofString "a") = decide (c < 97) := by
    simp only [sLt, e1]
    refine decide_eq_decide.mpr ?_
    show [c] < [97] ↔ _
    simp [List.cons_lt_cons_iff]
  have b : sLt (Str.ofString "z") ⟨#[c]⟩ = decide (122 < c) := by
    simp only [sLt, e2]
    refine decide_eq_decide.mpr ?_
    show [122] < [c] ↔ _
    simp [List.cons_lt_cons_iff]
  rw [a, b]
  unfold lowC
  by_cases h1 : c < 97 <;> by_cases h2 : 122 < c <;> simp [h1, h2] <;> omega
theorem signs_all {z : Str} (f : D → Bool) (g : Nat → Bool) (h : ∀ c, f (.str ⟨#[c]⟩) = g c) : (signs z).all f = z.cps.toList.all g := by
  unfold signs
  rw [List.all_map]
  have e : (f ∘ fun c => D.str ⟨#[c]⟩) = g := funext h
  rw [e]
theorem signs_len {z : Str} (h : z.cps.size ≤ 8) : (signs z).length ≤ sizeLine := by
  unfold signs
  rw [List.length_map, Array.length_toList, sizeLine_eq]
  omega
theorem is_word_b {x : D} (h : Th x) : m__is_word [x] = .ret (.bl (wordB x)) := by
  unfold m__is_word b__is_word
  cases e : isSt x with
  | false =>
    simp only [DL.runFn, DL.sRet, DL.sSet, DL.sSeq, DL.sIf, DL.sPass, DL.sRaise, DL.iAnd, DL.iOr, DL.iNot, DL.iIf, DL.asB, DL.notB, DL.andB, DL.orB, DL.iCall, DL.iBi, DL.iOp, DL.iChain, DL.iChain3, DL.iVar, DL.iUse, DL.iLit, DL.iTup, DL.iLst, DL.evs, DL.env0, DL.oNone, DL.oSome, DL.iSl, DL.M.ret_bind, DL.M.bind_ite, DL.M.stuck_bind, DL.M.exc_bind, DL.M.choose_bind, DL.M.ret_noX, List.map_cons, List.map_nil, List.length_cons, List.length_nil, List.cons_append, List.nil_append, List.getElem?_cons_zero, List.getElem?_cons_succ, Nat.reduceAdd, Nat.reduceSub, List.reduceReplicate, List.append_nil, List.replicate_zero, Bool.false_eq_true, if_false, if_true, List.set_cons_zero, List.set_cons_succ, Bool.not_true, Bool.not_false]
    rw [isi_str h.p, e]
    have : wordB x = false := by cases x <;> first | rfl | cases e
    rw [this]
    rfl
  | true =>
    cases x with
    | str z =>
      simp only [DL.runFn, DL.sRet, DL.sSet, DL.sSeq, DL.sIf, DL.sPass, DL.sRaise, DL.iAnd, DL.iOr, DL.iNot, DL.iIf, DL.asB, DL.notB, DL.andB, DL.orB, DL.iCall, DL.iBi, DL.iOp, DL.iChain, DL.iChain3, DL.iVar, DL.iUse, DL.iLit, DL.iTup, DL.iLst, DL.evs, DL.env0, DL.oNone, DL.oSome, DL.iSl, DL.M.ret_bind, DL.M.bind_ite, DL.M.stuck_bind, DL.M.exc_bind, DL.M.choose_bind, DL.M.ret_noX, List.map_cons, List.map_nil, List.length_cons, List.length_nil, List.cons_append, List.nil_append, List.getElem?_cons_zero, List.getElem?_cons_succ, Nat.reduceAdd, Nat.reduceSub, List.reduceReplicate, List.append_nil, List.replicate_zero, Bool.false_eq_true, if_false, if_true, List.set_cons_zero, List.set_cons_succ, Bool.not_true, Bool.not_false]
      rw [isi_str rfl, h.len]
      simp only [isSt, M.ret_bind, fLe_int, Bool.not_true, Bool.false_eq_true, if_false, wordB]
      by_cases h1 : 1 ≤ z.cps.size
      · by_cases h2 : z.cps.size ≤ 8
        · rw [decide_eq_true (show (1 : Int) ≤ (z.cps.size : Int) by omega), decide_eq_true (show ((z.cps.size : Nat) : Int) ≤ 8 by omega), decide_eq_true h1, decide_eq_true h2]
          simp only [if_true, M.ret_bind, Bool.not_true, Bool.false_eq_true, if_false, Bool.true_and]
          let f : D → Bool := fun d => match d with
            | .str y => !sLt y (Str.ofString "a") && !sLt (Str.ofString "z") y
            | _ => false
          rw [lc_all (ds := signs z) (e := fun d => .bl (f d)) rfl ?_ (signs_len h2)]
          · rw [M.ret_bind]
            simp only [M.ret_bind]
            rw [fAll_map, signs_all f lowC chain_sign]
            rfl
          · intro d hd
            unfold signs at hd
            obtain ⟨c, hc, rfl⟩ := List.mem_map.mp hd
            refine ⟨_, rfl, ?_⟩
            simp only [wipeE]
            simp only [DL.runFn, DL.sRet, DL.sSet, DL.sSeq, DL.sIf, DL.sPass, DL.sRaise, DL.iAnd, DL.iOr, DL.iNot, DL.iIf, DL.asB, DL.notB, DL.andB, DL.orB, DL.iCall, DL.iBi, DL.iOp, DL.iChain, DL.iChain3, DL.iVar, DL.iUse, DL.iLit, DL.iTup, DL.iLst, DL.evs, DL.env0, DL.oNone, DL.oSome, DL.iSl, DL.M.ret_bind, DL.M.bind_ite, DL.M.stuck_bind, DL.M.exc_bind, DL.M.choose_bind, DL.M.ret_noX, List.map_cons, List.map_nil, List.length_cons, List.length_nil, List.cons_append, List.nil_append, List.getElem?_cons_zero, List.getElem?_cons_succ, Nat.reduceAdd, Nat.reduceSub, List.reduceReplicate, List.append_nil, List.replicate_zero, Bool.false_eq_true, if_false, if_true, List.set_cons_zero, List.set_cons_succ, Bool.not_true, Bool.not_false]
            rw [fLe_str, fLe_str]
            simp only [f]
            cases sLt ⟨#[c]⟩ (Str.ofString "a") <;> rfl
        · rw [decide_eq_true (show (1 : Int) ≤ (z.cps.size : Int) by omega), decide_eq_false (show ¬ ((z.cps.size : Nat) : Int) ≤ 8 by omega), decide_eq_true h1, decide_eq_false h2]
          rfl
      · rw [decide_eq_false (show ¬ (1 : Int) ≤ (z.cps.size : Int) by omega), decide_eq_false h1]
        rfl
    | _ => cases e
theorem abc_mem (c : Nat) : decide (c ∈ abc) = lowC c := by
  unfold lowC
  refine decide_eq_decide.mpr ?_
  unfold abc
  rw [List.mem_map]
  constructor
  · rintro ⟨k, hk, rfl⟩
    have := List.mem_range.mp hk
    omega
  · intro h
    exact ⟨c - 97, List.mem_range.mpr (by omega), by omega⟩
theorem fNotIn_abc (c : Nat) : fNotIn (.str ⟨#[c]⟩) (.str (S abc)) = some (.bl (!lowC c)) := by
  show (match fIn true (.str ⟨#[c]⟩) (.str (S abc)) with | some d => some d | none => fInS true (.str ⟨#[c]⟩) (.str (S abc))) = _
  have e : fIn true (.str ⟨#[c]⟩) (.str (S abc)) = none := rfl
  rw [e]
  show (if (1 : Nat) = 1 then some (D.bl (if true = true then !decide (c ∈ abc) else decide (c ∈ abc))) else none) = _
  rw [if_pos rfl, if_pos rfl, abc_mem]
theorem is_name_b {x : D} (h : Th x) : m__law_is_name [x] = .ret (.bl (wordB x)) := by
  unfold m__law_is_name b__law_is_name
  rw [abc_eq]
  cases e : isSt x with
  | false =>
    simp only [DL.runFn, DL.sRet, DL.sSet, DL.sSeq, DL.sIf, DL.sPass, DL.sRaise, DL.iAnd, DL.iOr, DL.iNot, DL.iIf, DL.asB, DL.notB, DL.andB, DL.orB, DL.iCall, DL.iBi, DL.iOp, DL.iChain, DL.iChain3, DL.iVar, DL.iUse, DL.iLit, DL.iTup, DL.iLst, DL.evs, DL.env0, DL.oNone, DL.oSome, DL.iSl, DL.M.ret_bind, DL.M.bind_ite, DL.M.stuck_bind, DL.M.exc_bind, DL.M.choose_bind, DL.M.ret_noX, List.map_cons, List.map_nil, List.length_cons, List.length_nil, List.cons_append, List.nil_append, List.getElem?_cons_zero, List.getElem?_cons_succ, Nat.reduceAdd, Nat.reduceSub, List.reduceReplicate, List.append_nil, List.replicate_zero, Bool.false_eq_true, if_false, if_true, List.set_cons_zero, List.set_cons_succ, Bool.not_true, Bool.not_false]
    rw [isi_str h.p, e]
    have : wordB x = false := by cases x <;> first | rfl | cases e
    rw [this]
    rfl
  | true =>
    cases x with
    | str z =>
      simp only [DL.runFn, DL.sRet, DL.sSet, DL.sSeq, DL.sIf, DL.sPass, DL.sRaise, DL.iAnd, DL.iOr, DL.iNot, DL.iIf, DL.asB, DL.notB, DL.andB, DL.orB, DL.iCall, DL.iBi, DL.iOp, DL.iChain, DL.iChain3, DL.iVar, DL.iUse, DL.iLit, DL.iTup, DL.iLst, DL.evs, DL.env0, DL.oNone, DL.oSome, DL.iSl, DL.M.ret_bind, DL.M.bind_ite, DL.M.stuck_bind, DL.M.exc_bind, DL.M.choose_bind, DL.M.ret_noX, List.map_cons, List.map_nil, List.length_cons, List.length_nil, List.cons_append, List.nil_append, List.getElem?_cons_zero, List.getElem?_cons_succ, Nat.reduceAdd, Nat.reduceSub, List.reduceReplicate, List.append_nil, List.replicate_zero, Bool.false_eq_true, if_false, if_true, List.set_cons_zero, List.set_cons_succ, Bool.not_true, Bool.not_false]
      rw [isi_str rfl, h.len]
      simp only [isSt, M.ret_bind, fLe_int, Bool.not_true, Bool.false_eq_true, if_false, wordB]
      by_cases h1 : 1 ≤ z.cps.size
      · by_cases h2 : z.cps.size ≤ 8
        · rw [decide_eq_true (show (1 : Int) ≤ (z.cps.size : Int) by omega), decide_eq_true (show ((z.cps.size : Nat) : Int) ≤ 8 by omega), decide_eq_true h1, decide_eq_true h2]
          simp only [if_true, M.ret_bind, Bool.not_true, Bool.false_eq_true, if_false, Bool.true_and]
          let f : D → Bool := fun d => match d with
            | .str y => match y.cps.toList with
              | [c] => lowC c
              | _ => false
            | _ => false
          rw [lc_pure (ds := signs z) (p := fun d => !f d) (e := id) rfl ?_ (signs_len h2)]
          · rw [M.ret_bind]
            simp only [M.ret_bind, List.map_id]
            have pl : D.plL ((signs z).filter fun d => !f d) = true := by
              refine all_of (p := D.pl) (q := D.plL) rfl (fun _ _ => rfl) fun x hx => ?_
              have hx := (List.mem_filter.mp hx).1
              unfold signs at hx
              obtain ⟨c, hc, rfl⟩ := List.mem_map.mp hx
              rfl
            rw [if_pos (Nat.zero_le _)]
            rw [fEq_lnil pl, filter_empty, signs_all f lowC fun c => rfl]
            rfl
          · intro d hd
            unfold signs at hd
            obtain ⟨c, hc, rfl⟩ := List.mem_map.mp hd
            refine ⟨_, rfl, ?_, fun _ => rfl⟩
            simp only [wipeE]
            simp only [DL.runFn, DL.sRet, DL.sSet, DL.sSeq, DL.sIf, DL.sPass, DL.sRaise, DL.iAnd, DL.iOr, DL.iNot, DL.iIf, DL.asB, DL.notB, DL.andB, DL.orB, DL.iCall, DL.iBi, DL.iOp, DL.iChain, DL.iChain3, DL.iVar, DL.iUse, DL.iLit, DL.iTup, DL.iLst, DL.evs, DL.env0, DL.oNone, DL.oSome, DL.iSl, DL.M.ret_bind, DL.M.bind_ite, DL.M.stuck_bind, DL.M.exc_bind, DL.M.choose_bind, DL.M.ret_noX, List.map_cons, List.map_nil, List.length_cons, List.length_nil, List.cons_append, List.nil_append, List.getElem?_cons_zero, List.getElem?_cons_succ, Nat.reduceAdd, Nat.reduceSub, List.reduceReplicate, List.append_nil, List.replicate_zero, Bool.false_eq_true, if_false, if_true, List.set_cons_zero, List.set_cons_succ, Bool.not_true, Bool.not_false]
            rw [fNotIn_abc]
            rfl
        · rw [decide_eq_true (show (1 : Int) ≤ (z.cps.size : Int) by omega), decide_eq_false (show ¬ ((z.cps.size : Nat) : Int) ≤ 8 by omega), decide_eq_true h1, decide_eq_false h2]
          rfl
      · rw [decide_eq_false (show ¬ (1 : Int) ≤ (z.cps.size : Int) by omega), decide_eq_false h1]
        rfl
    | _ => cases e
end Lw
namespace DL
open PySem PySem.Spec L2
/-- a tuple of texts -/
abbrev pap (ys : List Str) : D := .tup (ys.map D.str)
theorem alike_strs : ∀ xs ys : List Str, PySem.W.alikeAll (D.pyL (xs.map D.str)) (D.pyL (ys.map D.str)) = true
  | [], ys => by simp only [List.map_nil, D.pyL, PySem.W.alikeAll]
  | x :: xs, [] => by simp only [List.map_nil, List.map_cons, D.pyL, PySem.W.alikeAll]
  | x :: xs, y :: ys => by
    simp only [List.map_cons, D.pyL, PySem.W.alikeAll, D.py, PySem.W.alike, Bool.true_and]
    exact alike_strs xs ys
theorem depL_strs : ∀ xs : List Str, D.depL (xs.map D.str) = 0
  | [] => by simp only [List.map_nil, D.depL]
  | x :: xs => by simp only [List.map_cons, D.depL, D.dep, depL_strs xs]; rfl
theorem dep_pap (xs : List Str) : (pap xs).dep = 1 := by simp only [D.dep, depL_strs]
theorem pl_pap (xs : List Str) : (pap xs).pl = true := by simp only [D.pl]; exact plL_str xs
theorem alike_pap (xs ys : List Str) : PySem.W.alike (pap xs).py (pap ys).py = true := by
  simp only [D.py, PySem.W.alike]
  exact alike_strs xs ys
theorem okLt_pap (xs ys : List Str) : okLt (pap xs) (pap ys) = true := by
  unfold okLt
  rw [pl_pap, pl_pap, alike_pap, dep_pap, dep_pap]
  rfl
theorem fLt_pap (xs ys : List Str) : fLt (pap xs) (pap ys) = some (.bl (dLt (pap xs) (pap ys))) := by
  show (if okLt (pap xs) (pap ys) = true then some (D.bl (dLt (pap xs) (pap ys))) else none) = _
  rw [if_pos (okLt_pap xs ys)]
theorem fLt_strD (x y : Str) : fLt (.str x) (.str y) = some (.bl (dLt (.str x) (.str y))) := rfl
def ltP : D → Bool
  | .pr [x, y] => dLt x y
  | _ => false
/-- each less than the next one -/
def riseB (ds : List D) : Bool := (zipD ds (ds.drop 1)).all ltP
theorem zip_len : ∀ {l m : List D}, (zipD l m).length ≤ l.length
  | [], _ => by simp [zipD]
  | _ :: _, [] => by simp [zipD]
  | x :: l, y :: m => by
    have := zip_len (l := l) (m := m)
    simpa [zipD] using this
theorem fNeD_same {s t : Str} (h : s = t) : fNeD (.str s) (.str t) = some (.bl false) := by
  subst h
  show (if okEq (.str s) (.str s) = true then some (D.bl (!dEq (.str s) (.str s))) else none) = _
  have e : okEq (.str s) (.str s) = true := rfl
  rw [if_pos e, dEq_str]
  simp
end DL
namespace Lw
open PySem PySem.Spec L2 DL
section
variable {ds : List D}
theorem asc_eq (hc : ∀ x ∈ ds, ∀ y ∈ ds, fLt x y = some (.bl (dLt x y))) (hl : ds.length ≤ 1000) : m_is_ascending [.tup ds] = .ret (.bl (riseB ds)) := by
  unfold m_is_ascending b_is_ascending
  simp only [DL.runFn, DL.sRet, DL.sSet, DL.sSeq, DL.sIf, DL.sPass, DL.sRaise, DL.iAnd, DL.iOr, DL.iNot, DL.iIf, DL.asB, DL.notB, DL.andB, DL.orB, DL.iCall, DL.iBi, DL.iOp, DL.iChain, DL.iChain3, DL.iVar, DL.iUse, DL.iLit, DL.iTup, DL.iLst, DL.evs, DL.env0, DL.oNone, DL.oSome, DL.iSl, DL.M.ret_bind, DL.M.bind_ite, DL.M.stuck_bind, DL.M.exc_bind, DL.M.choose_bind, DL.M.ret_noX, List.map_cons, List.map_nil, List.length_cons, List.length_nil, List.cons_append, List.nil_append, List.getElem?_cons_zero, List.getElem?_cons_succ, Nat.reduceAdd, Nat.reduceSub, List.reduceReplicate, List.append_nil, List.replicate_zero, Bool.false_eq_true, if_false, if_true, List.set_cons_zero, List.set_cons_succ, Bool.not_true, Bool.not_false]
  rw [lc_all (ds := zipD ds (ds.drop 1)) (e := fun d => .bl (ltP d)) ?_ ?_ ?_]
  · rw [M.ret_bind]
    simp only [M.ret_bind]
    rw [fAll_map]
    rfl
  · unfold iiZ
    simp only [DL.runFn, DL.sRet, DL.sSet, DL.sSeq, DL.sIf, DL.sPass, DL.sRaise, DL.iAnd, DL.iOr, DL.iNot, DL.iIf, DL.asB, DL.notB, DL.andB, DL.orB, DL.iCall, DL.iBi, DL.iOp, DL.iChain, DL.iChain3, DL.iVar, DL.iUse, DL.iLit, DL.iTup, DL.iLst, DL.evs, DL.env0, DL.oNone, DL.oSome, DL.iSl, DL.M.ret_bind, DL.M.bind_ite, DL.M.stuck_bind, DL.M.exc_bind, DL.M.choose_bind, DL.M.ret_noX, List.map_cons, List.map_nil, List.length_cons, List.length_nil, List.cons_append, List.nil_append, List.getElem?_cons_zero, List.getElem?_cons_succ, Nat.reduceAdd, Nat.reduceSub, List.reduceReplicate, List.append_nil, List.replicate_zero, Bool.false_eq_true, if_false, if_true, List.set_cons_zero, List.set_cons_succ, Bool.not_true, Bool.not_false]
    rw [slice1]
    rfl
  · intro d hd
    obtain ⟨n, hn⟩ := List.mem_iff_getElem?.mp hd
    obtain ⟨x, y, hx, hy, rfl⟩ := zipD_at hn
    refine ⟨_, rfl, ?_⟩
    simp only [wipeE, gN, gTs]
    simp only [DL.runFn, DL.sRet, DL.sSet, DL.sSeq, DL.sIf, DL.sPass, DL.sRaise, DL.iAnd, DL.iOr, DL.iNot, DL.iIf, DL.asB, DL.notB, DL.andB, DL.orB, DL.iCall, DL.iBi, DL.iOp, DL.iChain, DL.iChain3, DL.iVar, DL.iUse, DL.iLit, DL.iTup, DL.iLst, DL.evs, DL.env0, DL.oNone, DL.oSome, DL.iSl, DL.M.ret_bind, DL.M.bind_ite, DL.M.stuck_bind, DL.M.exc_bind, DL.M.choose_bind, DL.M.ret_noX, List.map_cons, List.map_nil, List.length_cons, List.length_nil, List.cons_append, List.nil_append, List.getElem?_cons_zero, List.getElem?_cons_succ, Nat.reduceAdd, Nat.reduceSub, List.reduceReplicate, List.append_nil, List.replicate_zero, Bool.false_eq_true, if_false, if_true, List.set_cons_zero, List.set_cons_succ, Bool.not_true, Bool.not_false]
    rw [hc x (List.mem_of_getElem? hx) y (List.mem_of_mem_drop (List.mem_of_getElem? hy))]
    rfl
  · have := zip_len (l := ds) (m := ds.drop 1)
    rw [sizeLine_eq]
    omega
theorem rising_eq (hc : ∀ x ∈ ds, ∀ y ∈ ds, fLt x y = some (.bl (dLt x y))) (hl : ds.length ≤ 1000) : m__law_are_rising [.tup ds] = .ret (.bl (riseB ds)) := by
  unfold m__law_are_rising b__law_are_rising
  simp only [DL.runFn, DL.sRet, DL.sSet, DL.sSeq, DL.sIf, DL.sPass, DL.sRaise, DL.iAnd, DL.iOr, DL.iNot, DL.iIf, DL.asB, DL.notB, DL.andB, DL.orB, DL.iCall, DL.iBi, DL.iOp, DL.iChain, DL.iChain3, DL.iVar, DL.iUse, DL.iLit, DL.iTup, DL.iLst, DL.evs, DL.env0, DL.oNone, DL.oSome, DL.iSl, DL.M.ret_bind, DL.M.bind_ite, DL.M.stuck_bind, DL.M.exc_bind, DL.M.choose_bind, DL.M.ret_noX, List.map_cons, List.map_nil, List.length_cons, List.length_nil, List.cons_append, List.nil_append, List.getElem?_cons_zero, List.getElem?_cons_succ, Nat.reduceAdd, Nat.reduceSub, List.reduceReplicate, List.append_nil, List.replicate_zero, Bool.false_eq_true, if_false, if_true, List.set_cons_zero, List.set_cons_succ, Bool.not_true, Bool.not_false]
  rw [lc_pure (ds := zipD ds (ds.drop 1)) (p := fun d => !ltP d) (e := fun d => .int 1) ?_ ?_ ?_]
  · rw [M.ret_bind, if_pos (Nat.zero_le _)]
    have pl : ∀ l : List D, D.plL (l.map fun _ => D.int 1) = true := fun l => by
      refine all_of (p := D.pl) (q := D.plL) rfl (fun _ _ => rfl) fun x hx => ?_
      obtain ⟨_, _, rfl⟩ := List.mem_map.mp hx
      rfl
    rw [fEq_lnil (pl _), map_isEmpty, filter_empty]
    rfl
  · unfold iiZ
    simp only [DL.runFn, DL.sRet, DL.sSet, DL.sSeq, DL.sIf, DL.sPass, DL.sRaise, DL.iAnd, DL.iOr, DL.iNot, DL.iIf, DL.asB, DL.notB, DL.andB, DL.orB, DL.iCall, DL.iBi, DL.iOp, DL.iChain, DL.iChain3, DL.iVar, DL.iUse, DL.iLit, DL.iTup, DL.iLst, DL.evs, DL.env0, DL.oNone, DL.oSome, DL.iSl, DL.M.ret_bind, DL.M.bind_ite, DL.M.stuck_bind, DL.M.exc_bind, DL.M.choose_bind, DL.M.ret_noX, List.map_cons, List.map_nil, List.length_cons, List.length_nil, List.cons_append, List.nil_append, List.getElem?_cons_zero, List.getElem?_cons_succ, Nat.reduceAdd, Nat.reduceSub, List.reduceReplicate, List.append_nil, List.replicate_zero, Bool.false_eq_true, if_false, if_true, List.set_cons_zero, List.set_cons_succ, Bool.not_true, Bool.not_false]
    rw [slice1]
    rfl
  · intro d hd
    obtain ⟨n, hn⟩ := List.mem_iff_getElem?.mp hd
    obtain ⟨x, y, hx, hy, rfl⟩ := zipD_at hn
    refine ⟨_, rfl, ?_, fun _ => rfl⟩
    simp only [wipeE, gN, gTs]
    simp only [DL.runFn, DL.sRet, DL.sSet, DL.sSeq, DL.sIf, DL.sPass, DL.sRaise, DL.iAnd, DL.iOr, DL.iNot, DL.iIf, DL.asB, DL.notB, DL.andB, DL.orB, DL.iCall, DL.iBi, DL.iOp, DL.iChain, DL.iChain3, DL.iVar, DL.iUse, DL.iLit, DL.iTup, DL.iLst, DL.evs, DL.env0, DL.oNone, DL.oSome, DL.iSl, DL.M.ret_bind, DL.M.bind_ite, DL.M.stuck_bind, DL.M.exc_bind, DL.M.choose_bind, DL.M.ret_noX, List.map_cons, List.map_nil, List.length_cons, List.length_nil, List.cons_append, List.nil_append, List.getElem?_cons_zero, List.getElem?_cons_succ, Nat.reduceAdd, Nat.reduceSub, List.reduceReplicate, List.append_nil, List.replicate_zero, Bool.false_eq_true, if_false, if_true, List.set_cons_zero, List.set_cons_succ, Bool.not_true, Bool.not_false]
    rw [hc x (List.mem_of_getElem? hx) y (List.mem_of_mem_drop (List.mem_of_getElem? hy))]
    rfl
  · have := zip_len (l := ds) (m := ds.drop 1)
    rw [sizeLine_eq]
    omega
end
/-! names -/
def namesB : D → Bool
  | .tup xs => decide (2 ≤ xs.length) && (decide (xs.length ≤ 4) && (xs.all wordB && riseB xs))
  | _ => false
theorem texts_of_words : ∀ {xs : List D}, xs.all wordB = true → ∃ zs : List Str, xs = zs.map D.str ∧ ∀ z ∈ zs, WordOk z
  | [], _ => ⟨[], rfl, fun z hz => by simp at hz⟩
  | x :: r, h => by
    rw [List.all_cons, Bool.and_eq_true] at h
    obtain ⟨zs, rfl, hz⟩ := texts_of_words h.2
    cases x with
    | str z =>
      refine ⟨z :: zs, rfl, fun y hy => ?_⟩
      rcases List.mem_cons.mp hy with rfl | hy
      · exact word_iff.mp h.1
      · exact hz y hy
    | _ => cases h.1
theorem lt_of_words {xs : List D} (h : xs.all wordB = true) : ∀ x ∈ xs, ∀ y ∈ xs, fLt x y = some (.bl (dLt x y)) := by
  obtain ⟨zs, rfl, _⟩ := texts_of_words h
  intro x hx y hy
  obtain ⟨a, _, rfl⟩ := List.mem_map.mp hx
  obtain ⟨b, _, rfl⟩ := List.mem_map.mp hy
  rfl
theorem are_names_b {x : D} (h : Th x) : m_are_names [x] = .ret (.bl (namesB x)) := by
  unfold m_are_names b_are_names
  simp only [DL.runFn, DL.sRet, DL.sSet, DL.sSeq, DL.sIf, DL.sPass, DL.sRaise, DL.iAnd, DL.iOr, DL.iNot, DL.iIf, DL.asB, DL.notB, DL.andB, DL.orB, DL.iCall, DL.iBi, DL.iOp, DL.iChain, DL.iChain3, DL.iVar, DL.iUse, DL.iLit, DL.iTup, DL.iLst, DL.evs, DL.env0, DL.oNone, DL.oSome, DL.iSl, DL.M.ret_bind, DL.M.bind_ite, DL.M.stuck_bind, DL.M.exc_bind, DL.M.choose_bind, DL.M.ret_noX, List.map_cons, List.map_nil, List.length_cons, List.length_nil, List.cons_append, List.nil_append, List.getElem?_cons_zero, List.getElem?_cons_succ, Nat.reduceAdd, Nat.reduceSub, List.reduceReplicate, List.append_nil, List.replicate_zero, Bool.false_eq_true, if_false, if_true, List.set_cons_zero, List.set_cons_succ, Bool.not_true, Bool.not_false]
  rw [isi_tup h.p]
  cases x with
  | tup xs =>
    obtain ⟨hl, hx⟩ := h.items
    simp only [isTu, M.ret_bind, fLen_tup, fLe_int, Bool.not_true, Bool.false_eq_true, if_false, namesB]
    by_cases h1 : 2 ≤ xs.length
    · by_cases h2 : xs.length ≤ 4
      · rw [decide_eq_true (show (2 : Int) ≤ (xs.length : Int) by omega), decide_eq_true (show ((xs.length : Nat) : Int) ≤ 4 by omega), decide_eq_true h1, decide_eq_true h2]
        simp only [if_true, M.ret_bind, Bool.not_true, Bool.false_eq_true, if_false, Bool.true_and]
        rw [lc_all (ds := xs) (e := fun d => .bl (wordB d)) rfl ?_ (by rw [sizeLine_eq]; omega)]
        · rw [M.ret_bind]
          simp only [M.ret_bind]
          rw [fAll_map]
          simp only [DL.runFn, DL.sRet, DL.sSet, DL.sSeq, DL.sIf, DL.sPass, DL.sRaise, DL.iAnd, DL.iOr, DL.iNot, DL.iIf, DL.asB, DL.notB, DL.andB, DL.orB, DL.iCall, DL.iBi, DL.iOp, DL.iChain, DL.iChain3, DL.iVar, DL.iUse, DL.iLit, DL.iTup, DL.iLst, DL.evs, DL.env0, DL.oNone, DL.oSome, DL.iSl, DL.M.ret_bind, DL.M.bind_ite, DL.M.stuck_bind, DL.M.exc_bind, DL.M.choose_bind, DL.M.ret_noX, List.map_cons, List.map_nil, List.length_cons, List.length_nil, List.cons_append, List.nil_append, List.getElem?_cons_zero, List.getElem?_cons_succ, Nat.reduceAdd, Nat.reduceSub, List.reduceReplicate, List.append_nil, List.replicate_zero, Bool.false_eq_true, if_false, if_true, List.set_cons_zero, List.set_cons_succ, Bool.not_true, Bool.not_false]
          cases hw : xs.all wordB with
          | false => rfl
          | true =>
            have hc := lt_of_words hw
            rw [asc_eq hc (by omega)]
            rfl
        · intro d hd
          refine ⟨_, rfl, ?_⟩
          simp only [wipeE]
          simp only [DL.runFn, DL.sRet, DL.sSet, DL.sSeq, DL.sIf, DL.sPass, DL.sRaise, DL.iAnd, DL.iOr, DL.iNot, DL.iIf, DL.asB, DL.notB, DL.andB, DL.orB, DL.iCall, DL.iBi, DL.iOp, DL.iChain, DL.iChain3, DL.iVar, DL.iUse, DL.iLit, DL.iTup, DL.iLst, DL.evs, DL.env0, DL.oNone, DL.oSome, DL.iSl, DL.M.ret_bind, DL.M.bind_ite, DL.M.stuck_bind, DL.M.exc_bind, DL.M.choose_bind, DL.M.ret_noX, List.map_cons, List.map_nil, List.length_cons, List.length_nil, List.cons_append, List.nil_append, List.getElem?_cons_zero, List.getElem?_cons_succ, Nat.reduceAdd, Nat.reduceSub, List.reduceReplicate, List.append_nil, List.replicate_zero, Bool.false_eq_true, if_false, if_true, List.set_cons_zero, List.set_cons_succ, Bool.not_true, Bool.not_false]
          exact is_word_b (hx d hd)
      · rw [decide_eq_true (show (2 : Int) ≤ (xs.length : Int) by omega), decide_eq_false (show ¬ ((xs.length : Nat) : Int) ≤ 4 by omega), decide_eq_true h1, decide_eq_false h2]
        rfl
    · rw [decide_eq_false (show ¬ (2 : Int) ≤ (xs.length : Int) by omega), decide_eq_false h1]
      rfl
  | _ => rfl
theorem need_names_b {x : D} (h : Th x) : m_need_names [x] = if namesB x = true then .ret x else .exc ⟨1, x⟩ := by
  unfold m_need_names b_need_names
  simp only [DL.runFn, DL.sRet, DL.sSet, DL.sSeq, DL.sIf, DL.sPass, DL.sRaise, DL.iAnd, DL.iOr, DL.iNot, DL.iIf, DL.asB, DL.notB, DL.andB, DL.orB, DL.iCall, DL.iBi, DL.iOp, DL.iChain, DL.iChain3, DL.iVar, DL.iUse, DL.iLit, DL.iTup, DL.iLst, DL.evs, DL.env0, DL.oNone, DL.oSome, DL.iSl, DL.M.ret_bind, DL.M.bind_ite, DL.M.stuck_bind, DL.M.exc_bind, DL.M.choose_bind, DL.M.ret_noX, List.map_cons, List.map_nil, List.length_cons, List.length_nil, List.cons_append, List.nil_append, List.getElem?_cons_zero, List.getElem?_cons_succ, Nat.reduceAdd, Nat.reduceSub, List.reduceReplicate, List.append_nil, List.replicate_zero, Bool.false_eq_true, if_false, if_true, List.set_cons_zero, List.set_cons_succ, Bool.not_true, Bool.not_false]
  rw [are_names_b h]
  cases namesB x <;> rfl
/-! what is told of a call -/
theorem told_ret (d : D) : m__law_told (.ret d) = .ret (.lst [d]) := rfl
theorem told_names {d : D} {z : Str} (h : fRp [d] = some (.str z)) : m__law_told (.exc ⟨1, d⟩) = .ret (.tup [.str (Str.ofString "names"), .str z]) := by
  have e : iTup [(iLit (.str (PySem.Str.ofString "names"))), (iBi fRp [(iErr (fun c => decide (c = 1)) 1)])] [none, some (.fz (.err 1 d))] = .ret (.tup [.str (Str.ofString "names"), .str z]) := by
    unfold DL.iTup DL.iBi
    simp only [evs, M.ret_bind, iLit]
    have e1 : iErr (fun c => decide (c = 1)) 1 [none, some (.fz (.err 1 d))] = .ret d := rfl
    rw [e1, M.ret_bind, M.ret_bind, h]
    simp only [M.ret_bind]
    exact if_pos (by show 2 ≤ sizeLine; rw [sizeLine_eq]; decide)
  have c1 : subX 1 1 = some true := by decide +kernel
  unfold m__law_told tBody sTryRet
  show ((clRun subX _ _ _).noX).bind _ = _
  unfold clRun
  simp only [c1]
  show ((((iTup [(iLit (.str (PySem.Str.ofString "names"))), (iBi fRp [(iErr (fun c => decide (c = 1)) 1)])] [none, some (.fz (.err 1 d))]).noX.bind _)).noX).bind _ = _
  rw [e]
  rfl
end Lw
namespace DL
open PySem PySem.Spec L2
theorem met_full : ∀ (n : Nat) (xs : List Str), xs.length = n → (PySem.DLS.met xs).length = n → xs.Nodup := fun n => by
  induction n with
  | zero => intro xs h _; rw [List.length_eq_zero_iff.mp h]; exact .nil
  | succ n ih =>
    intro xs h hm
    have h0 : xs ≠ [] := fun e => by rw [e] at h; cases h
    have e := List.dropLast_concat_getLast h0
    have hl : xs.dropLast.length = n := by rw [List.length_dropLast]; omega
    rw [← e, PySem.DLS.met_snoc] at hm
    have le := PySem.DLS.met_len n _ hl
    split at hm
    · omega
    · rename_i hn
      rw [List.length_append, List.length_singleton] at hm
      have nd := ih _ hl (by omega)
      rw [met_nodup nd] at hn
      rw [← e, List.nodup_append]
      refine ⟨nd, by simp, fun a ha b hb => ?_⟩
      rw [List.mem_singleton] at hb
      subst hb
      exact fun q => hn (by rw [List.any_eq_true]; exact ⟨a, ha, by simpa using q⟩)
theorem met_eq (zs : List Str) : decide (((PySem.DLS.met zs).length : Int) = (zs.length : Int)) = decide zs.Nodup := by
  refine decide_eq_decide.mpr ⟨fun h => met_full _ zs rfl (by omega), fun h => by rw [met_nodup h]⟩
theorem fLenT_met {zs : List Str} (hl : zs.length ≤ 1000) : fLenT (.tup (zs.map D.str)) = some (.int (PySem.DLS.met zs).length) := by
  show (strsD (zs.map D.str)).bind _ = _
  rw [strsD_str]
  exact if_pos hl
theorem nodup_take {α : Type} {l : List α} : l.Nodup ↔ ∀ (k : Nat) (h : k < l.length), l[k] ∉ l.take k := by
  unfold List.Nodup
  rw [List.pairwise_iff_getElem]
  constructor
  · intro h k hk hm
    obtain ⟨i, hi, e⟩ := List.mem_iff_getElem.mp hm
    rw [List.length_take] at hi
    rw [List.getElem_take] at e
    exact h i k (by omega) hk (by omega) e
  · intro h i j hi hj hij e
    refine h j hj (List.mem_iff_getElem.mpr ⟨i, by rw [List.length_take]; omega, ?_⟩)
    rw [List.getElem_take]
    exact e
theorem filter_rng {p : D → Bool} {n : Nat} : ((rngD 0 n).filter p).isEmpty = decide (∀ k, k < n → p (.int (k : Nat)) = false) := by
  have e : ∀ (l : List D), (l.filter p).isEmpty = decide (∀ d ∈ l, p d = false) := fun l => by
    cases h : (l.filter p).isEmpty with
    | true =>
      have := List.filter_eq_nil_iff.mp (List.isEmpty_iff.mp h)
      exact (decide_eq_true fun d hd => by simpa using this d hd).symm
    | false =>
      refine (decide_eq_false fun q => ?_).symm
      have : l.filter p = [] := List.filter_eq_nil_iff.mpr fun d hd => by rw [q d hd]; decide
      rw [this] at h
      cases h
  rw [e]
  refine decide_eq_decide.mpr ?_
  unfold rngD
  constructor
  · intro h k hk
    refine h _ (List.mem_map.mpr ⟨k, ?_, ?_⟩)
    · simpa using hk
    · simp
  · intro h d hd
    obtain ⟨k, hk, rfl⟩ := List.mem_map.mp hd
    have := h k (by simpa using hk)
    simpa using this
theorem sub_len {α : Type} [DecidableEq α] : ∀ {as bs : List α}, as.Nodup → (∀ a ∈ as, a ∈ bs) → as.length ≤ bs.length
  | [], _, _, _ => Nat.zero_le _
  | a :: as, bs, hn, hs => by
    have ha : a ∈ bs := hs a List.mem_cons_self
    have h2 : ∀ x ∈ as, x ∈ bs.erase a := fun x hx => by
      have hne : x ≠ a := fun e => (List.nodup_cons.mp hn).1 (e ▸ hx)
      exact (List.mem_erase_of_ne hne).mpr (hs x (List.mem_cons_of_mem _ hx))
    have := sub_len (List.nodup_cons.mp hn).2 h2
    rw [List.length_erase_of_mem ha] at this
    have : 0 < bs.length := List.length_pos_iff.mpr fun e => by rw [e] at ha; cases ha
    rw [List.length_cons]
    omega
end DL
namespace Lw
open PySem PySem.Spec L2 DL
def inB (zs : List Str) : D → Bool
  | .str z => decide (z ∈ zs)
  | _ => false
def nodB (xs : List D) : Bool := match strsD xs with
  | some ys => decide ys.Nodup
  | none => false
def paperB (zs : List Str) : D → Bool
  | .tup xs => !xs.isEmpty && (xs.all (inB zs) && nodB xs)
  | _ => false
theorem texts_of_in {zs : List Str} : ∀ {xs : List D}, xs.all (inB zs) = true → ∃ ys : List Str, xs = ys.map D.str ∧ ∀ y ∈ ys, y ∈ zs
  | [], _ => ⟨[], rfl, fun z hz => by simp at hz⟩
  | x :: r, h => by
    rw [List.all_cons, Bool.and_eq_true] at h
    obtain ⟨ys, rfl, hy⟩ := texts_of_in h.2
    cases x with
    | str z =>
      refine ⟨z :: ys, rfl, fun y hm => ?_⟩
      rcases List.mem_cons.mp hm with rfl | hm
      · exact of_decide_eq_true h.1
      · exact hy y hm
    | _ => cases h.1
theorem is_paper_b {zs : List Str} (hz : NamesOk zs) {x : D} (h : Th x) : m_is_paper [pap zs, x] = .ret (.bl (paperB zs x)) := by
  unfold m_is_paper b_is_paper
  simp only [DL.runFn, DL.sRet, DL.sSet, DL.sSeq, DL.sIf, DL.sPass, DL.sRaise, DL.iAnd, DL.iOr, DL.iNot, DL.iIf, DL.asB, DL.notB, DL.andB, DL.orB, DL.iCall, DL.iBi, DL.iOp, DL.iChain, DL.iChain3, DL.iVar, DL.iUse, DL.iLit, DL.iTup, DL.iLst, DL.evs, DL.env0, DL.oNone, DL.oSome, DL.iSl, DL.M.ret_bind, DL.M.bind_ite, DL.M.stuck_bind, DL.M.exc_bind, DL.M.choose_bind, DL.M.ret_noX, List.map_cons, List.map_nil, List.length_cons, List.length_nil, List.cons_append, List.nil_append, List.getElem?_cons_zero, List.getElem?_cons_succ, Nat.reduceAdd, Nat.reduceSub, List.reduceReplicate, List.append_nil, List.replicate_zero, Bool.false_eq_true, if_false, if_true, List.set_cons_zero, List.set_cons_succ, Bool.not_true, Bool.not_false]
  rw [isi_tup h.p]
  cases x with
  | tup xs =>
    obtain ⟨hl, hx⟩ := h.items
    simp only [isTu, M.ret_bind, fLen_tup, fLe_int, Bool.not_true, Bool.false_eq_true, if_false, paperB, List.length_map]
    by_cases h1 : 1 ≤ xs.length
    · have ne : xs.isEmpty = false := by cases xs with | nil => simp at h1 | cons _ _ => rfl
      rw [ne]
      by_cases h2 : xs.length ≤ zs.length
      · rw [decide_eq_true (show (1 : Int) ≤ (xs.length : Int) by omega), decide_eq_true (show ((xs.length : Nat) : Int) ≤ (zs.length : Int) by omega)]
        simp only [if_true, M.ret_bind, Bool.not_true, Bool.false_eq_true, if_false, Bool.true_and, Bool.not_false]
        rw [lc_all (ds := xs) (e := fun d => .bl (inB zs d)) rfl ?_ (by rw [sizeLine_eq]; omega)]
        · rw [M.ret_bind]
          simp only [M.ret_bind]
          rw [fAll_map]
          simp only [DL.runFn, DL.sRet, DL.sSet, DL.sSeq, DL.sIf, DL.sPass, DL.sRaise, DL.iAnd, DL.iOr, DL.iNot, DL.iIf, DL.asB, DL.notB, DL.andB, DL.orB, DL.iCall, DL.iBi, DL.iOp, DL.iChain, DL.iChain3, DL.iVar, DL.iUse, DL.iLit, DL.iTup, DL.iLst, DL.evs, DL.env0, DL.oNone, DL.oSome, DL.iSl, DL.M.ret_bind, DL.M.bind_ite, DL.M.stuck_bind, DL.M.exc_bind, DL.M.choose_bind, DL.M.ret_noX, List.map_cons, List.map_nil, List.length_cons, List.length_nil, List.cons_append, List.nil_append, List.getElem?_cons_zero, List.getElem?_cons_succ, Nat.reduceAdd, Nat.reduceSub, List.reduceReplicate, List.append_nil, List.replicate_zero, Bool.false_eq_true, if_false, if_true, List.set_cons_zero, List.set_cons_succ, Bool.not_true, Bool.not_false]
          cases hw : xs.all (inB zs) with
          | false => rfl
          | true =>
            obtain ⟨ys, rfl, hy⟩ := texts_of_in hw
            rw [List.length_map] at hl
            have e1 : iLenT (iVar 1) [some (.fz (pap zs)), some (.fz (.tup (ys.map D.str))), none] = .ret (.int (PySem.DLS.met ys).length) := by
              show (match fLenT (.tup (ys.map D.str)) with | some d => M.ret d | none => .stuck) = _
              rw [fLenT_met (by omega)]
            simp only [M.ret_bind, Bool.not_true, Bool.false_eq_true, if_false]
            rw [e1]
            rw [fLen_tup, M.ret_bind]
            simp only [M.ret_bind, fEq_int, List.length_map]
            rw [met_eq]
            unfold nodB
            rw [strsD_str]
            rfl
        · intro d hd
          refine ⟨_, rfl, ?_⟩
          simp only [wipeE]
          simp only [DL.runFn, DL.sRet, DL.sSet, DL.sSeq, DL.sIf, DL.sPass, DL.sRaise, DL.iAnd, DL.iOr, DL.iNot, DL.iIf, DL.asB, DL.notB, DL.andB, DL.orB, DL.iCall, DL.iBi, DL.iOp, DL.iChain, DL.iChain3, DL.iVar, DL.iUse, DL.iLit, DL.iTup, DL.iLst, DL.evs, DL.env0, DL.oNone, DL.oSome, DL.iSl, DL.M.ret_bind, DL.M.bind_ite, DL.M.stuck_bind, DL.M.exc_bind, DL.M.choose_bind, DL.M.ret_noX, List.map_cons, List.map_nil, List.length_cons, List.length_nil, List.cons_append, List.nil_append, List.getElem?_cons_zero, List.getElem?_cons_succ, Nat.reduceAdd, Nat.reduceSub, List.reduceReplicate, List.append_nil, List.replicate_zero, Bool.false_eq_true, if_false, if_true, List.set_cons_zero, List.set_cons_succ, Bool.not_true, Bool.not_false]
          rw [isi_str (hx d hd).p]
          cases d with
          | str z =>
            simp only [isSt, M.ret_bind, if_true, inB]
            rw [fInA_str]
          | _ => rfl
      · rw [decide_eq_true (show (1 : Int) ≤ (xs.length : Int) by omega), decide_eq_false (show ¬ ((xs.length : Nat) : Int) ≤ (zs.length : Int) by omega)]
        have : (xs.all (inB zs) && nodB xs) = false := by
          cases hw : xs.all (inB zs) with
          | false => rfl
          | true =>
            obtain ⟨ys, rfl, hy⟩ := texts_of_in hw
            unfold nodB
            rw [strsD_str]
            refine decide_eq_false fun hn => ?_
            have := sub_len hn hy
            rw [List.length_map] at h2
            omega
        rw [this]
        rfl
    · have : xs = [] := List.length_eq_zero_iff.mp (by omega)
      subst this
      rfl
  | _ => rfl
theorem fNotInY_b {zs : List Str} {x : D} (h : Th x) : fNotInY x (.lst (zs.map D.str)) = some (.bl (!inB zs x)) := by
  have a1 : ∀ l : List Str, (l.map D.str).any (txOf x) = inB l x := fun l => by
    induction l with
    | nil => cases x <;> simp [inB]
    | cons z l ih =>
      rw [List.map_cons, List.any_cons, ih]
      cases x with
      | str y =>
        show (decide (y = z) || decide (y ∈ l)) = decide (y ∈ z :: l)
        rw [← Bool.decide_or]
        exact decide_eq_decide.mpr List.mem_cons.symm
      | _ => rfl
  have a2 : x.pl = true → ∀ l : List Str, dIn x (l.map D.str) = inB l x := fun hp l => by
    induction l with
    | nil => cases x <;> rfl
    | cons z l ih =>
      have e : dIn x ((z :: l).map D.str) = (dEq (.str z) x || dIn x (l.map D.str)) := rfl
      rw [e, ih]
      cases x with
      | str y =>
        show (dEq (.str z) (.str y) || decide (y ∈ l)) = decide (y ∈ z :: l)
        rw [dEq_str, ← Bool.decide_or]
        exact decide_eq_decide.mpr ⟨fun h => List.mem_cons.mpr (h.imp Eq.symm id), fun h => (List.mem_cons.mp h).imp Eq.symm id⟩
      | non | bl _ | int _ => rfl
      | tup _ => simp only [dEq, D.py, PyData.eqv]; rfl
      | lst _ => simp only [dEq, D.py, PyData.eqv]; rfl
      | _ => cases hp
  have any : anyD x = true := by
    have := h.p
    cases x <;> first | rfl | cases this
  have all : (zs.map D.str).all isStr = true := by
    rw [List.all_map]
    exact List.all_eq_true.mpr fun _ _ => rfl
  show (match (match (match (if okIn x (zs.map D.str) = true then some (D.bl (if true = true then !dIn x (zs.map D.str) else dIn x (zs.map D.str))) else none) with | some d => some d | none => fInS true x (.lst (zs.map D.str))) with | some d => some d | none => fInT true x (.lst (zs.map D.str))) with | some d => some d | none => fInL true x (.lst (zs.map D.str))) = _
  by_cases ok : okIn x (zs.map D.str) = true
  · rw [if_pos ok]
    unfold okIn at ok
    simp only [Bool.and_eq_true] at ok
    rw [a2 ok.1.1]
    rfl
  · rw [if_neg ok]
    have e1 : fInS true x (.lst (zs.map D.str)) = none := by cases x <;> rfl
    have e2 : fInT true x (.lst (zs.map D.str)) = none := by cases x <;> rfl
    rw [e1, e2]
    show (if (anyD x && (zs.map D.str).all isStr) = true then some (D.bl (if true = true then !(zs.map D.str).any (txOf x) else (zs.map D.str).any (txOf x))) else none) = _
    rw [any, all, a1]
    rfl
def dupP (ys : List Str) : D → Bool
  | .int i => decide (ys.getD i.toNat Str.empty ∈ ys.take i.toNat)
  | _ => false
theorem dupP_at {ys : List Str} {k : Nat} (hk : k < ys.length) : dupP ys (.int (k : Nat)) = decide (ys[k] ∈ ys.take k) := by
  have eg : ys.getD k Str.empty = ys[k] := by
    rw [List.getD_eq_getElem?_getD, List.getElem?_eq_getElem hk]
    rfl
  have e : dupP ys (.int (k : Nat)) = decide (ys.getD ((k : Nat) : Int).toNat Str.empty ∈ ys.take ((k : Nat) : Int).toNat) := rfl
  rw [e, Int.toNat_natCast]
  exact decide_eq_decide.mpr (by rw [eg])
theorem dup_empty (ys : List Str) : ((rngD 0 ys.length).filter (dupP ys)).isEmpty = decide ys.Nodup := by
  rw [filter_rng]
  refine decide_eq_decide.mpr ?_
  rw [nodup_take]
  refine forall_congr' fun k => forall_congr' fun hk => ?_
  rw [dupP_at hk, decide_eq_false_iff_not]
theorem plL_rng (p : D → Bool) (n : Nat) : D.plL ((rngD 0 n).filter p) = true := by
  refine all_of (p := D.pl) (q := D.plL) rfl (fun _ _ => rfl) fun x hx => ?_
  have hx := (List.mem_filter.mp hx).1
  unfold rngD at hx
  obtain ⟨k, _, rfl⟩ := List.mem_map.mp hx
  rfl
theorem bi_ok {f : List D → Option D} {i : IE} {Γ : DL.Env} {a d : D} (h : i Γ = .ret a) (h2 : f [a] = some d) : iBi f [i] Γ = .ret d := by
  unfold iBi
  rw [evs_one h, M.ret_bind, h2]
theorem dup_lc {zs ys : List Str} (hl : ys.length ≤ 10) : iLc (gN 2) (iiR1 (iBi fLen [(iVar 1)])) (asB (iOp fInA (iOp fIx (iVar 1) (iVar 2)) (iSl fSl (iVar 1) oNone (oSome (iVar 2))))) (iVar 2) [2] [some (.fz (pap zs)), some (.fz (pap ys)), none, none] = .ret (.lst ((rngD 0 ys.length).filter (dupP ys))) := by
  have e1 : fLen [pap ys] = some (.int (ys.length : Nat)) := by rw [fLen_tup, List.length_map]
  rw [lc_pure (ds := rngD 0 ys.length) (p := dupP ys) (e := id) (rng_eq (n := ys.length) (by omega) (bi_ok (a := pap ys) rfl e1)) ?_ ?_]
  · rw [List.map_id]
  · intro d hd
    unfold rngD at hd
    obtain ⟨k, hk, rfl⟩ := List.mem_map.mp hd
    have hk : k < ys.length := by simpa using hk
    have ek : (0 : Int) + (k : Int) = (k : Nat) := by simp
    rw [ek]
    refine ⟨_, rfl, ?_, fun _ => rfl⟩
    simp only [wipeE]
    have o1 : iOp fIx (iVar 1) (iVar 2) [some (.fz (pap zs)), some (.fz (pap ys)), some (.fz (.int (k : Nat))), none] = .ret (.str ys[k]) := op_ok (a := pap ys) (b := .int (k : Nat)) rfl rfl (by rw [fIx_tup _ (by rw [List.length_map]; exact hk), List.getElem_map])
    have o2 : iSl fSl (iVar 1) oNone (oSome (iVar 2)) [some (.fz (pap zs)), some (.fz (pap ys)), some (.fz (.int (k : Nat))), none] = .ret (pap (ys.take k)) := by
      show (match fSl (pap ys) none (some (k : Int)) with | some d => M.ret d | none => .stuck) = _
      rw [fSl_ttake, ← List.map_take]
    have o3 := op_ok o1 o2 (fInA_str ys[k] (ys.take k))
    unfold asB
    show (iOp fInA (iOp fIx (iVar 1) (iVar 2)) (iSl fSl (iVar 1) oNone (oSome (iVar 2))) [some (.fz (pap zs)), some (.fz (pap ys)), some (.fz (.int (k : Nat))), none]).bind _ = _
    rw [o3, dupP_at hk]
    rfl
  · unfold rngD
    rw [List.length_map, List.length_range, sizeLine_eq]
    omega
theorem fn_guard {n : Nat} {c : IT} {i : IE} {ds : List D} {Γ : DL.Env} {b : Bool} {d : D} (e0 : env0 n ds = Γ) (hc : c Γ = .ret b) (hi : b = false → i Γ = .ret d) : runFn n (sSeq (sIf c (sRet (iLit (.bl false))) sPass) (sRet i)) ds = .ret (if b = true then .bl false else d) := by
  unfold runFn
  rw [e0]
  cases b with
  | true =>
    have e : DL.sSeq (DL.sIf c (DL.sRet (iLit (.bl false))) DL.sPass) (DL.sRet i) Γ = .ret (.rt (.bl false)) := by
      unfold DL.sSeq DL.sIf
      rw [hc]
      rfl
    rw [e]
    rfl
  | false =>
    rw [seq_nx (if_no hc)]
    unfold DL.sRet
    rw [hi rfl]
    rfl
theorem orB_ok {c d : IT} {Γ : DL.Env} {a b : Bool} (h : c Γ = .ret a) (h2 : a = false → d Γ = .ret b) : orB c d Γ = .ret (a || b) := by
  unfold orB
  rw [h, M.ret_bind]
  cases a with
  | true => rfl
  | false => exact h2 rfl
theorem notB_ok {c : IT} {Γ : DL.Env} {a : Bool} (h : c Γ = .ret a) : notB c Γ = .ret (!a) := by
  unfold notB
  rw [h, M.ret_bind]
theorem asB_ok {i : IE} {Γ : DL.Env} {a : Bool} (h : i Γ = .ret (.bl a)) : asB i Γ = .ret a := by
  unfold asB
  rw [h]
  rfl
theorem tup0 {Γ : DL.Env} : DL.iTup [] Γ = .ret (.tup []) := by
  unfold DL.iTup evs
  rw [M.ret_bind]
  exact if_pos (Nat.zero_le _)
theorem lst0 {Γ : DL.Env} : DL.iLst [] Γ = .ret (.lst []) := by
  unfold DL.iLst evs
  rw [M.ret_bind]
  exact if_pos (Nat.zero_le _)
theorem law_paper_b {zs : List Str} {x : D} (h : Th x) : m__law_is_paper [pap zs, x] = .ret (.bl (paperB zs x)) := by
  unfold m__law_is_paper b__law_is_paper
  have e0 : env0 4 [pap zs, x] = [some (.fz (pap zs)), some (.fz x), none, none] := rfl
  have t1 : asB (iBi fIsI [(iVar 1), (iLit (.ty "tuple"))]) [some (.fz (pap zs)), some (.fz x), none, none] = .ret (isTu x) := asIs (v := x) rfl (isi_tup h.p)
  cases x with
  | tup xs =>
    obtain ⟨hl, hx⟩ := h.items
    have t2 : asB (iOp fEqV (iVar 1) (iTup [])) [some (.fz (pap zs)), some (.fz (.tup xs)), none, none] = .ret xs.isEmpty := asB_ok (op_ok (a := .tup xs) rfl tup0 (fEqV_empty xs))
    have t3 : asB (iOp fNeV (iLc (gN 3) (iiA (iVar 1)) (asB (iOp fNotInY (iVar 3) (iBi fList [(iVar 0)]))) (iVar 3) [3]) (iLst [])) [some (.fz (pap zs)), some (.fz (.tup xs)), none, none] = .ret (!xs.all (inB zs)) := by
      refine asB_ok (op_ok (a := .lst (xs.filter fun d => !inB zs d)) ?_ lst0 (by rw [fNeV_lnil, filter_empty]))
      rw [lc_pure (ds := xs) (p := fun d => !inB zs d) (e := id) rfl ?_ (by rw [sizeLine_eq]; omega)]
      · rw [List.map_id]
      · intro d hd
        refine ⟨_, rfl, ?_, fun _ => rfl⟩
        simp only [wipeE]
        refine asB_ok (op_ok (a := d) (b := .lst (zs.map D.str)) rfl ?_ (fNotInY_b (hx d hd)))
        exact bi_ok (a := pap zs) rfl rfl
    rw [fn_guard (b := xs.isEmpty || !xs.all (inB zs)) (d := .bl (nodB xs)) e0 ?_ ?_]
    · have e : paperB zs (.tup xs) = (!xs.isEmpty && (xs.all (inB zs) && nodB xs)) := rfl
      rw [e]
      cases xs.isEmpty <;> cases xs.all (inB zs) <;> rfl
    · exact orB_ok (a := false) (notB_ok t1) fun _ => orB_ok t2 fun _ => t3
    · intro hb
      obtain ⟨ys, rfl, hy⟩ := texts_of_in (zs := zs) (xs := xs) (by
        cases q : xs.all (inB zs) with
        | true => rfl
        | false => rw [q] at hb; simp at hb)
      rw [List.length_map] at hl
      refine op_ok (dup_lc (by omega)) lst0 ?_
      rw [fEq_lnil (plL_rng _ _), dup_empty]
      unfold nodB
      rw [strsD_str]
  | _ =>
    rw [fn_guard (b := true) (d := .non) e0 (orB_ok (a := true) (b := true) (notB_ok t1) fun z => by cases z) fun z => by cases z]
    rfl
end Lw
namespace DL
open PySem PySem.Spec L2
/-- a loop that draws nothing -/
theorem loop_inv {t : IG} {s : IS} (ds : List D) (I : Nat → Env → Prop) (h : ∀ j d Γ, ds[j]? = some d → I j Γ → ∃ Γ1, t d Γ = .ret Γ1 ∧ ∃ Γ', s Γ1 = .ret (.nx Γ') ∧ I (j + 1) Γ') {Γ : Env} (h0 : I 0 Γ) : ∃ Γ', loop t s ds Γ = .ret (.nx Γ') ∧ I ds.length Γ' := by
  have go : ∀ (r : List D) (j : Nat) (Γ : Env), ds.drop j = r → j ≤ ds.length → I j Γ → ∃ Γ', DL.loop t s r Γ = .ret (.nx Γ') ∧ I ds.length Γ' := by
    intro r
    induction r with
    | nil =>
      intro j Γ e hj hI
      have : j = ds.length := by
        have := congrArg List.length e
        rw [List.length_drop] at this
        simp at this
        omega
      subst this
      exact ⟨Γ, rfl, hI⟩
    | cons d r ih =>
      intro j Γ e hj hI
      have hlt : j < ds.length := by
        have := congrArg List.length e
        rw [List.length_drop, List.length_cons] at this
        omega
      have ed : ds[j]? = some d := by
        rw [← List.head?_drop, e]; rfl
      have er : ds.drop (j + 1) = r := by
        rw [← List.tail_drop, e]; rfl
      obtain ⟨Γ1, e1, Γ', e2, hI'⟩ := h j d Γ ed hI
      obtain ⟨Γ2, e3, hI2⟩ := ih (j + 1) Γ' er hlt hI'
      refine ⟨Γ2, ?_, hI2⟩
      unfold DL.loop
      rw [e1, M.ret_bind, e2, M.ret_bind]
      exact e3
  exact go ds 0 Γ rfl (Nat.zero_le _) h0
theorem for_inv {t : IG} {it : II} {s : IS} {Γ : Env} {ds : List D} (hi : it Γ = .ret ds) (I : Nat → Env → Prop) (h0 : I 0 Γ) (h : ∀ j d Γ, ds[j]? = some d → I j Γ → ∃ Γ1, t d Γ = .ret Γ1 ∧ ∃ Γ', s Γ1 = .ret (.nx Γ') ∧ I (j + 1) Γ') : ∃ Γ', DL.sFor t it s Γ = .ret (.nx Γ') ∧ I ds.length Γ' := by
  unfold DL.sFor
  rw [hi, M.ret_bind]
  exact loop_inv ds I h h0
theorem lcRun2_pure {t t1 : IG} {it1 : II} {c1 : IT} {i : IE} {own vs1 : List Nat} {Γ : Env} {f : D → List D} : ∀ (ds acc : List D), (∀ d ∈ ds, ∃ Γ1 ds1, t d (wipeE Γ own) = .ret Γ1 ∧ it1 Γ1 = .ret ds1 ∧ (f d).length ≤ 10 ∧ ∀ acc : List D, acc.length + 10 ≤ sizeLine → lcRun t1 c1 i vs1 Γ1 acc ds1 = .ret (acc ++ f d)) →
    acc.length + 10 * ds.length ≤ sizeLine → lcRun2 t it1 t1 c1 i own vs1 Γ acc ds = .ret (acc ++ ds.flatMap f)
  | [], acc, _, _ => by simp [lcRun2]
  | d :: r, acc, h, hl => by
    obtain ⟨Γ1, ds1, e1, e2, e3, e4⟩ := h d List.mem_cons_self
    rw [List.length_cons] at hl
    unfold lcRun2
    rw [e1, M.ret_bind, e2, M.ret_bind, e4 acc (by omega), M.ret_bind, lcRun2_pure r _ (fun d hd => h d (List.mem_cons_of_mem _ hd)) (by rw [List.length_append]; omega), List.flatMap_cons, List.append_assoc]
theorem lc2_pure {t t1 : IG} {it it1 : II} {c1 : IT} {i : IE} {own vs1 : List Nat} {Γ : Env} {ds : List D} {f : D → List D} (hi : it Γ = .ret ds) (h : ∀ d ∈ ds, ∃ Γ1 ds1, t d (wipeE Γ own) = .ret Γ1 ∧ it1 Γ1 = .ret ds1 ∧ (f d).length ≤ 10 ∧ ∀ acc : List D, acc.length + 10 ≤ sizeLine → lcRun t1 c1 i vs1 Γ1 acc ds1 = .ret (acc ++ f d))
    (hl : 10 * ds.length ≤ sizeLine) : iLc2 t it it1 t1 c1 i own vs1 Γ = .ret (.lst (ds.flatMap f)) := by
  unfold iLc2
  rw [hi, M.ret_bind, lcRun2_pure ds [] h (by simpa using hl)]
  rfl
theorem fNotIn_pap (z : Str) (r : List Str) : fNotIn (.str z) (pap r) = some (.bl (decide (z ∉ r))) := by
  have e : okIn (.str z) (r.map D.str) = true := by
    unfold okIn
    rw [plL_str, depL_strs]
    rfl
  have e2 : dIn (.str z) (r.map D.str) = decide (z ∈ r) := by
    have h := fInA_str z r
    have q : fInA (.str z) (pap r) = some (.bl (dIn (.str z) (r.map D.str))) := by
      show (match (if okIn (.str z) (r.map D.str) = true then some (D.bl (dIn (.str z) (r.map D.str))) else none) with | some d => some d | none => fInS false (.str z) (pap r)) = _
      rw [if_pos e]
    rw [q] at h
    exact D.bl.inj (Option.some.inj h)
  show (match (if okIn (.str z) (r.map D.str) = true then some (D.bl (!dIn (.str z) (r.map D.str))) else none) with | some d => some d | none => fInS true (.str z) (pap r)) = _
  rw [if_pos e, e2]
  show some (D.bl (!decide (z ∈ r))) = some (D.bl (decide (¬ z ∈ r)))
  rw [decide_not]
theorem fAdd_pap (r : List Str) (z : Str) (h : r.length ≤ 1000) : fAdd (pap r) (.tup [.str z]) = some (pap (r ++ [z])) := by
  rw [fAdd_tup _ _ (by rw [List.length_map, List.length_singleton, sizeLine_eq]; omega)]
  show _ = some (D.tup ((r ++ [z]).map D.str))
  rw [List.map_append]
  rfl
/-! the rows of names -/
def moreK (zs r : List Str) : List (List Str) := (zs.filter fun z => decide (z ∉ r)).map fun z => r ++ [z]
def nextK (zs : List Str) (rows : List (List Str)) : List (List Str) := rows.flatMap (moreK zs)
def rowsK (zs : List Str) : Nat → List (List Str)
  | 0 => [[]]
  | k + 1 => nextK zs (rowsK zs k)
def foundK (zs : List Str) : Nat → List (List Str)
  | 0 => []
  | k + 1 => foundK zs k ++ rowsK zs (k + 1)
theorem flat_le {α β : Type} {f : α → List β} {m : Nat} : ∀ {l : List α}, (∀ x ∈ l, (f x).length ≤ m) → (l.flatMap f).length ≤ m * l.length
  | [], _ => by simp
  | x :: l, h => by
    rw [List.flatMap_cons, List.length_append, List.length_cons, Nat.mul_succ]
    have := h x List.mem_cons_self
    have := flat_le (l := l) fun y hy => h y (List.mem_cons_of_mem _ hy)
    omega
theorem more_len (zs r : List Str) : (moreK zs r).length ≤ zs.length := by
  unfold moreK
  rw [List.length_map]
  exact List.length_filter_le _ _
theorem rows_len {zs : List Str} (h : zs.length ≤ 4) : ∀ k, (rowsK zs k).length ≤ 4 ^ k
  | 0 => by simp [rowsK]
  | k + 1 => by
    have := flat_le (f := moreK zs) (m := 4) (l := rowsK zs k) fun r _ => Nat.le_trans (more_len zs r) h
    have ih := rows_len h k
    show (nextK zs (rowsK zs k)).length ≤ _
    unfold nextK
    rw [Nat.pow_succ]
    omega
theorem found_len {zs : List Str} (h : zs.length ≤ 4) : ∀ k, (foundK zs k).length ≤ 2 * 4 ^ k
  | 0 => by simp [foundK]
  | k + 1 => by
    have ih := found_len h k
    have := rows_len h (k + 1)
    show (foundK zs k ++ rowsK zs (k + 1)).length ≤ _
    rw [List.length_append]
    rw [Nat.pow_succ] at this ⊢
    omega
/-- a paper on names -/
structure PapOk (zs r : List Str) : Prop where
  one : 1 ≤ r.length
  four : r.length ≤ 4
  nod : r.Nodup
  sub : ∀ y ∈ r, y ∈ zs
theorem rows_mem {zs : List Str} : ∀ {k : Nat} {r : List Str}, r ∈ rowsK zs k → r.length = k ∧ r.Nodup ∧ ∀ y ∈ r, y ∈ zs
  | 0, r, h => by
    have : r = [] := by simpa [rowsK] using h
    subst this
    exact ⟨rfl, .nil, fun y hy => by cases hy⟩
  | k + 1, r, h => by
    obtain ⟨q, hq, h⟩ := List.mem_flatMap.mp (show r ∈ (rowsK zs k).flatMap (moreK zs) from h)
    obtain ⟨z, hz, rfl⟩ := List.mem_map.mp (show r ∈ (zs.filter fun z => decide (z ∉ q)).map fun z => q ++ [z] from h)
    obtain ⟨hz1, hz2⟩ := List.mem_filter.mp hz
    have hz2 : z ∉ q := of_decide_eq_true hz2
    obtain ⟨a, b, c⟩ := rows_mem hq
    refine ⟨by rw [List.length_append, a]; rfl, ?_, fun y hy => ?_⟩
    · rw [List.nodup_append]
      refine ⟨b, by simp, fun x hx y hy => ?_⟩
      rw [List.mem_singleton] at hy
      subst hy
      exact fun e => hz2 (e ▸ hx)
    · rcases List.mem_append.mp hy with hy | hy
      · exact c y hy
      · rw [List.mem_singleton] at hy
        exact hy ▸ hz1
theorem found_mem {zs : List Str} : ∀ {k : Nat} {r : List Str}, k ≤ 4 → r ∈ foundK zs k → PapOk zs r
  | 0, r, _, h => by cases h
  | k + 1, r, hk, h => by
    rcases List.mem_append.mp (show r ∈ foundK zs k ++ rowsK zs (k + 1) from h) with h | h
    · exact found_mem (by omega) h
    · obtain ⟨a, b, c⟩ := rows_mem h
      exact ⟨by omega, by omega, b, c⟩
theorem found_pos {zs : List Str} (h : zs ≠ []) : ∀ k, 0 < (foundK zs (k + 1)).length
  | 0 => by
    cases zs with
    | nil => exact absurd rfl h
    | cons z zs =>
      show 0 < ([] ++ nextK (z :: zs) [[]]).length
      simp [nextK, moreK]
  | k + 1 => by
    have := found_pos h k
    show 0 < (foundK zs (k + 1) ++ rowsK zs (k + 2)).length
    rw [List.length_append]
    omega
/-- all papers, in order -/
def KS (zs : List Str) : List (List Str) := isort (fun a b => dLe (pap a) (pap b)) (foundK zs zs.length)
theorem KS_perm (zs : List Str) : (KS zs).Perm (foundK zs zs.length) := isort_perm _
theorem sortD_pap (l : List (List Str)) : sortD (l.map pap) = (isort (fun a b => dLe (pap a) (pap b)) l).map pap := isort_map l
theorem okSort_pap {l : List (List Str)} (h : ∀ r ∈ l, 1 ≤ r.length) : okSort (l.map pap) = true := by
  have q : ∀ d ∈ l.map pap, ∃ r ∈ l, d = pap r := fun d hd => by
    obtain ⟨r, hr, rfl⟩ := List.mem_map.mp hd
    exact ⟨r, hr, rfl⟩
  unfold okSort
  rw [Bool.and_eq_true, Bool.and_eq_true, Bool.and_eq_true, Bool.or_eq_true]
  refine ⟨⟨⟨?_, List.all_eq_true.mpr fun x hx => List.all_eq_true.mpr fun y hy => ?_⟩, .inl (List.all_eq_true.mpr fun x hx => ?_)⟩, List.all_eq_true.mpr fun x hx => ?_⟩
  · refine all_of (p := D.pl) (q := D.plL) rfl (fun _ _ => rfl) fun x hx => ?_
    obtain ⟨r, _, rfl⟩ := q x hx
    exact pl_pap r
  · obtain ⟨r, _, rfl⟩ := q x hx
    obtain ⟨r', _, rfl⟩ := q y hy
    exact alike_pap r r'
  · obtain ⟨r, hr, rfl⟩ := q x hx
    have := h r hr
    cases r with
    | nil => simp at this
    | cons _ _ => rfl
  · obtain ⟨r, _, rfl⟩ := q x hx
    rw [dep_pap]
    rfl
theorem fSorted_pap {l : List (List Str)} (h : ∀ r ∈ l, 1 ≤ r.length) : fSorted [.lst (l.map pap)] = some (.lst ((isort (fun a b => dLe (pap a) (pap b)) l).map pap)) := by
  show (if okSort (l.map pap) = true then some (D.lst (sortD (l.map pap))) else none) = _
  rw [if_pos (okSort_pap h), sortD_pap]
end DL
namespace Lw
open PySem PySem.Spec L2 DL
section
variable {zs : List Str}
theorem KS_mem (h : zs.length ≤ 4) {r : List Str} (hr : r ∈ KS zs) : PapOk zs r := found_mem h ((KS_perm zs).mem_iff.mp hr)
theorem KS_len (h : zs.length ≤ 4) : (KS zs).length ≤ 512 := by
  rw [(KS_perm zs).length_eq]
  have := found_len h zs.length
  have : 4 ^ zs.length ≤ 4 ^ 4 := Nat.pow_le_pow_right (by decide) h
  omega
theorem KS_pos (h : zs ≠ []) : 0 < (KS zs).length := by
  rw [(KS_perm zs).length_eq]
  cases zs with
  | nil => exact absurd rfl h
  | cons z zs => exact found_pos h zs.length
/-- the inner comprehension -/
theorem more_run {zs r : List Str} {n m : Nat} {Γ : DL.Env} {own : List Nat} (hz : zs.length ≤ 4) (hr : r.length ≤ 100) (hw : ∀ d, iVar m ((wipeE Γ own).set n (some (.fz d))) = .ret (pap r)) (hn : ∀ d, iVar n ((wipeE Γ own).set n (some (.fz d))) = .ret d) (acc : List D) (hl : acc.length + 10 ≤ sizeLine) :
    lcRun (gN n) (asB (iOp fNotIn (iVar n) (iVar m))) (iOp fAdd (iVar m) (iTup [(iVar n)])) own Γ acc (zs.map D.str) = .ret (acc ++ (moreK zs r).map pap) := by
  rw [lcRun_pure (p := fun d => match d with | .str z => decide (z ∉ r) | _ => false) (e := fun d => match d with | .str z => pap (r ++ [z]) | _ => .non) (zs.map D.str) acc ?_ (by rw [List.length_map]; omega)]
  · unfold moreK
    rw [List.filter_map, List.map_map, List.map_map]
    rfl
  · intro d hd
    obtain ⟨z, _, rfl⟩ := List.mem_map.mp hd
    refine ⟨_, rfl, asB_ok (op_ok (hn _) (hw _) (fNotIn_pap z r)), fun _ => ?_⟩
    have e : iTup [(iVar n)] ((wipeE Γ own).set n (some (.fz (.str z)))) = .ret (.tup [.str z]) := by
      unfold DL.iTup
      rw [evs_one (hn _), M.ret_bind]
      exact if_pos (by show 1 ≤ sizeLine; rw [sizeLine_eq]; decide)
    exact op_ok (hw _) e (fAdd_pap r z (by omega))
theorem flat_pap {rows : List (List Str)} {f : D → List D} (h : ∀ r, f (pap r) = (moreK zs r).map pap) : (rows.map pap).flatMap f = (nextK zs rows).map pap := by
  unfold nextK
  induction rows with
  | nil => rfl
  | cons r rows ih =>
    rw [List.map_cons, List.flatMap_cons, ih, h, List.flatMap_cons, List.map_append]
abbrev envA (zs : List Str) (found rows : List (List Str)) (x : Option B) : DL.Env := [some (.fz (pap zs)), some (.ol (found.map pap)), some (.fz (.lst (rows.map pap))), x, none, none]
def pyMore (zs : List Str) : D → List D
  | .tup xs => match strsD xs with
    | some r => (moreK zs r).map pap
    | none => []
  | _ => []
theorem pyMore_pap (zs r : List Str) : pyMore zs (pap r) = (moreK zs r).map pap := by
  show (match strsD (r.map D.str) with | some r => (moreK zs r).map pap | none => []) = _
  rw [strsD_str]
theorem all_kinds_turn (hz : zs.length ≤ 4) {found rows : List (List Str)} {x : Option B} (hr : rows.length ≤ 1000) (hf : found.length ≤ 1000) (hm : ∀ r ∈ rows, r.length ≤ 100) :
    (sSeq (sSet 2 (iLc2 (gN 4) (iiA (iVar 2)) (iiA (iVar 0)) (gN 5) (asB (iOp fNotIn (iVar 5) (iVar 4))) (iOp fAdd (iVar 4) (iTup [(iVar 5)])) [4, 5] [5])) (sExt 1 (iVar 2))) (envA zs found rows x) = .ret (.nx (envA zs (found ++ nextK zs rows) (nextK zs rows) x)) := by
  have e1 : iLc2 (gN 4) (iiA (iVar 2)) (iiA (iVar 0)) (gN 5) (asB (iOp fNotIn (iVar 5) (iVar 4))) (iOp fAdd (iVar 4) (iTup [(iVar 5)])) [4, 5] [5] (envA zs found rows x) = .ret (.lst ((nextK zs rows).map pap)) := by
    rw [lc2_pure (ds := rows.map pap) (f := pyMore zs) rfl ?_ (by rw [List.length_map, sizeLine_eq]; omega)]
    · rw [flat_pap (pyMore_pap zs)]
    · intro d hd
      obtain ⟨r, hr, rfl⟩ := List.mem_map.mp hd
      refine ⟨[some (.fz (pap zs)), some (.ol (found.map pap)), some (.fz (.lst (rows.map pap))), x, some (.fz (pap r)), none], zs.map D.str, rfl, rfl, ?_, fun acc ha => ?_⟩
      · rw [pyMore_pap, List.length_map]
        have := more_len zs r
        omega
      · rw [pyMore_pap]
        exact more_run hz (hm r hr) (fun d => rfl) (fun d => rfl) acc ha
  have e2 : sSet 2 (iLc2 (gN 4) (iiA (iVar 2)) (iiA (iVar 0)) (gN 5) (asB (iOp fNotIn (iVar 5) (iVar 4))) (iOp fAdd (iVar 4) (iTup [(iVar 5)])) [4, 5] [5]) (envA zs found rows x) = .ret (.nx (envA zs found (nextK zs rows) x)) := by
    unfold DL.sSet
    rw [e1]
    rfl
  rw [seq_nx e2]
  have hs : (nextK zs rows).length ≤ 4 * rows.length := flat_le fun r _ => Nat.le_trans (more_len zs r) hz
  have e3 : ((found.map pap).length + ((nextK zs rows).map pap).length ≤ sizeLine) := by
    rw [List.length_map, List.length_map, sizeLine_eq]
    omega
  have e4 : sExt 1 (iVar 2) (envA zs found (nextK zs rows) x) = (if (found.map pap).length + ((nextK zs rows).map pap).length ≤ sizeLine then .ret (.nx (envA zs found (nextK zs rows) x |>.set 1 (some (.ol (found.map pap ++ (nextK zs rows).map pap))))) else .stuck) := rfl
  rw [e4, if_pos e3, ← List.map_append]
  rfl
end
end Lw
namespace Lw
open PySem PySem.Spec L2 DL
section
variable {zs : List Str}
theorem fTuple_lst (ds : List D) : fTuple [.lst ds] = some (.tup ds) := rfl
theorem ret_run {n : Nat} {s : IS} {ds : List D} {d : D} (h : s (env0 n ds) = .ret (.rt d)) : runFn n s ds = .ret d := by
  unfold runFn
  rw [h]
  rfl
theorem small_rows (hz : zs.length ≤ 4) {j : Nat} (hj : j ≤ 4) : (rowsK zs j).length ≤ 256 ∧ (foundK zs j).length ≤ 512 ∧ ∀ r ∈ rowsK zs j, r.length ≤ 100 := by
  have a := rows_len hz j
  have b := found_len hz j
  have c : 4 ^ j ≤ 4 ^ 4 := Nat.pow_le_pow_right (by decide) hj
  refine ⟨by omega, by omega, fun r hr => ?_⟩
  have := (rows_mem hr).1
  omega
theorem all_kinds_eq (hz : zs.length ≤ 4) : m_all_kinds [pap zs] = .ret (.tup ((KS zs).map pap)) := by
  unfold m_all_kinds b_all_kinds
  refine ret_run ?_
  have e0 : env0 6 [pap zs] = [some (.fz (pap zs)), none, none, none, none, none] := rfl
  have s1 : sOwn 1 (iLst []) [some (.fz (pap zs)), none, none, none, none, none] = .ret (.nx [some (.fz (pap zs)), some (.ol []), none, none, none, none]) := by
    unfold sOwn
    rw [lst0]
    rfl
  have one : iLst [(iTup [])] [some (.fz (pap zs)), some (.ol []), none, none, none, none] = .ret (.lst [.tup []]) := by
    unfold DL.iLst
    rw [evs_one tup0, M.ret_bind]
    exact if_pos (by show 1 ≤ sizeLine; rw [sizeLine_eq]; decide)
  have s2 : DL.sSet 2 (iLst [(iTup [])]) [some (.fz (pap zs)), some (.ol []), none, none, none, none] = .ret (.nx (envA zs (foundK zs 0) (rowsK zs 0) none)) := by
    unfold DL.sSet
    rw [one]
    rfl
  rw [e0, seq_nx s1, seq_nx s2]
  obtain ⟨Γ, e3, x, rfl⟩ := for_inv (t := gN 3) (it := iiA (iVar 0)) (Γ := envA zs (foundK zs 0) (rowsK zs 0) none) (ds := zs.map D.str)
    (s := (sSeq (sSet 2 (iLc2 (gN 4) (iiA (iVar 2)) (iiA (iVar 0)) (gN 5) (asB (iOp fNotIn (iVar 5) (iVar 4))) (iOp fAdd (iVar 4) (iTup [(iVar 5)])) [4, 5] [5])) (sExt 1 (iVar 2)))) rfl
    (fun j Γ => ∃ x, Γ = envA zs (foundK zs j) (rowsK zs j) x) ⟨none, rfl⟩ (fun j d Γ hd ⟨x, hx⟩ => by
      subst hx
      have hj : j < zs.length := by
        have := (List.getElem?_eq_some_iff.mp hd).1
        rwa [List.length_map] at this
      obtain ⟨h1, h2, h3⟩ := small_rows hz (j := j) (by omega)
      refine ⟨_, rfl, _, all_kinds_turn (x := some (.fz d)) hz (by omega) (by omega) h3, some (.fz d), rfl⟩)
  rw [seq_nx e3, List.length_map]
  unfold DL.sRet
  have hs := fSorted_pap (l := foundK zs zs.length) fun r hr => (found_mem hz hr).one
  rw [bi_ok (bi_ok (i := iUse 1) (Γ := envA zs (foundK zs zs.length) (rowsK zs zs.length) x) (a := .lst ((foundK zs zs.length).map pap)) rfl hs) (fTuple_lst _)]
  rfl
abbrev envK (zs : List Str) (found rows : List (List Str)) (k lg x y : Option B) : DL.Env := [some (.fz (pap zs)), some (.fz (.lst (found.map pap))), some (.fz (.lst (rows.map pap))), k, lg, x, y]
theorem take_next {rows : List (List Str)} {j : Nat} (h : j < rows.length) : nextK zs (rows.take (j + 1)) = nextK zs (rows.take j) ++ moreK zs rows[j] := by
  unfold nextK
  rw [List.take_succ_eq_append_getElem h, List.flatMap_append]
  simp
theorem longer_loop (hz : zs.length ≤ 4) {found rows : List (List Str)} {k x y : Option B} (hr : rows.length ≤ 1000) (hm : ∀ r ∈ rows, r.length ≤ 100) :
    ∃ x' y', sFor (gN 5) (iiA (iVar 2)) (sSet 4 (iOp fAdd (iVar 4) (iLc (gN 6) (iiA (iVar 0)) (asB (iOp fNotIn (iVar 6) (iVar 5))) (iOp fAdd (iVar 5) (iTup [(iVar 6)])) [6]))) (envK zs found rows k (some (.fz (.lst []))) x y) = .ret (.nx (envK zs found rows k (some (.fz (.lst ((nextK zs rows).map pap)))) x' y')) := by
  obtain ⟨Γ, e, x', y', rfl⟩ := for_inv (t := gN 5) (it := iiA (iVar 2)) (Γ := envK zs found rows k (some (.fz (.lst []))) x y) (ds := rows.map pap)
    (s := sSet 4 (iOp fAdd (iVar 4) (iLc (gN 6) (iiA (iVar 0)) (asB (iOp fNotIn (iVar 6) (iVar 5))) (iOp fAdd (iVar 5) (iTup [(iVar 6)])) [6]))) rfl
    (fun j Γ => ∃ x y, Γ = envK zs found rows k (some (.fz (.lst ((nextK zs (rows.take j)).map pap)))) x y) ⟨x, y, rfl⟩ (fun j d Γ hd ⟨x, y, hx⟩ => by
      subst hx
      have hj : j < rows.length := by
        have := (List.getElem?_eq_some_iff.mp hd).1
        rwa [List.length_map] at this
      have ed : d = pap rows[j] := by
        rw [List.getElem?_map, List.getElem?_eq_getElem hj] at hd
        exact (Option.some.inj hd).symm
      subst ed
      have mem : rows[j] ∈ rows := List.getElem_mem hj
      refine ⟨envK zs found rows k (some (.fz (.lst ((nextK zs (rows.take j)).map pap)))) (some (.fz (pap rows[j]))) y, rfl, envK zs found rows k (some (.fz (.lst ((nextK zs (rows.take (j + 1))).map pap)))) (some (.fz (pap rows[j]))) y, ?_, _, _, rfl⟩
      have e1 : iLc (gN 6) (iiA (iVar 0)) (asB (iOp fNotIn (iVar 6) (iVar 5))) (iOp fAdd (iVar 5) (iTup [(iVar 6)])) [6] (envK zs found rows k (some (.fz (.lst ((nextK zs (rows.take j)).map pap)))) (some (.fz (pap rows[j]))) y) = .ret (.lst ((moreK zs rows[j]).map pap)) := by
        unfold iLc
        have ei : iiA (iVar 0) (envK zs found rows k (some (.fz (.lst ((nextK zs (rows.take j)).map pap)))) (some (.fz (pap rows[j]))) y) = .ret (zs.map D.str) := rfl
        rw [ei, M.ret_bind, more_run hz (hm _ mem) (fun d => rfl) (fun d => rfl) [] (by rw [sizeLine_eq]; decide)]
        rfl
      have hs : (nextK zs (rows.take j)).length ≤ 4 * (rows.take j).length := flat_le fun r _ => Nat.le_trans (more_len zs r) hz
      have ht : (rows.take j).length ≤ rows.length := by rw [List.length_take]; omega
      have hq := more_len zs rows[j]
      have e2 : iOp fAdd (iVar 4) (iLc (gN 6) (iiA (iVar 0)) (asB (iOp fNotIn (iVar 6) (iVar 5))) (iOp fAdd (iVar 5) (iTup [(iVar 6)])) [6]) (envK zs found rows k (some (.fz (.lst ((nextK zs (rows.take j)).map pap)))) (some (.fz (pap rows[j]))) y) = .ret (.lst ((nextK zs (rows.take (j + 1))).map pap)) := by
        refine op_ok (a := .lst ((nextK zs (rows.take j)).map pap)) rfl e1 ?_
        rw [fAdd_lst _ _ (by rw [List.length_map, List.length_map, sizeLine_eq]; omega), take_next hj, List.map_append]
      unfold DL.sSet
      rw [e2]
      rfl)
  rw [List.length_map, List.take_length] at e
  exact ⟨x', y', e⟩
theorem kinds_turn (hz : zs.length ≤ 4) {found rows : List (List Str)} {k lg x y : Option B} (hf : found.length ≤ 1000) (hr : rows.length ≤ 1000) (hm : ∀ r ∈ rows, r.length ≤ 100) : ∃ lg' x' y',
    (sSeq (sSet 4 (iLst [])) (sSeq (sFor (gN 5) (iiA (iVar 2)) (sSet 4 (iOp fAdd (iVar 4) (iLc (gN 6) (iiA (iVar 0)) (asB (iOp fNotIn (iVar 6) (iVar 5))) (iOp fAdd (iVar 5) (iTup [(iVar 6)])) [6]))))
      (sPar 1 2 (iOp fAdd (iVar 1) (iVar 4)) (iVar 4)))) (envK zs found rows k lg x y) = .ret (.nx (envK zs (found ++ nextK zs rows) (nextK zs rows) k lg' x' y')) := by
  have s1 : DL.sSet 4 (iLst []) (envK zs found rows k lg x y) = .ret (.nx (envK zs found rows k (some (.fz (.lst []))) x y)) := by
    unfold DL.sSet
    rw [lst0]
    rfl
  obtain ⟨x', y', s2⟩ := longer_loop hz (found := found) (k := k) (x := x) (y := y) hr hm
  refine ⟨some (.fz (.lst ((nextK zs rows).map pap))), x', y', ?_⟩
  rw [seq_nx s1, seq_nx s2]
  have hs : (nextK zs rows).length ≤ 4 * rows.length := flat_le fun r _ => Nat.le_trans (more_len zs r) hz
  have e1 : iOp fAdd (iVar 1) (iVar 4) (envK zs found rows k (some (.fz (.lst ((nextK zs rows).map pap)))) x' y') = .ret (.lst ((found ++ nextK zs rows).map pap)) := by
    refine op_ok (a := .lst (found.map pap)) (b := .lst ((nextK zs rows).map pap)) rfl rfl ?_
    rw [fAdd_lst _ _ (by rw [List.length_map, List.length_map, sizeLine_eq]; omega), List.map_append]
  unfold sPar evs evs evs
  rw [e1]
  rfl
theorem law_kinds_eq (hz : zs.length ≤ 4) : m__law_kinds [pap zs] = .ret (.lst ((KS zs).map pap)) := by
  unfold m__law_kinds b__law_kinds
  refine ret_run ?_
  have e0 : env0 7 [pap zs] = [some (.fz (pap zs)), none, none, none, none, none, none] := rfl
  have one : iLst [(iTup [])] [some (.fz (pap zs)), none, none, none, none, none, none] = .ret (.lst [.tup []]) := by
    unfold DL.iLst
    rw [evs_one tup0, M.ret_bind]
    exact if_pos (by show 1 ≤ sizeLine; rw [sizeLine_eq]; decide)
  have s1 : sPar 1 2 (iLst []) (iLst [(iTup [])]) [some (.fz (pap zs)), none, none, none, none, none, none] = .ret (.nx (envK zs (foundK zs 0) (rowsK zs 0) none none none none)) := by
    unfold sPar evs
    rw [lst0, M.ret_bind, evs_one one]
    rfl
  rw [e0, seq_nx s1]
  have hl : iBi fLen [(iVar 0)] (envK zs (foundK zs 0) (rowsK zs 0) none none none none) = .ret (.int (zs.length : Nat)) := bi_ok (a := pap zs) rfl (by rw [fLen_tup, List.length_map])
  obtain ⟨Γ, e3, k, lg, x, y, rfl⟩ := for_inv (t := gN 3) (it := iiR1 (iBi fLen [(iVar 0)])) (Γ := envK zs (foundK zs 0) (rowsK zs 0) none none none none) (ds := rngD 0 zs.length)
    (s := (sSeq (sSet 4 (iLst [])) (sSeq (sFor (gN 5) (iiA (iVar 2)) (sSet 4 (iOp fAdd (iVar 4) (iLc (gN 6) (iiA (iVar 0)) (asB (iOp fNotIn (iVar 6) (iVar 5))) (iOp fAdd (iVar 5) (iTup [(iVar 6)])) [6]))))
      (sPar 1 2 (iOp fAdd (iVar 1) (iVar 4)) (iVar 4))))) (rng_eq (n := zs.length) (by omega) hl)
    (fun j Γ => ∃ k lg x y, Γ = envK zs (foundK zs j) (rowsK zs j) k lg x y) ⟨none, none, none, none, rfl⟩ (fun j d Γ hd ⟨k, lg, x, y, hx⟩ => by
      subst hx
      have hj : j < zs.length := by
        have := (List.getElem?_eq_some_iff.mp hd).1
        unfold rngD at this
        simpa using this
      obtain ⟨h1, h2, h3⟩ := small_rows hz (j := j) (by omega)
      obtain ⟨lg', x', y', e⟩ := kinds_turn hz (found := foundK zs j) (k := some (.fz d)) (lg := lg) (x := x) (y := y) (by omega) (by omega) h3
      exact ⟨envK zs (foundK zs j) (rowsK zs j) (some (.fz d)) lg x y, rfl, _, e, _, _, _, _, rfl⟩)
  have ln : (rngD 0 zs.length).length = zs.length := by unfold rngD; simp
  rw [seq_nx e3, ln]
  unfold DL.sRet
  have hs := fSorted_pap (l := foundK zs zs.length) fun r hr => (found_mem hz hr).one
  rw [bi_ok (i := iVar 1) (Γ := envK zs (foundK zs zs.length) (rowsK zs zs.length) k lg x y) (a := .lst ((foundK zs zs.length).map pap)) rfl hs]
  rfl
end
end Lw
namespace DL
open PySem PySem.Spec L2
theorem more_nodup {zs r : List Str} (h : zs.Nodup) : (moreK zs r).Nodup := by
  unfold moreK List.Nodup
  rw [List.pairwise_map]
  refine (List.Pairwise.filter _ h).imp fun {a b} n e => n ?_
  have := List.append_cancel_left e
  simpa using this
theorem next_nodup {zs : List Str} {rows : List (List Str)} (h : zs.Nodup) (hr : rows.Nodup) : (nextK zs rows).Nodup := by
  unfold nextK List.Nodup
  rw [List.pairwise_flatMap]
  refine ⟨fun r _ => more_nodup h, hr.imp fun {a b} n x hx y hy e => n ?_⟩
  unfold moreK at hx hy
  obtain ⟨u, _, rfl⟩ := List.mem_map.mp hx
  obtain ⟨v, _, rfl⟩ := List.mem_map.mp hy
  exact (List.append_inj' e rfl).1
theorem rows_nodup {zs : List Str} (h : zs.Nodup) : ∀ k, (rowsK zs k).Nodup
  | 0 => by simp [rowsK]
  | k + 1 => next_nodup h (rows_nodup h k)
theorem found_short {zs : List Str} : ∀ {k : Nat} {r : List Str}, r ∈ foundK zs k → r.length ≤ k
  | 0, r, h => by cases h
  | k + 1, r, h => by
    rcases List.mem_append.mp (show r ∈ foundK zs k ++ rowsK zs (k + 1) from h) with h | h
    · have := found_short h
      omega
    · have := (rows_mem h).1
      omega
theorem found_nodup {zs : List Str} (h : zs.Nodup) : ∀ k, (foundK zs k).Nodup
  | 0 => .nil
  | k + 1 => by
    show (foundK zs k ++ rowsK zs (k + 1)).Nodup
    rw [List.nodup_append]
    refine ⟨found_nodup h k, rows_nodup h _, fun a ha b hb e => ?_⟩
    have h1 := found_short ha
    have h2 := (rows_mem hb).1
    rw [e] at h1
    omega
theorem KS_nodup {zs : List Str} (h : zs.Nodup) : (KS zs).Nodup := (KS_perm zs).nodup_iff.mpr (found_nodup h _)
theorem eqvAll_strs : ∀ a b : List Str, PyData.eqvAll (D.pyL (a.map D.str)) (D.pyL (b.map D.str)) = decide (a = b)
  | [], [] => by simp [D.pyL, PyData.eqvAll]
  | x :: a, [] => by simp [D.pyL, PyData.eqvAll]
  | [], y :: b => by simp [D.pyL, PyData.eqvAll]
  | x :: a, y :: b => by
    simp only [List.map_cons, D.pyL, PyData.eqvAll, D.py, PyData.eqv, eqvAll_strs a b]
    by_cases h1 : x = y <;> by_cases h2 : a = b <;> simp [h1, h2]
theorem dEq_pap (a b : List Str) : dEq (pap a) (pap b) = decide (a = b) := by
  unfold dEq
  simp only [D.py, PyData.eqv]
  exact eqvAll_strs a b
theorem depL_paps : ∀ qs : List (List Str), D.depL (qs.map pap) ≤ 1
  | [] => by simp [D.depL]
  | q :: qs => by
    simp only [List.map_cons, D.depL]
    have := depL_paps qs
    rw [dep_pap]
    omega
theorem plL_paps : ∀ qs : List (List Str), D.plL (qs.map pap) = true
  | [] => rfl
  | q :: qs => by
    simp only [List.map_cons, D.plL]
    rw [pl_pap, plL_paps qs]
    rfl
theorem fInA_paps (r : List Str) (qs : List (List Str)) : fInA (pap r) (.lst (qs.map pap)) = some (.bl (decide (r ∈ qs))) := by
  have e : okIn (pap r) (qs.map pap) = true := by
    unfold okIn
    rw [pl_pap, plL_paps]
    refine decide_eq_true ?_
    have := dep_pap r
    omega
  have e2 : dIn (pap r) (qs.map pap) = decide (r ∈ qs) := by
    unfold dIn
    rw [List.any_map]
    clear e
    induction qs with
    | nil => simp
    | cons q qs ih =>
      rw [List.any_cons, ih]
      show (dEq (pap q) (pap r) || decide (r ∈ qs)) = _
      rw [dEq_pap, ← Bool.decide_or]
      exact decide_eq_decide.mpr ⟨fun h => h.elim (fun h => by rw [h]; exact List.mem_cons_self) (List.mem_cons_of_mem _), fun h => (List.mem_cons.mp h).elim (fun h => .inl h.symm) .inr⟩
  show (match (if okIn (pap r) (qs.map pap) = true then some (D.bl (dIn (pap r) (qs.map pap))) else none) with | some d => some d | none => fInS false (pap r) (.lst (qs.map pap))) = _
  rw [if_pos e, e2]
/-- a comprehension that draws -/
theorem Yl.lcRun {t : IG} {i : IE} {own : List Nat} {Γ : Env} {k : Nat} {P : D → Prop} : ∀ (ds acc : List D), (∀ d ∈ ds, ∃ Γ1, t d (wipeE Γ own) = .ret Γ1 ∧ Yl (i Γ1) k P) → (∀ x ∈ acc, P x) → acc.length + ds.length ≤ sizeLine →
    Yl (DL.lcRun t cYes i own Γ acc ds) (k * ds.length) fun r => r.length = acc.length + ds.length ∧ ∀ x ∈ r, P x
  | [], acc, _, ha, _ => by
    unfold DL.lcRun
    exact Yl.ret ⟨by simp, ha⟩
  | d :: r, acc, h, ha, hl => by
    obtain ⟨Γ1, e1, e2⟩ := h d List.mem_cons_self
    rw [List.length_cons] at hl
    unfold DL.lcRun
    rw [e1, M.ret_bind]
    have ec : cYes Γ1 = .ret true := rfl
    rw [ec, M.ret_bind, if_pos rfl, List.length_cons, Nat.mul_succ, Nat.add_comm]
    refine Yl.bind e2 fun x hx => ?_
    rw [if_pos (by omega)]
    refine (Yl.lcRun r (acc ++ [x]) (fun d hd => h d (List.mem_cons_of_mem _ hd)) (fun y hy => ?_) (by rw [List.length_append, List.length_singleton]; omega)).mono (Nat.le_refl _) fun q hq => ⟨?_, hq.2⟩
    · rcases List.mem_append.mp hy with hy | hy
      · exact ha y hy
      · rw [List.mem_singleton] at hy
        exact hy ▸ hx
    · rw [hq.1, List.length_append, List.length_singleton]
      omega
theorem Yl.lc {t : IG} {it : II} {i : IE} {own : List Nat} {Γ : Env} {k l n : Nat} {P : D → Prop} (hi : Yl (it Γ) l fun ds => ds.length ≤ n) (h : ∀ d, ∃ Γ1, t d (wipeE Γ own) = .ret Γ1 ∧ Yl (i Γ1) k P) (hn : n ≤ 1000) :
    Yl (iLc t it cYes i own Γ) (l + k * n) fun d => ∃ r, d = .lst r ∧ r.length ≤ n ∧ ∀ x ∈ r, P x := by
  unfold iLc
  refine Yl.bind hi fun ds hd => ?_
  have h1 := Yl.noX (Yl.lcRun (t := t) (own := own) (Γ := Γ) ds [] (fun d _ => h d) (fun x hx => by cases hx) (by rw [sizeLine_eq]; simp; omega))
  have h2 : Yl ((DL.lcRun t cYes i own Γ [] ds).noX.bind fun acc => M.ret (D.lst acc)) (k * ds.length + 0) fun d => ∃ r, d = D.lst r ∧ r.length ≤ n ∧ ∀ x ∈ r, P x := Yl.bind h1 fun r hr => Yl.ret ⟨r, rfl, by
    have := hr.1
    simp at this
    omega, hr.2⟩
  exact h2.mono (Nat.mul_le_mul_left _ hd) fun _ x => x
theorem paps_of : ∀ {xs : List D} {P : List Str → Prop}, (∀ x ∈ xs, ∃ r, x = pap r ∧ P r) → ∃ qs : List (List Str), xs = qs.map pap ∧ ∀ q ∈ qs, P q
  | [], _, _ => ⟨[], rfl, fun q hq => by cases hq⟩
  | x :: xs, P, h => by
    obtain ⟨r, rfl, hr⟩ := h x List.mem_cons_self
    obtain ⟨qs, rfl, hq⟩ := paps_of fun y hy => h y (List.mem_cons_of_mem _ hy)
    refine ⟨r :: qs, rfl, fun q hm => ?_⟩
    rcases List.mem_cons.mp hm with rfl | hm
    · exact hr
    · exact hq q hm
end DL
namespace Lw
open PySem PySem.Spec L2 DL
section
variable {zs : List Str}
/-- a drawn range -/
def PartD (zs : List Str) (d : D) : Prop := ∃ ps : List (List Str), d = .tup (ps.map pap) ∧ ps.length ≤ 5 ∧ ∀ p ∈ ps, PapOk zs p
abbrev envS (zs : List Str) (some_ : Option B) : DL.Env := [some (.fz .rnd), some (.fz (pap zs)), some (.fz (.int 5)), some (.fz (.lst ((KS zs).map pap))), some_, none, none]
theorem len_lst {ks : List D} {Γ : DL.Env} {n : Nat} (h : iVar n Γ = .ret (.lst ks)) : iBi fLen [(iVar n)] Γ = .ret (.int (ks.length : Nat)) := bi_ok h (fLen_lst ks)
/-- one of all papers, drawn -/
theorem one_kind (hz : NamesOk zs) {Γ : DL.Env} {n m : Nat} (hm : iVar m Γ = .ret .rnd) (hn : iVar n Γ = .ret (.lst ((KS zs).map pap))) : Yl (iOp fIx (iVar n) (iCall m__law_next [(iVar m), (iBi fLen [(iVar n)])]) Γ) 1 fun d => ∃ r, d = pap r ∧ r ∈ KS zs := by
  have hl := KS_len hz.four
  have hp : 0 < (KS zs).length := KS_pos fun e => by have := hz.two; rw [e] at this; simp at this
  have e : iCall m__law_next [(iVar m), (iBi fLen [(iVar n)])] Γ = m__law_next [.rnd, .int ((KS zs).length : Nat)] := call2 hm (by rw [len_lst hn, List.length_map])
  unfold iOp
  rw [hn, M.ret_bind, e]
  refine (Yl.bind (k := 1) (l := 0) (Yl_next hp (by omega)) fun d hd => ?_)
  obtain ⟨i, hi, rfl⟩ := hd
  rw [fIx_lst _ (i := i) (by rw [List.length_map]; exact hi), List.getElem_map]
  exact Yl.ret ⟨_, rfl, List.getElem_mem hi⟩
theorem law_some_kinds (hz : NamesOk zs) : Yl (m__law_some_kinds [.rnd, pap zs, .int 5]) 7 (PartD zs) := by
  unfold m__law_some_kinds b__law_some_kinds
  refine Yl.fn ?_
  have e0 : env0 7 [.rnd, pap zs, .int 5] = [some (.fz .rnd), some (.fz (pap zs)), some (.fz (.int 5)), none, none, none, none] := rfl
  have s1 : DL.sSet 3 (iCall (m__law_kinds) [(iVar 1)]) [some (.fz .rnd), some (.fz (pap zs)), some (.fz (.int 5)), none, none, none, none] = .ret (.nx (envS zs none)) := by
    unfold DL.sSet
    rw [call1 (a := pap zs) rfl, law_kinds_eq hz.four]
    rfl
  rw [e0, seq_nx s1]
  refine Yl.seq (k := 7) (l := 0) (I := fun Γ => ∃ qs : List (List Str), Γ = envS zs (some (.fz (.lst (qs.map pap)))) ∧ qs.length ≤ 5) ?_ ?_
  · unfold DL.sSet
    have h0 : ∀ d, ∃ Γ1, gN 5 d (wipeE (envS zs none) [5]) = .ret Γ1 ∧ Yl (iOp fIx (iVar 3) (iCall m__law_next [(iVar 0), (iBi fLen [(iVar 3)])]) Γ1) 1 fun d => ∃ r, d = pap r ∧ r ∈ KS zs := fun d =>
      ⟨[some (.fz .rnd), some (.fz (pap zs)), some (.fz (.int 5)), some (.fz (.lst ((KS zs).map pap))), none, some (.fz d), none], rfl, one_kind hz rfl rfl⟩
    refine (Yl.bind (k := 1 + 1 * 5) (l := 0) (Yl.lc (n := 5) (l := 1) (k := 1) (P := fun d => ∃ r, d = pap r ∧ r ∈ KS zs) ?_ h0 (by decide)) fun d hd => ?_).mono (by decide) fun _ x => x
    · refine (Yl.rng (n := 5) (by decide) (k := 1) ?_).mono (Nat.le_refl _) fun r ⟨j, e, hj⟩ => by
        rw [e]
        unfold rngD
        rw [List.length_map, List.length_range]
        have : j ≤ 5 := hj
        simp
        omega
      have e5 : iCall m__law_next [(iVar 0), (iVar 2)] (envS zs none) = m__law_next [.rnd, .int (5 : Nat)] := call2 rfl rfl
      unfold iOp
      have el : iLit (.int 1) (envS zs none) = .ret (.int 1) := rfl
      rw [el, M.ret_bind, e5]
      refine (Yl.bind (k := 1) (l := 0) (Yl_next (n := 5) (by decide) (by decide)) fun d hd => ?_)
      obtain ⟨i, hi, rfl⟩ := hd
      rw [fAdd_int]
      exact Yl.ret ⟨1 + i, by omega, by simp⟩
    · obtain ⟨r, rfl, hl, hr⟩ := hd
      obtain ⟨qs, rfl, hq⟩ := paps_of (P := fun r => r ∈ KS zs) hr
      rw [List.length_map] at hl
      exact Yl.ret ⟨_, rfl, qs, rfl, hl⟩
  · rintro Γ ⟨qs, rfl, hq⟩
    have e1 : iLc (gN 6) (iiA (iVar 3)) (asB (iOp fInA (iVar 6) (iVar 4))) (iVar 6) [6] (envS zs (some (.fz (.lst (qs.map pap))))) = .ret (.lst (((KS zs).filter fun r => decide (r ∈ qs)).map pap)) := by
      rw [lc_pure (ds := (KS zs).map pap) (p := fun d => match d with | .tup xs => (match strsD xs with | some r => decide (r ∈ qs) | none => false) | _ => false) (e := id) rfl ?_ (by
        have := KS_len hz.four
        rw [List.length_map, sizeLine_eq]; omega)]
      · rw [List.map_id, List.filter_map]
        have e : ((fun d => match d with | .tup xs => (match strsD xs with | some r => decide (r ∈ qs) | none => false) | _ => false) ∘ pap : List Str → Bool) = fun r => decide (r ∈ qs) := by
          funext r
          show (match strsD (r.map D.str) with | some r => decide (r ∈ qs) | none => false) = _
          rw [strsD_str]
        rw [e]
      · intro d hd
        obtain ⟨r, _, rfl⟩ := List.mem_map.mp hd
        refine ⟨_, rfl, ?_, fun _ => rfl⟩
        have := asB_ok (op_ok (i := iVar 6) (j := iVar 4) (Γ := (wipeE (envS zs (some (.fz (.lst (qs.map pap))))) [6]).set 6 (some (.fz (pap r)))) (a := pap r) (b := .lst (qs.map pap)) rfl rfl (fInA_paps r qs))
        rw [this]
        show _ = M.ret (match strsD (r.map D.str) with | some r => decide (r ∈ qs) | none => false)
        rw [strsD_str]
    refine Yl.of_eq (a := .rt (.tup (((KS zs).filter fun r => decide (r ∈ qs)).map pap))) ?_ ⟨_, rfl, _, rfl, ?_, fun p hp => KS_mem hz.four (List.mem_filter.mp hp).1⟩
    · unfold DL.sRet
      rw [bi_ok e1 (fTuple_lst _)]
      rfl
    · have := sub_len (as := (KS zs).filter fun r => decide (r ∈ qs)) (bs := qs) (List.Pairwise.filter _ (KS_nodup (asc_nodup hz.asc))) fun a ha => of_decide_eq_true (List.mem_filter.mp ha).2
      omega
end
end Lw
namespace DL
open PySem PySem.Spec L2
theorem and_ok {i j : IE} {Γ : Env} {a b : Bool} (h : i Γ = .ret (.bl a)) (h2 : a = true → j Γ = .ret (.bl b)) : iAnd i j Γ = .ret (.bl (a && b)) := by
  unfold iAnd asB
  rw [h]
  cases a with
  | true => exact h2 rfl
  | false => rfl
theorem if_ok {c : IT} {i j : IE} {Γ : Env} {a : Bool} {d : D} (h : c Γ = .ret a) (h1 : a = true → i Γ = .ret d) (h2 : a = false → j Γ = .ret d) : iIf c i j Γ = .ret d := by
  unfold iIf
  rw [h, M.ret_bind]
  cases a with
  | true => exact h1 rfl
  | false => exact h2 rfl
theorem set_ok {n : Nat} {i : IE} {Γ : Env} {d : D} (h : i Γ = .ret d) : DL.sSet n i Γ = .ret (.nx (Γ.set n (some (.fz d)))) := by
  unfold DL.sSet
  rw [h]
  rfl
theorem ret_ok {i : IE} {Γ : Env} {d : D} (h : i Γ = .ret d) : DL.sRet i Γ = .ret (.rt d) := by
  unfold DL.sRet
  rw [h]
  rfl
theorem if_yes {c : IT} {i : IE} {t : IS} {Γ : Env} {d : D} (h : c Γ = .ret true) (h2 : i Γ = .ret d) : DL.sSeq (DL.sIf c (DL.sRet i) DL.sPass) t Γ = .ret (.rt d) := by
  unfold DL.sSeq DL.sIf
  rw [h, M.ret_bind, if_pos rfl, ret_ok h2]
  rfl
end DL
namespace Lw
open PySem PySem.Spec L2 DL
theorem seq_no {c : IT} {i : IE} {t : IS} {Γ : DL.Env} (h : c Γ = .ret false) : DL.sSeq (DL.sIf c (DL.sRet i) DL.sPass) t Γ = t Γ := by rw [seq_nx (if_no h)]
section
variable {zs : List Str}
def rangeB (zs : List Str) : D → Bool
  | .tup xs => !xs.isEmpty && (xs.all (paperB zs) && riseB xs)
  | _ => false
theorem pap_of {d : D} (h : paperB zs d = true) : ∃ r : List Str, d = pap r := by
  cases d with
  | tup xs =>
    have h : (!xs.isEmpty && (xs.all (inB zs) && nodB xs)) = true := h
    rw [Bool.and_eq_true, Bool.and_eq_true] at h
    obtain ⟨ys, rfl, _⟩ := texts_of_in h.2.1
    exact ⟨ys, rfl⟩
  | _ => cases h
theorem lt_of_papers {xs : List D} (h : xs.all (paperB zs) = true) : ∀ x ∈ xs, ∀ y ∈ xs, fLt x y = some (.bl (dLt x y)) := by
  intro x hx y hy
  obtain ⟨a, rfl⟩ := pap_of (List.all_eq_true.mp h x hx)
  obtain ⟨b, rfl⟩ := pap_of (List.all_eq_true.mp h y hy)
  exact fLt_pap a b
theorem is_range_b (hz : NamesOk zs) {x : D} (h : Th x) : m__is_range [pap zs, x] = .ret (.bl (rangeB zs x)) := by
  unfold m__is_range b__is_range
  have e0 : env0 3 [pap zs, x] = [some (.fz (pap zs)), some (.fz x), none] := rfl
  have t1 : asB (iBi fIsI [(iVar 1), (iLit (.ty "tuple"))]) [some (.fz (pap zs)), some (.fz x), none] = .ret (isTu x) := asIs (v := x) rfl (isi_tup h.p)
  cases x with
  | tup xs =>
    obtain ⟨hl, hx⟩ := h.items
    have t2 : asB (iOp fEq (iBi fLen [(iVar 1)]) (iLit (.int 0))) [some (.fz (pap zs)), some (.fz (.tup xs)), none] = .ret xs.isEmpty := by
      refine asB_ok (op_ok (a := .int (xs.length : Nat)) (b := .int 0) (bi_ok (a := .tup xs) rfl (fLen_tup xs)) rfl ?_)
      rw [fEq_int]
      cases xs with
      | nil => rfl
      | cons y ys =>
        have : decide (((y :: ys).length : Int) = 0) = false := decide_eq_false (by rw [List.length_cons]; omega)
        rw [this]
        rfl
    rw [fn_guard (b := xs.isEmpty) (d := .bl (xs.all (paperB zs) && riseB xs)) e0 ?_ ?_]
    · have e : rangeB zs (.tup xs) = (!xs.isEmpty && (xs.all (paperB zs) && riseB xs)) := rfl
      rw [e]
      cases xs.isEmpty <;> rfl
    · exact orB_ok (a := false) (notB_ok t1) fun _ => t2
    · intro _
      refine and_ok ?_ fun hp => ?_
      · refine bi_ok (a := .lst (xs.map fun d => .bl (paperB zs d))) ?_ (fAll_map _ _)
        rw [lc_all (ds := xs) (e := fun d => .bl (paperB zs d)) rfl ?_ (by rw [sizeLine_eq]; omega)]
        intro d hd
        refine ⟨[some (.fz (pap zs)), some (.fz (.tup xs)), some (.fz d)], rfl, ?_⟩
        rw [call2 (a := pap zs) (b := d) rfl rfl]
        exact is_paper_b hz (hx d hd)
      · rw [call1 (a := .tup xs) rfl]
        exact asc_eq (lt_of_papers hp) (by omega)
  | _ =>
    rw [fn_guard (b := true) (d := .non) e0 (orB_ok (a := true) (b := true) (notB_ok t1) fun z => by cases z) fun z => by cases z]
    rfl
theorem names_of (hz : NamesOk zs) : namesB (pap zs) = true := by
  have e : namesB (pap zs) = (decide (2 ≤ (zs.map D.str).length) && (decide ((zs.map D.str).length ≤ 4) && ((zs.map D.str).all wordB && riseB (zs.map D.str)))) := rfl
  have w : (zs.map D.str).all wordB = true := by
    rw [List.all_map, List.all_eq_true]
    exact fun z h => word_iff.mpr (hz.word z h)
  have go : ∀ l : List Str, (l.Pairwise fun x y => sLt x y = true) → riseB (l.map D.str) = true := by
    intro l
    induction l with
    | nil => intro _; rfl
    | cons x l ih =>
      intro h
      cases l with
      | nil => rfl
      | cons y r =>
        have h2 := ih (List.Pairwise.of_cons h)
        have e : riseB ((x :: y :: r).map D.str) = (dLt (.str x) (.str y) && riseB ((y :: r).map D.str)) := by
          simp [riseB, zipD, ltP]
        rw [e, h2, dLt_str, (List.pairwise_cons.mp h).1 y List.mem_cons_self]
        rfl
  rw [e, w, go zs hz.asc, List.length_map, decide_eq_true hz.two, decide_eq_true hz.four]
  rfl
theorem need_kinds_b (hz : NamesOk zs) (hn : Th (pap zs)) {x : D} (h : Th x) : m_need_kinds [pap zs, x] = if rangeB zs x = true then .ret x else .exc ⟨2, x⟩ := by
  unfold m_need_kinds b_need_kinds runFn
  have e0 : env0 2 [pap zs, x] = [some (.fz (pap zs)), some (.fz x)] := rfl
  have s1 : sExpr (iCall (m_need_names) [(iVar 0)]) [some (.fz (pap zs)), some (.fz x)] = .ret (.nx [some (.fz (pap zs)), some (.fz x)]) := by
    unfold sExpr
    rw [call1 (a := pap zs) rfl, need_names_b hn, names_of hz, if_pos rfl]
    rfl
  have c1 : notB (asB (iCall (m__is_range) [(iVar 0), (iVar 1)])) [some (.fz (pap zs)), some (.fz x)] = .ret (!rangeB zs x) := notB_ok (asB_ok (by rw [call2 (a := pap zs) (b := x) rfl rfl]; exact is_range_b hz h))
  rw [e0, seq_nx s1]
  cases hb : rangeB zs x with
  | true =>
    rw [hb] at c1
    rw [seq_nx (if_no c1), ret_ok (d := x) rfl]
    rfl
  | false =>
    rw [hb] at c1
    have e : DL.sSeq (DL.sIf (notB (asB (iCall (m__is_range) [(iVar 0), (iVar 1)]))) (sRaise 2 (iVar 1)) DL.sPass) (DL.sRet (iVar 1)) [some (.fz (pap zs)), some (.fz x)] = .exc ⟨2, x⟩ := by
      unfold DL.sSeq DL.sIf
      rw [c1]
      rfl
    rw [e]
    rfl
theorem need_kinds_no {d x : D} (hd : Th d) (h : namesB d = false) : m_need_kinds [d, x] = .exc ⟨1, d⟩ := by
  unfold m_need_kinds b_need_kinds runFn
  have e0 : env0 2 [d, x] = [some (.fz d), some (.fz x)] := rfl
  have s1 : sExpr (iCall (m_need_names) [(iVar 0)]) [some (.fz d), some (.fz x)] = .exc ⟨1, d⟩ := by
    unfold sExpr
    rw [call1 (a := d) rfl, need_names_b hd, h, if_neg (by decide)]
    rfl
  rw [e0]
  unfold DL.sSeq
  rw [s1]
  rfl
theorem told_kinds {d : D} {z : Str} (h : fRp [d] = some (.str z)) : m__law_told (.exc ⟨2, d⟩) = .ret (.tup [.str (Str.ofString "kinds"), .str z]) := by
  have e : iTup [(iLit (.str (PySem.Str.ofString "kinds"))), (iBi fRp [(iErr (fun c => decide (c = 2)) 1)])] [none, some (.fz (.err 2 d))] = .ret (.tup [.str (Str.ofString "kinds"), .str z]) := by
    unfold DL.iTup DL.iBi
    simp only [evs, M.ret_bind, iLit]
    have e1 : iErr (fun c => decide (c = 2)) 1 [none, some (.fz (.err 2 d))] = .ret d := rfl
    rw [e1, M.ret_bind, M.ret_bind, h]
    simp only [M.ret_bind]
    exact if_pos (by show 2 ≤ sizeLine; rw [sizeLine_eq]; decide)
  have c2 : subX 2 1 = some false := by decide +kernel
  have c1 : subX 2 2 = some true := by decide +kernel
  unfold m__law_told tBody sTryRet
  show ((clRun subX _ _ _).noX).bind _ = _
  unfold clRun
  simp only [c2]
  unfold clRun
  simp only [c1]
  show ((((iTup [(iLit (.str (PySem.Str.ofString "kinds"))), (iBi fRp [(iErr (fun c => decide (c = 2)) 1)])] [none, some (.fz (.err 2 d))]).noX.bind _)).noX).bind _ = _
  rw [e]
  rfl
/-! moves -/
def moveD (r : List Str) (z : Str) : D := if z ∈ r then (if r.idxOf z = 0 then .non else pap (r.take (r.idxOf z - 1) ++ [z, r.getD (r.idxOf z - 1) Str.empty] ++ r.drop (r.idxOf z + 1))) else pap (r ++ [z])
abbrev envM (r : List Str) (z : Str) (a : Option B) : DL.Env := [some (.fz (pap r)), some (.fz (.str z)), a]
theorem one_tup {i : IE} {Γ : DL.Env} {d : D} (h : i Γ = .ret d) : DL.iTup [i] Γ = .ret (.tup [d]) := by
  unfold DL.iTup
  rw [evs_one h, M.ret_bind]
  exact if_pos (by show 1 ≤ sizeLine; rw [sizeLine_eq]; decide)
theorem sub_int {n : Nat} (h : 1 ≤ n) : fSubI (.int (n : Nat)) (.int 1) = some (.int ((n - 1 : Nat) : Int)) := by
  rw [fSubI_int]
  congr 2
  omega
theorem add_int (n : Nat) : fAdd (.int (n : Nat)) (.int 1) = some (.int ((n + 1 : Nat) : Int)) := by
  rw [fAdd_int]
  rfl
theorem drop_eq {r : List Str} {k : Nat} : fSl (pap r) (some (k : Int)) none = some (pap (r.drop k)) := by
  rw [fSl_tdrop, ← List.map_drop]
theorem take_eq {r : List Str} {k : Nat} : fSl (pap r) none (some (k : Int)) = some (pap (r.take k)) := by
  rw [fSl_ttake, ← List.map_take]
theorem add_pap {a b : List Str} (h : a.length + b.length ≤ 1000) : fAdd (pap a) (pap b) = some (pap (a ++ b)) := by
  rw [fAdd_tup _ _ (by rw [List.length_map, List.length_map, sizeLine_eq]; omega)]
  show some (D.tup (a.map D.str ++ b.map D.str)) = some (D.tup ((a ++ b).map D.str))
  rw [List.map_append]
def mvTail : IE := (iOp fAdd (iOp fAdd (iSl fSl (iVar 0) oNone (oSome (iOp fSubI (iVar 2) (iLit (.int 1))))) (iTup [(iVar 1), (iOp fIx (iVar 0) (iOp fSubI (iVar 2) (iLit (.int 1))))])) (iSl fSl (iVar 0) (oSome (iOp fAdd (iVar 2) (iLit (.int 1)))) oNone))
theorem mv_tail {r : List Str} {z : Str} (hl : r.length ≤ 10) (hm : z ∈ r) (h0 : r.idxOf z ≠ 0) : mvTail (envM r z (some (.fz (.int (r.idxOf z : Nat))))) = .ret (pap (r.take (r.idxOf z - 1) ++ [z, r.getD (r.idxOf z - 1) Str.empty] ++ r.drop (r.idxOf z + 1))) := by
  have hi : r.idxOf z < r.length := List.findIdx_lt_length_of_exists ⟨z, hm, beq_self_eq_true z⟩
  generalize r.idxOf z = n at hi h0
  have s : iOp fSubI (iVar 2) (iLit (.int 1)) (envM r z (some (.fz (.int (n : Nat))))) = .ret (.int ((n - 1 : Nat) : Int)) := op_ok (a := .int (n : Nat)) (b := .int 1) rfl rfl (sub_int (by omega))
  have a : iOp fAdd (iVar 2) (iLit (.int 1)) (envM r z (some (.fz (.int (n : Nat))))) = .ret (.int ((n + 1 : Nat) : Int)) := op_ok (a := .int (n : Nat)) (b := .int 1) rfl rfl (add_int n)
  have h1 : iSl fSl (iVar 0) oNone (oSome (iOp fSubI (iVar 2) (iLit (.int 1)))) (envM r z (some (.fz (.int (n : Nat))))) = .ret (pap (r.take (n - 1))) := by
    unfold iSl oSome oNone
    rw [s]
    show (match fSl (pap r) none (some ((n - 1 : Nat) : Int)) with | some d => M.ret d | none => .stuck) = _
    rw [take_eq]
  have h3 : iSl fSl (iVar 0) (oSome (iOp fAdd (iVar 2) (iLit (.int 1)))) oNone (envM r z (some (.fz (.int (n : Nat))))) = .ret (pap (r.drop (n + 1))) := by
    unfold iSl oSome oNone
    rw [a]
    show (match fSl (pap r) (some ((n + 1 : Nat) : Int)) none with | some d => M.ret d | none => .stuck) = _
    rw [drop_eq]
  have ix : iOp fIx (iVar 0) (iOp fSubI (iVar 2) (iLit (.int 1))) (envM r z (some (.fz (.int (n : Nat))))) = .ret (.str (r.getD (n - 1) Str.empty)) := by
    refine op_ok (a := pap r) rfl s ?_
    rw [fIx_tup _ (by rw [List.length_map]; omega), List.getElem_map, List.getD_eq_getElem?_getD, List.getElem?_eq_getElem (by omega)]
    rfl
  have h2 : iTup [(iVar 1), (iOp fIx (iVar 0) (iOp fSubI (iVar 2) (iLit (.int 1))))] (envM r z (some (.fz (.int (n : Nat))))) = .ret (pap [z, r.getD (n - 1) Str.empty]) := tup2 (a := .str z) rfl ix
  unfold mvTail
  have l1 : (r.take (n - 1)).length ≤ r.length := by rw [List.length_take]; omega
  have l2 : (r.drop (n + 1)).length ≤ r.length := by rw [List.length_drop]; omega
  refine op_ok (op_ok h1 h2 (add_pap (by show _ + 2 ≤ 1000; omega))) h3 (add_pap ?_)
  rw [List.length_append]
  show _ + 2 + _ ≤ 1000
  omega
theorem mv_new {r : List Str} {z : Str} (hl : r.length ≤ 10) : iOp fAdd (iVar 0) (iTup [(iVar 1)]) (envM r z none) = .ret (pap (r ++ [z])) := op_ok (a := pap r) rfl (one_tup (d := .str z) rfl) (fAdd_pap r z (by omega))
theorem mv_at {r : List Str} {z : Str} (hm : z ∈ r) : iIdx (iVar 0) (iVar 1) (envM r z none) = .ret (.int (r.idxOf z : Nat)) := by
  have e : fIdx (pap r) (.str z) = some (.int (r.idxOf z : Nat)) := by
    show (strsD (r.map D.str)).bind _ = _
    rw [strsD_str, Option.bind_some, if_pos hm]
  show (match fIdx (pap r) (.str z) with | some d => M.ret d | none => .stuck) = _
  rw [e]
theorem mv_zero {r : List Str} {z : Str} {n : Nat} : asB (iOp fEq (iVar 2) (iLit (.int 0))) (envM r z (some (.fz (.int (n : Nat))))) = .ret (decide (n = 0)) := by
  refine asB_ok (op_ok (a := .int (n : Nat)) (b := .int 0) rfl rfl ?_)
  rw [fEq_int]
  congr 2
  exact decide_eq_decide.mpr (by omega)
theorem raised_eq {r : List Str} {z : Str} (hl : r.length ≤ 10) : m_raised [pap r, .str z] = .ret (moveD r z) := by
  unfold m_raised b_raised
  refine ret_run ?_
  have e0 : env0 3 [pap r, .str z] = envM r z none := rfl
  have c1 : asB (iOp fNotIn (iVar 1) (iVar 0)) (envM r z none) = .ret (decide (z ∉ r)) := asB_ok (op_ok (a := .str z) (b := pap r) rfl rfl (fNotIn_pap z r))
  rw [e0]
  unfold moveD
  by_cases hm : z ∈ r
  · rw [decide_eq_false (by simpa using hm)] at c1
    rw [if_pos hm, seq_no c1, seq_nx (set_ok (mv_at hm))]
    have e1 : (envM r z none).set 2 (some (.fz (.int (r.idxOf z : Nat)))) = envM r z (some (.fz (.int (r.idxOf z : Nat)))) := rfl
    rw [e1]
    by_cases h0 : r.idxOf z = 0
    · rw [if_pos h0, if_yes (d := .non) (by rw [mv_zero, decide_eq_true h0]) rfl]
    · rw [if_neg h0, seq_no (by rw [mv_zero, decide_eq_false h0])]
      exact ret_ok (mv_tail hl hm h0)
  · rw [decide_eq_true hm] at c1
    rw [if_neg hm, if_yes c1 (mv_new hl)]
theorem move_eq {r : List Str} {z : Str} (hl : r.length ≤ 10) : m__law_move [pap r, .str z] = .ret (moveD r z) := by
  unfold m__law_move b__law_move
  refine ret_run ?_
  have e0 : env0 3 [pap r, .str z] = envM r z none := rfl
  have c1 : asB (iOp fNotIn (iVar 1) (iVar 0)) (envM r z none) = .ret (decide (z ∉ r)) := asB_ok (op_ok (a := .str z) (b := pap r) rfl rfl (fNotIn_pap z r))
  rw [e0]
  unfold moveD
  by_cases hm : z ∈ r
  · rw [decide_eq_false (by simpa using hm)] at c1
    rw [if_pos hm, seq_no c1, seq_nx (set_ok (mv_at hm))]
    have e1 : (envM r z none).set 2 (some (.fz (.int (r.idxOf z : Nat)))) = envM r z (some (.fz (.int (r.idxOf z : Nat)))) := rfl
    rw [e1]
    refine ret_ok (if_ok mv_zero (fun h => ?_) fun h => ?_)
    · rw [if_pos (of_decide_eq_true h)]
      rfl
    · rw [if_neg (of_decide_eq_false h)]
      exact mv_tail hl hm (of_decide_eq_false h)
  · rw [decide_eq_true hm] at c1
    rw [if_neg hm, if_yes c1 (mv_new hl)]
end
end Lw
namespace DL
open PySem PySem.Spec L2
/-! how long a repr is -/
def lenA (w : Nat) : Nat → Nat
  | 0 => 4 * w + 44
  | k + 1 => (8 + k) * (lenA w k + 2) + 3
theorem lenA_0 (w k : Nat) : 4 * w + 44 ≤ lenA w k := by
  induction k with
  | zero => exact Nat.le_refl _
  | succ k ih =>
    show _ ≤ (8 + k) * (lenA w k + 2) + 3
    have : 1 * (lenA w k + 2) ≤ (8 + k) * (lenA w k + 2) := Nat.mul_le_mul_right _ (by omega)
    omega
theorem Ok.of_an {w : Nat} (hw : w ≤ 1000000) : ∀ (k : Nat) (d : D), An w k d → Ok (k + 1) (lenA w k) d := by
  have small : ∀ (k : Nat) (d : D), An w k d → (∀ xs, d ≠ .tup xs) → (∀ xs, d ≠ .lst xs) → Ok 1 (4 * w + 44) d := by
    intro k d h n1 n2
    cases d with
    | non => exact Ok.non.mono (by omega) (by omega)
    | bl b => exact (Ok.bl b).mono (by omega) (by omega)
    | int i =>
      have h := An.int.mp h
      refine (Ok.int (i := i) ?_).mono (by omega) (by omega)
      have : (10 : Nat) ^ 31 = 10 * 10 ^ 30 := by decide
      have : 1000000 < (10 : Nat) ^ 30 := by decide
      omega
    | str s =>
      have h := An.str.mp h
      exact (Ok.str (n := w) (fun c hc => Nat.lt_trans (safe_lt (h.2 c hc)).1 (by decide)) h.1).mono (by omega) (by omega)
    | tup xs => exact absurd rfl (n1 xs)
    | lst xs => exact absurd rfl (n2 xs)
    | dct t kvs =>
      have e : kvs.isEmpty = true := by cases k <;> exact h
      have : kvs = [] := List.isEmpty_iff.mp e
      subst this
      exact (Ok.dct t).mono (by omega) (by omega)
    | _ => cases k <;> cases h
  intro k
  induction k with
  | zero =>
    intro d h
    cases d with
    | tup xs =>
      have : xs = [] := by simpa [An, anB] using h
      subst this
      exact (Ok.tup (k := 0) (w := 0) (n := 0) (xs := []) (fun x hx => by cases hx) (Nat.le_refl _)).mono (by omega) (by unfold lenA; omega)
    | lst xs =>
      have : xs = [] := by simpa [An, anB] using h
      subst this
      exact (Ok.lst (k := 0) (w := 0) (n := 0) (xs := []) (fun x hx => by cases hx) (Nat.le_refl _)).mono (by omega) (by unfold lenA; omega)
    | _ => exact small 0 _ h (fun _ e => by cases e) (fun _ e => by cases e)
  | succ k ih =>
    intro d h
    cases d with
    | tup xs =>
      obtain ⟨h1, h2⟩ := An.tup.mp h
      exact Ok.tup (fun x hx => ih x (h2 x hx)) h1
    | lst xs =>
      obtain ⟨h1, h2⟩ := An.lst.mp h
      exact Ok.lst (fun x hx => ih x (h2 x hx)) h1
    | _ => exact (small (k + 1) _ h (fun _ e => by cases e) (fun _ e => by cases e)).mono (by omega) (lenA_0 w (k + 1))
/-! frames that keep some of their places -/
structure Kp (ks : List Nat) (Γ Γ' : Env) : Prop where
  len : Γ'.length = Γ.length
  at_ : ∀ k, k ∉ ks → iVar k Γ' = iVar k Γ
theorem Kp.refl {ks : List Nat} {Γ : Env} : Kp ks Γ Γ := ⟨rfl, fun _ _ => rfl⟩
theorem iv_ne {n k : Nat} {Γ : Env} {b : Option B} (h : n ≠ k) : iVar k (Γ.set n b) = iVar k Γ := by
  unfold iVar
  rw [List.getElem?_set_ne h]
theorem iv_same {n : Nat} {Γ : Env} {d : D} (h : n < Γ.length) : iVar n (Γ.set n (some (.fz d))) = .ret d := by
  unfold iVar
  rw [List.getElem?_set_self h]
theorem Kp.set {ks : List Nat} {Γ : Env} {n : Nat} {b : Option B} (h : n ∈ ks) : Kp ks Γ (Γ.set n b) := ⟨List.length_set, fun k hk => iv_ne fun e => hk (e ▸ h)⟩
theorem Kp.trans {ks : List Nat} {Γ Γ' Γ2 : Env} (h : Kp ks Γ Γ') (h2 : Kp ks Γ' Γ2) : Kp ks Γ Γ2 := ⟨h2.len.trans h.len, fun k hk => (h2.at_ k hk).trans (h.at_ k hk)⟩
theorem Kp.more {ks ls : List Nat} {Γ Γ' : Env} (h : Kp ks Γ Γ') (hs : ∀ k ∈ ks, k ∈ ls) : Kp ls Γ Γ' := ⟨h.len, fun k hk => h.at_ k fun q => hk (hs k q)⟩
theorem iv_lc {n k : Nat} {Γ : Env} {b : Option B} (h : n ≠ k) : iVar k ((wipeE Γ [n]).set n b) = iVar k Γ := by
  rw [iv_ne h]
  exact iv_ne h
theorem iv_lc_same {n : Nat} {Γ : Env} {d : D} (h : n < Γ.length) : iVar n ((wipeE Γ [n]).set n (some (.fz d))) = .ret d := by
  refine iv_same ?_
  show n < (Γ.set n none).length
  rw [List.length_set]
  exact h
theorem rp_same {i j : IE} {Γ : Env} {d e : D} {z : Str} (hi : i Γ = .ret d) (hj : j Γ = .ret e) (h1 : fRp [d] = some (.str z)) (h2 : fRp [e] = some (.str z)) : asB (iOp fNeD (iBi fRp [i]) (iBi fRp [j])) Γ = .ret false :=
  Lw.asB_ok (op_ok (Lw.bi_ok hi h1) (Lw.bi_ok hj h2) (fNeD_same rfl))
theorem Yl.evsP {Γ : Env} {P : D → Prop} {c : Nat} : ∀ (es : List IE), (∀ i ∈ es, Yl (i Γ) c P) → Yl (evs es Γ) (c * es.length) fun ds => ds.length = es.length ∧ ∀ d ∈ ds, P d
  | [], _ => by
    unfold evs
    exact Yl.ret ⟨rfl, fun d hd => by cases hd⟩
  | i :: es, h => by
    rw [List.length_cons, Nat.mul_succ, Nat.add_comm]
    refine (Yl.evs_cons (h i List.mem_cons_self) (Yl.evsP es fun j hj => h j (List.mem_cons_of_mem _ hj))).mono (Nat.le_refl _) fun ds hd => ?_
    obtain ⟨d, r, rfl, hp, hl, hr⟩ := hd
    refine ⟨by rw [List.length_cons, hl], fun x hx => ?_⟩
    rcases List.mem_cons.mp hx with rfl | hx
    · exact hp
    · exact hr x hx
theorem Yl.lstP {Γ : Env} {P : D → Prop} {c : Nat} {es : List IE} (h : ∀ i ∈ es, Yl (i Γ) c P) (hn : es.length ≤ 1000) : Yl (DL.iLst es Γ) (c * es.length) fun d => ∃ ds, d = .lst ds ∧ ds.length = es.length ∧ ∀ x ∈ ds, P x := by
  unfold DL.iLst
  refine (Yl.bind (l := 0) (Yl.evsP es h) fun ds hd => ?_).mono (Nat.le_refl _) fun _ x => x
  rw [if_pos (by rw [hd.1, sizeLine_eq]; omega)]
  exact Yl.ret ⟨ds, rfl, hd.1, hd.2⟩
theorem Yl.for_pure {t : IG} {it : II} {s : IS} {Γ : Env} {k : Nat} {P : List D → Prop} {J : Env → Prop} (hi : Yl (it Γ) k P) (h : ∀ ds, P ds → ∃ Γ', DL.loop t s ds Γ = .ret (.nx Γ') ∧ J Γ') : Yl (DL.sFor t it s Γ) k fun fl => ∃ Γ', fl = .nx Γ' ∧ J Γ' := by
  unfold DL.sFor
  refine (Yl.bind (l := 0) hi fun ds hd => ?_).mono (Nat.le_refl _) fun _ x => x
  obtain ⟨Γ', e, hJ⟩ := h ds hd
  exact Yl.of_eq e ⟨Γ', rfl, hJ⟩
theorem Yl.set {n : Nat} {i : IE} {Γ : Env} {k : Nat} {P : D → Prop} (h : Yl (i Γ) k P) : Yl (DL.sSet n i Γ) k fun fl => ∃ Γ', fl = .nx Γ' ∧ ∃ d, P d ∧ Γ' = Γ.set n (some (.fz d)) := by
  unfold DL.sSet
  exact (Yl.bind (l := 0) h fun d hd => Yl.ret ⟨_, rfl, d, hd, rfl⟩).mono (Nat.le_refl _) fun _ x => x
end DL
namespace Lw
open PySem PySem.Spec L2 DL
theorem Th.ok {x : D} (h : Th x) : Ok 4 145943 x := (Ok.of_an (by decide) 3 x h).mono (Nat.le_refl _) (by decide)
theorem Th.rp {x : D} (h : Th x) : ∃ z, fRp [x] = some (.str z) ∧ z.cps.toList.length ≤ 145943 ∧ ∀ c ∈ z.cps.toList, c < 128 := h.ok.rpS (by decide) (by decide)
theorem low_safe {c : Nat} (h : 97 ≤ c ∧ c ≤ 122) : safeC c = true := by
  unfold safeC
  simp only [Bool.or_eq_true, Bool.and_eq_true, beq_iff_eq, decide_eq_true_eq]
  omega
theorem word_an {z : Str} (h : WordOk z) (k : Nat) : An 9 k (.str z) := An.str.mpr ⟨by rw [Array.length_toList]; have := h.2.1; omega, fun c hc => low_safe (h.2.2 c hc)⟩
theorem pap_an {r : List Str} (h : ∀ z ∈ r, WordOk z) (hl : r.length ≤ 8) : An 9 1 (pap r) := by
  refine An.tup.mpr ⟨by rw [List.length_map]; exact hl, fun x hx => ?_⟩
  obtain ⟨z, hz, rfl⟩ := List.mem_map.mp hx
  exact word_an (h z hz) 0
theorem zz_ok : WordOk (Str.ofString "zz") := by
  have e : (Str.ofString "zz").cps = #[122, 122] := by decide +kernel
  unfold WordOk
  rw [e]
  decide
end Lw
namespace Lw
open PySem PySem.Spec L2 DL
section
variable {zs : List Str} {Γ : DL.Env} {x : D}
theorem one_lst {i : IE} {d : D} (h : i Γ = .ret d) : DL.iLst [i] Γ = .ret (.lst [d]) := by
  unfold DL.iLst
  rw [evs_one h, M.ret_bind]
  exact if_pos (by show 1 ≤ sizeLine; rw [sizeLine_eq]; decide)
theorem chain_len {i : IE} {xs : List D} (h : i Γ = .ret (.tup xs)) : iChain fLe fLe (iLit (.int 2)) (iBi fLen [i]) (iLit (.int 4)) Γ = .ret (.bl (decide (2 ≤ xs.length) && decide (xs.length ≤ 4))) := by
  unfold iChain
  have e1 : iLit (.int 2) Γ = .ret (.int 2) := rfl
  have e2 : iLit (.int 4) Γ = .ret (.int 4) := rfl
  rw [e1, M.ret_bind, bi_ok h (fLen_tup xs), M.ret_bind, fLe_int]
  by_cases h2 : 2 ≤ xs.length
  · rw [decide_eq_true (show (2 : Int) ≤ (xs.length : Int) by omega), decide_eq_true h2]
    simp only [if_true]
    rw [e2, M.ret_bind, fLe_int]
    by_cases h4 : xs.length ≤ 4
    · rw [decide_eq_true (show (xs.length : Int) ≤ 4 by omega), decide_eq_true h4]; rfl
    · rw [decide_eq_false (show ¬ (xs.length : Int) ≤ 4 by omega), decide_eq_false h4]; rfl
  · rw [decide_eq_false (show ¬ (2 : Int) ≤ (xs.length : Int) by omega), decide_eq_false h2]
    rfl
/-- what both sides tell -/
theorem told_rp {w : String} {ok : Bool} {z : Str} {m : M D} (hx : Th x) (hz : fRp [x] = some (.str z)) (hm : m__law_told m = .ret (if ok = true then .lst [x] else .tup [.str (Str.ofString w), .str z])) (hw : w = "names" ∨ w = "kinds") {j : IE} (hj : j Γ = .ret (if ok = true then .lst [x] else .tup [.str (Str.ofString w), .str z]))
    {i : IE} (hi : i Γ = m) : asB (iOp fNeD (iBi fRp [(iTold m__law_told i)]) (iBi fRp [j])) Γ = .ret false := by
  have e : iTold m__law_told i Γ = .ret (if ok = true then .lst [x] else .tup [.str (Str.ofString w), .str z]) := by
    unfold iTold
    rw [hi, hm]
    rfl
  obtain ⟨z', hz', l, a⟩ := hx.rp
  rw [hz] at hz'
  obtain rfl : z = z' := D.str.inj (Option.some.inj hz')
  have ok1 : Ok 20 10000000 (if ok = true then .lst [x] else .tup [.str (Str.ofString w), .str z]) := by
    cases ok with
    | true => exact (Ok.lst (k := 4) (w := 145943) (n := 1) (xs := [x]) (fun y hy => by rw [List.mem_singleton] at hy; exact hy ▸ hx.ok) (Nat.le_refl _)).mono (by decide) (by decide)
    | false =>
      refine (Ok.tup (k := 0) (w := 583774) (n := 2) (xs := [.str (Str.ofString w), .str z]) (fun y hy => ?_) (Nat.le_refl _)).mono (by decide) (by decide)
      simp only [List.mem_cons, List.not_mem_nil, or_false] at hy
      rcases hy with rfl | rfl
      · rcases hw with rfl | rfl
        · exact (Ok.str (n := 5) (by decide +kernel) (by decide +kernel)).mono (Nat.le_refl _) (by decide)
        · exact (Ok.str (n := 5) (by decide +kernel) (by decide +kernel)).mono (Nat.le_refl _) (by decide)
      · exact (Ok.str (n := 145943) a l).mono (Nat.le_refl _) (by decide)
  obtain ⟨t, ht, _⟩ := ok1.rpS (Nat.le_refl _) (Nat.le_refl _)
  exact rp_same e hj ht ht
def nmS7 : IS := (sSet 7 (iBi fRp [(iVar 6)]))
def nmS8 : IS := (sSet 8 (iAnd (iBi fIsI [(iVar 6), (iLit (.ty "tuple"))]) (iChain fLe fLe (iLit (.int 2)) (iBi fLen [(iVar 6)]) (iLit (.int 4)))))
def nmS9 : IS := (sSet 8 (iAnd (iVar 8) (iAnd (iOp fEqV (iLc (gN 12) (iiA (iVar 6)) (notB (asB (iCall (m__law_is_name) [(iVar 12)]))) (iVar 12) [12]) (iLst [])) (iCall (m__law_are_rising) [(iVar 6)]))))
def nmIf : IS := (sIf (asB (iOp fNeD (iBi fRp [(iTold m__law_told (iCall (m_need_names) [(iVar 6)]))]) (iBi fRp [(iIf (asB (iVar 8)) (iLst [(iVar 6)]) (iTup [(iLit (.str (PySem.Str.ofString "names"))), (iVar 7)]))]))) (sRet (iLit (.bl false))) sPass)
def nmBody : IS := sSeq nmS7 (sSeq nmS8 (sSeq nmS9 nmIf))
def twoB : D → Bool
  | .tup xs => decide (2 ≤ xs.length) && decide (xs.length ≤ 4)
  | _ => false
theorem isi_of {k : Nat} (hv : iVar k Γ = .ret x) (hp : isP x = true) : iBi fIsI [(iVar k), (iLit (.ty "tuple"))] Γ = .ret (.bl (isTu x)) := by
  unfold iBi
  have e : evs [(iVar k), (iLit (.ty "tuple"))] Γ = .ret [x, .ty "tuple"] := by
    unfold evs
    rw [hv, M.ret_bind, evs_one (d := .ty "tuple") rfl]
    rfl
  rw [e, M.ret_bind, isi_tup hp]
theorem nm8 (hx : Th x) (hv : iVar 6 Γ = .ret x) : iAnd (iBi fIsI [(iVar 6), (iLit (.ty "tuple"))]) (iChain fLe fLe (iLit (.int 2)) (iBi fLen [(iVar 6)]) (iLit (.int 4))) Γ = .ret (.bl (twoB x)) := by
  cases x with
  | tup xs => exact and_ok (a := true) (isi_of hv hx.p) fun _ => chain_len hv
  | _ => exact and_ok (a := false) (b := false) (isi_of hv hx.p) fun q => by cases q
theorem lc_ask {i : IE} {m : List D → M D} {p : D → Bool} {xs : List D} {n k : Nat} (hn : n < Γ.length) (hk : iVar k Γ = .ret (.tup xs)) (hl : xs.length ≤ 1000) (hi : ∀ d ∈ xs, ∀ Γ', (Γ' = (wipeE Γ [n]).set n (some (.fz d))) → i Γ' = .ret (.bl (p d))) :
    iOp fEqV (iLc (gN n) (iiA (iVar k)) (notB (asB i)) (iVar n) [n]) (iLst []) Γ = .ret (.bl (xs.all p)) := by
  refine op_ok (a := .lst (xs.filter fun d => !p d)) ?_ lst0 (by rw [fEqV_lnil, filter_empty])
  have hit : iiA (iVar k) Γ = .ret xs := by
    unfold iiA
    rw [hk]
    rfl
  rw [lc_pure (ds := xs) (p := fun d => !p d) (e := id) hit ?_ (by rw [sizeLine_eq]; omega)]
  · rw [List.map_id]
  · intro d hd
    exact ⟨_, rfl, notB_ok (asB_ok (hi d hd _ rfl)), fun _ => iv_lc_same hn⟩
theorem nm9 (hx : Th x) (hv : iVar 6 Γ = .ret x) (h8 : iVar 8 Γ = .ret (.bl (twoB x))) (hl : Γ.length = 13) : iAnd (iVar 8) (iAnd (iOp fEqV (iLc (gN 12) (iiA (iVar 6)) (notB (asB (iCall (m__law_is_name) [(iVar 12)]))) (iVar 12) [12]) (iLst [])) (iCall (m__law_are_rising) [(iVar 6)])) Γ = .ret (.bl (namesB x)) := by
  cases x with
  | tup xs =>
    obtain ⟨l10, hxs⟩ := hx.items
    have e : namesB (.tup xs) = (twoB (.tup xs) && (xs.all wordB && riseB xs)) := by
      show (decide (2 ≤ xs.length) && (decide (xs.length ≤ 4) && (xs.all wordB && riseB xs))) = ((decide (2 ≤ xs.length) && decide (xs.length ≤ 4)) && (xs.all wordB && riseB xs))
      rw [Bool.and_assoc]
    rw [e]
    refine and_ok h8 fun _ => and_ok (lc_ask (m := m__law_is_name) (by omega) hv (by omega) fun d hd Γ' hΓ => ?_) fun hw => ?_
    · subst hΓ
      rw [call1 (iv_lc_same (by omega))]
      exact is_name_b (hxs d hd)
    · rw [call1 hv]
      exact rising_eq (lt_of_words hw) (by omega)
  | _ => exact and_ok (a := false) (b := false) h8 fun q => by cases q
theorem nm_body (hx : Th x) (hv : iVar 6 Γ = .ret x) (hl : Γ.length = 13) : ∃ Γ', nmBody Γ = .ret (.nx Γ') ∧ Kp [7, 8] Γ Γ' := by
  obtain ⟨z, hz, _⟩ := hx.rp
  unfold nmBody
  have s1 : nmS7 Γ = .ret (.nx (Γ.set 7 (some (.fz (.str z))))) := set_ok (bi_ok hv hz)
  have k1 : Kp [7, 8] Γ (Γ.set 7 (some (.fz (.str z)))) := Kp.set (by decide)
  generalize hΓ1 : Γ.set 7 (some (.fz (.str z))) = Γ1 at s1 k1
  have v6 : iVar 6 Γ1 = .ret x := (k1.at_ 6 (by decide)).trans hv
  have v7 : iVar 7 Γ1 = .ret (.str z) := by subst hΓ1; exact iv_same (by omega)
  have s2 : nmS8 Γ1 = .ret (.nx (Γ1.set 8 (some (.fz (.bl (twoB x)))))) := set_ok (nm8 hx v6)
  have k2 : Kp [8] Γ1 (Γ1.set 8 (some (.fz (.bl (twoB x))))) := Kp.set (by decide)
  have l1 := k1.len
  generalize hΓ2 : Γ1.set 8 (some (.fz (.bl (twoB x)))) = Γ2 at s2 k2
  have v8 : iVar 8 Γ2 = .ret (.bl (twoB x)) := by subst hΓ2; exact iv_same (by omega)
  have v62 : iVar 6 Γ2 = .ret x := (k2.at_ 6 (by decide)).trans v6
  have v72 : iVar 7 Γ2 = .ret (.str z) := (k2.at_ 7 (by decide)).trans v7
  have l2 := k2.len
  have s3 : nmS9 Γ2 = .ret (.nx (Γ2.set 8 (some (.fz (.bl (namesB x)))))) := set_ok (nm9 hx v62 v8 (by omega))
  have k3 : Kp [8] Γ2 (Γ2.set 8 (some (.fz (.bl (namesB x))))) := Kp.set (by decide)
  generalize hΓ3 : Γ2.set 8 (some (.fz (.bl (namesB x)))) = Γ3 at s3 k3
  have w8 : iVar 8 Γ3 = .ret (.bl (namesB x)) := by subst hΓ3; exact iv_same (by omega)
  have w6 : iVar 6 Γ3 = .ret x := (k3.at_ 6 (by decide)).trans v62
  have w7 : iVar 7 Γ3 = .ret (.str z) := (k3.at_ 7 (by decide)).trans v72
  have hm : m__law_told (m_need_names [x]) = .ret (if namesB x = true then .lst [x] else .tup [.str (Str.ofString "names"), .str z]) := by
    rw [need_names_b hx]
    cases namesB x with
    | true => exact told_ret x
    | false => exact told_names hz
  have hj : iIf (asB (iVar 8)) (iLst [(iVar 6)]) (iTup [(iLit (.str (PySem.Str.ofString "names"))), (iVar 7)]) Γ3 = .ret (if namesB x = true then .lst [x] else .tup [.str (Str.ofString "names"), .str z]) := by
    refine if_ok (asB_ok w8) (fun h => ?_) fun h => ?_
    · rw [if_pos h]; exact one_lst w6
    · rw [if_neg (by rw [h]; decide)]; exact tup2 rfl w7
  have s4 : nmIf Γ3 = .ret (.nx Γ3) := if_no (told_rp hx hz hm (.inl rfl) hj (call1 w6))
  refine ⟨Γ3, ?_, k1.trans ((k2.more (by decide)).trans (k3.more (by decide)))⟩
  rw [seq_nx s1, seq_nx s2, seq_nx s3, s4]
/-! papers -/
def ppIf : IS := (sIf (asB (iOp fNeD (iBi fRp [(iCall (m_is_paper) [(iVar 3), (iVar 6)])]) (iBi fRp [(iCall (m__law_is_paper) [(iVar 3), (iVar 6)])]))) (sRet (iLit (.bl false))) sPass)
theorem pp_body (hz : NamesOk zs) (hx : Th x) (h3 : iVar 3 Γ = .ret (pap zs)) (hv : iVar 6 Γ = .ret x) : ppIf Γ = .ret (.nx Γ) := by
  obtain ⟨t, ht, _⟩ := (Ok.bl (paperB zs x)).rpS (by decide) (by decide)
  refine if_no (rp_same (d := .bl (paperB zs x)) (e := .bl (paperB zs x)) ?_ ?_ ht ht)
  · rw [call2 h3 hv]; exact is_paper_b hz hx
  · rw [call2 h3 hv]; exact law_paper_b hx
/-! ranges -/
def rgS8 : IS := (sSet 8 (iAnd (iBi fIsI [(iVar 6), (iLit (.ty "tuple"))]) (iAnd (iOp fNeV (iVar 6) (iTup [])) (iOp fEqV (iLc (gN 12) (iiA (iVar 6)) (notB (asB (iCall (m__law_is_paper) [(iVar 3), (iVar 12)]))) (iVar 12) [12]) (iLst [])))))
def rgS9 : IS := (sSet 8 (iAnd (iVar 8) (iCall (m__law_are_rising) [(iVar 6)])))
def rgIf : IS := (sIf (asB (iOp fNeD (iBi fRp [(iTold m__law_told (iCall (m_need_kinds) [(iVar 3), (iVar 6)]))]) (iBi fRp [(iIf (asB (iVar 8)) (iLst [(iVar 6)]) (iTup [(iLit (.str (PySem.Str.ofString "kinds"))), (iBi fRp [(iVar 6)])]))]))) (sRet (iLit (.bl false))) sPass)
def rgBody : IS := sSeq rgS8 (sSeq rgS9 rgIf)
def allB (zs : List Str) : D → Bool
  | .tup xs => !xs.isEmpty && xs.all (paperB zs)
  | _ => false
theorem rg8 (hx : Th x) (h3 : iVar 3 Γ = .ret (pap zs)) (hv : iVar 6 Γ = .ret x) (hl : Γ.length = 13) : iAnd (iBi fIsI [(iVar 6), (iLit (.ty "tuple"))]) (iAnd (iOp fNeV (iVar 6) (iTup [])) (iOp fEqV (iLc (gN 12) (iiA (iVar 6)) (notB (asB (iCall (m__law_is_paper) [(iVar 3), (iVar 12)]))) (iVar 12) [12]) (iLst []))) Γ = .ret (.bl (allB zs x)) := by
  cases x with
  | tup xs =>
    obtain ⟨l10, hxs⟩ := hx.items
    refine and_ok (a := true) (isi_of hv hx.p) fun _ => and_ok (op_ok hv tup0 (fNeV_tnil xs)) fun _ => lc_ask (m := m__law_is_paper) (by omega) hv (by omega) fun d hd Γ' hΓ => ?_
    subst hΓ
    rw [call2 ((iv_lc (by decide)).trans h3) (iv_lc_same (by omega))]
    exact law_paper_b (hxs d hd)
  | _ => exact and_ok (a := false) (b := false) (isi_of hv hx.p) fun q => by cases q
theorem rg9 (hx : Th x) (hv : iVar 6 Γ = .ret x) (h8 : iVar 8 Γ = .ret (.bl (allB zs x))) : iAnd (iVar 8) (iCall (m__law_are_rising) [(iVar 6)]) Γ = .ret (.bl (rangeB zs x)) := by
  cases x with
  | tup xs =>
    obtain ⟨l10, hxs⟩ := hx.items
    have e : rangeB zs (.tup xs) = (allB zs (.tup xs) && riseB xs) := by
      show (!xs.isEmpty && (xs.all (paperB zs) && riseB xs)) = ((!xs.isEmpty && xs.all (paperB zs)) && riseB xs)
      rw [Bool.and_assoc]
    rw [e]
    refine and_ok h8 fun hw => ?_
    rw [call1 hv]
    have hw : (!xs.isEmpty && xs.all (paperB zs)) = true := hw
    rw [Bool.and_eq_true] at hw
    exact rising_eq (lt_of_papers hw.2) (by omega)
  | _ => exact and_ok (a := false) (b := false) h8 fun q => by cases q
theorem rg_body (hz : NamesOk zs) (hn : Th (pap zs)) (hx : Th x) (h3 : iVar 3 Γ = .ret (pap zs)) (hv : iVar 6 Γ = .ret x) (hl : Γ.length = 13) : ∃ Γ', rgBody Γ = .ret (.nx Γ') ∧ Kp [8] Γ Γ' := by
  obtain ⟨z, hzz, _⟩ := hx.rp
  unfold rgBody
  have s1 : rgS8 Γ = .ret (.nx (Γ.set 8 (some (.fz (.bl (allB zs x)))))) := set_ok (rg8 hx h3 hv hl)
  have k1 : Kp [8] Γ (Γ.set 8 (some (.fz (.bl (allB zs x))))) := Kp.set (by decide)
  generalize hΓ1 : Γ.set 8 (some (.fz (.bl (allB zs x)))) = Γ1 at s1 k1
  have v6 : iVar 6 Γ1 = .ret x := (k1.at_ 6 (by decide)).trans hv
  have v3 : iVar 3 Γ1 = .ret (pap zs) := (k1.at_ 3 (by decide)).trans h3
  have v8 : iVar 8 Γ1 = .ret (.bl (allB zs x)) := by subst hΓ1; exact iv_same (by omega)
  have l1 := k1.len
  have s2 : rgS9 Γ1 = .ret (.nx (Γ1.set 8 (some (.fz (.bl (rangeB zs x)))))) := set_ok (rg9 hx v6 v8)
  have k2 : Kp [8] Γ1 (Γ1.set 8 (some (.fz (.bl (rangeB zs x))))) := Kp.set (by decide)
  generalize hΓ2 : Γ1.set 8 (some (.fz (.bl (rangeB zs x)))) = Γ2 at s2 k2
  have w8 : iVar 8 Γ2 = .ret (.bl (rangeB zs x)) := by subst hΓ2; exact iv_same (by omega)
  have w6 : iVar 6 Γ2 = .ret x := (k2.at_ 6 (by decide)).trans v6
  have w3 : iVar 3 Γ2 = .ret (pap zs) := (k2.at_ 3 (by decide)).trans v3
  have hm : m__law_told (m_need_kinds [pap zs, x]) = .ret (if rangeB zs x = true then .lst [x] else .tup [.str (Str.ofString "kinds"), .str z]) := by
    rw [need_kinds_b hz hn hx]
    cases rangeB zs x with
    | true => exact told_ret x
    | false => exact told_kinds hzz
  have hj : iIf (asB (iVar 8)) (iLst [(iVar 6)]) (iTup [(iLit (.str (PySem.Str.ofString "kinds"))), (iBi fRp [(iVar 6)])]) Γ2 = .ret (if rangeB zs x = true then .lst [x] else .tup [.str (Str.ofString "kinds"), .str z]) := by
    refine if_ok (asB_ok w8) (fun h => ?_) fun h => ?_
    · rw [if_pos h]; exact one_lst w6
    · rw [if_neg (by rw [h]; decide)]; exact tup2 rfl (bi_ok w6 hzz)
  have s4 : rgIf Γ2 = .ret (.nx Γ2) := if_no (told_rp hx hzz hm (.inr rfl) hj (call2 w3 w6))
  refine ⟨Γ2, ?_, k1.trans k2⟩
  rw [seq_nx s1, seq_nx s2, s4]
end
end Lw
namespace Lw
open PySem PySem.Spec L2 DL
section
variable {zs : List Str} {Γ : DL.Env} {x : D}
/-! the three walks -/
theorem nm_loop (hl : Γ.length = 13) {ds : List D} (hd : ∀ d ∈ ds, Th d) : ∃ Γ', DL.loop (gN 6) nmBody ds Γ = .ret (.nx Γ') ∧ Kp [6, 7, 8] Γ Γ' :=
  loop_inv ds (fun _ Γ' => Kp [6, 7, 8] Γ Γ') (fun j d Γ1 e k => by
    refine ⟨_, rfl, ?_⟩
    have l1 := k.len
    obtain ⟨Γ2, e2, k2⟩ := nm_body (Γ := Γ1.set 6 (some (.fz d))) (hd d (List.mem_of_getElem? e)) (iv_same (by omega)) (by rw [List.length_set]; omega)
    exact ⟨Γ2, e2, k.trans ((Kp.set (by decide)).trans (k2.more (by decide)))⟩) Kp.refl
theorem pp_loop (hz : NamesOk zs) (h3 : iVar 3 Γ = .ret (pap zs)) (hl : Γ.length = 13) {ds : List D} (hd : ∀ d ∈ ds, Th d) : ∃ Γ', DL.loop (gN 6) ppIf ds Γ = .ret (.nx Γ') ∧ Kp [6, 7, 8] Γ Γ' :=
  loop_inv ds (fun _ Γ' => Kp [6, 7, 8] Γ Γ') (fun j d Γ1 e k => by
    refine ⟨_, rfl, ?_⟩
    have l1 := k.len
    have e2 := pp_body (Γ := Γ1.set 6 (some (.fz d))) hz (hd d (List.mem_of_getElem? e)) ((iv_ne (by decide)).trans ((k.at_ 3 (by decide)).trans h3)) (iv_same (by omega))
    exact ⟨_, e2, k.trans (Kp.set (by decide))⟩) Kp.refl
theorem rg_loop (hz : NamesOk zs) (hn : Th (pap zs)) (h3 : iVar 3 Γ = .ret (pap zs)) (hl : Γ.length = 13) {ds : List D} (hd : ∀ d ∈ ds, Th d) : ∃ Γ', DL.loop (gN 6) rgBody ds Γ = .ret (.nx Γ') ∧ Kp [6, 7, 8] Γ Γ' :=
  loop_inv ds (fun _ Γ' => Kp [6, 7, 8] Γ Γ') (fun j d Γ1 e k => by
    refine ⟨_, rfl, ?_⟩
    have l1 := k.len
    obtain ⟨Γ2, e2, k2⟩ := rg_body (Γ := Γ1.set 6 (some (.fz d))) hz hn (hd d (List.mem_of_getElem? e)) ((iv_ne (by decide)).trans ((k.at_ 3 (by decide)).trans h3)) (iv_same (by omega)) (by rw [List.length_set]; omega)
    exact ⟨Γ2, e2, k.trans ((Kp.set (by decide)).trans (k2.more (by decide)))⟩) Kp.refl
/-! the things -/
theorem an9 {k : Nat} (h : An 9 k x) (hk : k ≤ 3) : Th x := h.mono (by decide) hk
theorem rev_of {k : Nat} {ds : List D} (h : iVar k Γ = .ret (.tup ds)) : DL.iRev (iVar k) Γ = .ret (.tup ds.reverse) := by
  unfold DL.iRev
  rw [h]
  rfl
theorem head_of {k : Nat} {ds : List D} (h : iVar k Γ = .ret (.tup ds)) : iSl fSl (iVar k) oNone (oSome (iLit (.int 1))) Γ = .ret (.tup (ds.take 1)) := by
  unfold iSl oSome oNone
  rw [h, M.ret_bind]
  show (match fSl (.tup ds) none (some ((1 : Nat) : Int)) with | some d => M.ret d | none => .stuck) = _
  rw [fSl_ttake]
theorem list_of {k : Nat} {ds : List D} (h : iVar k Γ = .ret (.tup ds)) : iBi fList [(iVar k)] Γ = .ret (.lst ds) := bi_ok h rfl
theorem add_of {i j : IE} {as bs : List D} (h : i Γ = .ret (.tup as)) (h2 : j Γ = .ret (.tup bs)) (hl : as.length + bs.length ≤ 100) : iOp fAdd i j Γ = .ret (.tup (as ++ bs)) := op_ok h h2 (fAdd_tup _ _ (by rw [sizeLine_eq]; omega))
theorem twice_of {k : Nat} {ds : List D} (h : iVar k Γ = .ret (.tup ds)) (hn : ds ≠ []) (hl : ds.length ≤ 100) : iOp fMul (iVar k) (iLit (.int 2)) Γ = .ret (.tup (ds ++ ds)) := by
  refine op_ok h rfl ?_
  have ne : ds.isEmpty = false := by cases ds with | nil => exact absurd rfl hn | cons _ _ => rfl
  show (if 2 ≤ (2 : Int) ∧ (2 : Int) ≤ 1000 ∧ ds.length ≤ 1000 ∧ ds.isEmpty = false then some (D.tup (List.replicate (2 : Int).toNat ds).flatten) else none) = _
  rw [if_pos ⟨by decide, by decide, by omega, ne⟩]
  show some (D.tup (ds ++ (ds ++ []))) = _
  rw [List.append_nil]
/-- a tuple of such a level -/
structure Lv (k : Nat) (ds : List D) : Prop where
  len : ds.length ≤ 5
  each : ∀ d ∈ ds, An 9 k d
section
variable {k : Nat} {ds : List D} (h : Lv k ds) (hk : k ≤ 2)
include h hk
theorem Lv.th {es : List D} (he : ∀ d ∈ es, An 9 k d) (hl : es.length ≤ 8) : Th (.tup es) := an9 (k := k + 1) (An.tup.mpr ⟨by omega, he⟩) (by omega)
theorem Lv.self : Th (.tup ds) := Lv.th h hk h.each (by have := h.len; omega)
theorem Lv.rev : Th (.tup ds.reverse) := Lv.th h hk (fun d hd => h.each d (List.mem_reverse.mp hd)) (by rw [List.length_reverse]; have := h.len; omega)
theorem Lv.plus : Th (.tup (ds ++ ds.take 1)) := Lv.th h hk (fun d hd => (List.mem_append.mp hd).elim (h.each d) fun q => h.each d (List.mem_of_mem_take q)) (by rw [List.length_append, List.length_take]; have := h.len; omega)
theorem Lv.one {e : D} (he : An 9 k e) : Th (.tup (ds ++ [e])) := Lv.th h hk (fun d hd => (List.mem_append.mp hd).elim (h.each d) fun q => by rw [List.mem_singleton] at q; exact q ▸ he) (by rw [List.length_append, List.length_singleton]; have := h.len; omega)
theorem Lv.lst : Th (.lst ds) := an9 (k := k + 1) (An.lst.mpr ⟨by have := h.len; omega, h.each⟩) (by omega)
theorem Lv.head : Th (.tup (ds.take 1)) := Lv.th h hk (fun d hd => h.each d (List.mem_of_mem_take hd)) (by rw [List.length_take]; omega)
theorem Lv.an : An 9 (k + 1) (.tup ds) := An.tup.mpr ⟨by have := h.len; omega, h.each⟩
end
theorem th_nil : Th (.tup []) := by decide +kernel
theorem lv_names {r : List Str} (h : ∀ z ∈ r, WordOk z) (hl : r.length ≤ 5) : Lv 0 (r.map D.str) := ⟨by rw [List.length_map]; exact hl, fun d hd => by
  obtain ⟨z, hz, rfl⟩ := List.mem_map.mp hd
  exact word_an (h z hz) 0⟩
theorem lv_papers {ps : List (List Str)} (h : ∀ p ∈ ps, ∀ z ∈ p, WordOk z) (h4 : ∀ p ∈ ps, p.length ≤ 4) (hl : ps.length ≤ 5) : Lv 1 (ps.map pap) := ⟨by rw [List.length_map]; exact hl, fun d hd => by
  obtain ⟨p, hp, rfl⟩ := List.mem_map.mp hd
  exact pap_an (h p hp) (by have := h4 p hp; omega)⟩
theorem Yl.th {i : IE} {d : D} (e : i Γ = .ret d) (h : Th d) : Yl (i Γ) 60 Th := (Yl.of_eq e h).mono (by decide) fun _ x => x
theorem bent_of {k n : Nat} {d : D} (hm : iVar 1 Γ = .ret .rnd) (h : iVar k Γ = .ret d) (hd : An 9 n d) (hn : n ≤ 2) : Yl (iCall (m__law_bent 6) [(iVar 1), (iVar k)] Γ) (9 * (n + 1)) (An 19 (n + 1)) := by
  rw [call2 hm h]
  exact law_bent (w := 9) (by decide) (by decide) 6 n d (by omega) (by omega) hd
theorem bent_th {k n : Nat} {d : D} (hm : iVar 1 Γ = .ret .rnd) (h : iVar k Γ = .ret d) (hd : An 9 n d) (hn : n ≤ 2) : Yl (iCall (m__law_bent 6) [(iVar 1), (iVar k)] Γ) 60 Th := (bent_of hm h hd hn).mono (by omega) fun d hd => hd.mono (by decide) (by omega)
theorem odd_th (hm : iVar 1 Γ = .ret .rnd) : Yl (iCall (m__law_odd) [(iVar 1)] Γ) 60 Th := by
  rw [call1 hm]
  exact law_odd.mono (by decide) fun d hd => hd.mono (by decide) (by decide)
theorem bent2_th {k n : Nat} {d : D} (hm : iVar 1 Γ = .ret .rnd) (h : iVar k Γ = .ret d) (hd : An 9 n d) (hn : n ≤ 1) : Yl (iCall (m__law_bent 6) [(iVar 1), (iCall (m__law_bent 6) [(iVar 1), (iVar k)])] Γ) 60 Th := by
  unfold iCall
  refine (Yl.bind (k := 9 * (n + 1)) (l := 9 * (n + 2)) ((Yl.evs_cons (k := 0) (l := 9 * (n + 1)) (P := fun d => d = .rnd) (Q := fun r => ∃ d, r = [d] ∧ An 19 (n + 1) d) (Yl.of_eq hm rfl) ?_).mono (by omega) fun _ x => x) fun ds hd => ?_).mono (by omega) fun _ x => x
  · refine (Yl.evs_cons (k := 9 * (n + 1)) (l := 0) (bent_of hm h hd (by omega)) Yl.evs_nil).mono (by omega) fun r hr => ?_
    obtain ⟨d, _, rfl, hd, rfl⟩ := hr
    exact ⟨d, rfl, hd⟩
  · obtain ⟨_, _, rfl, rfl, d, rfl, hd⟩ := hd
    exact (law_bent (w := 19) (by decide) (by decide) 6 (n + 1) d (by omega) (by omega) hd).mono (by omega) fun d hd => hd.mono (by decide) (by omega)
theorem names5_th (hm : iVar 1 Γ = .ret .rnd) : Yl (iBi fTuple [(iBi fSorted [(iCall (m__law_names) [(iVar 1), (iLit (.int 5))])])] Γ) 60 Th := by
  have e : iCall (m__law_names) [(iVar 1), (iLit (.int 5))] Γ = m__law_names [.rnd, .int (5 : Nat)] := call2 hm rfl
  unfold iBi
  rw [evs_bind, M.bind_assoc, M.bind_assoc, evs_bind, M.bind_assoc, e]
  refine (Yl.bind (k := 11) (l := 0) (law_names (n := 5) (by decide) (by decide)) fun d hd => ?_).mono (by decide) fun _ x => x
  obtain ⟨ys, rfl, hl, hw, hn⟩ := hd
  simp only [M.ret_bind]
  rw [fSorted_str]
  refine Yl.of_eq (a := pap (ssort ys)) rfl ?_
  have pm := ssort_perm ys
  exact (lv_names (fun z hz => hw z (pm.mem_iff.mp hz)) (by rw [pm.length_eq, hl]; exact Nat.le_refl _)).self (by decide)
end
end Lw
namespace Lw
open PySem PySem.Spec L2 DL
def t3 : IS := (sSet 3 (iCall (m__law_many) [(iVar 1), (iLit (.int 4))]))
def t4 : IS := (sSet 4 (iCall (m__law_kinds) [(iVar 3)]))
def tK : IS := (sIf (asB (iOp fNeD (iBi fRp [(iCall (m_all_kinds) [(iVar 3)])]) (iBi fRp [(iBi fTuple [(iVar 4)])]))) (sRet (iLit (.bl false))) sPass)
def t5 : IS := (sSet 5 (iLst [(iVar 3), (iRev (iVar 3)), (iOp fAdd (iVar 3) (iSl fSl (iVar 3) oNone (oSome (iLit (.int 1))))), (iOp fAdd (iVar 3) (iTup [(iLit (.str (PySem.Str.ofString "zz")))])), (iTup []), (iBi fList [(iVar 3)]), (iSl fSl (iVar 3) oNone (oSome (iLit (.int 1)))), (iCall (m__law_bent 6) [(iVar 1), (iVar 3)])]))
def t5b : IS := (sSet 5 (iOp fAdd (iVar 5) (iLst [(iBi fTuple [(iBi fSorted [(iCall (m__law_names) [(iVar 1), (iLit (.int 5))])])]), (iCall (m__law_bent 6) [(iVar 1), (iCall (m__law_bent 6) [(iVar 1), (iVar 3)])]), (iCall (m__law_odd) [(iVar 1)])])))
def tN : IS := (sFor (gN 6) (iiA (iVar 5)) nmBody)
def t9 : IS := (sAsg (gT [(gN 9), (gN 10)]) (iTup [(iOp fIx (iVar 4) (iCall (m__law_next) [(iVar 1), (iBi fLen [(iVar 4)])])), (iCall (m__law_some_kinds) [(iVar 1), (iVar 3), (iLit (.int 5))])]))
def tP : IS := (sFor (gN 6) (iiA (iLst [(iVar 9), (iRev (iVar 9)), (iBi fList [(iVar 9)]), (iOp fAdd (iVar 9) (iTup [(iLit (.str (PySem.Str.ofString "zz")))])), (iOp fMul (iVar 9) (iLit (.int 2))), (iCall (m__law_bent 6) [(iVar 1), (iVar 9)]), (iCall (m__law_odd) [(iVar 1)]), (iVar 3), (iTup [])])) ppIf)
def t5c : IS := (sSet 5 (iLst [(iVar 10), (iRev (iVar 10)), (iOp fAdd (iVar 10) (iSl fSl (iVar 10) oNone (oSome (iLit (.int 1))))), (iBi fList [(iVar 10)]), (iTup []), (iOp fAdd (iVar 10) (iTup [(iTup [(iLit (.str (PySem.Str.ofString "zz")))])])), (iCall (m__law_bent 6) [(iVar 1), (iVar 10)]), (iCall (m__law_odd) [(iVar 1)])]))
def tR : IS := (sFor (gN 6) (iiA (iVar 5)) rgBody)
def tM : IS := (sIf (asB (iOp fNeD (iBi fRp [(iLc (gN 11) (iiA (iVar 3)) cYes (iCall (m_raised) [(iVar 9), (iVar 11)]) [11])]) (iBi fRp [(iLc (gN 11) (iiA (iVar 3)) cYes (iCall (m__law_move) [(iVar 9), (iVar 11)]) [11])]))) (sRet (iLit (.bl false))) sPass)
def tE : IS := (sIf (asB (iOp fNeD (iTold m__law_told (iCall (m_need_kinds) [(iRev (iVar 3)), (iLit (.int 5))])) (iTup [(iLit (.str (PySem.Str.ofString "names"))), (iBi fRp [(iRev (iVar 3))])]))) (sRet (iLit (.bl false))) sPass)
def turn : IS := sSeq t3 (sSeq t4 (sSeq tK (sSeq t5 (sSeq t5b (sSeq tN (sSeq t9 (sSeq tP (sSeq t5c (sSeq tR (sSeq tM tE))))))))))
theorem law_text : b_law = DL.sSeq (DL.sSet 1 (iCall (m__law_begun) [(iVar 0)])) (DL.sSeq (DL.sFor (gN 2) (iiR1 (iOp fAdd (iLit (.int (4 : Nat))) (iBi fMin2 [(iBi fLen [(iVar 0)]), (iLit (.int (8 : Nat)))]))) turn) (DL.sRet (iLit (.bl true)))) := by
  unfold b_law turn t3 t4 tK t5 t5b tN t9 tP t5c tR tM tE nmBody nmS7 nmS8 nmS9 nmIf ppIf rgBody rgS8 rgS9 rgIf
  rfl
/-- the frame behind the first steps -/
structure Sf (zs : List Str) (Γ : DL.Env) : Prop where
  nm : NamesOk zs
  len : Γ.length = 13
  v1 : iVar 1 Γ = .ret .rnd
  v3 : iVar 3 Γ = .ret (pap zs)
  v4 : iVar 4 Γ = .ret (.lst ((KS zs).map pap))
section
variable {zs : List Str} {Γ Γ' : DL.Env} {ks : List Nat}
theorem Sf.kp (h : Sf zs Γ) (k : Kp ks Γ Γ') (hk : ∀ n ∈ ks, n ≠ 1 ∧ n ≠ 3 ∧ n ≠ 4) : Sf zs Γ' :=
  ⟨h.nm, k.len.trans h.len, (k.at_ 1 fun q => (hk 1 q).1 rfl).trans h.v1, (k.at_ 3 fun q => (hk 3 q).2.1 rfl).trans h.v3, (k.at_ 4 fun q => (hk 4 q).2.2 rfl).trans h.v4⟩
theorem Sf.lv (h : Sf zs Γ) : Lv 0 (zs.map D.str) := lv_names h.nm.word (by have := h.nm.four; omega)
theorem Sf.th (h : Sf zs Γ) : Th (pap zs) := h.lv.self (by decide)
theorem kind_lv (hz : NamesOk zs) {r : List Str} (hr : PapOk zs r) : Lv 0 (r.map D.str) := lv_names (fun z hm => hz.word z (hr.sub z hm)) (by have := hr.four; omega)
theorem kinds_ok (hz : NamesOk zs) : Ok 3 338435 (.tup ((KS zs).map pap)) := by
  refine (Ok.tup (k := 2) (w := 659) (n := 512) (fun x hx => ?_) (by rw [List.length_map]; exact KS_len hz.four)).mono (by decide) (by decide)
  obtain ⟨r, hr, rfl⟩ := List.mem_map.mp hx
  exact (Ok.of_an (w := 9) (by decide) 1 _ ((kind_lv hz (KS_mem hz.four hr)).an (by decide))).mono (by decide) (by decide)
theorem s3_ok (hl : Γ.length = 13) (hm : iVar 1 Γ = .ret .rnd) : Yl (t3 Γ) 12 fun fl => ∃ Γ', fl = .nx Γ' ∧ ∃ zs, NamesOk zs ∧ Γ' = Γ.set 3 (some (.fz (pap zs))) := by
  unfold t3
  have h : Yl (iCall (m__law_many) [(iVar 1), (iLit (.int 4))] Γ) 12 NamesT := by
    rw [call2 (b := .int 4) hm rfl]
    exact law_many
  refine (Yl.set h).mono (Nat.le_refl _) fun fl hf => ?_
  obtain ⟨Γ', rfl, d, ⟨zs, rfl, hz⟩, rfl⟩ := hf
  exact ⟨_, rfl, zs, hz, rfl⟩
theorem s4_ok (hz : NamesOk zs) (hl : Γ.length = 13) (hm : iVar 1 Γ = .ret .rnd) (h3 : iVar 3 Γ = .ret (pap zs)) : t4 Γ = .ret (.nx (Γ.set 4 (some (.fz (.lst ((KS zs).map pap)))))) ∧ Sf zs (Γ.set 4 (some (.fz (.lst ((KS zs).map pap))))) := by
  refine ⟨set_ok (by rw [call1 h3]; exact law_kinds_eq hz.four), hz, by rw [List.length_set]; exact hl, (iv_ne (by decide)).trans hm, (iv_ne (by decide)).trans h3, iv_same (by omega)⟩
theorem sK_ok (h : Sf zs Γ) : tK Γ = .ret (.nx Γ) := by
  obtain ⟨t, ht, _⟩ := (kinds_ok h.nm).rpS (by decide) (by decide)
  refine if_no (rp_same (d := .tup ((KS zs).map pap)) (e := .tup ((KS zs).map pap)) ?_ (bi_ok h.v4 (fTuple_lst _)) ht ht)
  rw [call1 h.v3]
  exact all_kinds_eq h.nm.four
theorem s5_ok (h : Sf zs Γ) : Yl (t5 Γ) 480 fun fl => ∃ Γ', fl = .nx Γ' ∧ ∃ ds, (∀ d ∈ ds, Th d) ∧ ds.length = 8 ∧ Γ' = Γ.set 5 (some (.fz (.lst ds))) := by
  have lv := h.lv
  have h2 : (0 : Nat) ≤ 2 := by decide
  have z1 : An 9 0 (.str (Str.ofString "zz")) := word_an zz_ok 0
  have hl := lv.len
  have e : Yl (DL.iLst [(iVar 3), (DL.iRev (iVar 3)), (iOp fAdd (iVar 3) (iSl fSl (iVar 3) oNone (oSome (iLit (.int 1))))), (iOp fAdd (iVar 3) (iTup [(iLit (.str (PySem.Str.ofString "zz")))])), (iTup []), (iBi fList [(iVar 3)]), (iSl fSl (iVar 3) oNone (oSome (iLit (.int 1)))), (iCall (m__law_bent 6) [(iVar 1), (iVar 3)])] Γ) (60 * 8) fun d => ∃ ds, d = .lst ds ∧ ds.length = 8 ∧ ∀ x ∈ ds, Th x := by
    refine Yl.lstP (c := 60) (P := Th) (es := [_, _, _, _, _, _, _, _]) (fun i hi => ?_) (by decide)
    simp only [List.mem_cons, List.not_mem_nil, or_false] at hi
    rcases hi with rfl | rfl | rfl | rfl | rfl | rfl | rfl | rfl
    · exact Yl.th h.v3 h.th
    · exact Yl.th (rev_of h.v3) (lv.rev h2)
    · exact Yl.th (add_of h.v3 (head_of h.v3) (by rw [List.length_take]; omega)) (lv.plus h2)
    · exact Yl.th (add_of h.v3 (one_tup (d := .str (Str.ofString "zz")) rfl) (by rw [List.length_singleton]; omega)) (lv.one h2 z1)
    · exact Yl.th tup0 th_nil
    · exact Yl.th (list_of h.v3) (lv.lst h2)
    · exact Yl.th (head_of h.v3) (lv.head h2)
    · exact bent_th (n := 1) h.v1 h.v3 (lv.an h2) (by decide)
  unfold t5
  refine (Yl.set e).mono (by decide) fun fl hf => ?_
  obtain ⟨Γ', rfl, d, ⟨ds, rfl, hn, hd⟩, rfl⟩ := hf
  exact ⟨_, rfl, ds, hd, hn, rfl⟩
theorem s5b_ok (h : Sf zs Γ) {ds : List D} (h5 : iVar 5 Γ = .ret (.lst ds)) (hd : ∀ d ∈ ds, Th d) (hn : ds.length = 8) : Yl (t5b Γ) 180 fun fl => ∃ Γ', fl = .nx Γ' ∧ ∃ ds, (∀ d ∈ ds, Th d) ∧ Γ' = Γ.set 5 (some (.fz (.lst ds))) := by
  have lv := h.lv
  have e : Yl (DL.iLst [(iBi fTuple [(iBi fSorted [(iCall (m__law_names) [(iVar 1), (iLit (.int 5))])])]), (iCall (m__law_bent 6) [(iVar 1), (iCall (m__law_bent 6) [(iVar 1), (iVar 3)])]), (iCall (m__law_odd) [(iVar 1)])] Γ) (60 * 3) fun d => ∃ ds, d = .lst ds ∧ ds.length = 3 ∧ ∀ x ∈ ds, Th x := by
    refine Yl.lstP (c := 60) (P := Th) (es := [_, _, _]) (fun i hi => ?_) (by decide)
    simp only [List.mem_cons, List.not_mem_nil, or_false] at hi
    rcases hi with rfl | rfl | rfl
    · exact names5_th h.v1
    · exact bent2_th (n := 1) h.v1 h.v3 (lv.an (by decide)) (by decide)
    · exact odd_th h.v1
  have e2 : Yl (iOp fAdd (iVar 5) (DL.iLst [(iBi fTuple [(iBi fSorted [(iCall (m__law_names) [(iVar 1), (iLit (.int 5))])])]), (iCall (m__law_bent 6) [(iVar 1), (iCall (m__law_bent 6) [(iVar 1), (iVar 3)])]), (iCall (m__law_odd) [(iVar 1)])]) Γ) 180 fun d => ∃ ds, d = .lst ds ∧ ∀ x ∈ ds, Th x := by
    refine (Yl.op (k := 0) (l := 60 * 3) (P := fun d => d = .lst ds) (Yl.of_eq h5 rfl) e fun a b ha hb => ?_).mono (by decide) fun _ x => x
    subst ha
    obtain ⟨es, rfl, hm, he⟩ := hb
    exact ⟨_, fAdd_lst _ _ (by rw [hn, hm, sizeLine_eq]; decide), _, rfl, fun x hx => (List.mem_append.mp hx).elim (hd x) (he x)⟩
  unfold t5b
  refine (Yl.set e2).mono (by decide) fun fl hf => ?_
  obtain ⟨Γ', rfl, d, ⟨ds, rfl, hd⟩, rfl⟩ := hf
  exact ⟨_, rfl, ds, hd, rfl⟩
theorem sN_ok (hl : Γ.length = 13) {ds : List D} (h5 : iVar 5 Γ = .ret (.lst ds)) (hd : ∀ d ∈ ds, Th d) : ∃ Γ', tN Γ = .ret (.nx Γ') ∧ Kp [6, 7, 8] Γ Γ' := by
  have hi : iiA (iVar 5) Γ = .ret ds := by
    unfold iiA
    rw [h5]
    rfl
  unfold tN DL.sFor
  rw [hi, M.ret_bind]
  exact nm_loop hl hd
theorem s9_ok (h : Sf zs Γ) : Yl (t9 Γ) 8 fun fl => ∃ Γ', fl = .nx Γ' ∧ ∃ r d, r ∈ KS zs ∧ PartD zs d ∧ Γ' = (Γ.set 9 (some (.fz (pap r)))).set 10 (some (.fz d)) := by
  unfold t9 DL.sAsg
  have h2 : Yl (iCall (m__law_some_kinds) [(iVar 1), (iVar 3), (iLit (.int 5))] Γ) 7 (PartD zs) := by
    have q := @law_some_kinds zs h.nm
    have e3 : iCall (m__law_some_kinds) [(iVar 1), (iVar 3), (iLit (.int 5))] Γ = m__law_some_kinds [.rnd, pap zs, .int 5] := call3 h.v1 h.v3 rfl
    rw [e3]
    assumption
  have h3 : Yl (DL.iTup [(iOp fIx (iVar 4) (iCall (m__law_next) [(iVar 1), (iBi fLen [(iVar 4)])])), (iCall (m__law_some_kinds) [(iVar 1), (iVar 3), (iLit (.int 5))])] Γ) 8 fun t => ∃ r d, t = .tup [pap r, d] ∧ r ∈ KS zs ∧ PartD zs d := by
    unfold DL.iTup
    refine (Yl.bind (k := 8) (l := 0) (Yl.evs_cons (k := 1) (l := 7) (one_kind h.nm h.v1 h.v4) (Yl.evs_cons (k := 7) (l := 0) h2 Yl.evs_nil)) fun ds hd => ?_)
    obtain ⟨_, _, rfl, ⟨r, rfl, hr⟩, d, _, rfl, hp, rfl⟩ := hd
    generalize hx : pap r = x
    have e : (if [x, d].length ≤ sizeLine then M.ret (D.tup [x, d]) else .stuck) = .ret (.tup [x, d]) := if_pos (by show 2 ≤ sizeLine; rw [sizeLine_eq]; decide)
    exact Yl.of_eq e ⟨r, d, by rw [hx], hr, hp⟩
  refine (Yl.bind (k := 8) (l := 0) h3 fun t ht => ?_)
  obtain ⟨r, d, rfl, hr, hp⟩ := ht
  refine Yl.of_eq (a := .nx ((Γ.set 9 (some (.fz (pap r)))).set 10 (some (.fz d)))) ?_ ⟨_, rfl, r, d, hr, hp, rfl⟩
  generalize pap r = x
  rfl
end
end Lw
namespace Lw
open PySem PySem.Spec L2 DL
section
variable {zs : List Str} {Γ Γ' : DL.Env} {r : List Str} {ps : List (List Str)}
theorem sP_ok (h : Sf zs Γ) (hr : PapOk zs r) (h9 : iVar 9 Γ = .ret (pap r)) : Yl (tP Γ) 540 fun fl => ∃ Γ', fl = .nx Γ' ∧ Kp [6, 7, 8] Γ Γ' := by
  have lv := kind_lv h.nm hr
  have h2 : (0 : Nat) ≤ 2 := by decide
  have z1 : An 9 0 (.str (Str.ofString "zz")) := word_an zz_ok 0
  have hl := lv.len
  have ne : r.map D.str ≠ [] := fun e => by
    have h1 := hr.one
    have q := congrArg List.length e
    rw [List.length_map, List.length_nil] at q
    omega
  have tw : Th (.tup (r.map D.str ++ r.map D.str)) := Lv.th lv h2 (fun d hd => (List.mem_append.mp hd).elim (lv.each d) (lv.each d)) (by rw [List.length_append, List.length_map]; have := hr.four; omega)
  have e : Yl (DL.iLst [(iVar 9), (DL.iRev (iVar 9)), (iBi fList [(iVar 9)]), (iOp fAdd (iVar 9) (iTup [(iLit (.str (PySem.Str.ofString "zz")))])), (iOp fMul (iVar 9) (iLit (.int 2))), (iCall (m__law_bent 6) [(iVar 1), (iVar 9)]), (iCall (m__law_odd) [(iVar 1)]), (iVar 3), (iTup [])] Γ) (60 * 9) fun d => ∃ ds, d = .lst ds ∧ ds.length = 9 ∧ ∀ x ∈ ds, Th x := by
    refine Yl.lstP (c := 60) (P := Th) (es := [_, _, _, _, _, _, _, _, _]) (fun i hi => ?_) (by decide)
    simp only [List.mem_cons, List.not_mem_nil, or_false] at hi
    rcases hi with rfl | rfl | rfl | rfl | rfl | rfl | rfl | rfl | rfl
    · exact Yl.th h9 (lv.self h2)
    · exact Yl.th (rev_of h9) (lv.rev h2)
    · exact Yl.th (list_of h9) (lv.lst h2)
    · exact Yl.th (add_of h9 (one_tup (d := .str (Str.ofString "zz")) rfl) (by rw [List.length_singleton]; omega)) (lv.one h2 z1)
    · exact Yl.th (twice_of h9 ne (by omega)) tw
    · exact bent_th (n := 1) h.v1 h9 (lv.an h2) (by decide)
    · exact odd_th h.v1
    · exact Yl.th h.v3 h.th
    · exact Yl.th tup0 th_nil
  unfold tP
  refine (Yl.for_pure (P := fun ds => ∀ x ∈ ds, Th x) (J := Kp [6, 7, 8] Γ) (k := 60 * 9) ?_ fun ds hd => pp_loop h.nm h.v3 h.len hd).mono (by decide) fun _ x => x
  unfold iiA
  refine (Yl.bind (l := 0) e fun d hd => ?_).mono (by decide) fun _ x => x
  obtain ⟨ds, rfl, _, hd⟩ := hd
  exact Yl.ret hd
theorem part_lv (hz : NamesOk zs) (hp : ∀ p ∈ ps, PapOk zs p) (hl : ps.length ≤ 5) : Lv 1 (ps.map pap) := lv_papers (fun p hm z hzm => hz.word z ((hp p hm).sub z hzm)) (fun p hm => (hp p hm).four) hl
theorem s5c_ok (h : Sf zs Γ) (hp : ∀ p ∈ ps, PapOk zs p) (hn : ps.length ≤ 5) (h10 : iVar 10 Γ = .ret (.tup (ps.map pap))) : Yl (t5c Γ) 480 fun fl => ∃ Γ', fl = .nx Γ' ∧ ∃ ds, (∀ d ∈ ds, Th d) ∧ Γ' = Γ.set 5 (some (.fz (.lst ds))) := by
  have lv := part_lv h.nm hp hn
  have h2 : (1 : Nat) ≤ 2 := by decide
  have z1 : An 9 1 (.tup [.str (Str.ofString "zz")]) := pap_an (r := [Str.ofString "zz"]) (fun z hz => by rw [List.mem_singleton] at hz; exact hz ▸ zz_ok) (by decide)
  have hl := lv.len
  have e : Yl (DL.iLst [(iVar 10), (DL.iRev (iVar 10)), (iOp fAdd (iVar 10) (iSl fSl (iVar 10) oNone (oSome (iLit (.int 1))))), (iBi fList [(iVar 10)]), (iTup []), (iOp fAdd (iVar 10) (iTup [(iTup [(iLit (.str (PySem.Str.ofString "zz")))])])), (iCall (m__law_bent 6) [(iVar 1), (iVar 10)]), (iCall (m__law_odd) [(iVar 1)])] Γ) (60 * 8) fun d => ∃ ds, d = .lst ds ∧ ds.length = 8 ∧ ∀ x ∈ ds, Th x := by
    refine Yl.lstP (c := 60) (P := Th) (es := [_, _, _, _, _, _, _, _]) (fun i hi => ?_) (by decide)
    simp only [List.mem_cons, List.not_mem_nil, or_false] at hi
    rcases hi with rfl | rfl | rfl | rfl | rfl | rfl | rfl | rfl
    · exact Yl.th h10 (lv.self h2)
    · exact Yl.th (rev_of h10) (lv.rev h2)
    · exact Yl.th (add_of h10 (head_of h10) (by rw [List.length_take]; omega)) (lv.plus h2)
    · exact Yl.th (list_of h10) (lv.lst h2)
    · exact Yl.th tup0 th_nil
    · exact Yl.th (add_of h10 (one_tup (one_tup (d := .str (Str.ofString "zz")) rfl)) (by rw [List.length_singleton]; omega)) (lv.one h2 z1)
    · exact bent_th (n := 2) h.v1 h10 (lv.an h2) (by decide)
    · exact odd_th h.v1
  unfold t5c
  refine (Yl.set e).mono (by decide) fun fl hf => ?_
  obtain ⟨Γ', rfl, d, ⟨ds, rfl, hn, hd⟩, rfl⟩ := hf
  exact ⟨_, rfl, ds, hd, rfl⟩
theorem sR_ok (h : Sf zs Γ) {ds : List D} (h5 : iVar 5 Γ = .ret (.lst ds)) (hd : ∀ d ∈ ds, Th d) : ∃ Γ', tR Γ = .ret (.nx Γ') ∧ Kp [6, 7, 8] Γ Γ' := by
  have hi : iiA (iVar 5) Γ = .ret ds := by
    unfold iiA
    rw [h5]
    rfl
  unfold tR DL.sFor
  rw [hi, M.ret_bind]
  exact rg_loop h.nm h.th h.v3 h.len hd
/-! moves -/
theorem move_th (hz : NamesOk zs) (hr : PapOk zs r) {z : Str} (hm : z ∈ zs) : An 9 1 (moveD r z) := by
  have em : WordOk z := hz.word z hm
  have er : ∀ y ∈ r, An 9 0 (.str y) := fun y hy => word_an (hz.word y (hr.sub y hy)) 0
  have ez : An 9 0 (.str z) := word_an em 0
  have eg : An 9 0 (.str (r.getD (r.idxOf z - 1) Str.empty)) := by
    rw [List.getD_eq_getElem?_getD]
    cases q : r[r.idxOf z - 1]? with
    | none => exact (by decide +kernel : An 9 0 (.str Str.empty))
    | some y => exact er y (List.mem_of_getElem? q)
  have any : ∀ l : List Str, l.length ≤ 8 → (∀ y ∈ l, An 9 0 (.str y)) → An 9 1 (pap l) := fun l hl ha => An.tup.mpr ⟨by rw [List.length_map]; exact hl, fun d hd => by
    obtain ⟨y, hy, rfl⟩ := List.mem_map.mp hd
    exact ha y hy⟩
  have h4 := hr.four
  unfold moveD
  split
  · split
    · rfl
    · refine any _ ?_ fun y hy => ?_
      · rw [List.length_append, List.length_append, List.length_take, List.length_drop]
        show _ + 2 + _ ≤ 8
        omega
      · rcases List.mem_append.mp hy with hy | hy
        · rcases List.mem_append.mp hy with hy | hy
          · exact er y (List.mem_of_mem_take hy)
          · simp only [List.mem_cons, List.not_mem_nil, or_false] at hy
            rcases hy with rfl | rfl
            · exact ez
            · exact eg
        · exact er y (List.mem_of_mem_drop hy)
  · refine any _ ?_ fun y hy => ?_
    · rw [List.length_append, List.length_singleton]
      omega
    · rcases List.mem_append.mp hy with hy | hy
      · exact er y hy
      · rw [List.mem_singleton] at hy
        exact hy ▸ ez
def mvOf (r : List Str) : D → D
  | .str z => moveD r z
  | _ => .non
theorem mv_lc {m : List D → M D} (hl : Γ.length = 13) (h3 : iVar 3 Γ = .ret (pap zs)) (h4 : zs.length ≤ 4) (h9 : iVar 9 Γ = .ret (pap r)) (hm : ∀ z, m [pap r, .str z] = .ret (moveD r z)) : iLc (gN 11) (iiA (iVar 3)) cYes (iCall m [(iVar 9), (iVar 11)]) [11] Γ = .ret (.lst ((zs.map D.str).map (mvOf r))) := by
  have hi : iiA (iVar 3) Γ = .ret (zs.map D.str) := by
    unfold iiA
    rw [h3]
    rfl
  rw [lc_all (ds := zs.map D.str) (e := mvOf r) hi ?_ (by rw [List.length_map, sizeLine_eq]; omega)]
  intro d hd
  obtain ⟨z, _, rfl⟩ := List.mem_map.mp hd
  refine ⟨_, rfl, ?_⟩
  rw [call2 ((iv_lc (by decide)).trans h9) (iv_lc_same (by omega))]
  exact hm z
theorem sM_ok (h : Sf zs Γ) (hr : PapOk zs r) (h9 : iVar 9 Γ = .ret (pap r)) : tM Γ = .ret (.nx Γ) := by
  have h4 := hr.four
  have ok : Ok 3 2647 (.lst ((zs.map D.str).map (mvOf r))) := by
    refine (Ok.lst (k := 2) (w := 659) (n := 4) (fun x hx => ?_) (by rw [List.length_map, List.length_map]; exact h.nm.four)).mono (by decide) (by decide)
    obtain ⟨d, hd, rfl⟩ := List.mem_map.mp hx
    obtain ⟨z, hz, rfl⟩ := List.mem_map.mp hd
    exact (Ok.of_an (w := 9) (by decide) 1 _ (move_th h.nm hr hz)).mono (by decide) (by decide)
  obtain ⟨t, ht, _⟩ := ok.rpS (by decide) (by decide)
  exact if_no (rp_same (mv_lc h.len h.v3 h.nm.four h9 fun z => raised_eq (by omega)) (mv_lc h.len h.v3 h.nm.four h9 fun z => move_eq (by omega)) ht ht)
theorem sLt_asymm {x y : Str} (h : sLt x y = true) : sLt y x = false := by
  have h1 : x.cps.toList < y.cps.toList := of_decide_eq_true h
  refine decide_eq_false fun h2 => ?_
  exact List.lt_irrefl _ (List.lt_trans h1 h2)
theorem rev_no (h : NamesOk zs) : namesB (pap zs.reverse) = false := by
  have h2 := h.two
  have hl : zs.reverse.length = zs.length := List.length_reverse
  have hp : zs.reverse.Pairwise fun x y => sLt y x = true := List.pairwise_reverse.mpr h.asc
  generalize zs.reverse = ys at *
  have e : namesB (pap ys) = (decide (2 ≤ (ys.map D.str).length) && (decide ((ys.map D.str).length ≤ 4) && ((ys.map D.str).all wordB && riseB (ys.map D.str)))) := rfl
  have bad : riseB (ys.map D.str) = false := by
    match ys, hl, hp with
    | [], hl, _ => simp at hl; omega
    | [x], hl, _ => simp at hl; omega
    | x :: y :: r, _, hp =>
      have e : riseB ((x :: y :: r).map D.str) = (dLt (.str x) (.str y) && riseB ((y :: r).map D.str)) := by
        simp [riseB, zipD, ltP]
      rw [e, dLt_str, sLt_asymm ((List.pairwise_cons.mp hp).1 y List.mem_cons_self)]
      rfl
  rw [e, bad]
  simp
theorem sE_ok (h : Sf zs Γ) : tE Γ = .ret (.nx Γ) := by
  have th : Th (pap zs.reverse) := by
    have := h.lv.rev (by decide)
    rwa [← List.map_reverse] at this
  obtain ⟨z, hz, _⟩ := th.rp
  have e1 : DL.iRev (iVar 3) Γ = .ret (pap zs.reverse) := by
    rw [rev_of h.v3, ← List.map_reverse]
  have e2 : iTold m__law_told (iCall (m_need_kinds) [(DL.iRev (iVar 3)), (iLit (.int 5))]) Γ = .ret (.tup [.str (Str.ofString "names"), .str z]) := by
    unfold iTold
    rw [call2 e1 (b := .int 5) rfl, need_kinds_no th (rev_no h.nm), told_names hz]
    rfl
  have e3 : DL.iTup [(iLit (.str (PySem.Str.ofString "names"))), (iBi fRp [(DL.iRev (iVar 3))])] Γ = .ret (.tup [.str (Str.ofString "names"), .str z]) := tup2 rfl (bi_ok e1 hz)
  refine if_no (asB_ok (op_ok e2 e3 ?_))
  have eq := eqvAll_strs [Str.ofString "names", z] [Str.ofString "names", z]
  have q := dEq_pap [Str.ofString "names", z] [Str.ofString "names", z]
  rw [decide_eq_true rfl] at q
  have ok : okEq (pap [Str.ofString "names", z]) (pap [Str.ofString "names", z]) = true := by
    unfold okEq
    rw [pl_pap, dep_pap]
    rfl
  show (if okEq (pap [Str.ofString "names", z]) (pap [Str.ofString "names", z]) = true then some (D.bl (!dEq (pap [Str.ofString "names", z]) (pap [Str.ofString "names", z]))) else none) = _
  rw [if_pos ok, q]
  rfl
end
end Lw
namespace Lw
open PySem PySem.Spec L2 DL
section
variable {zs : List Str} {Γ Γ' : DL.Env}
/-- the frame at a turn's ends -/
def Fm (Γ : DL.Env) : Prop := Γ.length = 13 ∧ iVar 1 Γ = .ret .rnd
theorem Sf.fm (h : Sf zs Γ) : Fm Γ := ⟨h.len, h.v1⟩
abbrev Out (fl : Fl) : Prop := ∃ Γ', fl = .nx Γ' ∧ Fm Γ'
theorem seq_eq {s t : IS} {k : Nat} {P : Fl → Prop} (h : s Γ = .ret (.nx Γ')) (h2 : Yl (t Γ') k P) : Yl (DL.sSeq s t Γ) k P := by
  rw [seq_nx h]
  exact h2
def q4 : IS := sSeq t5c (sSeq tR (sSeq tM tE))
def q3 : IS := sSeq t9 (sSeq tP q4)
def q2 : IS := sSeq t5 (sSeq t5b (sSeq tN q3))
def q1 : IS := sSeq t4 (sSeq tK q2)
theorem turn_q : turn = sSeq t3 q1 := rfl
theorem q4_ok {r : List Str} {ps : List (List Str)} (h : Sf zs Γ) (hr : PapOk zs r) (h9 : iVar 9 Γ = .ret (pap r)) (hp : ∀ p ∈ ps, PapOk zs p) (hn : ps.length ≤ 5) (h10 : iVar 10 Γ = .ret (.tup (ps.map pap))) : Yl (q4 Γ) 480 Out := by
  unfold q4
  refine (Yl.seq (k := 480) (l := 0) (s5c_ok h hp hn h10) ?_).mono (by decide) fun _ x => x
  rintro Γ1 ⟨ds, hd, e1⟩
  have k1 : Kp [5] Γ Γ1 := by rw [e1]; exact Kp.set (by decide)
  have f1 : Sf zs Γ1 := h.kp k1 (by decide)
  have v5 : iVar 5 Γ1 = .ret (.lst ds) := by rw [e1]; exact iv_same (by have := h.len; omega)
  have v9 : iVar 9 Γ1 = .ret (pap r) := (k1.at_ 9 (by decide)).trans h9
  obtain ⟨Γ2, e2, k2⟩ := sR_ok f1 v5 hd
  have f2 : Sf zs Γ2 := f1.kp k2 (by decide)
  have w9 : iVar 9 Γ2 = .ret (pap r) := (k2.at_ 9 (by decide)).trans v9
  refine seq_eq e2 (seq_eq (sM_ok f2 hr w9) ?_)
  exact Yl.of_eq (sE_ok f2) ⟨Γ2, rfl, f2.fm⟩
theorem q3_ok (h : Sf zs Γ) : Yl (q3 Γ) (8 + (540 + 480)) Out := by
  unfold q3
  refine Yl.seq (k := 8) (l := 540 + 480) (s9_ok h) ?_
  rintro Γ1 ⟨r, d, hr, ⟨ps, hd, hn, hp⟩, e1⟩
  have hl := h.len
  have k1 : Kp [9, 10] Γ Γ1 := by rw [e1]; exact (Kp.set (by decide)).trans (Kp.set (by decide))
  have f1 : Sf zs Γ1 := h.kp k1 (by decide)
  have v9 : iVar 9 Γ1 = .ret (pap r) := by rw [e1, iv_ne (by decide)]; exact iv_same (by omega)
  have v10 : iVar 10 Γ1 = .ret (.tup (ps.map pap)) := by rw [e1, hd]; exact iv_same (by rw [List.length_set]; omega)
  have hr := KS_mem h.nm.four hr
  refine Yl.seq (k := 540) (l := 480) (sP_ok f1 hr v9) ?_
  intro Γ2 k2
  exact q4_ok (f1.kp k2 (by decide)) hr ((k2.at_ 9 (by decide)).trans v9) hp hn ((k2.at_ 10 (by decide)).trans v10)
theorem q2_ok (h : Sf zs Γ) : Yl (q2 Γ) (480 + (180 + (8 + (540 + 480)))) Out := by
  unfold q2
  refine Yl.seq (k := 480) (l := 180 + (8 + (540 + 480))) (s5_ok h) ?_
  rintro Γ1 ⟨ds, hd, hn, e1⟩
  have k1 : Kp [5] Γ Γ1 := by rw [e1]; exact Kp.set (by decide)
  have f1 : Sf zs Γ1 := h.kp k1 (by decide)
  have v5 : iVar 5 Γ1 = .ret (.lst ds) := by rw [e1]; exact iv_same (by have := h.len; omega)
  refine Yl.seq (k := 180) (l := 8 + (540 + 480)) (s5b_ok f1 v5 hd hn) ?_
  rintro Γ2 ⟨es, he, e2⟩
  have k2 : Kp [5] Γ1 Γ2 := by rw [e2]; exact Kp.set (by decide)
  have f2 : Sf zs Γ2 := f1.kp k2 (by decide)
  have w5 : iVar 5 Γ2 = .ret (.lst es) := by rw [e2]; exact iv_same (by have := f1.len; omega)
  obtain ⟨Γ3, e3, k3⟩ := sN_ok f2.len w5 he
  exact seq_eq e3 (q3_ok (f2.kp k3 (by decide)))
theorem turn_ok (h : Fm Γ) : Yl (turn Γ) 1700 Out := by
  obtain ⟨hl, hm⟩ := h
  rw [turn_q]
  refine (Yl.seq (k := 12) (l := 480 + (180 + (8 + (540 + 480)))) (s3_ok hl hm) ?_).mono (by decide) fun _ x => x
  rintro Γ1 ⟨zs, hz, e1⟩
  have k1 : Kp [3] Γ Γ1 := by rw [e1]; exact Kp.set (by decide)
  have l1 : Γ1.length = 13 := k1.len.trans hl
  have v3 : iVar 3 Γ1 = .ret (pap zs) := by rw [e1]; exact iv_same (by omega)
  obtain ⟨e2, f2⟩ := s4_ok hz l1 ((k1.at_ 1 (by decide)).trans hm) v3
  unfold q1
  exact seq_eq e2 (seq_eq (sK_ok f2) (q2_ok f2))
end
end Lw
namespace Lw
open PySem PySem.Spec L2 DL
theorem lim_big {n : Nat} (h : n ≤ 2 ^ 40) : n ≤ lim := by
  unfold lim
  exact Nat.le_trans h (Nat.pow_le_pow_right (by decide) (by decide))
theorem call0 {m : List D → M D} {Γ : DL.Env} {a : D} (h : iVar 0 Γ = .ret a) : iCall m [iVar 0] Γ = m [a] := call1 h
theorem Yl.at {α β : Type} {m : M α} {f : α → M β} {c B : Nat} {P : α → Prop} {v : β} (hB : B = lim) (h : Yl m c P) (hc : c ≤ B) (hf : ∀ a, P a → f a = .ret v) : (m.bind f).wpB B (fun d _ => d = v) (fun _ _ => False) := by
  refine (M.wpB_bind _ _).mpr (M.wpB_mono (fun a b ha => ?_) (fun _ _ x => x) _ _ (h B hc (Nat.le_of_eq hB)))
  rw [hf a ha.2.2]
  exact rfl
theorem gN_bind {α : Type} (n : Nat) (d : D) (Γ Γ' : DL.Env) (t : DL.Env → M α) (h : Γ.set n (some (.fz d)) = Γ') : (gN n d Γ).bind t = t Γ' := h ▸ rfl
/-- a law that begins, walks, and tells True -/
theorem law_shape {n kk c : Nat} {it : II} {t : IS} {ns : List Int} {G : DL.Env} (h1 : ns.length ≤ 63) (h2 : ∀ z ∈ ns, bitsOk z) (e0 : env0 n [D.scr ns] = some (.fz (.scr ns)) :: none :: G) (I : DL.Env → Prop)
    (hit : ∃ j, j ≤ kk ∧ it (some (.fz (.scr ns)) :: some (.fz .rnd) :: G) = .ret (rngD 0 j)) (h0 : I (some (.fz (.scr ns)) :: some (.fz .rnd) :: G)) (hs : ∀ d Γ, I Γ → Yl ((gN 2 d Γ).bind t) c fun fl => ∃ Γ', fl = .nx Γ' ∧ I Γ') (hc : c * kk ≤ 2 ^ 40) :
    (runFn n (DL.sSeq (DL.sSet 1 (iCall mBegun [iVar 0])) (DL.sSeq (DL.sFor (gN 2) it t) (DL.sRet (iLit (.bl true))))) [.scr ns]).wpB (lim + 1) (fun d _ => d = .bl true) (fun _ _ => False) := by
  unfold runFn
  refine (M.wpB_bind _ _).mpr ?_
  rw [e0]
  have e1 : mBegun [.scr ns] = .begun (.ret .rnd) := by
    unfold mBegun
    exact if_pos ⟨h1, h2⟩
  have e2 : DL.sSet 1 (iCall mBegun [iVar 0]) (some (.fz (.scr ns)) :: none :: G) = .begun (.ret (.nx (some (.fz (.scr ns)) :: some (.fz .rnd) :: G))) := by
    unfold DL.sSet
    rw [call0 (a := .scr ns) rfl, e1]
    rfl
  unfold DL.sSeq
  rw [e2]
  refine ⟨rfl, ?_⟩
  obtain ⟨j, hj, ej⟩ := hit
  have hl : (rngD 0 j).length = j := by unfold rngD; simp
  have hw : Yl (DL.sFor (gN 2) it t (some (.fz (.scr ns)) :: some (.fz .rnd) :: G)) (c * kk) fun fl => ∃ Γ', fl = .nx Γ' ∧ I Γ' := by
    unfold DL.sFor
    rw [ej, M.ret_bind]
    exact (Yl.loop (rngD 0 j) (fun _ => I) (fun _ d Γ _ hI => hs d Γ hI) h0).mono (by rw [hl]; exact Nat.mul_le_mul_left _ hj) fun _ x => x
  rw [M.ret_bind]
  refine (M.wpB_bind _ _).mp ?_
  simp only []
  rw [M.bind_assoc]
  refine Yl.at rfl hw (lim_big hc) ?_
  rintro fl ⟨Γ, rfl, _⟩
  rfl
theorem min2_ok {ns : List Int} {k : Nat} {Γ : DL.Env} (h : iVar 0 Γ = .ret (.scr ns)) : iBi fMin2 [(iBi fLen [(iVar 0)]), (iLit (.int k))] Γ = .ret (.int ((min ns.length k : Nat) : Int)) := by
  have e : iBi fLen [iVar 0] Γ = .ret (.int (ns.length : Nat)) := bi_ok h rfl
  have e2 : evs [(iBi fLen [(iVar 0)]), (iLit (.int k))] Γ = .ret [.int (ns.length : Nat), .int k] := by
    simp only [evs, e, iLit, M.ret_bind]
  have e3 : fMin2 [.int (ns.length : Nat), .int k] = some (.int ((min ns.length k : Nat) : Int)) := by
    unfold fMin2
    simp only
    congr 2
    split <;> omega
  unfold iBi at e2 ⊢
  rw [e2, M.ret_bind, e3]
/-- range(k + min(len(script), l)) -/
theorem walk_ok {ns : List Int} {k l : Nat} {Γ : DL.Env} (h : iVar 0 Γ = .ret (.scr ns)) (hk : k + l < 21) : ∃ j, j ≤ k + l ∧ iiR1 (iOp fAdd (iLit (.int k)) (iBi fMin2 [(iBi fLen [(iVar 0)]), (iLit (.int l))])) Γ = .ret (rngD 0 j) :=
  ⟨k + min ns.length l, by omega, rng_eq (by omega) (op_ok (a := .int k) (b := .int ((min ns.length l : Nat) : Int)) rfl (min2_ok h) (by rw [fAdd_int]; congr 2))⟩
theorem law_m {ns : List Int} (h1 : ns.length ≤ 63) (h2 : ∀ z ∈ ns, bitsOk z) : (m_law [.scr ns]).wpB (lim + 1) (fun d _ => d = .bl true) (fun _ _ => False) := by
  unfold m_law
  rw [law_text]
  refine law_shape (kk := 12) (c := 1700) (G := [none, none, none, none, none, none, none, none, none, none, none]) h1 h2 rfl Fm (walk_ok (k := 4) (l := 8) rfl (by decide)) ⟨rfl, rfl⟩ ?_ (by decide)
  rintro d Γ ⟨hl, hm⟩
  rw [gN_bind (h := rfl)]
  exact turn_ok ⟨by rw [List.length_set]; exact hl, (iv_ne (by decide)).trans hm⟩
end Lw
namespace Lw
open PySem PySem.Spec L2 DL DLH
def clsName : Nat → Str
  | 1 => "BadNames"
  | 2 => "BadKinds"
  | _ => "BadNames"
def clsFld : Nat → List Str
  | 1 => ["value"]
  | 2 => ["value"]
  | _ => []
def Lk (K : PySem.W.Frag) : Lx := ⟨K, [((He.cT K ("law", none)).2, lamQ "law")], fun n => He.ga K (clsName n), clsFld, none, none, true⟩
def initOf (i : Nat) : Stmt := match topS i with
  | .ClassDef (body := body) .. => (body.find? fun s => match s with
    | .FunctionDef .. => true
    | _ => false).getD (.Pass ⟨0, 0, 0, 0⟩)
  | _ => .Pass ⟨0, 0, 0, 0⟩
def dOf (x : Str) (st : Stmt) : He.DefD := ⟨(x, none), x, x, defArgs st, defBody st, defScope st, [], []⟩
def dMe (C m q : Str) (st : Stmt) : He.DefD := ⟨(C, some m), m, q, defArgs st, defBody st, defScope st, [], []⟩
def fn : List He.DefD := [dOf "_law_begun" (topS 19), dOf "_law_next" (topS 20), dOf "_law_names" (topS 21), dOf "_law_many" (topS 26), dOf "_law_kinds" (topS 27), dOf "all_kinds" (topS 13), dOf "_law_odd" (topS 24), dOf "_law_bent" (topS 25), dOf "_law_is_name" (topS 23), dOf "_law_are_rising" (topS 31), dOf "_is_word" (topS 16), dOf "is_ascending" (topS 5), dOf "are_names" (topS 11), dOf "need_names" (topS 10), dOf "_law_told" (topS 32), dOf "_law_some_kinds" (topS 28), dOf "is_paper" (topS 12), dOf "_law_is_paper" (topS 30), dOf "_is_range" (topS 17), dOf "need_kinds" (topS 14), dOf "raised" (topS 15), dOf "_law_move" (topS 29), dOf "law" (topS 33), dMe "BadNames" "__init__" "BadNames.__init__" (initOf 2), dMe "BadKinds" "__init__" "BadKinds.__init__" (initOf 3)]
def fa : List He.Fa := [.glo "_law_begun", .glo "_law_next", .glo "_law_names", .glo "_law_many", .glo "_law_kinds", .glo "all_kinds", .glo "_law_odd", .glo "_law_bent", .glo "_law_is_name", .glo "_law_are_rising", .glo "_is_word", .glo "is_ascending", .glo "are_names", .glo "need_names", .glo "_law_told", .glo "_law_some_kinds", .glo "is_paper", .glo "_law_is_paper", .glo "_is_range", .glo "need_kinds", .glo "raised", .glo "_law_move", .glo "law", .free "all", .free "bool", .free "int", .free "isinstance", .free "len", .free "list", .free "min", .free "range", .free "repr", .free "set", .free "sorted", .free "str", .free "tuple", .free "zip", .int "MOST_NAMES" 4, .int "_FEWEST_NAMES" 2, .int "_MOST_LETTERS" 8] ++ [.glo "BadNames", .glo "BadKinds", .exm "BadNames" "BadNames" true, .exm "BadNames" "BadKinds" false, .exm "BadKinds" "BadNames" false, .exm "BadKinds" "BadKinds" true]
/-- what isinstance asks of an own class -/
def insB (K : PySem.W.Frag) (C : Addr) : Bool :=
  He.eqO (PySem.W.findIn K (.ref C) "__class__") (some (some (.builtin "object.__class__"))) && (He.eqO (PySem.W.specialIn K (.builtin "object.__class__") "__get__") (some (some (.builtin "getset_descriptor.__get__"))) &&
  (decide (PySem.W.takesIn K (.builtin "object.__class__") = some true) && decide (PySem.W.mroIn K C (.type "object") = some true)))
theorem insB_ok {K : PySem.W.Frag} {C : Addr} (c : Cls K C) (h : insB K C = true) : InsC K C := by
  obtain ⟨h1, h⟩ := He.ba h
  obtain ⟨h2, h⟩ := He.ba h
  obtain ⟨h3, h4⟩ := He.ba h
  exact ⟨c, He.eqO_ok h1, He.eqO_ok h2, of_decide_eq_true h3, of_decide_eq_true h4⟩
def xb (K : PySem.W.Frag) : Bool := exB K (He.ga K "BadNames") "value" [.type "ValueError", .type "Exception", .type "BaseException", .type "object"] "ValueError.__new__" && (exB K (He.ga K "BadKinds") "value" [.type "ValueError", .type "Exception", .type "BaseException", .type "object"] "ValueError.__new__" && ((tabB.all fun e => decide (PySem.W.kitOne K (.type e.1) ((Lk K).tv e.2.1) = some e.2.2)) && ((tabI.all fun e => decide (PySem.W.kitOne K (.ref ((Lk K).cA e.1)) ((Lk K).tv e.2.1) = some e.2.2)))))
abbrev R : PySem.W.OpenRow := PySem.W.OpenLaw.row PySem.Challenge.rw_handedvotes_k01_whole_papers_and_ranges
def tf : List He.Defn := [("law", none)]
abbrev hk : PySem.W.Hook := He.hookX 5 fa fn [] tf xb
def ob (s : PySem.W.SharedT) : He.AlX := He.obsX 5 fa fn [] tf xb (HandSHeadRun.getT s)
theorem ob_eq (s : PySem.W.SharedT) : ob s = hk.obs s.abs := He.obsX_eq (HandSHeadRun.getT_eq s)
def loose : List PySem.Str := [("VoteError" : PySem.Str), ("BadNames" : PySem.Str), ("BadKinds" : PySem.Str), ("is_ascending" : PySem.Str), ("MOST_NAMES" : PySem.Str), ("_FEWEST_NAMES" : PySem.Str), ("_MOST_LETTERS" : PySem.Str), ("need_names" : PySem.Str), ("are_names" : PySem.Str), ("is_paper" : PySem.Str), ("all_kinds" : PySem.Str), ("need_kinds" : PySem.Str), ("raised" : PySem.Str), ("_is_word" : PySem.Str), ("_is_range" : PySem.Str), ("_law_begun" : PySem.Str), ("_law_next" : PySem.Str), ("_law_names" : PySem.Str), ("_law_is_whole" : PySem.Str), ("_law_is_name" : PySem.Str), ("_law_odd" : PySem.Str), ("_law_bent" : PySem.Str), ("_law_many" : PySem.Str), ("_law_kinds" : PySem.Str), ("_law_some_kinds" : PySem.Str), ("_law_move" : PySem.Str), ("_law_is_paper" : PySem.Str), ("_law_are_rising" : PySem.Str), ("_law_told" : PySem.Str)]
theorem run (w : World) : HandSHeadRun.RunEq R (PySem.W.view R.prog [33]) hk ob 20000 loose w := by
  intro os
  kernel_rfl
end Lw
namespace Lw
open PySem PySem.Spec L2 DL DLH
def coL (K : PySem.W.Frag) : Nat → Addr := fun i => match i with | 22 => (He.cT K ("law", none)).1 | _ => 0
def tbL (K : PySem.W.Frag) : Nat → Addr := fun i => match i with | 22 => (He.cT K ("law", none)).2 | _ => 0
theorem facts {K : PySem.W.Frag} {h : Heap} {mg : Str → Option Value} (X : K.In h) (G : h.Ns mainGlobals mg) (hb : xb K = true) (c : He.SaysD fa fn K) :
    ∃ (f : Nat → Addr) (fd : Nat → FuncData) (fI : Nat → Addr), Md (Lk K) mg f fd fI (coL K) (tbL K) ∧ f 22 = He.ga K "law" ∧ ∀ (s : Shared) (u : Value), BindsTo s (fd 22) ⟨[u], []⟩ [("script", u)] := by
  unfold xb at hb
  obtain ⟨e0, hb⟩ := He.ba hb
  obtain ⟨e1, hb⟩ := He.ba hb
  obtain ⟨e2, hb⟩ := He.ba hb
  obtain ⟨fd0, F0⟩ := c.def_ 0 (d := dOf "_law_begun" (topS 19)) rfl
  obtain ⟨fd1, F1⟩ := c.def_ 1 (d := dOf "_law_next" (topS 20)) rfl
  obtain ⟨fd2, F2⟩ := c.def_ 2 (d := dOf "_law_names" (topS 21)) rfl
  obtain ⟨fd3, F3⟩ := c.def_ 3 (d := dOf "_law_many" (topS 26)) rfl
  obtain ⟨fd4, F4⟩ := c.def_ 4 (d := dOf "_law_kinds" (topS 27)) rfl
  obtain ⟨fd5, F5⟩ := c.def_ 5 (d := dOf "all_kinds" (topS 13)) rfl
  obtain ⟨fd6, F6⟩ := c.def_ 6 (d := dOf "_law_odd" (topS 24)) rfl
  obtain ⟨fd7, F7⟩ := c.def_ 7 (d := dOf "_law_bent" (topS 25)) rfl
  obtain ⟨fd8, F8⟩ := c.def_ 8 (d := dOf "_law_is_name" (topS 23)) rfl
  obtain ⟨fd9, F9⟩ := c.def_ 9 (d := dOf "_law_are_rising" (topS 31)) rfl
  obtain ⟨fd10, F10⟩ := c.def_ 10 (d := dOf "_is_word" (topS 16)) rfl
  obtain ⟨fd11, F11⟩ := c.def_ 11 (d := dOf "is_ascending" (topS 5)) rfl
  obtain ⟨fd12, F12⟩ := c.def_ 12 (d := dOf "are_names" (topS 11)) rfl
  obtain ⟨fd13, F13⟩ := c.def_ 13 (d := dOf "need_names" (topS 10)) rfl
  obtain ⟨fd14, F14⟩ := c.def_ 14 (d := dOf "_law_told" (topS 32)) rfl
  obtain ⟨fd15, F15⟩ := c.def_ 15 (d := dOf "_law_some_kinds" (topS 28)) rfl
  obtain ⟨fd16, F16⟩ := c.def_ 16 (d := dOf "is_paper" (topS 12)) rfl
  obtain ⟨fd17, F17⟩ := c.def_ 17 (d := dOf "_law_is_paper" (topS 30)) rfl
  obtain ⟨fd18, F18⟩ := c.def_ 18 (d := dOf "_is_range" (topS 17)) rfl
  obtain ⟨fd19, F19⟩ := c.def_ 19 (d := dOf "need_kinds" (topS 14)) rfl
  obtain ⟨fd20, F20⟩ := c.def_ 20 (d := dOf "raised" (topS 15)) rfl
  obtain ⟨fd21, F21⟩ := c.def_ 21 (d := dOf "_law_move" (topS 29)) rfl
  obtain ⟨fd22, F22⟩ := c.def_ 22 (d := dOf "law" (topS 33)) rfl
  obtain ⟨fd23, F23⟩ := c.def_ 23 (d := dMe "BadNames" "__init__" "BadNames.__init__" (initOf 2)) rfl
  obtain ⟨fd24, F24⟩ := c.def_ 24 (d := dMe "BadKinds" "__init__" "BadKinds.__init__" (initOf 3)) rfl
  refine ⟨fun i => match i with | 0 => He.ga K "_law_begun" | 1 => He.ga K "_law_next" | 2 => He.ga K "_law_names" | 3 => He.ga K "_law_many" | 4 => He.ga K "_law_kinds" | 5 => He.ga K "all_kinds" | 6 => He.ga K "_law_odd" | 7 => He.ga K "_law_bent" | 8 => He.ga K "_law_is_name" | 9 => He.ga K "_law_are_rising" | 10 => He.ga K "_is_word" | 11 => He.ga K "is_ascending" | 12 => He.ga K "are_names" | 13 => He.ga K "need_names" | 14 => He.ga K "_law_told" | 15 => He.ga K "_law_some_kinds" | 16 => He.ga K "is_paper" | 17 => He.ga K "_law_is_paper" | 18 => He.ga K "_is_range" | 19 => He.ga K "need_kinds" | 20 => He.ga K "raised" | 21 => He.ga K "_law_move" | 22 => He.ga K "law" | _ => 0, fun i => match i with | 0 => fd0 | 1 => fd1 | 2 => fd2 | 3 => fd3 | 4 => fd4 | 5 => fd5 | 6 => fd6 | 7 => fd7 | 8 => fd8 | 9 => fd9 | 10 => fd10 | 11 => fd11 | 12 => fd12 | 13 => fd13 | 14 => fd14 | 15 => fd15 | 16 => fd16 | 17 => fd17 | 18 => fd18 | 19 => fd19 | 20 => fd20 | 21 => fd21 | 22 => fd22 | _ => fd0, fun n => He.ma K (He.ga K (clsName n)) "__init__", ?_, rfl, ?_⟩
  · refine {
      F__law_begun := fun_of F0
      g__law_begun := He.glo_ok X G (c.fact 0 rfl)
      k__law_begun := F0.kp
      b__law_begun := F0.bindsN fun _ _ _ _ _ _ us hl => match us, hl with | [_], _ => rfl
      F__law_next := fun_of F1
      g__law_next := He.glo_ok X G (c.fact 1 rfl)
      k__law_next := F1.kp
      b__law_next := F1.bindsN fun _ _ _ _ _ _ us hl => match us, hl with | [_, _], _ => rfl
      F__law_names := fun_of F2
      g__law_names := He.glo_ok X G (c.fact 2 rfl)
      k__law_names := F2.kp
      b__law_names := F2.bindsN fun _ _ _ _ _ _ us hl => match us, hl with | [_, _], _ => rfl
      F__law_many := fun_of F3
      g__law_many := He.glo_ok X G (c.fact 3 rfl)
      k__law_many := F3.kp
      b__law_many := F3.bindsN fun _ _ _ _ _ _ us hl => match us, hl with | [_, _], _ => rfl
      F__law_kinds := fun_of F4
      g__law_kinds := He.glo_ok X G (c.fact 4 rfl)
      k__law_kinds := F4.kp
      b__law_kinds := F4.bindsN fun _ _ _ _ _ _ us hl => match us, hl with | [_], _ => rfl
      F_all_kinds := fun_of F5
      g_all_kinds := He.glo_ok X G (c.fact 5 rfl)
      k_all_kinds := F5.kp
      b_all_kinds := F5.bindsN fun _ _ _ _ _ _ us hl => match us, hl with | [_], _ => rfl
      F__law_odd := fun_of F6
      g__law_odd := He.glo_ok X G (c.fact 6 rfl)
      k__law_odd := F6.kp
      b__law_odd := F6.bindsN fun _ _ _ _ _ _ us hl => match us, hl with | [_], _ => rfl
      F__law_bent := fun_of F7
      g__law_bent := He.glo_ok X G (c.fact 7 rfl)
      k__law_bent := F7.kp
      b__law_bent := F7.bindsN fun _ _ _ _ _ _ us hl => match us, hl with | [_, _], _ => rfl
      F__law_is_name := fun_of F8
      g__law_is_name := He.glo_ok X G (c.fact 8 rfl)
      k__law_is_name := F8.kp
      b__law_is_name := F8.bindsN fun _ _ _ _ _ _ us hl => match us, hl with | [_], _ => rfl
      F__law_are_rising := fun_of F9
      g__law_are_rising := He.glo_ok X G (c.fact 9 rfl)
      k__law_are_rising := F9.kp
      b__law_are_rising := F9.bindsN fun _ _ _ _ _ _ us hl => match us, hl with | [_], _ => rfl
      F__is_word := fun_of F10
      g__is_word := He.glo_ok X G (c.fact 10 rfl)
      k__is_word := F10.kp
      b__is_word := F10.bindsN fun _ _ _ _ _ _ us hl => match us, hl with | [_], _ => rfl
      F_is_ascending := fun_of F11
      g_is_ascending := He.glo_ok X G (c.fact 11 rfl)
      k_is_ascending := F11.kp
      b_is_ascending := F11.bindsN fun _ _ _ _ _ _ us hl => match us, hl with | [_], _ => rfl
      F_are_names := fun_of F12
      g_are_names := He.glo_ok X G (c.fact 12 rfl)
      k_are_names := F12.kp
      b_are_names := F12.bindsN fun _ _ _ _ _ _ us hl => match us, hl with | [_], _ => rfl
      F_need_names := fun_of F13
      g_need_names := He.glo_ok X G (c.fact 13 rfl)
      k_need_names := F13.kp
      b_need_names := F13.bindsN fun _ _ _ _ _ _ us hl => match us, hl with | [_], _ => rfl
      F__law_told := fun_of F14
      g__law_told := He.glo_ok X G (c.fact 14 rfl)
      k__law_told := F14.kp
      b__law_told := F14.bindsN fun _ _ _ _ _ _ us hl => match us, hl with | [_], _ => rfl
      F__law_some_kinds := fun_of F15
      g__law_some_kinds := He.glo_ok X G (c.fact 15 rfl)
      k__law_some_kinds := F15.kp
      b__law_some_kinds := F15.bindsN fun _ _ _ _ _ _ us hl => match us, hl with | [_, _, _], _ => rfl
      F_is_paper := fun_of F16
      g_is_paper := He.glo_ok X G (c.fact 16 rfl)
      k_is_paper := F16.kp
      b_is_paper := F16.bindsN fun _ _ _ _ _ _ us hl => match us, hl with | [_, _], _ => rfl
      F__law_is_paper := fun_of F17
      g__law_is_paper := He.glo_ok X G (c.fact 17 rfl)
      k__law_is_paper := F17.kp
      b__law_is_paper := F17.bindsN fun _ _ _ _ _ _ us hl => match us, hl with | [_, _], _ => rfl
      F__is_range := fun_of F18
      g__is_range := He.glo_ok X G (c.fact 18 rfl)
      k__is_range := F18.kp
      b__is_range := F18.bindsN fun _ _ _ _ _ _ us hl => match us, hl with | [_, _], _ => rfl
      F_need_kinds := fun_of F19
      g_need_kinds := He.glo_ok X G (c.fact 19 rfl)
      k_need_kinds := F19.kp
      b_need_kinds := F19.bindsN fun _ _ _ _ _ _ us hl => match us, hl with | [_, _], _ => rfl
      F_raised := fun_of F20
      g_raised := He.glo_ok X G (c.fact 20 rfl)
      k_raised := F20.kp
      b_raised := F20.bindsN fun _ _ _ _ _ _ us hl => match us, hl with | [_, _], _ => rfl
      F__law_move := fun_of F21
      g__law_move := He.glo_ok X G (c.fact 21 rfl)
      k__law_move := F21.kp
      b__law_move := F21.bindsN fun _ _ _ _ _ _ us hl => match us, hl with | [_, _], _ => rfl
      F_law := fun_of F22
      b_law := F22.bindsN fun _ _ _ _ _ _ us hl => match us, hl with | [_], _ => rfl
      n_all := He.free_ok X G (c.fact 23 rfl)
      n_bool := He.free_ok X G (c.fact 24 rfl)
      n_int := He.free_ok X G (c.fact 25 rfl)
      n_isinstance := He.free_ok X G (c.fact 26 rfl)
      n_len := He.free_ok X G (c.fact 27 rfl)
      n_list := He.free_ok X G (c.fact 28 rfl)
      n_min := He.free_ok X G (c.fact 29 rfl)
      n_range := He.free_ok X G (c.fact 30 rfl)
      n_repr := He.free_ok X G (c.fact 31 rfl)
      n_set := He.free_ok X G (c.fact 32 rfl)
      n_sorted := He.free_ok X G (c.fact 33 rfl)
      n_str := He.free_ok X G (c.fact 34 rfl)
      n_tuple := He.free_ok X G (c.fact 35 rfl)
      n_zip := He.free_ok X G (c.fact 36 rfl)
      i_MOST_NAMES := He.int_ok X G (c.fact 37 rfl)
      i__FEWEST_NAMES := He.int_ok X G (c.fact 38 rfl)
      i__MOST_LETTERS := He.int_ok X G (c.fact 39 rfl)
      cd_law := code_of (p := ("law", none)) F22
      T_law := .head _
      U_law := fun p hp he => by
        unfold Lk at hp
        simp only [List.mem_cons, List.not_mem_nil, or_false] at hp
        rcases hp with rfl
        · exact rfl
      c1 := He.glo_ok X G (c.fact 40 rfl)
      h1 := rfl
      x1 := exB_ok (bm := [.type "ValueError", .type "Exception", .type "BaseException", .type "object"]) PySem.F.excBase_ValueError PySem.F.store_ValueError e0 (.inl rfl) (by decide +kernel) F23
      c2 := He.glo_ok X G (c.fact 41 rfl)
      h2 := rfl
      x2 := exB_ok (bm := [.type "ValueError", .type "Exception", .type "BaseException", .type "object"]) PySem.F.excBase_ValueError PySem.F.store_ValueError e1 (.inl rfl) (by decide +kernel) F24
      tab := ⟨fun e he => of_decide_eq_true (List.all_eq_true.mp e2 e he), fun e he => (by cases he), fun e he => ⟨?_, of_decide_eq_true (List.all_eq_true.mp hb e he)⟩⟩
      sb := ?_
      er := rfl
      fz := rfl }
    · cases he
    · intro e he
      unfold subT at he
      simp only [List.mem_cons, List.not_mem_nil, or_false] at he
      rcases he with rfl | rfl | rfl | rfl
      · exact He.exm_ok (c.fact 42 (f := .exm "BadNames" "BadNames" true) rfl)
      · exact He.exm_ok (c.fact 43 (f := .exm "BadNames" "BadKinds" false) rfl)
      · exact He.exm_ok (c.fact 44 (f := .exm "BadKinds" "BadNames" false) rfl)
      · exact He.exm_ok (c.fact 45 (f := .exm "BadKinds" "BadKinds" true) rfl)
  · exact fun s u => FunD.bindsA (ps := ["script"]) F22 (fun _ _ _ _ _ _ us hl => match us, hl with | [_], _ => rfl) s [u] rfl
end Lw
open PySem PySem.W PySem.Calls PyProof.Rows
theorem Lw.tbs {K : PySem.W.Frag} {mg : PySem.Str → Option Value} {base : Heap} (h : ∀ p ∈ Lw.tf.map (He.cT K), LamX.TabB base mg p.1 p.2) : Lw.Tbs mg base (Lw.coL K) (Lw.tbL K) := ⟨h _ (List.mem_map.mpr ⟨("law", none), .head _, rfl⟩)⟩
theorem Lw.lT {K : PySem.W.Frag} : ∀ q ∈ (Lw.Lk K).T, q.1 ∈ (Lw.tf.map (He.cT K)).map (·.2) := by
  intro q hq
  unfold Lw.Lk at hq
  simp only [List.mem_cons, List.not_mem_nil, or_false] at hq
  rcases hq with rfl
  · exact .head _

theorem Lw.bits_ok {z : Int} (h : Builtin.Int.intBits z ≤ 1048576) : DL.bitsOk z := by
  unfold DL.bitsOk
  by_cases e : z = 0
  · subst e
    exact Nat.pow_pos (by decide)
  · have h2 : z.natAbs.log2 + 1 ≤ 1048576 := by
      unfold Builtin.Int.intBits at h
      rw [if_neg (by simpa using e)] at h
      exact h
    exact Nat.lt_of_lt_of_le Nat.lt_log2_self (Nat.pow_le_pow_right (by decide) (by omega))
theorem PySem.Challenge.cw_handedvotes_k01_whole_papers_and_ranges_holds : PySem.Challenge.rw_handedvotes_k01_whole_papers_and_ranges.Holds := by
  w_on; o_law
  refine HandSHeadRun.head_any (r := OpenLaw.row PySem.Challenge.rw_handedvotes_k01_whole_papers_and_ranges) (q := view (OpenLaw.row PySem.Challenge.rw_handedvotes_k01_whole_papers_and_ranges).prog [33]) (H := Lw.hk) (ob := Lw.ob) (M := 20000) (loose := Lw.loose) (d := HandSHeadRun.topDef (OpenLaw.row PySem.Challenge.rw_handedvotes_k01_whole_papers_and_ranges).prog 33) (kwd := []) Lw.ob_eq
    (by kernel_rfl) (fun s => by kernel_rfl) Lw.run (by kernel_rfl) (by kernel_rfl) (by kernel_rfl) (by rfl) (by first | assumption | decide +kernel) (by decide +kernel) ⟨rfl, rfl, rfl, rfl, rfl, by decide +kernel⟩ ?hw ?hc
  case hw => w_witness2
  case hc =>
    refine Att.attach_callB (l := PySem.Challenge.rw_handedvotes_k01_whole_papers_and_ranges) (n := 63) rfl (by kernel_rfl) fun w s₀ s₁ mg mb fa o pm cd doc a vs ns G Y ho hd hcd hmg hobj hints hlen hbits hg => ?_
    obtain ⟨K, KX, S⟩ := Y
    have hb := S.more
    have c := S.t.d
    obtain ⟨f, fd, fI, M, e5, b5⟩ := Lw.facts KX G.T.g hb c
    have hmg2 : mg ("law" : PySem.Str) = some (.ref fa) := by
      have e : (HandSHeadRun.topDef (OpenLaw.row PySem.Challenge.rw_handedvotes_k01_whole_papers_and_ranges).prog 33).name = ("law" : PySem.Str) := by kernel_rfl
      rw [← e]
      exact hmg
    have e := hmg2.symm.trans (He.glo_ok KX G.T.g (c.fact 22 (f := .glo "law") rfl))
    have ea : fa = f 22 := by rw [e5]; exact Value.ref.inj (Option.some.inj e)
    subst ea
    exact DL.law_callGT (L := Lw.Lk K) (k := 11) (m := Lw.m_law) (x := "script") (cs := Lw.tf.map (He.cT K)) rfl Lw.lT KX G.T.g G.T.b G.T.builtins G.T.nolimit hg (fun p hp => by obtain ⟨d, hd, rfl⟩ := List.mem_map.mp hp; exact S.empty d hd) (fun p hp => by obtain ⟨d, hd, rfl⟩ := List.mem_map.mp hp; exact S.out d hd) (fun p hp => by obtain ⟨d, hd, rfl⟩ := List.mem_map.mp hp; exact PySem.W.codeHd_of_K KX (S.hd d hd)) G.T.bmain hobj hints (Nat.le_trans hlen (by decide)) ⟨rfl, by decide, by decide⟩ (fun base _ _ h => Lw.g_law M (Lw.tbs h)) b5
      (Lw.law_m hlen fun z hz => Lw.bits_ok (hbits z hz))
