import PyProof.Rows.All
import Wide.All
import OpenK.AllK
import Wide.FinOn
import HandS.ForMost
import HandS.ForExc
import HandS.Lambda
import HandS.EndTab
import HandS.ExcInit
import HandS.TupAny
import HandS.TupMul
import HandS.Wide
import KE.DataEq
import KE.DataFind
import HandS.Text
import HandS.Deep
import HandS.IsInst
import HandS.Iter
import PyProof.ReprRoads
import HandS.Exc
import HandS.ExcField
import HandS.ExcIs
import KE.KExcInit
import HandS.EndBits
import HandS.Head0
import HandS.Head1
import HandS.Head2
import HandS.HeadEnd
import HandS.HeadHook1
import HandS.HeadHook2
import KE.KStateDown
import HandS.TryMany
import HandS.Defaults
import KE.DataCmp
import HandS.Style
import PyProof.StrBlock2
import KE.SortData
import KE.KEqNest
import HandS.Zip
import HandS.Strs
import HandS.Dict
import Open.SpecLaws
import PySem.Challenge.RW_handedvotes_k05_whole_courses
set_option Elab.async false
set_option linter.all false
set_option maxRecDepth 100000
set_option maxHeartbeats 0
/-! Data as trees, over the hand layer: what values denote, runs with free choices, the ghost state. -/
namespace DL
open PySem PySem.Spec L2

inductive D where
  | non | bl (b : Bool) | int (i : Int) | str (s : Str)
  | tup (xs : List D) | lst (xs : List D) | dct (t : Bool) (kvs : List (D × D))
  | ins (c : Nat) (fs : List D)
  | exc (c : Nat) (v : D) | err (c : Nat) (v : D)
  | ty (n : String) | clo (n : Nat)
  | rnd
  | scr (ns : List Int)

/-- an exception that flies: its class, its one field -/
structure Ex where
  c : Nat
  v : D

inductive M (α : Type) where
  | ret (a : α) | exc (x : Ex) | stuck | choose (n : Nat) (k : Nat → M α) | begun (k : M α)
def lim : Nat := 2 ^ 100000
namespace M
def bind {α β : Type} : M α → (α → M β) → M β
  | ret a, f => f a
  | exc x, _ => exc x
  | stuck, _ => stuck
  | choose n k, f => choose n fun i => (k i).bind f
  | begun k, f => begun (k.bind f)
def wp {α : Type} : M α → (α → Prop) → (Ex → Prop) → Prop
  | ret a, Q, _ => Q a
  | exc x, _, E => E x
  | stuck, _, _ => False
  | choose n k, Q, E => ∀ i, i < n → (k i).wp Q E
  | begun k, Q, E => k.wp Q E
theorem wp_mono {α : Type} {Q Q' : α → Prop} {E E' : Ex → Prop} (hQ : ∀ a, Q a → Q' a) (hE : ∀ x, E x → E' x) : ∀ (m : M α), m.wp Q E → m.wp Q' E'
  | ret a, h => hQ a h
  | exc x, h => hE x h
  | stuck, h => h.elim
  | choose _ k, h => fun i hi => wp_mono hQ hE (k i) (h i hi)
  | begun k, h => wp_mono hQ hE k h
/-- with a number of choices that are left -/
def wpB {α : Type} : M α → Nat → (α → Nat → Prop) → (Ex → Nat → Prop) → Prop
  | ret a, b, Q, _ => Q a b
  | exc x, b, _, E => E x b
  | stuck, _, _, _ => False
  | choose _ _, 0, _, _ => False
  | choose n k, b + 1, Q, E => ∀ i, i < n → (k i).wpB b Q E
  | begun k, b, Q, E => b = lim + 1 ∧ k.wpB lim Q E
theorem wpB_mono {α : Type} {Q Q' : α → Nat → Prop} {E E' : Ex → Nat → Prop} (hQ : ∀ a b, Q a b → Q' a b) (hE : ∀ x b, E x b → E' x b) : ∀ (m : M α) (b : Nat), m.wpB b Q E → m.wpB b Q' E'
  | ret a, b, h => hQ a b h
  | exc x, b, h => hE x b h
  | stuck, _, h => h.elim
  | choose _ _, 0, h => h.elim
  | choose _ k, b + 1, h => fun i hi => wpB_mono hQ hE (k i) b (h i hi)
  | begun k, _, h => ⟨h.1, wpB_mono hQ hE k lim h.2⟩
theorem wpB_bind {α β : Type} {Q : β → Nat → Prop} {E : Ex → Nat → Prop} {f : α → M β} : ∀ (m : M α) (b : Nat), (m.bind f).wpB b Q E ↔ m.wpB b (fun a c => (f a).wpB c Q E) E
  | ret _, _ => Iff.rfl
  | exc _, _ => Iff.rfl
  | stuck, _ => Iff.rfl
  | choose _ _, 0 => Iff.rfl
  | choose _ k, b + 1 => forall_congr' fun i => forall_congr' fun _ => wpB_bind (k i) b
  | begun k, _ => and_congr_right' (wpB_bind k lim)
/-- nothing may be raised -/
def noX {α : Type} : M α → M α
  | ret a => ret a
  | exc _ => stuck
  | stuck => stuck
  | choose n k => choose n fun i => (k i).noX
  | begun k => begun k.noX
theorem wpB_noX {α : Type} {Q : α → Nat → Prop} {E E' : Ex → Nat → Prop} : ∀ (m : M α) (b : Nat), m.noX.wpB b Q E → m.wpB b Q E'
  | ret _, _, h => h
  | exc _, _, h => h.elim
  | stuck, _, h => h
  | choose _ _, 0, h => h
  | choose _ k, b + 1, h => fun i hi => wpB_noX (k i) b (h i hi)
  | begun k, _, h => ⟨h.1, wpB_noX k lim h.2⟩
/-- at most so many choices -/
def fin {α : Type} : M α → Nat → Prop
  | ret _, _ => True
  | exc _, _ => True
  | stuck, _ => True
  | choose _ _, 0 => False
  | choose n k, b + 1 => ∀ i, i < n → (k i).fin b
  | begun k, b => b = lim + 1 ∧ k.fin lim
theorem wpB_of {α : Type} {Q : α → Prop} {E : Ex → Prop} : ∀ (m : M α) (b : Nat), m.fin b → m.wp Q E → m.wpB b (fun a _ => Q a) (fun x _ => E x)
  | ret _, _, _, h => h
  | exc _, _, _, h => h
  | stuck, _, _, h => h
  | choose _ _, 0, f, _ => f.elim
  | choose _ k, b + 1, f, h => fun i hi => wpB_of (k i) b (f i hi) (h i hi)
  | begun k, _, f, h => ⟨f.1, wpB_of k lim f.2 h⟩
theorem wp_bind {α β : Type} {Q : β → Prop} {E : Ex → Prop} {f : α → M β} : ∀ (m : M α), (m.bind f).wp Q E ↔ m.wp (fun a => (f a).wp Q E) E
  | ret _ => Iff.rfl
  | exc _ => Iff.rfl
  | stuck => Iff.rfl
  | choose _ k => forall_congr' fun i => forall_congr' fun _ => wp_bind (k i)
  | begun k => wp_bind k
end M

/-- what a law's text is proved over: the written part, the tables of code objects, the own classes and their fields -/
structure Lx where
  K : PySem.W.Frag
  T : List (Addr × Str)
  cA : Nat → Addr
  cF : Nat → List Str
  /-- an error that a suite holds: where it stands, its class, its dict, what the dict holds -/
  er : Option (Addr × Nat × Addr × V)
  /-- the instance that is being made -/
  sf : Option Addr

/-- the ghost: what is frozen for good, the law's own m -/
structure Gh where
  F : Hp
  mu : Option Addr
  bud : Nat

def keyD : Key → D
  | .inl i => .int i
  | .inr s => .str s

/-- a tuple that is the run's own, or written at the top -/
def SqD (K : PySem.W.Frag) (F : Hp) (a : Addr) (xs : List V) : Prop :=
  F a = some (.tup xs) ∨ ∃ (o : Obj) (its : Array Value) (n : Nat), K.lookup a = some o ∧ o.cls = .type "tuple" ∧ o.data = .seq its n ∧ its.size ≤ sizeLine ∧ Vals xs its.toList
theorem SqD.sq {K : PySem.W.Frag} {F : Hp} {a : Addr} {xs : List V} : SqD K F a xs → SqT K F a xs
  | .inl e => .inl (.inl e)
  | .inr e => .inr e
theorem SqD.mono {K : PySem.W.Frag} {F F' : Hp} {a : Addr} {vs : List V} (h : ∀ a o, F a = some o → F' a = some o) : SqD K F a vs → SqD K F' a vs
  | .inl e => .inl (h _ _ e)
  | .inr e => .inr e
mutual
inductive Den (L : Lx) (g : Gh) : V → D → Prop
  | non : Den L g .non .non
  | bl (b : Bool) : Den L g (.bl b) (.bl b)
  | int (i : Int) : Den L g (.int i) (.int i)
  | str (s : Str) : Den L g (.str s) (.str s)
  | tup {a : Addr} {vs : List V} {ds : List D} : SqD L.K g.F a vs → DenL L g vs ds → Den L g (.ref a) (.tup ds)
  | lst {a : Addr} {vs : List V} {ds : List D} : g.F a = some (.lst vs) → DenL L g vs ds → Den L g (.ref a) (.lst ds)
  | dK {a : Addr} {ks : List Key} {vs : List V} {ds : List D} : g.F a = some (.dK (ks.zip vs)) → ks.length = vs.length → DenL L g vs ds → Den L g (.ref a) (.dct false ((ks.map keyD).zip ds))
  | dT {a : Addr} {ks : List (List Key)} {vs : List V} {ds : List D} : g.F a = some (.dT (ks.zip vs)) → ks.length = vs.length → DenL L g vs ds → Den L g (.ref a) (.dct true ((ks.map fun k => D.tup (k.map keyD)).zip ds))
  | ins {a c dx : Addr} {n : Nat} {vs : List V} {ds : List D} : g.F a = some (.ins (L.cA n) dx ((L.cF n).zip vs)) → (L.cF n).length = vs.length → DenL L g vs ds → Den L g (.ref a) (.ins n ds)
  | exc {a d : Addr} {n : Nat} {f : Str} {v : V} {x : D} : g.F a = some (exo a (L.cA n) (some d)) → g.F d = some (exd d [(f, v)]) → L.cF n = [f] → Den L g v x → Den L g (.ref a) (.exc n x)
  | err {a d : Addr} {n : Nat} {u : V} {x : D} : L.er = some (a, n, d, u) → Den L g u x → Den L g (.ref a) (.err n x)
  | ty (n : String) : Den L g (.ty n) (.ty n)
  | clo (n : Nat) : Den L g (.ref (L.cA n)) (.clo n)
  | rnd {a : Addr} : g.mu = some a → Den L g (.ref a) .rnd
  | scr {a : Addr} {ns : List Int} : SqL L.K g.F a (ns.map V.int) → Den L g (.ref a) (.scr ns)
inductive DenL (L : Lx) (g : Gh) : List V → List D → Prop
  | nil : DenL L g [] []
  | cons {v : V} {vs : List V} {d : D} {ds : List D} : Den L g v d → DenL L g vs ds → DenL L g (v :: vs) (d :: ds)
end

section
variable {L : Lx} {g g' : Gh}
theorem sqT_mono {K : PySem.W.Frag} {F F' : Hp} {a : Addr} {vs : List V} (h : ∀ a o, F a = some o → F' a = some o) : SqT K F a vs → SqT K F' a vs
  | .inl (.inl e) => .inl (.inl (h _ _ e))
  | .inl (.inr ⟨o, e⟩) => .inl (.inr ⟨o, h _ _ e⟩)
  | .inr e => .inr e
theorem sqL_mono {K : PySem.W.Frag} {F F' : Hp} {a : Addr} {vs : List V} (h : ∀ a o, F a = some o → F' a = some o) : SqL K F a vs → SqL K F' a vs
  | .inl (.inl e) => .inl (.inl (h _ _ e))
  | .inl (.inr ⟨o, e⟩) => .inl (.inr ⟨o, h _ _ e⟩)
  | .inr e => .inr e
theorem rd_mono {F F' : Hp} {a : Addr} {o : HO} (h : ∀ a o, F a = some o → F' a = some o) : Rd F a o → Rd F' a o
  | .inl e => .inl (h _ _ e)
  | .inr ⟨o, e⟩ => .inr ⟨o, h _ _ e⟩
mutual
theorem Den.mono (h : ∀ a o, g.F a = some o → g'.F a = some o) (hm : ∀ a, g.mu = some a → g'.mu = some a) : ∀ {v : V} {d : D}, Den L g v d → Den L g' v d
  | _, _, .non => .non
  | _, _, .bl b => .bl b
  | _, _, .int i => .int i
  | _, _, .str s => .str s
  | _, _, .tup e l => .tup (e.mono h) (DenL.mono h hm l)
  | _, _, .lst e l => .lst (h _ _ e) (DenL.mono h hm l)
  | _, _, .dK e z l => .dK (h _ _ e) z (DenL.mono h hm l)
  | _, _, .dT e z l => .dT (h _ _ e) z (DenL.mono h hm l)
  | _, _, .ins (c := c) e z l => .ins (c := c) (h _ _ e) z (DenL.mono h hm l)
  | _, _, .exc (n := n) a b c l => .exc (n := n) (h _ _ a) (h _ _ b) c (Den.mono h hm l)
  | _, _, .err (n := n) a l => .err (n := n) a (Den.mono h hm l)
  | _, _, .ty n => .ty n
  | _, _, .clo n => .clo n
  | _, _, .rnd e => .rnd (hm _ e)
  | _, _, .scr e => .scr (sqL_mono h e)
theorem DenL.mono (h : ∀ a o, g.F a = some o → g'.F a = some o) (hm : ∀ a, g.mu = some a → g'.mu = some a) : ∀ {vs : List V} {ds : List D}, DenL L g vs ds → DenL L g' vs ds
  | _, _, .nil => .nil
  | _, _, .cons a l => .cons (Den.mono h hm a) (DenL.mono h hm l)
end
theorem DenL.length : ∀ {vs : List V} {ds : List D}, DenL L g vs ds → vs.length = ds.length
  | _, _, .nil => rfl
  | _, _, .cons _ l => congrArg (· + 1) (DenL.length l)
theorem DenL.append : ∀ {vs : List V} {ds : List D} {ws : List V} {es : List D}, DenL L g vs ds → DenL L g ws es → DenL L g (vs ++ ws) (ds ++ es)
  | _, _, _, _, .nil, r => r
  | _, _, _, _, .cons a l, r => .cons a (DenL.append l r)
theorem DenL.get : ∀ {vs : List V} {ds : List D} {i : Nat} {d : D}, DenL L g vs ds → ds[i]? = some d → ∃ v, vs[i]? = some v ∧ Den L g v d
  | _, _, _, _, .nil, e => by simp at e
  | _, _, 0, _, .cons a _, e => by simp at e; subst e; exact ⟨_, rfl, a⟩
  | _, _, i + 1, d, .cons _ l, e => by
    obtain ⟨v, h1, h2⟩ := DenL.get (i := i) (d := d) l (by simpa using e)
    exact ⟨v, by simpa using h1, h2⟩
theorem DenL.get' : ∀ {vs : List V} {ds : List D} {i : Nat} {v : V}, DenL L g vs ds → vs[i]? = some v → ∃ d, ds[i]? = some d ∧ Den L g v d
  | _, _, _, _, .nil, e => by simp at e
  | _, _, 0, _, .cons a _, e => by simp at e; subst e; exact ⟨_, rfl, a⟩
  | _, _, i + 1, v, .cons _ l, e => by
    obtain ⟨d, h1, h2⟩ := DenL.get' (i := i) (v := v) l (by simpa using e)
    exact ⟨d, by simpa using h1, h2⟩
theorem DenL.take : ∀ {vs : List V} {ds : List D} (n : Nat), DenL L g vs ds → DenL L g (vs.take n) (ds.take n)
  | _, _, 0, _ => .nil
  | _, _, _ + 1, .nil => .nil
  | _, _, n + 1, .cons a l => .cons a (DenL.take n l)
theorem DenL.drop : ∀ {vs : List V} {ds : List D} (n : Nat), DenL L g vs ds → DenL L g (vs.drop n) (ds.drop n)
  | _, _, 0, l => l
  | _, _, _ + 1, .nil => .nil
  | _, _, n + 1, .cons _ l => DenL.drop n l
theorem DenL.reverse : ∀ {vs : List V} {ds : List D}, DenL L g vs ds → DenL L g vs.reverse ds.reverse
  | _, _, .nil => .nil
  | _, _, .cons a l => by rw [List.reverse_cons, List.reverse_cons]; exact DenL.append (DenL.reverse l) (.cons a .nil)
end

/-! ### the law's m, the steps of a run -/
/-- a stands in m -/
def InM (mu : Option Addr) (H : Hp) (a : Addr) : Prop := ∃ m, mu = some m ∧ (a = m ∨ ∃ kvs k, H m = some (.dK kvs) ∧ (k, V.ref a) ∈ kvs)
def bitsOk (z : Int) : Prop := z.natAbs < 2 ^ 1048600
def MOk (b : Nat) (H : Hp) (m : Addr) : Prop := ∃ (c l : Addr) (cs ls : List Int) (at_ : Int), H m = some (.dK [(Sum.inr "cells", .ref c), (Sum.inr "left", .ref l), (Sum.inr "at", .int at_)]) ∧
  H c = some (.lst (cs.map V.int)) ∧ H l = some (.lst (ls.map V.int)) ∧ c ≠ l ∧ cs.length ≤ 63 ∧ ls.length ≤ 63 ∧ (∀ z ∈ cs, bitsOk z) ∧ (∀ z ∈ ls, bitsOk z ∧ 0 ≤ z) ∧ 0 ≤ at_ ∧ at_.toNat + b ≤ lim
def RndOk (g : Gh) (H : Hp) : Prop := (g.mu = none → g.bud = lim + 1) ∧ ∀ m, g.mu = some m → MOk g.bud H m

/-- what stands whatever is done: the tables of code objects, a held error's dict -/
def TabX (L : Lx) (H : Hp) : Prop := LamX.Tabs L.T H ∧ ∀ a n d u, L.er = some (a, n, d, u) → ∃ f, L.cF n = [f] ∧ H d = some (.xd [(f, u)])
theorem TabX.ext {L : Lx} {H H' : Hp} (t : TabX L H) (e : ∀ b o, H b = some o → H' b = some o) : TabX L H' :=
  ⟨t.1.ext e, fun a n d u h => let ⟨f, h1, h2⟩ := t.2 a n d u h; ⟨f, h1, e _ _ h2⟩⟩
/-- from (g, H) to (g', H'): what is frozen stays, what is not m's stays -/
structure Stp (L : Lx) (g : Gh) (H : Hp) (g' : Gh) (H' : Hp) : Prop where
  le : ∀ a o, g.F a = some o → g'.F a = some o
  mu : ∀ m, g.mu = some m → g'.mu = some m
  sub : ∀ a o, g'.F a = some o → H' a = some o
  keep : ∀ a o, H a = some o → (∀ ps, o ≠ .tbl ps) → ¬ InM g.mu H a → H' a = some o ∧ ¬ InM g'.mu H' a
  nf : ∀ a, H a ≠ none → H' a ≠ none ∧ (g.F a = none → g'.F a = none)
  nm : ∀ a o, g'.F a = some o → ¬ InM g'.mu H' a
  rnd : RndOk g' H'
  bud : g'.bud ≤ g.bud
  tab : TabX L H'
end DL
/-! The frame's slots as data, readings of expressions by runs. -/
namespace DL
open PySem PySem.Spec L2

/-- a slot: data, or a list or dict of one's own that is changed -/
inductive B where
  | fz (d : D) | ol (ds : List D) | od (t : Bool) (kvs : List (D × D)) | os (n : Nat) (fs : List (Str × D))
abbrev Env := List (Option B)
abbrev IE := Env → M D

section
variable {L : Lx} {g g' g'' : Gh} {H H' H'' : Hp} {σ σ' : L2.St} {Γ : Env}

/-- a dict at a, as data -/
def DctAt (L : Lx) (g : Gh) (H : Hp) (p : Addr) (t : Bool) (kvs : List (D × D)) : Prop :=
  (∃ (ks : List Key) (vs : List V) (ds : List D), H p = some (.dK (ks.zip vs)) ∧ ks.length = vs.length ∧ DenL L g vs ds ∧ kvs = (ks.map keyD).zip ds ∧ t = false) ∨
  (∃ (ks : List (List Key)) (vs : List V) (ds : List D), H p = some (.dT (ks.zip vs)) ∧ ks.length = vs.length ∧ DenL L g vs ds ∧ kvs = (ks.map fun k => D.tup (k.map keyD)).zip ds ∧ t = true)
theorem DctAt.step {t : Bool} (h : DctAt L g H a t kvs) (e : H' a = H a) (le : ∀ a o, g.F a = some o → g'.F a = some o) (mu : ∀ m, g.mu = some m → g'.mu = some m) : DctAt L g' H' a t kvs := by
  rcases h with ⟨ks, vs, ds, h1, h2, h3, h4⟩ | ⟨ks, vs, ds, h1, h2, h3, h4⟩
  · exact .inl ⟨ks, vs, ds, e.trans h1, h2, h3.mono le mu, h4⟩
  · exact .inr ⟨ks, vs, ds, e.trans h1, h2, h3.mono le mu, h4⟩
def Bind1 (L : Lx) (g : Gh) (H : Hp) (x : Option V) : B → Prop
  | .fz d => ∃ v, x = some v ∧ Den L g v d
  | .ol ds => ∃ p vs, x = some (.ref p) ∧ H p = some (.lst vs) ∧ DenL L g vs ds ∧ g.F p = none ∧ ¬ InM g.mu H p
  | .od t kvs => ∃ p, x = some (.ref p) ∧ g.F p = none ∧ ¬ InM g.mu H p ∧ DctAt L g H p t kvs
  | .os n fs => ∃ p dx vs, x = some (.ref p) ∧ L.sf = some p ∧ H p = some (.ins (L.cA n) dx ((fs.map (·.1)).zip vs)) ∧ DenL L g vs (fs.map (·.2)) ∧ g.F p = none ∧ ¬ InM g.mu H p
def B.own : B → Bool
  | .fz _ => false
  | _ => true

structure Rep (L : Lx) (Γ : Env) (g : Gh) (σ : L2.St) (H : Hp) : Prop where
  sub : ∀ a o, g.F a = some o → H a = some o
  rnd : RndOk g H
  tab : TabX L H
  loc : ∀ (i : Nat) (b : B), Γ[i]? = some (some b) → ∃ x, σ[i]? = some x ∧ Bind1 L g H x b
  dis : ∀ (i j : Nat) (b c : B) (p : Addr), Γ[i]? = some (some b) → Γ[j]? = some (some c) → b.own = true → c.own = true → σ[i]? = some (some (.ref p)) → σ[j]? = some (some (.ref p)) → i = j
  nF : ∀ a o, g.F a = some o → ¬ InM g.mu H a
  len : Γ.length = σ.length

theorem Stp.refl (r : Rep L Γ g σ H) : Stp L g H g H :=
  ⟨fun _ _ e => e, fun _ e => e, r.sub, fun _ _ e _ n => ⟨e, n⟩, fun _ n => ⟨n, fun e => e⟩, r.nF, r.rnd, Nat.le_refl _, r.tab⟩
theorem Stp.trans (a : Stp L g H g' H') (b : Stp L g' H' g'' H'') : Stp L g H g'' H'' :=
  ⟨fun x o e => b.le x o (a.le x o e), fun m e => b.mu m (a.mu m e), b.sub, fun x o e n h => let ⟨e1, h1⟩ := a.keep x o e n h; b.keep x o e1 n h1,
   fun x e => let ⟨e1, h1⟩ := a.nf x e; let ⟨e2, h2⟩ := b.nf x e1; ⟨e2, fun q => h2 (h1 q)⟩, b.nm, b.rnd, Nat.le_trans b.bud a.bud, b.tab⟩
theorem Bind1.step {x : Option V} {b : B} (h : Bind1 L g H x b) (s : Stp L g H g' H') : Bind1 L g' H' x b := by
  cases b with
  | fz d => obtain ⟨v, e, h⟩ := h; exact ⟨v, e, h.mono s.le s.mu⟩
  | ol ds =>
    obtain ⟨p, vs, e, hp, hd, hf, hm⟩ := h
    obtain ⟨e1, m1⟩ := s.keep p _ hp (fun _ z => nomatch z) hm
    exact ⟨p, vs, e, e1, hd.mono s.le s.mu, (s.nf p (by rw [hp]; simp)).2 hf, m1⟩
  | od t kvs =>
    obtain ⟨p, e, hf, hm, hd⟩ := h
    have hp : ∃ o, H p = some o ∧ ∀ ps, o ≠ .tbl ps := by
      rcases hd with ⟨_, _, _, h1, _⟩ | ⟨_, _, _, h1, _⟩
      · exact ⟨_, h1, fun _ z => nomatch z⟩
      · exact ⟨_, h1, fun _ z => nomatch z⟩
    obtain ⟨o, h1, h2⟩ := hp
    obtain ⟨e1, m1⟩ := s.keep p _ h1 h2 hm
    exact ⟨p, e, (s.nf p (by rw [h1]; simp)).2 hf, m1, hd.step (e1.trans h1.symm) s.le s.mu⟩
  | os n fs =>
    obtain ⟨p, dx, vs, e, es, hp, hd, hf, hm⟩ := h
    obtain ⟨e1, m1⟩ := s.keep p _ hp (fun _ z => nomatch z) hm
    exact ⟨p, dx, vs, e, es, e1, hd.mono s.le s.mu, (s.nf p (by rw [hp]; simp)).2 hf, m1⟩
theorem Rep.step (r : Rep L Γ g σ H) (s : Stp L g H g' H') : Rep L Γ g' σ H' :=
  ⟨s.sub, s.rnd, s.tab, fun i b e => let ⟨x, e1, h⟩ := r.loc i b e; ⟨x, e1, h.step s⟩, r.dis, s.nm, r.len⟩

/-- a value to be looked at: frozen data, or a list or dict of one's own -/
def Vw (L : Lx) (g : Gh) (H : Hp) (v : V) (d : D) : Prop :=
  Den L g v d ∨ (∃ p vs ds, v = .ref p ∧ d = .lst ds ∧ H p = some (.lst vs) ∧ DenL L g vs ds ∧ ¬ InM g.mu H p) ∨ (∃ p t kvs, v = .ref p ∧ d = .dct t kvs ∧ ¬ InM g.mu H p ∧ DctAt L g H p t kvs)
theorem Vw.step {v : V} {d : D} (h : Vw L g H v d) (s : Stp L g H g' H') : Vw L g' H' v d := by
  rcases h with h | ⟨p, vs, ds, e1, e2, h1, h2, h3⟩ | ⟨p, t, kvs, e1, e2, hm, hd⟩
  · exact .inl (h.mono s.le s.mu)
  · obtain ⟨e, m⟩ := s.keep p _ h1 (fun _ z => nomatch z) h3
    exact .inr (.inl ⟨p, vs, ds, e1, e2, e, h2.mono s.le s.mu, m⟩)
  · have hp : ∃ o, H p = some o ∧ ∀ ps, o ≠ .tbl ps := by
      rcases hd with ⟨_, _, _, h1, _⟩ | ⟨_, _, _, h1, _⟩
      · exact ⟨_, h1, fun _ z => nomatch z⟩
      · exact ⟨_, h1, fun _ z => nomatch z⟩
    obtain ⟨o, h1, h2⟩ := hp
    obtain ⟨e, m⟩ := s.keep p _ h1 h2 hm
    exact .inr (.inr ⟨p, t, kvs, e1, e2, m, hd.step (e.trans h1.symm) s.le s.mu⟩)

/-- how an exception of a run lies in the hand layer: its class, its own dict -/
def ExAt (L : Lx) (g : Gh) (H : Hp) (x : Ex) (cls : Value) (d : Option Addr) : Prop :=
  cls = .ref (L.cA x.c) ∧ ∃ da f v, d = some da ∧ L.cF x.c = [f] ∧ H da = some (.xd [(f, v)]) ∧ Den L g v x.v
/-- the wish about exceptions, from where the run began -/
def XW (L : Lx) (W : WX) (g : Gh) (σ : L2.St) (H : Hp) (x : Ex) (b : Nat) : Prop :=
  ∀ cls d g' H', Stp L g H g' H' → g'.bud = b → ExAt L g' H' x cls d → W cls d σ H'
/-- what an expression's run says of its value: v says how it is told -/
abbrev TT1 := Lx → Hp → Gh → Hp → V → D → Prop
def Rd1 (L : Lx) (T : TT1) (W : WX) (i : IE) : TE := fun σ H Q => ∃ Γ g, Rep L Γ g σ H ∧
  (i Γ).wpB g.bud (fun d b => ∀ v g' H', Stp L g H g' H' → g'.bud = b → T L H g' H' v d → Q v H') (XW L W g σ H)
abbrev DenT : TT1 := fun L _ g _ v d => Den L g v d
abbrev VwT : TT1 := fun L _ g H v d => Vw L g H v d
/-- a new list of one's own -/
def FrT : TT1 := fun L H₀ g H v d => ∃ p vs ds, v = .ref p ∧ d = .lst ds ∧ H p = some (.lst vs) ∧ DenL L g vs ds ∧ g.F p = none ∧ ¬ InM g.mu H p ∧ H₀ p = none
/-- DE: the expression does what the run says, its value is frozen data; DV: .. is to be looked at -/
def DE (L : Lx) (X : Cx) (i : IE) (e : Expr) : Prop := ∀ W, Takes X W → PE X e (Rd1 L DenT W i)
def DV (L : Lx) (X : Cx) (i : IE) (e : Expr) : Prop := ∀ W, Takes X W → PE X e (Rd1 L VwT W i)
def DF (L : Lx) (X : Cx) (i : IE) (e : Expr) : Prop := ∀ W, Takes X W → PE X e (Rd1 L FrT W i)
theorem Rd1.weak {T T' : TT1} {W : WX} {i : IE} {Q : VK} (h : ∀ H₀ g H v d, T L H₀ g H v d → T' L H₀ g H v d) (r : Rd1 L T' W i σ H Q) : Rd1 L T W i σ H Q := by
  obtain ⟨Γ, g, rp, w⟩ := r
  exact ⟨Γ, g, rp, M.wpB_mono (fun d b k v g' H' s e t => k v g' H' s e (h _ _ _ _ _ t)) (fun _ _ x => x) _ _ w⟩
theorem DE.dv {X : Cx} {i : IE} {e : Expr} (h : DE L X i e) : DV L X i e := fun W tk =>
  ⟨fun pins s σ H Q I r => (h W tk).run pins s σ H Q I (r.weak fun _ _ _ _ _ t => .inl t)⟩
end
end DL
/-! Expressions. -/
namespace DL
open PySem PySem.Spec L2
theorem PE.imp {X : Cx} {e : Expr} {t t' : TE} (h : PE X e t) (k : ∀ σ H Q, t' σ H Q → t σ H Q) : PE X e t' := ⟨fun pins s σ H Q I r => h.run pins s σ H Q I (k _ _ _ r)⟩
section
variable {L : Lx} {X : Cx} {i j : IE} {a b e : Expr} {pos : Pos} {W : WX} {σ : L2.St} {H : Hp} {Q : VK}
theorem XW.of {g g' : Gh} {H' : Hp} {x : Ex} {b : Nat} (h : XW L W g σ H x b) (s : Stp L g H g' H') : XW L W g' σ H' x b := fun cls d g2 H2 s2 e q => h cls d g2 H2 (s.trans s2) e q
/-- what is wanted of a run's value, from (g, H) -/
abbrev Wn (L : Lx) (T : TT1) (g : Gh) (H : Hp) (Q : VK) : D → Nat → Prop := fun d b => ∀ v g' H', Stp L g H g' H' → g'.bud = b → T L H g' H' v d → Q v H'
/-- one run behind another -/
theorem Rd1.go {α : Type} {T : TT1} {Γ : Env} {g : Gh} {f : D → M α} {R : α → Nat → Prop} {Q : VK} (r : Rep L Γ g σ H) (h : ((i Γ).bind f).wpB g.bud R (XW L W g σ H))
    (k : ∀ v H1 d g1, Rep L Γ g1 σ H1 → Stp L g H g1 H1 → T L H g1 H1 v d → (f d).wpB g1.bud R (XW L W g1 σ H1) → Q v H1) : Rd1 L T W i σ H Q := by
  refine ⟨Γ, g, r, M.wpB_mono (fun d b h v g' H' s e t => ?_) (fun _ _ x => x) _ _ ((M.wpB_bind _ _).mp h)⟩
  subst e
  exact k v H' d g' (r.step s) s t (M.wpB_mono (fun _ _ x => x) (fun _ _ x => x.of s) _ _ h)

def iVar (n : Nat) : IE := fun Γ => match Γ[n]? with
  | some (some (.fz d)) => .ret d
  | _ => .stuck
def iUse (n : Nat) : IE := fun Γ => match Γ[n]? with
  | some (some (.fz d)) => .ret d
  | some (some (.ol ds)) => .ret (.lst ds)
  | some (some (.od t kvs)) => .ret (.dct t kvs)
  | _ => .stuck
def iLit (d : D) : IE := fun _ => .ret d
theorem de_var {n : Nat} {x : Str} (h : ∀ Y : Cx, Y.env = X.env → Y.N = X.N → PE Y (.Name x pos) (tVar n)) : DE L X (iVar n) (.Name x pos) := fun W _ => by
  refine PE.imp (h X rfl rfl) fun σ H Q r => ?_
  obtain ⟨Γ, g, rp, w⟩ := r
  unfold iVar at w
  split at w
  · rename_i d e
    obtain ⟨x, e1, v, e2, h⟩ := rp.loc _ _ e
    subst e2
    exact ⟨v, e1, w v g H (Stp.refl rp) rfl h⟩
  · exact w.elim
theorem dv_use {n : Nat} {x : Str} (h : PE X (.Name x pos) (tVar n)) : DV L X (iUse n) (.Name x pos) := fun W _ => by
  refine PE.imp h fun σ H Q r => ?_
  obtain ⟨Γ, g, rp, w⟩ := r
  unfold iUse at w
  split at w
  · rename_i d e
    obtain ⟨x, e1, v, e2, h⟩ := rp.loc _ _ e
    subst e2
    exact ⟨v, e1, w v g H (Stp.refl rp) rfl (.inl h)⟩
  · rename_i d e
    obtain ⟨x, e1, p, vs, e2, h1, h2, _, h3⟩ := rp.loc _ _ e
    subst e2
    exact ⟨.ref p, e1, w _ g H (Stp.refl rp) rfl (.inr (.inl ⟨p, vs, d, rfl, rfl, h1, h2, h3⟩))⟩
  · rename_i t d e
    obtain ⟨x, e1, p, e2, _, h3, h4⟩ := rp.loc _ _ e
    subst e2
    exact ⟨.ref p, e1, w _ g H (Stp.refl rp) rfl (.inr (.inr ⟨p, t, d, rfl, rfl, h3, h4⟩))⟩
  · exact w.elim
theorem de_c {v : V} {d : D} (h : PE X e (tC v)) (hd : ∀ g, Den L g v d) : DE L X (iLit d) e := fun W _ => by
  refine PE.imp h fun σ H Q r => ?_
  obtain ⟨Γ, g, rp, w⟩ := r
  exact w v g H (Stp.refl rp) rfl (hd g)

/-! argument lists -/
def evs : List IE → Env → M (List D)
  | [], _ => .ret []
  | i :: r, Γ => (i Γ).bind fun d => (evs r Γ).bind fun ds => .ret (d :: ds)
def RdA (L : Lx) (W : WX) (is : List IE) : TA := fun σ H Q => ∃ Γ g, Rep L Γ g σ H ∧
  (evs is Γ).wpB g.bud (fun ds b => ∀ vs g' H', Stp L g H g' H' → g'.bud = b → DenL L g' vs ds → Q vs H') (XW L W g σ H)
def DA (L : Lx) (X : Cx) (is : List IE) (es : List Expr) : Prop := ∀ W, Takes X W → PA X es (RdA L W is)
theorem PA.imp {es : List Expr} {t t' : TA} (h : PA X es t) (k : ∀ σ H Q, t' σ H Q → t σ H Q) : PA X es t' := ⟨fun pos pins s σ H Q I r => h.run pos pins s σ H Q I (k _ _ _ r)⟩
theorem RdA.go {α : Type} {Γ : Env} {g : Gh} {is : List IE} {f : List D → M α} {R : α → Nat → Prop} {Q : List V → Hp → Prop} (r : Rep L Γ g σ H) (h : ((evs is Γ).bind f).wpB g.bud R (XW L W g σ H))
    (k : ∀ vs H1 ds g1, Rep L Γ g1 σ H1 → Stp L g H g1 H1 → DenL L g1 vs ds → (f ds).wpB g1.bud R (XW L W g1 σ H1) → Q vs H1) : RdA L W is σ H Q := by
  refine ⟨Γ, g, r, M.wpB_mono (fun d b h v g' H' s e t => ?_) (fun _ _ x => x) _ _ ((M.wpB_bind _ _).mp h)⟩
  subst e
  exact k v H' d g' (r.step s) s t (M.wpB_mono (fun _ _ x => x) (fun _ _ x => x.of s) _ _ h)
theorem da_nil : DA L X [] [] := fun W _ => PA.imp pa_nil fun σ H Q ⟨Γ, g, rp, w⟩ => w [] g H (Stp.refl rp) rfl .nil
theorem da_cons {is : List IE} {es : List Expr} (h : DE L X i e) (hr : DA L X is es) (hs : starEach (e :: es) X.env = (false, eval e X.env) :: starEach es X.env := by rfl) : DA L X (i :: is) (e :: es) := fun W tk => by
  refine PA.imp (pa_cons (h W tk) (hr W tk) hs) fun σ H Q ⟨Γ, g, rp, w⟩ => ?_
  refine ⟨Γ, g, rp, M.wpB_mono (fun d b h v g1 H1 s e t => ?_) (fun _ _ x => x) _ _ ((M.wpB_bind _ _).mp w)⟩
  subst e
  refine ⟨Γ, g1, rp.step s, M.wpB_mono (fun ds b h vs g2 H2 s2 e2 t2 => ?_) (fun _ _ x => x.of s) _ _ ((M.wpB_bind _ _).mp h)⟩
  exact h (v :: vs) g2 H2 (s.trans s2) e2 (.cons (t.mono s2.le s2.mu) t2)
end
end DL
/-! New objects. -/
namespace DL
open PySem PySem.Spec L2
section
variable {L : Lx} {g : Gh} {H : Hp} {σ : L2.St} {Γ : Env} {p : Addr} {o : HO}
theorem upd_keep {H : Hp} {p b : Addr} {o u : HO} (n : H p = none) (e : H b = some u) : upd H p o b = some u := by rw [upd_ne (ne_of_none e n)]; exact e
theorem InM.there {mu : Option Addr} {H : Hp} {a : Addr} (h : ∀ m, mu = some m → ∃ b, MOk b H m) (i : InM mu H a) : H a ≠ none := by
  obtain ⟨m, e, h1⟩ := i
  obtain ⟨b, c, l, cs, ls, at_, e1, e2, e3, _⟩ := h m e
  rcases h1 with rfl | ⟨kvs, k, e4, hm⟩
  · rw [e1]; simp
  · rw [e1] at e4
    cases e4
    simp only [List.mem_cons, Prod.mk.injEq, V.ref.injEq, List.not_mem_nil, or_false] at hm
    rcases hm with ⟨_, rfl⟩ | ⟨_, rfl⟩ | ⟨_, h⟩
    · rw [e2]; simp
    · rw [e3]; simp
    · cases h
theorem MOk.new {b : Nat} {m : Addr} (n : H p = none) (h : MOk b H m) : MOk b (upd H p o) m := by
  obtain ⟨c, l, cs, ls, at_, e1, e2, e3, r⟩ := h
  exact ⟨c, l, cs, ls, at_, upd_keep n e1, upd_keep n e2, upd_keep n e3, r⟩
theorem InM.new {mu : Option Addr} {a : Addr} (n : H p = none) (h : ∀ m, mu = some m → ∃ b, MOk b H m) (i : InM mu (upd H p o) a) : InM mu H a := by
  obtain ⟨m, e, h1⟩ := i
  refine ⟨m, e, ?_⟩
  rcases h1 with h1 | ⟨kvs, k, e4, hm⟩
  · exact .inl h1
  · obtain ⟨b, c, l, cs, ls, at_, e1, _⟩ := h m e
    rw [upd_keep n e1] at e4
    exact .inr ⟨kvs, k, e1.trans e4, hm⟩
theorem RndOk.ok (r : RndOk g H) : ∀ m, g.mu = some m → ∃ b, MOk b H m := fun m e => ⟨_, r.2 m e⟩
def Gh.put (g : Gh) (p : Addr) (o : HO) : Gh := { g with F := upd g.F p o }
/-- a new object is laid -/
theorem stp_new (r : Rep L Γ g σ H) (n : H p = none) (f : Bool) : Stp L g H (if f then g.put p o else g) (upd H p o) := by
  have nF : g.F p = none := by
    cases e : g.F p with
    | none => rfl
    | some u => rw [r.sub _ _ e] at n; cases n
  have nM : ¬ InM g.mu (upd H p o) p := fun i => (InM.there r.rnd.ok (i.new n r.rnd.ok)) n
  have emu : (if f then g.put p o else g).mu = g.mu := by cases f <;> rfl
  have ebud : (if f then g.put p o else g).bud = g.bud := by cases f <;> rfl
  have hF : ∀ a u, (if f then g.put p o else g).F a = some u → (a = p ∧ u = o) ∨ g.F a = some u := fun a u e => by
    cases f with
    | false => exact .inr e
    | true =>
      by_cases h : a = p
      · subst h
        have e' : upd g.F a o a = some u := e
        rw [upd_same] at e'
        exact .inl ⟨rfl, (Option.some.inj e').symm⟩
      · have e' : upd g.F p o a = some u := e
        rw [upd_ne h] at e'
        exact .inr e'
  refine ⟨fun a u e => ?_, fun m e => emu.trans e, fun a u e => ?_, fun a u e _ nm => ⟨upd_keep n e, fun i => nm (by rw [emu] at i; exact i.new n r.rnd.ok)⟩, fun a h => ⟨?_, fun e => ?_⟩, fun a u e i => ?_, ⟨by rw [ebud, emu]; exact r.rnd.1, fun m e => ?_⟩, Nat.le_of_eq ebud, r.tab.ext fun b u e => upd_keep n e⟩
  · cases f with
    | false => exact e
    | true => exact upd_keep nF e
  · rcases hF a u e with ⟨rfl, rfl⟩ | e
    · exact upd_same
    · exact upd_keep n (r.sub _ _ e)
  · by_cases q : a = p
    · rw [q]; rw [upd_same]; simp
    · rw [upd_ne q]; exact h
  · have q : a ≠ p := fun z => h (by rw [z]; exact n)
    cases f with
    | false => exact e
    | true => exact (upd_ne q).trans e
  · rw [emu] at i
    rcases hF a u e with ⟨rfl, rfl⟩ | e
    · exact nM i
    · exact r.nF _ _ e (i.new n r.rnd.ok)
  · rw [emu] at e
    rw [ebud]
    exact (r.rnd.2 m e).new n
theorem stp_put (r : Rep L Γ g σ H) (n : H p = none) : Stp L g H (g.put p o) (upd H p o) := stp_new r n true
theorem put_F : (g.put p o).F p = some o := upd_same

theorem none_back {g' : Gh} {H' : Hp} {p : Addr} (s : Stp L g H g' H') (n : H' p = none) : H p = none := by
  cases e : H p with
  | none => rfl
  | some o => exact absurd n (s.nf p (by rw [e]; simp)).1
theorem nF_of (r : Rep L Γ g σ H) (n : H p = none) : g.F p = none := by
  cases e : g.F p with
  | none => rfl
  | some u => rw [r.sub _ _ e] at n; cases n
/-- a list that was laid just now -/
theorem FrT.new {g1 : Gh} {H1 : Hp} {vs : List V} {ds : List D} (r1 : Rep L Γ g1 σ H1) (s : Stp L g H g1 H1) (n : H1 p = none) (t : DenL L g1 vs ds) : FrT L H g1 (upd H1 p (.lst vs)) (.ref p) (.lst ds) :=
  ⟨p, vs, ds, rfl, rfl, upd_same, t, nF_of r1 n, fun i => (InM.there r1.rnd.ok (i.new n r1.rnd.ok)) n, none_back s n⟩
/-- it is frozen -/
theorem stp_frz {H₀ : Hp} {g₀ : Gh} {v : V} {d : D} (s : Stp L g₀ H₀ g H) (t : FrT L H₀ g H v d) : ∃ g', Stp L g₀ H₀ g' H ∧ g'.bud = g.bud ∧ Den L g' v d := by
  obtain ⟨p, vs, ds, rfl, rfl, h1, h2, h3, h4, h5⟩ := t
  have le : ∀ a o, g.F a = some o → (g.put p (.lst vs)).F a = some o := fun a o e => upd_keep h3 e
  have hF : ∀ a u, (g.put p (.lst vs)).F a = some u → (a = p ∧ u = .lst vs) ∨ g.F a = some u := fun a u e => by
    by_cases h : a = p
    · subst h
      have e' : upd g.F a (.lst vs) a = some u := e
      rw [upd_same] at e'
      exact .inl ⟨rfl, (Option.some.inj e').symm⟩
    · have e' : upd g.F p (.lst vs) a = some u := e
      rw [upd_ne h] at e'
      exact .inr e'
  refine ⟨g.put p (.lst vs), ⟨fun a o e => le a o (s.le a o e), s.mu, fun a o e => ?_, s.keep, fun a n => ⟨(s.nf a n).1, fun e => ?_⟩, fun a o e => ?_, s.rnd, s.bud, s.tab⟩, rfl, .lst put_F (h2.mono le fun _ e => e)⟩
  · rcases hF a o e with ⟨rfl, rfl⟩ | e
    · exact h1
    · exact s.sub _ _ e
  · have q : a ≠ p := fun z => n (by rw [z]; exact h5)
    exact (upd_ne q).trans ((s.nf a n).2 e)
  · rcases hF a o e with ⟨rfl, rfl⟩ | e
    · exact h4
    · exact s.nm _ _ e
theorem DF.de {X : Cx} {i : IE} {e : Expr} (h : DF L X i e) : DE L X i e := fun W tk => by
  refine PE.imp (h W tk) fun σ H Q ⟨Γ, g, rp, w⟩ => ⟨Γ, g, rp, M.wpB_mono (fun d b k v g' H' s e t => ?_) (fun _ _ x => x) _ _ w⟩
  obtain ⟨g2, s2, e2, t2⟩ := stp_frz s t
  exact k v g2 H' s2 (e2.trans e) t2

/-! displays -/
variable {X : Cx} {W : WX} {is : List IE} {es : List Expr} {pos : Pos}
def iTup (is : List IE) : IE := fun Γ => (evs is Γ).bind fun ds => if ds.length ≤ sizeLine then .ret (.tup ds) else .stuck
def iLst (is : List IE) : IE := fun Γ => (evs is Γ).bind fun ds => if ds.length ≤ sizeLine then .ret (.lst ds) else .stuck
theorem de_tup {x1} (h : DA L X is es) : DE L X (iTup is) (.Tuple es x1 pos) := fun W tk => by
  refine PE.imp (pe_tup (h W tk)) fun σ H Q ⟨Γ, g, rp, w⟩ => RdA.go rp w fun xs H1 ds g1 r1 s t w => ?_

  split at w
  · rename_i z
    refine ⟨by rw [t.length]; exact z, fun p n => w _ _ _ (s.trans (stp_put r1 n)) rfl (.tup (.inl put_F) ?_)⟩
    exact t.mono (stp_put r1 n).le (stp_put (o := .tup xs) r1 n).mu
  · exact w.elim
theorem df_lst (h : DA L X is es) : DF L X (iLst is) (.List es pos) := fun W tk => by
  refine PE.imp (pe_lst (h W tk)) fun σ H Q ⟨Γ, g, rp, w⟩ => RdA.go rp w fun xs H1 ds g1 r1 s t w => ?_
  split at w
  · rename_i z
    refine ⟨by rw [t.length]; exact z, fun p n => w _ _ _ (s.trans (stp_new r1 n false)) rfl (FrT.new r1 s n t)⟩
  · exact w.elim
end
end DL
/-! Operators. -/
namespace DL
open PySem PySem.Spec L2

mutual
def D.py : D → PyData
  | .non => .none
  | .bl b => .bool b
  | .int i => .int i
  | .str s => .str s
  | .tup xs => .tuple (D.pyL xs)
  | .lst xs => .list (D.pyL xs)
  | .dct _ _ | .ins _ _ | .exc _ _ | .err _ _ | .ty _ | .clo _ | .rnd | .scr _ => .none
def D.pyL : List D → List PyData
  | [] => []
  | x :: r => D.py x :: D.pyL r
end
mutual
def D.pl : D → Bool
  | .non | .bl _ | .int _ | .str _ => true
  | .tup xs | .lst xs => D.plL xs
  | .dct _ _ | .ins _ _ | .exc _ _ | .err _ _ | .ty _ | .clo _ | .rnd | .scr _ => false
def D.plL : List D → Bool
  | [] => true
  | x :: r => D.pl x && D.plL r
end
mutual
def D.dep : D → Nat
  | .tup xs | .lst xs => D.depL xs + 1
  | .non | .bl _ | .int _ | .str _ | .dct _ _ | .ins _ _ | .exc _ _ | .err _ _ | .ty _ | .clo _ | .rnd | .scr _ => 0
def D.depL : List D → Nat
  | [] => 0
  | x :: r => max (D.dep x) (D.depL r)
end
mutual
theorem D.plain_py : ∀ d : D, d.pl = true → d.py.plain = true
  | .non, _ | .bl _, _ | .int _, _ | .str _, _ => rfl
  | .tup xs, h => by simp only [D.py, PyData.plain]; exact D.plain_pyL xs (by simpa only [D.pl] using h)
  | .lst xs, h => by simp only [D.py, PyData.plain]; exact D.plain_pyL xs (by simpa only [D.pl] using h)
  | .dct _ _, h | .ins _ _, h | .exc _ _, h | .err _ _, h | .ty _, h | .clo _, h | .rnd, h | .scr _, h => by simp only [D.pl] at h; cases h
theorem D.plain_pyL : ∀ ds : List D, D.plL ds = true → PyData.plainAll (D.pyL ds) = true
  | [], _ => rfl
  | x :: r, h => by
    simp only [D.plL, Bool.and_eq_true] at h
    simp only [D.pyL, PyData.plainAll, D.plain_py x h.1, D.plain_pyL r h.2, Bool.and_self]
end
mutual
theorem D.depth_py : ∀ d : D, d.py.depth = d.dep
  | .non | .bl _ | .int _ | .str _ | .dct _ _ | .ins _ _ | .exc _ _ | .err _ _ | .ty _ | .clo _ | .rnd | .scr _ => by simp only [D.py, PyData.depth, D.dep]
  | .tup xs => by simp only [D.py, PyData.depth, D.dep, D.depth_pyL xs]
  | .lst xs => by simp only [D.py, PyData.depth, D.dep, D.depth_pyL xs]
theorem D.depth_pyL : ∀ ds : List D, PyData.depthAll (D.pyL ds) = D.depL ds
  | [] => rfl
  | x :: r => by simp only [D.pyL, PyData.depthAll, D.depL, D.depth_py x, D.depth_pyL r]
end

section
variable {L : Lx} {X : Cx} {g : Gh} {H : Hp} {σ : L2.St} {Γ : Env}
theorem rd_sub {F H : Hp} {a : Addr} {o : HO} (h : ∀ a o, F a = some o → H a = some o) (r : Rd F a o) : Rd H a o := rd_mono h r
mutual
theorem Den.dp (sub : ∀ a o, g.F a = some o → H a = some o) : ∀ {v : V} {d : D}, Den L g v d → d.pl = true → Dp L.K H v d.py
  | _, _, .non, _ => .non
  | _, _, .bl b, _ => .bl b
  | _, _, .int i, _ => .int i
  | _, _, .str s, _ => .str s
  | _, _, .tup e l, h => by simp only [D.py]; exact .tup (sqT_mono sub e.sq) (DenL.dp sub l (by simpa only [D.pl] using h))
  | _, _, .lst e l, h => by simp only [D.py]; exact (.lst (.inl (.inl (sub _ _ e))) (DenL.dp sub l (by simpa only [D.pl] using h)))
  | _, _, .dK _ _ _, h => by simp only [D.pl] at h; cases h
  | _, _, .dT _ _ _, h => by simp only [D.pl] at h; cases h
  | _, _, .ins _ _ _, h => by simp only [D.pl] at h; cases h
  | _, _, .exc _ _ _ _, h => by simp only [D.pl] at h; cases h
  | _, _, .err _ _, h => by simp only [D.pl] at h; cases h
  | _, _, .ty _, h => by simp only [D.pl] at h; cases h
  | _, _, .clo _, h => by simp only [D.pl] at h; cases h
  | _, _, .rnd _, h => by simp only [D.pl] at h; cases h
  | _, _, .scr _, h => by simp only [D.pl] at h; cases h
theorem DenL.dp (sub : ∀ a o, g.F a = some o → H a = some o) : ∀ {vs : List V} {ds : List D}, DenL L g vs ds → D.plL ds = true → DpAll L.K H vs (D.pyL ds)
  | _, _, .nil, _ => .nil
  | _, _, .cons a l, h => by
    simp only [D.plL, Bool.and_eq_true] at h
    exact .cons (Den.dp sub a h.1) (DenL.dp sub l h.2)
end
theorem Vw.dp (sub : ∀ a o, g.F a = some o → H a = some o) {v : V} {d : D} (h : Vw L g H v d) (p : d.pl = true) : Dp L.K H v d.py := by
  rcases h with h | ⟨q, vs, ds, rfl, rfl, h1, h2, _⟩ | ⟨q, t, kvs, rfl, rfl, _, _⟩
  · exact h.dp sub p
  · simp only [D.py]
    exact .lst (.inl (.inl h1)) (h2.dp sub (by simpa only [D.pl] using p))
  · simp only [D.pl] at p
    cases p

/-- a two-place operation on values, by what it says of data; it raises nothing -/
def RdO (L : Lx) (f : D → D → Option D) : R2 := fun x y H Q => ∃ Γ g σ dx dy d, Rep L Γ g σ H ∧ Vw L g H x dx ∧ Vw L g H y dy ∧ f dx dy = some d ∧ Wn L DenT g H Q d g.bud
def OpD (L : Lx) (X : Cx) (s : Value → Value → Sem Value) (f : D → D → Option D) : Prop := OpR X s (RdO L f)
def orD (f f' : D → D → Option D) : D → D → Option D := fun x y => match f x y with
  | some d => some d
  | none => f' x y
theorem OpD.or {s : Value → Value → Sem Value} {f f' : D → D → Option D} (h : OpD L X s f) (h' : OpD L X s f') : OpD L X s (orD f f') := by
  intro pins st σ H x y v u Q I rx ry ⟨Γ, g, σ', dx, dy, d, rp, vx, vy, e, w⟩
  unfold orD at e
  split at e
  · rename_i d' e'
    cases e
    exact h pins st σ H x y v u Q I rx ry ⟨Γ, g, σ', dx, dy, d, rp, vx, vy, e', w⟩
  · exact h' pins st σ H x y v u Q I rx ry ⟨Γ, g, σ', dx, dy, d, rp, vx, vy, e, w⟩
def iOp (f : D → D → Option D) (i j : IE) : IE := fun Γ => (i Γ).bind fun x => (j Γ).bind fun y => match f x y with
  | some d => .ret d
  | none => .stuck
theorem Rd1.op {T T' : TT1} {i j : IE} {f : D → D → Option D} {W : WX} {Q : VK} (hT : ∀ H₀ g H v d, T L H₀ g H v d → Vw L g H v d) (hT' : ∀ H₀ g H v d, T' L H₀ g H v d → Vw L g H v d) (h : Rd1 L DenT W (iOp f i j) σ H Q) : tOp (RdO L f) (Rd1 L T W i) (Rd1 L T' W j) σ H Q := by
  obtain ⟨Γ, g, rp, w⟩ := h
  refine Rd1.go rp w fun x H1 dx g1 r1 s1 t1 w => Rd1.go r1 w fun y H2 dy g2 r2 s2 t2 w => ?_
  skip
  split at w
  · rename_i d e
    exact ⟨Γ, g2, σ, dx, dy, d, r2, (hT _ _ _ _ _ t1).step s2, hT' _ _ _ _ _ t2, e, fun v g' H' s eb t => w v g' H' (s1.trans (s2.trans s)) eb t⟩
  · exact w.elim
theorem de_bin {o : Operator} {f : D → D → Option D} {i j : IE} {a b : Expr} {pos : Pos} (ho : OpD L X (binaryOp o) f) (ha : DV L X i a) (hb : DV L X j b) : DE L X (iOp f i j) (.BinOp a o b pos) := fun W tk =>
  PE.imp (pe_op ho (ha W tk) (hb W tk)) fun σ H Q h => h.op (fun _ _ _ _ _ t => t) fun _ _ _ _ _ t => t
theorem de_cmp {o : CmpOp} {f : D → D → Option D} {i j : IE} {a b : Expr} {pos : Pos} (ho : OpD L X (compareOp o) f) (ha : DV L X i a) (hb : DV L X j b) (hm : behindInMarks o b = false) : DE L X (iOp f i j) (.Compare a [o] [b] pos) := fun W tk =>
  PE.imp (pe_cmpR ho (ha W tk) (hb W tk) hm) fun σ H Q h => h.op (fun _ _ _ _ _ t => t) fun _ _ _ _ _ t => t

/-! the operations -/
theorem Vw.int {v : V} {i : Int} (h : Vw L g H v (.int i)) : v = .int i := by
  rcases h with h | ⟨_, _, _, _, e, _⟩ | ⟨_, _, _, _, e, _⟩
  · cases h; rfl
  · cases e
  · cases e
theorem Vw.str {v : V} {i : Str} (h : Vw L g H v (.str i)) : v = .str i := by
  rcases h with h | ⟨_, _, _, _, e, _⟩ | ⟨_, _, _, _, e, _⟩
  · cases h; rfl
  · cases e
  · cases e
theorem Vw.bl {v : V} {i : Bool} (h : Vw L g H v (.bl i)) : v = .bl i := by
  rcases h with h | ⟨_, _, _, _, e, _⟩ | ⟨_, _, _, _, e, _⟩
  · cases h; rfl
  · cases e
  · cases e
theorem Vw.tup {v : V} {ds : List D} (sub : ∀ a o, g.F a = some o → H a = some o) (h : Vw L g H v (.tup ds)) : ∃ a vs, v = .ref a ∧ SqT L.K H a vs ∧ DenL L g vs ds ∧ Den L g v (.tup ds) := by
  rcases h with h | ⟨_, _, _, _, e, _⟩ | ⟨_, _, _, _, e, _⟩
  · cases id h with
    | tup e l => exact ⟨_, _, rfl, sqT_mono sub e.sq, l, h⟩
  · cases e
  · cases e
theorem Vw.lst {v : V} {ds : List D} (sub : ∀ a o, g.F a = some o → H a = some o) (h : Vw L g H v (.lst ds)) : ∃ a vs, v = .ref a ∧ H a = some (.lst vs) ∧ DenL L g vs ds := by
  rcases h with h | ⟨p, vs, ds', rfl, e, h1, h2, _⟩ | ⟨_, _, _, _, e, _⟩
  · cases id h with
    | lst e l => exact ⟨_, _, rfl, sub _ _ e, l⟩
  · cases e
    exact ⟨p, vs, rfl, h1, h2⟩
  · cases e
def fII (c : Int → Int → Bool) (k : Int → Int → D) : D → D → Option D
  | .int i, .int j => if c i j then some (k i j) else none
  | _, _ => none
theorem opd_ii {s : Value → Value → Sem Value} {C : Int → Int → Prop} {k : Int → Int → V} {kd : Int → Int → D} {c : Int → Int → Bool} (h : OpR X s (rI C k)) (hc : ∀ i j, c i j = true → C i j) (hk : ∀ g i j, Den L g (k i j) (kd i j)) : OpD L X s (fII c kd) := by
  intro pins st σ H x y v u Q I rx ry ⟨Γ, g, σ', dx, dy, d, rp, vx, vy, e, w⟩
  unfold fII at e
  split at e
  · split at e
    · rename_i z
      cases e
      cases vx.int
      cases vy.int
      exact h pins st σ H _ _ v u Q I rx ry ⟨_, _, rfl, rfl, hc _ _ z, w _ g H (Stp.refl rp) rfl (hk g _ _)⟩
    · cases e
  · cases e

def fAddI := fII (fun _ _ => true) fun i j => .int (i + j)
def fSubI := fII (fun _ _ => true) fun i j => .int (i - j)
theorem od_addI : OpD L X (binaryOp .Add) fAddI := opd_ii (C := fun _ _ => True) (k := fun i j => .int (i + j)) (fun pins s σ H x y v u Q I rx ry ⟨i, j, e1, e2, _, q⟩ => op_add pins s σ H x y v u Q I rx ry ⟨i, j, e1, e2, q⟩) (fun _ _ _ => trivial) fun _ _ _ => .int _
theorem od_subI : OpD L X (binaryOp .Sub) fSubI := opd_ii (C := fun _ _ => True) (k := fun i j => .int (i - j)) (fun pins s σ H x y v u Q I rx ry ⟨i, j, e1, e2, _, q⟩ => op_sub pins s σ H x y v u Q I rx ry ⟨i, j, e1, e2, q⟩) (fun _ _ _ => trivial) fun _ _ _ => .int _
def fMulI := fII (fun i j => decide (i.natAbs.log2 + j.natAbs.log2 < 1000000)) fun i j => .int (i * j)
theorem od_mulI : OpD L X (binaryOp .Mult) fMulI := opd_ii op_mulW (fun _ _ h => by simpa [CMulW] using h) fun _ _ _ => .int _
def fDivI := fII (fun _ j => decide (0 < j) && decide (j.natAbs.log2 < 9000)) fun i j => .int (i / j)
theorem od_divI : OpD L X (binaryOp .FloorDiv) fDivI := opd_ii op_fdivW (fun _ _ h => by simpa [CDivW] using h) fun _ _ _ => .int _
def fModI := fII (fun _ j => decide (0 < j)) fun i j => .int (i % j)
theorem od_modI : OpD L X (binaryOp .Mod) fModI := opd_ii op_mod (fun _ _ h => of_decide_eq_true h) fun _ _ _ => .int _
def fLtI := fII (fun _ _ => true) fun i j => .bl (decide (i < j))
def fLeI := fII (fun _ _ => true) fun i j => .bl (decide (i ≤ j))
def fGtI := fII (fun _ _ => true) fun i j => .bl (decide (j < i))
def fGeI := fII (fun _ _ => true) fun i j => .bl (decide (j ≤ i))
theorem od_ltI : OpD L X (compareOp .Lt) fLtI := opd_ii (C := fun _ _ => True) (k := fun i j => .bl (decide (i < j))) (fun pins s σ H x y v u Q I rx ry ⟨i, j, e1, e2, _, q⟩ => op_lt pins s σ H x y v u Q I rx ry ⟨i, j, e1, e2, q⟩) (fun _ _ _ => trivial) fun _ _ _ => .bl _
theorem od_leI : OpD L X (compareOp .LtE) fLeI := opd_ii (C := fun _ _ => True) (k := fun i j => .bl (decide (i ≤ j))) (fun pins s σ H x y v u Q I rx ry ⟨i, j, e1, e2, _, q⟩ => op_le pins s σ H x y v u Q I rx ry ⟨i, j, e1, e2, q⟩) (fun _ _ _ => trivial) fun _ _ _ => .bl _
theorem od_gtI : OpD L X (compareOp .Gt) fGtI := opd_ii (C := fun _ _ => True) (k := fun i j => .bl (decide (j < i))) (fun pins s σ H x y v u Q I rx ry ⟨i, j, e1, e2, _, q⟩ => op_gt pins s σ H x y v u Q I rx ry ⟨i, j, e1, e2, q⟩) (fun _ _ _ => trivial) fun _ _ _ => .bl _
theorem od_geI : OpD L X (compareOp .GtE) fGeI := opd_ii (C := fun _ _ => True) (k := fun i j => .bl (decide (j ≤ i))) (fun pins s σ H x y v u Q I rx ry ⟨i, j, e1, e2, _, q⟩ => op_ge pins s σ H x y v u Q I rx ry ⟨i, j, e1, e2, q⟩) (fun _ _ _ => trivial) fun _ _ _ => .bl _
def fAddS : D → D → Option D
  | .str x, .str y => if x.length + y.length ≤ sizeLine then some (.str (x ++ y)) else none
  | _, _ => none
theorem od_addS : OpD L X (binaryOp .Add) fAddS := by
  intro pins st σ H x y v u Q I rx ry ⟨Γ, g, σ', dx, dy, d, rp, vx, vy, e, w⟩
  unfold fAddS at e
  split at e
  · split at e
    · rename_i z
      cases e
      cases vx.str
      cases vy.str
      exact op_add_str pins st σ H _ _ v u Q I rx ry ⟨_, _, rfl, rfl, z, w _ g H (Stp.refl rp) rfl (.str _)⟩
    · cases e
  · cases e
def fAddL : D → D → Option D
  | .lst x, .lst y => if x.length + y.length ≤ sizeLine then some (.lst (x ++ y)) else none
  | _, _ => none
theorem od_addL : OpD L X (binaryOp .Add) fAddL := by
  intro pins st σ H x y v u Q I rx ry ⟨Γ, g, σ', dx, dy, d, rp, vx, vy, e, w⟩
  unfold fAddL at e
  split at e
  · split at e
    · rename_i z
      cases e
      obtain ⟨a, vs, rfl, h1, l1⟩ := vx.lst rp.sub
      obtain ⟨b, ws, rfl, h2, l2⟩ := vy.lst rp.sub
      refine op_cat pins st σ H _ _ v u Q I rx ry ⟨a, b, vs, ws, rfl, rfl, h1, h2, by rw [l1.length, l2.length]; exact z, fun p n => ?_⟩
      have s := stp_put (o := .lst (vs ++ ws)) rp n
      exact w _ _ _ s rfl (.lst put_F ((l1.append l2).mono s.le s.mu))
    · cases e
  · cases e
def fAddT : D → D → Option D
  | .tup x, .tup y => if x.length + y.length ≤ sizeLine then some (.tup (x ++ y)) else none
  | _, _ => none
theorem od_addT (hK : X.K = L.K) : OpD L X (binaryOp .Add) fAddT := by
  intro pins st σ H x y v u Q I rx ry ⟨Γ, g, σ', dx, dy, d, rp, vx, vy, e, w⟩
  unfold fAddT at e
  split at e
  · split at e
    · rename_i z
      cases e
      obtain ⟨a, vs, rfl, h1, l1, d1⟩ := vx.tup rp.sub
      obtain ⟨b, ws, rfl, h2, l2, d2⟩ := vy.tup rp.sub
      rw [← hK] at h1 h2
      refine op_catA pins st σ H _ _ v u Q I rx ry ⟨a, b, vs, ws, rfl, rfl, h1, h2, by rw [l1.length, l2.length]; exact z, fun q => ?_, fun _ q => ?_, fun _ _ p n => ?_⟩
      · subst q
        cases l1
        exact w _ g H (Stp.refl rp) rfl d2
      · subst q
        cases l2
        rw [List.append_nil] at w
        exact w _ g H (Stp.refl rp) rfl d1
      · have s := stp_put (o := .tup (vs ++ ws)) rp n
        exact w _ _ _ s rfl (.tup (.inl put_F) ((l1.append l2).mono s.le s.mu))
    · cases e
  · cases e
/-- == of data -/
def dEq (x y : D) : Bool := PyData.eqv x.py y.py
def okEq (x y : D) : Bool := x.pl && y.pl && decide (min x.dep y.dep ≤ 60)
def fEqD (x y : D) : Option D := if okEq x y then some (.bl (dEq x y)) else none
def fNeD (x y : D) : Option D := if okEq x y then some (.bl (!dEq x y)) else none
theorem od_eqD (hK : X.K = L.K) (hu : X.A.units + 64 < cLine) : OpD L X (compareOp .Eq) fEqD := by
  intro pins st σ H x y v u Q I rx ry ⟨Γ, g, σ', dx, dy, d, rp, vx, vy, e, w⟩
  unfold fEqD at e
  split at e
  · rename_i z
    cases e
    unfold okEq at z
    simp only [Bool.and_eq_true, decide_eq_true_eq] at z
    obtain ⟨as, r1⟩ := Dp.reads I dx.py x v (hK ▸ vx.dp rp.sub z.1.1) rx
    obtain ⟨bs, r2⟩ := Dp.reads I dy.py y u (hK ▸ vy.dp rp.sub z.1.2) ry
    exact SeqAt.eq_plain r1 r2 (D.plain_py _ z.1.1) (D.plain_py _ z.1.2) (by rw [D.depth_py, D.depth_py]; omega) ⟨.bl _, H, I, rfl, w _ g H (Stp.refl rp) rfl (.bl _)⟩
  · cases e
theorem od_neD (hK : X.K = L.K) (hu : X.A.units + 64 < cLine) : OpD L X (compareOp .NotEq) fNeD := by
  intro pins st σ H x y v u Q I rx ry ⟨Γ, g, σ', dx, dy, d, rp, vx, vy, e, w⟩
  unfold fNeD at e
  split at e
  · rename_i z
    cases e
    unfold okEq at z
    simp only [Bool.and_eq_true, decide_eq_true_eq] at z
    obtain ⟨as, r1⟩ := Dp.reads I dx.py x v (hK ▸ vx.dp rp.sub z.1.1) rx
    obtain ⟨bs, r2⟩ := Dp.reads I dy.py y u (hK ▸ vy.dp rp.sub z.1.2) ry
    exact SeqAt.ne_plain r1 r2 (D.plain_py _ z.1.1) (D.plain_py _ z.1.2) (by rw [D.depth_py, D.depth_py]; omega) ⟨.bl _, H, I, rfl, w _ g H (Stp.refl rp) rfl (.bl _)⟩
  · cases e
end
end DL
/-! Statements. -/
namespace DL
open PySem PySem.Spec L2

inductive Fl where
  | nx (Γ : Env) | bk (Γ : Env) | ct (Γ : Env) | rt (d : D)
abbrev IS := Env → M Fl
abbrev IT := Env → M Bool
/-- the ghost grows -/
structure FLe (g g' : Gh) : Prop where
  F : ∀ a o, g.F a = some o → g'.F a = some o
  mu : ∀ m, g.mu = some m → g'.mu = some m
theorem FLe.refl (g : Gh) : FLe g g := ⟨fun _ _ e => e, fun _ e => e⟩
theorem FLe.trans {g g' g'' : Gh} (a : FLe g g') (b : FLe g' g'') : FLe g g'' := ⟨fun x o e => b.F x o (a.F x o e), fun m e => b.mu m (a.mu m e)⟩
section
variable {L : Lx} {X : Cx} {g0 g g' : Gh} {H0 H H' : Hp} {σ σ' : L2.St} {Γ Γ' : Env} {W : WX}
theorem Stp.fle (s : Stp L g H g' H') : FLe g g' := ⟨s.le, s.mu⟩

structure RepS (L : Lx) (g0 : Gh) (H0 : Hp) (Γ : Env) (g : Gh) (σ : L2.St) (H : Hp) : Prop where
  rep : Rep L Γ g σ H
  base : Stp L g0 H0 g H
  new : ∀ (i : Nat) (b : B) (p : Addr), Γ[i]? = some (some b) → b.own = true → σ[i]? = some (some (.ref p)) → H0 p = none
theorem RepS.step (r : RepS L g0 H0 Γ g σ H) (s : Stp L g H g' H') : RepS L g0 H0 Γ g' σ H' := ⟨r.rep.step s, r.base.trans s, r.new⟩
theorem set_at {n : Nat} {d : D} {i : Nat} {b : B} {v : V} (hl : Γ.length = σ.length) (e : (Γ.set n (some (.fz d)))[i]? = some (some b)) :
    (i = n ∧ b = .fz d ∧ (σ.set n (some v))[i]? = some (some v)) ∨ (i ≠ n ∧ Γ[i]? = some (some b) ∧ (σ.set n (some v))[i]? = σ[i]?) := by
  by_cases h : i = n
  · subst h
    by_cases hl' : i < Γ.length
    · rw [List.getElem?_set_self hl'] at e
      cases e
      exact .inl ⟨rfl, rfl, List.getElem?_set_self (by rw [← hl]; exact hl')⟩
    · rw [List.getElem?_eq_none (by simpa using hl')] at e; cases e
  · rw [List.getElem?_set_ne (Ne.symm h)] at e
    exact .inr ⟨h, e, List.getElem?_set_ne (Ne.symm h)⟩
/-- a slot is given frozen data -/
theorem Rep.set {n : Nat} {v : V} {d : D} (r : Rep L Γ g σ H) (h : Den L g v d) : Rep L (Γ.set n (some (.fz d))) g (σ.set n (some v)) H := by
  refine ⟨r.sub, r.rnd, r.tab, fun i b e => ?_, fun i j b c p e1 e2 o1 o2 s1 s2 => ?_, r.nF, by rw [List.length_set, List.length_set]; exact r.len⟩
  · rcases set_at (v := v) r.len e with ⟨rfl, rfl, s⟩ | ⟨_, e, s⟩
    · exact ⟨_, s, v, rfl, h⟩
    · rw [s]; exact r.loc i b e
  · rcases set_at (v := v) r.len e1 with ⟨_, rfl, _⟩ | ⟨_, e1, t1⟩
    · cases o1
    rcases set_at (v := v) r.len e2 with ⟨_, rfl, _⟩ | ⟨_, e2, t2⟩
    · cases o2
    exact r.dis i j b c p e1 e2 o1 o2 (t1 ▸ s1) (t2 ▸ s2)
theorem RepS.set {n : Nat} {v : V} {d : D} (r : RepS L g0 H0 Γ g σ H) (h : Den L g v d) : RepS L g0 H0 (Γ.set n (some (.fz d))) g (σ.set n (some v)) H :=
  ⟨r.rep.set h, r.base, fun i b p e o s => by
    rcases set_at (v := v) r.rep.len e with ⟨_, rfl, _⟩ | ⟨_, e, t⟩
    · cases o
    · exact r.new i b p e o (t ▸ s)⟩

/-- what is wanted behind a statement's run; gs: the ghost where it began -/
def FlT (L : Lx) (g0 : Gh) (H0 : Hp) (gs : Gh) (Dn : Ends) : Fl → Nat → Prop
  | .nx Γ, b => ∀ g σ H, RepS L g0 H0 Γ g σ H → FLe gs g → g.bud = b → Dn.nx σ H
  | .bk Γ, b => ∀ g σ H, RepS L g0 H0 Γ g σ H → FLe gs g → g.bud = b → Dn.bk σ H
  | .ct Γ, b => ∀ g σ H, RepS L g0 H0 Γ g σ H → FLe gs g → g.bud = b → Dn.ct σ H
  | .rt d, b => ∀ g v H, Stp L g0 H0 g H → g.bud = b → Den L g v d → Dn.rt v H
theorem FlT.of {gs gs' : Gh} {Dn : Ends} {fl : Fl} {b : Nat} (h : FlT L g0 H0 gs Dn fl b) (f : FLe gs gs') : FlT L g0 H0 gs' Dn fl b := by
  cases fl with
  | nx Γ => exact fun g σ H r k e => h g σ H r (f.trans k) e
  | bk Γ => exact fun g σ H r k e => h g σ H r (f.trans k) e
  | ct Γ => exact fun g σ H r k e => h g σ H r (f.trans k) e
  | rt d => exact h
def XS (L : Lx) (W : WX) (g0 : Gh) (H0 : Hp) (x : Ex) (b : Nat) : Prop := ∀ cls d g σ H, Stp L g0 H0 g H → g.bud = b → ExAt L g H x cls d → W cls d σ H
def RdS (L : Lx) (W : WX) (g0 : Gh) (H0 : Hp) (s : IS) : TS := fun Dn σ H => ∃ Γ g, RepS L g0 H0 Γ g σ H ∧ (s Γ).wpB g.bud (FlT L g0 H0 g Dn) (XS L W g0 H0)
def DS (L : Lx) (X : Cx) (s : IS) (st : Stmt) : Prop := ∀ W g0 H0, Takes X W → PS X st (RdS L W g0 H0 s)
def DSs (L : Lx) (X : Cx) (s : IS) (sts : List Stmt) : Prop := ∀ W g0 H0, Takes X W → PSs X sts (RdS L W g0 H0 s)
theorem PS.imp {st : Stmt} {t t' : TS} (h : PS X st t) (k : ∀ Dn σ H, t' Dn σ H → t Dn σ H) : PS X st t' := ⟨fun pins s σ H Dn I r => h.run pins s σ H Dn I (k _ _ _ r)⟩
theorem PSs.imp {st : List Stmt} {t t' : TS} (h : PSs X st t) (k : ∀ Dn σ H, t' Dn σ H → t Dn σ H) : PSs X st t' := ⟨fun pins s σ H Dn I r => h.run pins s σ H Dn I (k _ _ _ r)⟩
theorem XS.xw {x : Ex} {b : Nat} (s : Stp L g0 H0 g H) (h : XS L W g0 H0 x b) : XW L W g σ H x b := fun cls d g' H' s' e q => h cls d g' σ H' (s.trans s') e q
/-- an expression's run, then on -/
theorem Rd1.goS {T : TT1} {i : IE} {f : D → M Fl} {R : Fl → Nat → Prop} {Q : VK} (r : RepS L g0 H0 Γ g σ H) (h : ((i Γ).bind f).wpB g.bud R (XS L W g0 H0))
    (k : ∀ v H1 d g1, RepS L g0 H0 Γ g1 σ H1 → Stp L g H g1 H1 → T L H g1 H1 v d → (f d).wpB g1.bud R (XS L W g0 H0) → Q v H1) : Rd1 L T W i σ H Q := by
  refine ⟨Γ, g, r.rep, M.wpB_mono (fun d b h v g' H' s e t => ?_) (fun _ _ x => x.xw r.base) _ _ ((M.wpB_bind _ _).mp h)⟩
  subst e
  exact k v H' d g' (r.step s) s t h

/-! small statements -/
variable {e : Expr} {i : IE} {pos : Pos} {s t : IS} {st : Stmt} {sts : List Stmt}
def sSet (n : Nat) (i : IE) : IS := fun Γ => (i Γ).bind fun d => .ret (.nx (Γ.set n (some (.fz d))))
def sRet (i : IE) : IS := fun Γ => (i Γ).bind fun d => .ret (.rt d)
def sExpr (i : IE) : IS := fun Γ => (i Γ).bind fun _ => .ret (.nx Γ)
def sPass : IS := fun Γ => .ret (.nx Γ)
def sSeq (s t : IS) : IS := fun Γ => (s Γ).bind fun fl => match fl with
  | .nx Γ' => t Γ'
  | f => .ret f
theorem ds_set {n : Nat} {x : Str} {pos' : Pos} (hN : X.N.Nodup) (hi : X.N[n]? = some x) (hx : Loc X.env.scope x) (h : DE L X i e) (hs : swapsWith e (some (.Name x pos')) pos.line X.env = pure false := by rfl)
    (hf : X.fn x = true ∨ X.env.scope.names.lookup x = some .local := by first | exact .inl rfl | exact .inr rfl) : DS L X (sSet n i) (.Assign [.Name x pos'] e pos) := fun W g0 H0 tk => by
  refine PS.imp (ps_set hN hi hx (h W tk) hs hf) fun Dn σ H ⟨Γ, g, r, w⟩ => Rd1.goS r w fun v H1 d g1 r1 s t w => ?_
  exact w g1 _ H1 (r1.set t) s.fle rfl
theorem ds_ret (h : DE L X i e) : DS L X (sRet i) (.Return (some e) pos) := fun W g0 H0 tk => by
  refine PS.imp (ps_ret (h W tk)) fun Dn σ H ⟨Γ, g, r, w⟩ => Rd1.goS r w fun v H1 d g1 r1 s t w => ?_
  exact w g1 v H1 r1.base rfl t
def sRetN : IS := fun _ => .ret (.rt .non)
theorem ds_retN : DS L X sRetN (.Return none pos) := fun W g0 H0 tk => PS.imp ps_retN fun Dn σ H ⟨Γ, g, r, w⟩ => w g .non H r.base rfl .non
theorem ds_expr (h : DV L X i e) (hs : swapsWith e none pos.line X.env = pure false := by rfl) : DS L X (sExpr i) (.Expr e pos) := fun W g0 H0 tk => by
  refine PS.imp (ps_expr (h W tk) hs) fun Dn σ H ⟨Γ, g, r, w⟩ => Rd1.goS r w fun v H1 d g1 r1 s t w => ?_
  exact w g1 σ H1 r1 s.fle rfl
theorem ds_pass : DS L X sPass (.Pass pos) := fun W g0 H0 tk => PS.imp ps_pass fun Dn σ H ⟨Γ, g, r, w⟩ => w g σ H r (FLe.refl g) rfl
theorem ds_doc {x j} {pos pos' : Pos} : DS L X sPass (.Expr (.Constant (.str x) j pos) pos') := fun W g0 H0 tk => PS.imp ps_doc fun Dn σ H ⟨Γ, g, r, w⟩ => w g σ H r (FLe.refl g) rfl
theorem dss_nil : DSs L X sPass [] := fun W g0 H0 tk => PSs.imp pss_nil fun Dn σ H ⟨Γ, g, r, w⟩ => w g σ H r (FLe.refl g) rfl
theorem dss_one (h : DS L X s st) : DSs L X s [st] := fun W g0 H0 tk => pss_one (h W g0 H0 tk)
theorem dss_cons (h : DS L X s st) (hr : DSs L X t sts) : DSs L X (sSeq s t) (st :: sts) := fun W g0 H0 tk => by
  refine PSs.imp (pss_cons (h W g0 H0 tk) (hr W g0 H0 tk)) fun Dn σ H ⟨Γ, g, r, w⟩ => ⟨Γ, g, r, M.wpB_mono (fun fl b k => ?_) (fun _ _ x => x) _ _ ((M.wpB_bind _ _).mp w)⟩
  cases fl with
  | nx Γ' =>
    intro g' σ' H' r' f e
    subst e
    exact ⟨Γ', g', r', M.wpB_mono (fun _ _ z => z.of f) (fun _ _ x => x) _ _ k⟩
  | bk Γ' => exact k
  | ct Γ' => exact k
  | rt d => exact k
def sBrk : IS := fun Γ => .ret (.bk Γ)
def sCnt : IS := fun Γ => .ret (.ct Γ)
theorem ds_brk : DS L X sBrk (.Break pos) := fun W g0 H0 tk => PS.imp ps_break fun Dn σ H ⟨Γ, g, r, w⟩ => w g σ H r (FLe.refl g) rfl
theorem ds_cnt : DS L X sCnt (.Continue pos) := fun W g0 H0 tk => PS.imp ps_continue fun Dn σ H ⟨Γ, g, r, w⟩ => w g σ H r (FLe.refl g) rfl

/-! tests -/
def RdT (L : Lx) (W : WX) (t : IT) : TT := fun σ H Q => ∃ Γ g, Rep L Γ g σ H ∧ (t Γ).wpB g.bud (fun c b => ∀ g' H', Stp L g H g' H' → g'.bud = b → Q c H') (XW L W g σ H)
def DT (L : Lx) (X : Cx) (t : IT) (e : Expr) : Prop := ∀ W, Takes X W → PT X e (RdT L W t)
theorem PT.imp {e : Expr} {t t' : TT} (h : PT X e t) (k : ∀ σ H Q, t' σ H Q → t σ H Q) : PT X e t' := ⟨fun pins s σ H Q I r => h.run pins s σ H Q I (k _ _ _ r)⟩
def asB (i : IE) : IT := fun Γ => (i Γ).bind fun d => match d with
  | .bl k => .ret k
  | _ => .stuck
theorem dt_val (h : DE L X i e) (he : ∀ whole, isTrue e X.env whole = (do let v ← whole; standAt e.pos; holding [v] (truthy v)) := by intro _; rfl) : DT L X (asB i) e := fun W tk => by
  refine PT.imp (pt_val (h W tk) he) fun σ H Q ⟨Γ, g, r, w⟩ => Rd1.go r w fun v H1 d g1 r1 s t w => ?_
  cases d with
  | bl k =>
    cases t
    exact ⟨k, rfl, w g1 H1 s rfl⟩
  | _ => exact w.elim
theorem dt_cmp {o : CmpOp} {f : D → D → Option D} {i j : IE} {a b : Expr} (ho : OpD L X (compareOp o) f) (ha : DV L X i a) (hb : DV L X j b) (hm : behindInMarks o b = false) : DT L X (asB (iOp f i j)) (.Compare a [o] [b] pos) := fun W tk => by
  refine PT.imp (pt_cmpR ho (ha W tk) (hb W tk) hm) fun σ H Q ⟨Γ, g, r, w⟩ => Rd1.op (fun _ _ _ _ _ t => t) (fun _ _ _ _ _ t => t) ⟨Γ, g, r, M.wpB_mono (fun d b k v g' H' s e t => ?_) (fun _ _ x => x) _ _ ((M.wpB_bind _ _).mp w)⟩
  cases d with
  | bl c =>
    cases t
    exact ⟨c, rfl, k g' H' s e⟩
  | _ => exact k.elim
def notB (t : IT) : IT := fun Γ => (t Γ).bind fun c => .ret (!c)
theorem dt_not {t : IT} (h : DT L X t e) : DT L X (notB t) (.UnaryOp .Not e pos) := fun W tk =>
  PT.imp (pt_not (h W tk)) fun σ H Q ⟨Γ, g, r, w⟩ => ⟨Γ, g, r, (M.wpB_bind _ _).mp w⟩
def DW (L : Lx) (X : Cx) (t : IT) (e : Expr) : Prop := ∀ W, Takes X W → PW X e (RdT L W t)
theorem PW.imp {e : Expr} {t t' : TT} (h : PW X e t) (k : ∀ σ H Q, t' σ H Q → t σ H Q) : PW X e t' := ⟨fun wh pins s σ H Q I r => h.run wh pins s σ H Q I (k _ _ _ r)⟩
def andB (t u : IT) : IT := fun Γ => (t Γ).bind fun c => if c = true then u Γ else .ret false
def orB (t u : IT) : IT := fun Γ => (t Γ).bind fun c => if c = true then .ret true else u Γ
theorem RdT.go {t : IT} {f : Bool → M Bool} {Q : Bool → Hp → Prop} {R : Bool → Nat → Prop} (r : Rep L Γ g σ H) (h : ((t Γ).bind f).wpB g.bud R (XW L W g σ H))
    (k : ∀ c H1 g1, Rep L Γ g1 σ H1 → Stp L g H g1 H1 → (f c).wpB g1.bud R (XW L W g1 σ H1) → Q c H1) : RdT L W t σ H Q := by
  refine ⟨Γ, g, r, M.wpB_mono (fun c b h g' H' s e => ?_) (fun _ _ x => x) _ _ ((M.wpB_bind _ _).mp h)⟩
  subst e
  exact k c H' g' (r.step s) s (M.wpB_mono (fun _ _ x => x) (fun _ _ x => x.of s) _ _ h)
theorem dw_and1 {t : IT} {a : Expr} (h : DT L X t a) : DW L X t (.BoolOp .And [a] pos) := fun W tk => pw_and1 (h W tk)
theorem dw_or1 {t : IT} {a : Expr} (h : DT L X t a) : DW L X t (.BoolOp .Or [a] pos) := fun W tk => pw_or1 (h W tk)
theorem dw_and {t u : IT} {a b : Expr} {rest : List Expr} (h : DT L X t a) (h2 : DW L X u (.BoolOp .And (b :: rest) pos)) : DW L X (andB t u) (.BoolOp .And (a :: b :: rest) pos) := fun W tk => by
  refine PW.imp (pw_and (h W tk) (h2 W tk)) fun σ H Q ⟨Γ, g, r, w⟩ => RdT.go r w fun c H1 g1 r1 s w => ?_
  cases c with
  | true => exact iteT ⟨Γ, g1, r1, M.wpB_mono (fun c b k g' H' s' e => k g' H' (s.trans s') e) (fun _ _ x => x) _ _ w⟩
  | false => exact iteF (w g1 H1 s rfl)
theorem dw_or {t u : IT} {a b : Expr} {rest : List Expr} (h : DT L X t a) (h2 : DW L X u (.BoolOp .Or (b :: rest) pos)) : DW L X (orB t u) (.BoolOp .Or (a :: b :: rest) pos) := fun W tk => by
  refine PW.imp (pw_or (h W tk) (h2 W tk)) fun σ H Q ⟨Γ, g, r, w⟩ => RdT.go r w fun c H1 g1 r1 s w => ?_
  cases c with
  | false => exact iteF ⟨Γ, g1, r1, M.wpB_mono (fun c b k g' H' s' e => k g' H' (s.trans s') e) (fun _ _ x => x) _ _ w⟩
  | true => exact iteT (w g1 H1 s rfl)
theorem DW.dt {t : IT} (h : DW L X t e) : DT L X t e := fun W tk => (h W tk).pt
/-- if -/
def sIf (c : IT) (s t : IS) : IS := fun Γ => (c Γ).bind fun b => if b = true then s Γ else t Γ
theorem ds_if {c : IT} {ce : Expr} {sa sb : List Stmt} (hc : DT L X c ce) (ha : DSs L X s sa) (hb : DSs L X t sb) : DS L X (sIf c s t) (.If ce sa sb pos) := fun W g0 H0 tk => by
  refine PS.imp (ps_if (hc W tk) (ha W g0 H0 tk) (hb W g0 H0 tk)) fun Dn σ H ⟨Γ, g, r, w⟩ => ⟨Γ, g, r.rep, M.wpB_mono (fun c b k g' H' sp e => ?_) (fun _ _ x => x.xw r.base) _ _ ((M.wpB_bind _ _).mp w)⟩
  subst e
  cases c with
  | true => exact iteT ⟨Γ, g', r.step sp, M.wpB_mono (fun _ _ z => z.of sp.fle) (fun _ _ x => x) _ _ k⟩
  | false => exact iteF ⟨Γ, g', r.step sp, M.wpB_mono (fun _ _ z => z.of sp.fle) (fun _ _ x => x) _ _ k⟩
/-- a if c else b; and, or as values -/
def iIf (c : IT) (i j : IE) : IE := fun Γ => (c Γ).bind fun b => if b = true then i Γ else j Γ
theorem de_if {c : IT} {i j : IE} {ce a b : Expr} (hc : DT L X c ce) (ha : DE L X i a) (hb : DE L X j b) : DE L X (iIf c i j) (.IfExp ce a b pos) := fun W tk => by
  refine PE.imp (pe_ifExp (hc W tk) (ha W tk) (hb W tk)) fun σ H Q ⟨Γ, g, r, w⟩ => ⟨Γ, g, r, M.wpB_mono (fun c b k g' H' s e => ?_) (fun _ _ x => x) _ _ ((M.wpB_bind _ _).mp w)⟩
  subst e
  cases c with
  | true => exact iteT ⟨Γ, g', r.step s, M.wpB_mono (fun d b k v g2 H2 s2 e t => k v g2 H2 (s.trans s2) e t) (fun _ _ x => x.of s) _ _ k⟩
  | false => exact iteF ⟨Γ, g', r.step s, M.wpB_mono (fun d b k v g2 H2 s2 e t => k v g2 H2 (s.trans s2) e t) (fun _ _ x => x.of s) _ _ k⟩
def iAnd (i j : IE) : IE := fun Γ => (asB i Γ).bind fun c => if c = true then j Γ else .ret (.bl false)
def iOr (i j : IE) : IE := fun Γ => (asB i Γ).bind fun c => if c = true then .ret (.bl true) else j Γ
def iNot (i : IE) : IE := fun Γ => (asB i Γ).bind fun c => .ret (.bl (!c))
theorem asB_bind {α : Type} {f : Bool → M α} : ((asB i Γ).bind f) = (i Γ).bind fun d => match d with
  | .bl k => f k
  | _ => .stuck := by
  unfold asB
  generalize i Γ = m
  induction m with
  | ret d => cases d <;> rfl
  | exc x => rfl
  | stuck => rfl
  | choose n k ih => exact congrArg (M.choose n) (funext ih)
  | begun k ih => exact congrArg M.begun ih
theorem de_one {o} {a : Expr} (h : DE L X i a) : DE L X i (.BoolOp o [a] pos) := fun W tk => pe_one (h W tk)
theorem de_and {i j : IE} {a b : Expr} {rest : List Expr} (ha : DE L X i a) (hb : DE L X j (.BoolOp .And (b :: rest) pos)) : DE L X (iAnd i j) (.BoolOp .And (a :: b :: rest) pos) := fun W tk => by
  refine PE.imp (pe_and (ha W tk) (hb W tk)) fun σ H Q ⟨Γ, g, r, w⟩ => ?_
  unfold iAnd at w
  rw [asB_bind] at w
  refine Rd1.go r w fun v H1 d g1 r1 s t w => ?_
  cases d with
  | bl c =>
    cases t
    refine ⟨c, rfl, ?_⟩
    cases c with
    | true => exact iteT ⟨Γ, g1, r1, M.wpB_mono (fun d b k v g2 H2 s2 e t => k v g2 H2 (s.trans s2) e t) (fun _ _ x => x) _ _ w⟩
    | false => exact iteF (w _ g1 H1 s rfl (.bl _))
  | _ => exact w.elim
theorem de_or {i j : IE} {a b : Expr} {rest : List Expr} (ha : DE L X i a) (hb : DE L X j (.BoolOp .Or (b :: rest) pos)) : DE L X (iOr i j) (.BoolOp .Or (a :: b :: rest) pos) := fun W tk => by
  refine PE.imp (pe_or (ha W tk) (hb W tk)) fun σ H Q ⟨Γ, g, r, w⟩ => ?_
  unfold iOr at w
  rw [asB_bind] at w
  refine Rd1.go r w fun v H1 d g1 r1 s t w => ?_
  cases d with
  | bl c =>
    cases t
    refine ⟨c, rfl, ?_⟩
    cases c with
    | false => exact iteF ⟨Γ, g1, r1, M.wpB_mono (fun d b k v g2 H2 s2 e t => k v g2 H2 (s.trans s2) e t) (fun _ _ x => x) _ _ w⟩
    | true => exact iteT (w _ g1 H1 s rfl (.bl _))
  | _ => exact w.elim
theorem de_not {a : Expr} (ha : DE L X i a) : DE L X (iNot i) (.UnaryOp .Not a pos) := fun W tk => by
  refine PE.imp (pe_not (ha W tk)) fun σ H Q ⟨Γ, g, r, w⟩ => ?_
  unfold iNot at w
  rw [asB_bind] at w
  refine Rd1.go r w fun v H1 d g1 r1 s t w => ?_
  cases d with
  | bl c =>
    cases t
    exact ⟨c, rfl, w _ g1 H1 s rfl (.bl _)⟩
  | _ => exact w.elim
end
end DL
/-! Targets, walks, loops, comprehensions. -/
namespace DL
open PySem PySem.Spec L2
section
variable {L : Lx} {X : Cx} {g0 g g' : Gh} {H0 H H' : Hp} {σ σ' : L2.St} {Γ Γ' : Env} {W : WX} {pos : Pos}

/-! targets -/
abbrev IG := D → Env → M Env
def RdG (L : Lx) (W : WX) (g0 : Gh) (H0 : Hp) (t : IG) : TG := fun v σ H Q => ∃ Γ g d, RepS L g0 H0 Γ g σ H ∧ Den L g v d ∧
  (t d Γ).wpB g.bud (fun Γ' b => ∀ g' σ' H', RepS L g0 H0 Γ' g' σ' H' → FLe g g' → g'.bud = b → Q σ' H') (XS L W g0 H0)
def DG (L : Lx) (X : Cx) (t : IG) (e : Expr) : Prop := ∀ W g0 H0, Takes X W → PG X e (RdG L W g0 H0 t)
theorem PG.imp {e : Expr} {t t' : TG} (h : PG X e t) (k : ∀ v σ H Q, t' v σ H Q → t v σ H Q) : PG X e t' := ⟨fun pins s σ H v u Q I r q => h.run pins s σ H v u Q I r (k _ _ _ _ q)⟩
def gN (n : Nat) : IG := fun d Γ => .ret (Γ.set n (some (.fz d)))
theorem dg_name {n : Nat} {x : Str} (hN : X.N.Nodup) (hi : X.N[n]? = some x) (hx : Loc X.env.scope x) (hf : X.fn x = true ∨ X.env.scope.names.lookup x = some .local := by first | exact .inl rfl | exact .inr rfl) : DG L X (gN n) (.Name x pos) := fun W g0 H0 tk =>
  PG.imp (pg_name hN hi hx hf) fun v σ H Q ⟨Γ, g, d, r, t, w⟩ => w g _ H (r.set t) (FLe.refl g) rfl
def gTs : List IG → List D → Env → M Env
  | [], [], Γ => .ret Γ
  | t :: ts, d :: ds, Γ => (t d Γ).bind fun Γ' => gTs ts ds Γ'
  | _, _, _ => .stuck
def gT (ts : List IG) : IG := fun d Γ => match d with
  | .tup ds => if ds.length = ts.length then gTs ts ds Γ else .stuck
  | _ => .stuck
def RdGs (L : Lx) (W : WX) (g0 : Gh) (H0 : Hp) (ts : List IG) : TGs := fun vs σ H Q => ∃ Γ g ds, RepS L g0 H0 Γ g σ H ∧ DenL L g vs ds ∧
  (gTs ts ds Γ).wpB g.bud (fun Γ' b => ∀ g' σ' H', RepS L g0 H0 Γ' g' σ' H' → FLe g g' → g'.bud = b → Q σ' H') (XS L W g0 H0)
def DGs (L : Lx) (X : Cx) (ts : List IG) (es : List Expr) : Prop := ∀ W g0 H0, Takes X W → PGs X es (RdGs L W g0 H0 ts)
theorem PGs.imp {e : List Expr} {t t' : TGs} (h : PGs X e t) (k : ∀ v σ H Q, t' v σ H Q → t v σ H Q) : PGs X e t' := ⟨fun pins s σ H v u Q I r q => h.run pins s σ H v u Q I r (k _ _ _ _ q)⟩
theorem dgs_nil : DGs L X [] [] := fun W g0 H0 tk => PGs.imp pgs_nil fun v σ H Q ⟨Γ, g, ds, r, t, w⟩ => by
  cases ds with
  | nil => cases t; exact ⟨rfl, w g σ H r (FLe.refl g) rfl⟩
  | cons d ds => exact w.elim
theorem dgs_cons {t : IG} {ts : List IG} {e : Expr} {es : List Expr} (h : DG L X t e) (hr : DGs L X ts es)
    (hs : (assignEach (e :: es) X.env).map (·.2) = assign e X.env :: (assignEach es X.env).map (·.2) := by rfl) : DGs L X (t :: ts) (e :: es) := fun W g0 H0 tk => PGs.imp (pgs_cons (h W g0 H0 tk) (hr W g0 H0 tk) hs) fun vs σ H Q ⟨Γ, g, ds, r, l, w⟩ => by
  cases ds with
  | nil => exact w.elim
  | cons d ds =>
    cases l with
    | cons a l =>
      refine ⟨_, _, rfl, Γ, g, d, r, a, M.wpB_mono (fun Γ' b k g' σ' H' r' f e => ?_) (fun _ _ x => x) _ _ ((M.wpB_bind _ _).mp w)⟩
      subst e
      exact ⟨Γ', g', ds, r', l.mono f.F f.mu, M.wpB_mono (fun Γ2 b k g2 σ2 H2 r2 f2 e => k g2 σ2 H2 r2 (f.trans f2) e) (fun _ _ x => x) _ _ k⟩
theorem dg_tup (hK : X.K = L.K) {ts : List IG} {es : List Expr} {k : Nat} (hc : X.calm = true) (h : DGs L X ts es) (hl : ts.length = es.length := by rfl) (hn : (assignEach es X.env).length = es.length := by rfl) (hst : (assignEach es X.env).findIdx? (·.1) = none := by rfl) : DG L X (gT ts) (.Tuple es k pos) := fun W g0 H0 tk =>
  PG.imp (pg_tup hc (h W g0 H0 tk) hn hst) fun v σ H Q ⟨Γ, g, d, r, t, w⟩ => by
  unfold gT at w
  split at w
  · rename_i ds
    split at w
    · rename_i z
      cases t with
      | tup e l => exact ⟨_, _, rfl, hK ▸ sqT_mono r.rep.sub e.sq, by rw [l.length, z, hl], Γ, g, ds, r, l, w⟩
    · exact w.elim
  · exact w.elim
/-- a, b = e -/
def sAsg (t : IG) (i : IE) : IS := fun Γ => (i Γ).bind fun d => (t d Γ).bind fun Γ' => .ret (.nx Γ')
theorem ds_asg {t : IG} {i : IE} {tg e : Expr} (he : DE L X i e) (hg : DG L X t tg) (hs : swapsWithSole [tg] e pos.line X.env = pure false := by rfl) (hw : swappedStores [tg] e X.env = pure none := by rfl)
    (h1 : (assignEach [tg] X.env).map (·.2) = [assign tg X.env] := by rfl) : DS L X (sAsg t i) (.Assign [tg] e pos) := fun W g0 H0 tk => by
  refine PS.imp (ps_asg (he W tk) (hg W g0 H0 tk) hs hw h1) fun Dn σ H ⟨Γ, g, r, w⟩ => Rd1.goS r w fun v H1 d g1 r1 s t w => ?_
  exact ⟨Γ, g1, d, r1, t, M.wpB_mono (fun Γ' b k g' σ' H' r' f e => k g' σ' H' r' (s.fle.trans f) e) (fun _ _ x => x) _ _ ((M.wpB_bind _ _).mp w)⟩
/-- a, b = x, y -/
def sPar (n m : Nat) (i j : IE) : IS := fun Γ => (evs [i, j] Γ).bind fun ds => match ds with
  | [d, e] => .ret (.nx ((Γ.set n (some (.fz d))).set m (some (.fz e))))
  | _ => .stuck
theorem ds_par {n m : Nat} {x y : Str} {i j : IE} {a b : Expr} {px py pt : Pos} {kt k2 pt2} (hc : X.calm = true) (hN : X.N.Nodup) (hi : X.N[n]? = some x) (hj : X.N[m]? = some y) (hij : n ≠ m)
    (hx : X.env.scope.names.lookup x = some .local) (hy : X.env.scope.names.lookup y = some .local) (ha : DA L X [i, j] [a, b])
    (hw : swappedStores [.Tuple [.Name x px, .Name y py] kt pt] (.Tuple [a, b] k2 pt2) X.env = pure (some [x, y]))
    (hs : swapsWithSole [.Tuple [.Name x px, .Name y py] kt pt] (.Tuple [a, b] k2 pt2) pos.line X.env = pure false := by rfl) :
    DS L X (sPar n m i j) (.Assign [.Tuple [.Name x px, .Name y py] kt pt] (.Tuple [a, b] k2 pt2) pos) := fun W g0 H0 tk => by
  refine PS.imp (ps_par hc hN hi hj hij hx hy (ha W tk) hw hs) fun Dn σ H ⟨Γ, g, r, w⟩ => ?_
  refine ⟨Γ, g, r.rep, M.wpB_mono (fun ds b k vs g1 H1 s e t => ?_) (fun _ _ x => x.xw r.base) _ _ ((M.wpB_bind _ _).mp w)⟩
  subst e
  cases t with
  | nil => exact k.elim
  | cons t1 l =>
    cases l with
    | nil => exact k.elim
    | cons t2 l =>
      cases l with
      | nil => exact ⟨_, _, rfl, k g1 _ H1 (((r.step s).set t1).set t2) s.fle rfl⟩
      | cons _ _ => exact k.elim

/-! walks -/
structure Wk (L : Lx) (J : It) (gs : Gh) (ds : List D) : Prop where
  step : ∀ (i : Nat) (d : D) (Γ : Env) (g : Gh) (σ : L2.St) (H : Hp), ds[i]? = some d → Rep L Γ g σ H → FLe gs g → J.go i H ∧ ∀ x H', J.yld i H x H' → ∃ g', Stp L g H g' H' ∧ g'.bud = g.bud ∧ Den L g' x d
  stop : ∀ (Γ : Env) (g : Gh) (σ : L2.St) (H : Hp), Rep L Γ g σ H → FLe gs g → J.stop ds.length H
abbrev II := Env → M (List D)
def RdI (L : Lx) (W : WX) (t : II) : TI := fun σ H R => ∃ Γ g, Rep L Γ g σ H ∧ (t Γ).wpB g.bud (fun ds b => ∀ g' H' J, Stp L g H g' H' → g'.bud = b → Wk L J g' ds → R J H') (XW L W g σ H)
def DI (L : Lx) (X : Cx) (t : II) (tg iter : Expr) : Prop := ∀ W, Takes X W → PI X tg iter (RdI L W t)
theorem PI.imp {tg e : Expr} {t t' : TI} (h : PI X tg e t) (k : ∀ σ H Q, t' σ H Q → t σ H Q) : PI X tg e t' := ⟨fun pins s σ H R I r => h.run pins s σ H R I (k _ _ _ r)⟩
theorem PI.or {tg e : Expr} {t t' : TI} (h : PI X tg e t) (h' : PI X tg e t') : PI X tg e (fun σ H R => t σ H R ∨ t' σ H R) := ⟨fun pins s σ H R I r => r.elim (h.run pins s σ H R I) (h'.run pins s σ H R I)⟩
def itL (d : D) : M (List D) := match d with
  | .lst ds => .ret ds
  | _ => .stuck
def itT (d : D) : M (List D) := match d with
  | .tup ds => .ret ds
  | _ => .stuck
def iiL (i : IE) : II := fun Γ => (i Γ).bind itL
def iiT (i : IE) : II := fun Γ => (i Γ).bind itT
theorem wk_list {a : Addr} {vs : List V} {ds : List D} (h : g.F a = some (.lst vs)) (l : DenL L g vs ds) : Wk L (Itl L.K a) g ds where
  step := fun i d Γ g' σ H e r f => by
    obtain ⟨v, hv, t⟩ := (l.mono f.F f.mu).get e
    have hH := r.sub _ _ (f.F _ _ h)
    refine ⟨⟨vs, v, .inl (.inl hH), hv⟩, fun x H' ⟨e1, y⟩ => ?_⟩
    subst e1
    have e2 := y vs (.inl (.inl hH))
    rw [hv] at e2
    cases e2
    exact ⟨g', Stp.refl r, rfl, t⟩
  stop := fun Γ g' σ H r f => ⟨vs, .inl (.inl (r.sub _ _ (f.F _ _ h))), Nat.le_of_eq l.length⟩
theorem wk_tup {a : Addr} {vs : List V} {ds : List D} (h : SqT L.K g.F a vs) (l : DenL L g vs ds) : Wk L (Itt L.K a) g ds where
  step := fun i d Γ g' σ H e r f => by
    obtain ⟨v, hv, t⟩ := (l.mono f.F f.mu).get e
    have hH := sqT_mono r.sub (sqT_mono f.F h)
    refine ⟨⟨vs, v, hH, hv⟩, fun x H' ⟨e1, y⟩ => ?_⟩
    subst e1
    have e2 := y vs hH
    rw [hv] at e2
    cases e2
    exact ⟨g', Stp.refl r, rfl, t⟩
  stop := fun Γ g' σ H r f => ⟨vs, sqT_mono r.sub (sqT_mono f.F h), Nat.le_of_eq l.length⟩
theorem RdI.go {i : IE} {it : D → M (List D)} {Q : VK} {R : It → Hp → Prop} {Γ : Env} {T : TT1} (r : Rep L Γ g σ H) (h : ((i Γ).bind it).wpB g.bud (fun ds b => ∀ g' H' J, Stp L g H g' H' → g'.bud = b → Wk L J g' ds → R J H') (XW L W g σ H))
    (k : ∀ v H1 d g1, Rep L Γ g1 σ H1 → Stp L g H g1 H1 → T L H g1 H1 v d → (it d).wpB g1.bud (fun ds b => ∀ g' H' J, Stp L g1 H1 g' H' → g'.bud = b → Wk L J g' ds → R J H') (XW L W g1 σ H1) → Q v H1) : Rd1 L T W i σ H Q := by
  refine Rd1.go r h fun v H1 d g1 r1 s t w => k v H1 d g1 r1 s t (M.wpB_mono (fun ds b k g' H' J s' e q => k g' H' J (s.trans s') e q) (fun _ _ x => x) _ _ w)
theorem di_list (hK : X.K = L.K) {i : IE} {tg e : Expr} (h : DE L X i e) : DI L X (iiL i) tg e := fun W tk => by
  refine PI.imp (pi_list (h W tk)) fun σ H R ⟨Γ, g, r, w⟩ => RdI.go (T := DenT) r w fun v H1 d g1 r1 s t w => ?_
  cases d with
  | lst ds =>
    cases id t with
    | lst e l => exact ⟨_, rfl, ⟨_, .inl (.inl (r1.sub _ _ e))⟩, w g1 H1 _ (Stp.refl r1) rfl (hK ▸ wk_list e l)⟩
  | _ => exact w.elim
theorem di_tup (hK : X.K = L.K) {i : IE} {tg e : Expr} (h : DE L X i e) : DI L X (iiT i) tg e := fun W tk => by
  refine PI.imp (pi_tup (h W tk)) fun σ H R ⟨Γ, g, r, w⟩ => RdI.go (T := DenT) r w fun v H1 d g1 r1 s t w => ?_
  cases d with
  | tup ds =>
    cases id t with
    | tup e l => exact ⟨_, rfl, ⟨_, hK ▸ sqT_mono r1.sub e.sq⟩, w g1 H1 _ (Stp.refl r1) rfl (hK ▸ wk_tup e.sq l)⟩
  | _ => exact w.elim
/-- range(n), range(a, b) -/
def rngD (lo : Int) (n : Nat) : List D := (List.range n).map fun k => D.int (lo + (k : Nat))
/-- a bound that range takes -/
def rOk (j : Int) : Bool := decide (-(2 ^ 62) ≤ j) && decide (j < 2 ^ 62)
def iiR1 (i : IE) : II := fun Γ => (evs [i] Γ).bind fun ds => match ds with
  | [.int j] => if rOk j = true then .ret (rngD 0 j.toNat) else .stuck
  | _ => .stuck
def iiR2 (i j : IE) : II := fun Γ => (evs [i, j] Γ).bind fun ds => match ds with
  | [.int a, .int b] => if decide (-(2 ^ 62) ≤ a) && decide (a < 2 ^ 62) && decide (-(2 ^ 62) ≤ b) && decide (b < 2 ^ 62) then .ret (rngD a (b - a).toNat) else .stuck
  | _ => .stuck
theorem wk_range {lo : Int} {n : Nat} : Wk L (Itr lo n) g (rngD lo n) where
  step := fun i d Γ g' σ H e r f => by
    unfold rngD at e
    rw [List.getElem?_map] at e
    by_cases h : i < n
    · rw [List.getElem?_range h] at e
      cases e
      refine ⟨h, fun x H' ⟨e1, y⟩ => ?_⟩
      subst e1 y
      exact ⟨g', Stp.refl r, rfl, .int _⟩
    · rw [List.getElem?_eq_none (by simpa using h)] at e; cases e
  stop := fun Γ g' σ H r f => by
    show n ≤ (rngD lo n).length
    unfold rngD
    simp
theorem di_range1 {i : IE} {tg a : Expr} {p : Pos} (hg : Gl X "range") (hm : X.mg "range" = none) (ha : DA L X [i] [a]) (hs : starEach [a] X.env = [(false, eval a X.env)] := by rfl) : DI L X (iiR1 i) tg (.Call (.Name "range" p) [a] [] pos) := fun W tk => by
  refine PI.imp (pi_range1 hg hm (ha W tk) hs) fun σ H R ⟨Γ, g, r, w⟩ => RdA.go r w fun vs H1 ds g1 r1 s t w => ?_
  split at w
  · rename_i j
    cases t with
    | cons a l =>
      cases a
      cases l
      split at w
      · rename_i z
        unfold rOk at z
        simp only [Bool.and_eq_true, decide_eq_true_eq] at z
        exact ⟨j, rfl, z.1, z.2, w g1 H1 _ s rfl wk_range⟩
      · exact w.elim
  · exact w.elim
theorem di_range2 {i j : IE} {tg a b : Expr} {p : Pos} (hg : Gl X "range") (hm : X.mg "range" = none) (ha : DA L X [i, j] [a, b]) (hs : starEach [a, b] X.env = [(false, eval a X.env), (false, eval b X.env)] := by rfl) (hs2 : starEach [b] X.env = [(false, eval b X.env)] := by rfl) : DI L X (iiR2 i j) tg (.Call (.Name "range" p) [a, b] [] pos) := fun W tk => by
  refine PI.imp (pi_range2 hg hm (ha W tk) hs hs2) fun σ H R ⟨Γ, g, r, w⟩ => RdA.go r w fun vs H1 ds g1 r1 s t w => ?_
  split at w
  · rename_i a b
    cases t with
    | cons x l =>
      cases x
      cases l with
      | cons x l =>
        cases x
        cases l
        split at w
        · rename_i z
          simp only [Bool.and_eq_true, decide_eq_true_eq] at z
          exact ⟨a, b, rfl, ⟨z.1.1.1, z.1.1.2, z.1.2, z.2⟩, w g1 H1 _ s rfl wk_range⟩
        · exact w.elim
  · exact w.elim

/-! for -/
def loop (t : IG) (s : IS) : List D → Env → M Fl
  | [], Γ => .ret (.nx Γ)
  | d :: r, Γ => (t d Γ).bind fun Γ1 => (s Γ1).bind fun fl => match fl with
    | .nx Γ2 => loop t s r Γ2
    | .ct Γ2 => loop t s r Γ2
    | .bk Γ2 => .ret (.nx Γ2)
    | .rt d => .ret (.rt d)
def sFor (t : IG) (it : II) (s : IS) : IS := fun Γ => (it Γ).bind fun ds => loop t s ds Γ
theorem ds_for {t : IG} {it : II} {s : IS} {tg iter : Expr} {body : List Stmt} (hp : PassesOwn (model X.prog X.w) X.A X.env X.xe) (hc : X.calm = true) (hi : DI L X it tg iter) (hg : DG L X t tg) (hb : DSs L X s body)
    (hs : ∀ x, foldedSetIterable iter X.env x = pure x := by intro _; rfl) : DS L X (sFor t it s) (.For tg iter body [] pos) := fun W g0 H0 tk => by
  refine PS.imp (ps_for hp hc (hi W tk) (hg W g0 H0 tk) (hb W g0 H0 tk) hs) fun Dn σ H ⟨Γ, g, r, w⟩ => ?_
  refine ⟨Γ, g, r.rep, M.wpB_mono (fun ds b k g1 H1 J sp e wk => ?_) (fun _ _ x => x.xw r.base) _ _ ((M.wpB_bind _ _).mp w)⟩
  subst e
  refine ⟨fun i m σ H => i ≤ ds.length ∧ m = ds.length - i ∧ ∃ Γ g2, RepS L g0 H0 Γ g2 σ H ∧ FLe g1 g2 ∧ (loop t s (ds.drop i) Γ).wpB g2.bud (FlT L g0 H0 g Dn) (XS L W g0 H0), ⟨ds.length, Nat.zero_le _, by simp, Γ, g1, r.step sp, FLe.refl g1, k⟩, ?_⟩
  rintro i m σ H ⟨hi, rfl, Γ, g2, r2, f2, w2⟩
  by_cases hlt : i < ds.length
  · have ed : ds.drop i = ds[i] :: ds.drop (i + 1) := List.drop_eq_getElem_cons hlt
    rw [ed] at w2
    obtain ⟨go, yl⟩ := wk.step i ds[i] Γ g2 σ H (List.getElem?_eq_getElem hlt) r2.rep f2
    refine .inr ⟨go, fun σ H => ∃ Γ g3, RepS L g0 H0 Γ g3 σ H ∧ FLe g1 g3 ∧ (loop t s (ds.drop (i + 1)) Γ).wpB g3.bud (FlT L g0 H0 g Dn) (XS L W g0 H0), fun σ' H' ⟨Γ', g', r', f', w'⟩ => ⟨ds.length - (i + 1), by omega, hlt, rfl, Γ', g', r', f', w'⟩, fun x H' y => ?_⟩
    obtain ⟨g3, s3, b3, t3⟩ := yl x H' y
    rw [← b3] at w2
    refine ⟨Γ, g3, ds[i], r2.step s3, t3, M.wpB_mono (fun Γ' b k g4 σ4 H4 r4 f4 e4 => ?_) (fun _ _ x => x) _ _ ((M.wpB_bind _ _).mp w2)⟩
    subst e4
    have fl4 : FLe g1 g4 := f2.trans (s3.fle.trans f4)
    refine ⟨Γ', g4, r4, M.wpB_mono (fun fl b k => ?_) (fun _ _ x => x) _ _ ((M.wpB_bind _ _).mp k)⟩
    cases fl with
    | nx Γ5 => exact fun g5 σ5 H5 r5 f5 e5 => ⟨Γ5, g5, r5, fl4.trans f5, by subst e5; exact k⟩
    | ct Γ5 => exact fun g5 σ5 H5 r5 f5 e5 => ⟨Γ5, g5, r5, fl4.trans f5, by subst e5; exact k⟩
    | bk Γ5 => exact fun g5 σ5 H5 r5 f5 e5 => k g5 σ5 H5 r5 (sp.fle.trans (fl4.trans f5)) e5
    | rt d => exact k
  · have e : i = ds.length := by omega
    subst e
    rw [List.drop_length] at w2
    exact .inl ⟨wk.stop Γ g2 σ H r2.rep f2, w2 g2 σ H r2 (sp.fle.trans f2) rfl⟩

/-! comprehensions of one for -/
def wipeE (Γ : Env) : List Nat → Env
  | [] => Γ
  | v :: vs => (wipeE Γ vs).set v none
def lcRun (t : IG) (c : IT) (i : IE) (own : List Nat) (Γ : Env) : List D → List D → M (List D)
  | acc, [] => .ret acc
  | acc, d :: r => (t d (wipeE Γ own)).bind fun Γ1 => (c Γ1).bind fun b => if b = true then (i Γ1).bind fun x => if acc.length < sizeLine then lcRun t c i own Γ (acc ++ [x]) r else .stuck else lcRun t c i own Γ acc r
def iLc (t : IG) (it : II) (c : IT) (i : IE) (own : List Nat) : IE := fun Γ => (it Γ).bind fun ds => (lcRun t c i own Γ [] ds).noX.bind fun acc => .ret (.lst acc)
/-- a comprehension's target: its stores, and what the block keeps -/
def GK (L : Lx) (gt : TG) (t : IG) (own : List Nat) : Prop := ∀ (v : V) (d : D) (Γ : Env) (g : Gh) (σ : L2.St) (H : Hp) (Q : L2.St → Hp → Prop) (E : Ex → Nat → Prop) (b : Nat), Rep L (wipeE Γ own) g (wipe σ own) H → Den L g v d →
  (t d (wipeE Γ own)).wpB b (fun Γ1 c => c = b → ∀ σ1, Rep L Γ1 g σ1 H → wipe σ1 own = wipe σ own → Q σ1 H) E → gt v (wipe σ own) H Q
def cYes : IT := fun _ => .ret true
/-- the tests' reading -/
def TK (L : Lx) (tt : TT) (c : IT) : Prop := ∀ (σ : L2.St) (H : Hp) (Q : Bool → Hp → Prop), RdT L (fun _ _ _ _ => False) c σ H Q → tt σ H Q
theorem tk_yes : TK L tYes cYes := fun σ H Q ⟨Γ, g, r, w⟩ => w g H (Stp.refl r) rfl
theorem xw_false {x : Ex} {b : Nat} (h : XW L (fun _ _ _ _ => False) g σ H x b) (W : WX) (hx : ∃ cls d g' H', Stp L g H g' H' ∧ g'.bud = b ∧ ExAt L g' H' x cls d) : False := by
  obtain ⟨cls, d, g', H', s, e, a⟩ := hx
  exact h cls d g' H' s e a
theorem wipe_rep {own : List Nat} (r : Rep L Γ g σ H) : Rep L (wipeE Γ own) g (wipe σ own) H := by
  induction own with
  | nil => exact r
  | cons n vs ih =>
    have at_ : ∀ (i : Nat) (b : B), ((wipeE Γ vs).set n none)[i]? = some (some b) → i ≠ n ∧ (wipeE Γ vs)[i]? = some (some b) := fun i b e => by
      by_cases h : i = n
      · subst h
        by_cases hl : i < (wipeE Γ vs).length
        · rw [List.getElem?_set_self hl] at e; cases e
        · rw [List.getElem?_eq_none (by simpa using hl)] at e; cases e
      · rw [List.getElem?_set_ne (Ne.symm h)] at e; exact ⟨h, e⟩
    refine ⟨ih.sub, ih.rnd, ih.tab, fun i b e => ?_, fun i j b c p e1 e2 o1 o2 s1 s2 => ?_, ih.nF, ?_⟩
    · obtain ⟨h, e⟩ := at_ i b e
      show ∃ x, ((wipe σ vs).set n none)[i]? = some x ∧ _
      rw [List.getElem?_set_ne (Ne.symm h)]
      exact ih.loc i b e
    · obtain ⟨h1, e1⟩ := at_ i b e1
      obtain ⟨h2, e2⟩ := at_ j c e2
      have s1 : ((wipe σ vs).set n none)[i]? = some (some (.ref p)) := s1
      have s2 : ((wipe σ vs).set n none)[j]? = some (some (.ref p)) := s2
      rw [List.getElem?_set_ne (Ne.symm h1)] at s1
      rw [List.getElem?_set_ne (Ne.symm h2)] at s2
      exact ih.dis i j b c p e1 e2 o1 o2 s1 s2
    · show ((wipeE Γ vs).set n none).length = ((wipe σ vs).set n none).length
      rw [List.length_set, List.length_set]; exact ih.len
/-- the own list that is being made -/
def AccAt (L : Lx) (g : Gh) (H : Hp) (p : Addr) (acc : List D) : Prop := ∃ vs, H p = some (.lst vs) ∧ DenL L g vs acc ∧ g.F p = none ∧ ¬ InM g.mu H p
theorem AccAt.step {p : Addr} {acc : List D} (a : AccAt L g H p acc) (s : Stp L g H g' H') : AccAt L g' H' p acc := by
  obtain ⟨vs, h1, h2, h3, h4⟩ := a
  obtain ⟨e, m⟩ := s.keep p _ h1 (fun _ z => nomatch z) h4
  exact ⟨vs, e, h2.mono s.le s.mu, (s.nf p (by rw [h1]; simp)).2 h3, m⟩
/-- an own list is changed that the run before did not see: from (gs, Hs), where p was free -/
theorem stp_upd {gs : Gh} {Hs : Hp} {p : Addr} {vs ws : List V} (s : Stp L gs Hs g H) (n : Hs p = none) (h1 : H p = some (.lst vs)) (h3 : g.F p = none) (h4 : ¬ InM g.mu H p) : Stp L gs Hs g (upd H p (.lst ws)) := by
  have im : ∀ a, InM g.mu (upd H p (.lst ws)) a → InM g.mu H a := fun a ⟨m, e, h⟩ => by
    refine ⟨m, e, ?_⟩
    rcases h with h | ⟨kvs, k, e4, hm⟩
    · exact .inl h
    · have q : m ≠ p := fun z => by rw [z, upd_same] at e4; cases e4
      rw [upd_ne q] at e4
      exact .inr ⟨kvs, k, e4, hm⟩
  have ne : ∀ a, Hs a ≠ none → a ≠ p := fun a h z => h (by rw [z]; exact n)
  refine ⟨s.le, s.mu, fun a o e => ?_, fun a o e nt nm => ?_, fun a h => ?_, fun a o e i => s.nm a o e (im a i), ⟨s.rnd.1, fun m e => ?_⟩, s.bud, ⟨fun q hq => ?_, fun ea en ed eu he => ?_⟩⟩
  · have q : a ≠ p := fun z => by rw [z, h3] at e; cases e
    rw [upd_ne q]; exact s.sub a o e
  · obtain ⟨e1, m1⟩ := s.keep a o e nt nm
    rw [upd_ne (ne a (by rw [e]; simp))]
    exact ⟨e1, fun i => m1 (im a i)⟩
  · rw [upd_ne (ne a h)]; exact s.nf a h
  · obtain ⟨c, l, cs, ls, at_, e1, e2, e3, r⟩ := s.rnd.2 m e
    have q : ∀ a, InM g.mu H a → a ≠ p := fun a i z => h4 (z ▸ i)
    have em : upd H p (.lst ws) m = H m := upd_ne (q m ⟨m, e, .inl rfl⟩)
    have ec : upd H p (.lst ws) c = H c := upd_ne (q c ⟨m, e, .inr ⟨_, Sum.inr "cells", e1, by simp⟩⟩)
    have el : upd H p (.lst ws) l = H l := upd_ne (q l ⟨m, e, .inr ⟨_, Sum.inr "left", e1, by simp⟩⟩)
    exact ⟨c, l, cs, ls, at_, em.trans e1, ec.trans e2, el.trans e3, r⟩
  · obtain ⟨ps, e1, e2, e3⟩ := s.tab.1 q hq
    have n1 : q.1 ≠ p := fun z => by rw [z, h1] at e1; cases e1
    refine ⟨ps, by rw [upd_ne n1]; exact e1, e2, fun pos cv hc => ?_⟩
    obtain ⟨c, z1, z2⟩ := e3 pos cv hc
    have n2 : c ≠ p := fun z => by rw [z, h1] at z2; unfold LamX.CodeO at z2; cases z2
    exact ⟨c, z1, by rw [upd_ne n2]; exact z2⟩
  · obtain ⟨f, e1, e2⟩ := s.tab.2 ea en ed eu he
    have n1 : ed ≠ p := fun z => by rw [z, h1] at e2; cases e2
    exact ⟨f, e1, by rw [upd_ne n1]; exact e2⟩
theorem inM_upd {mu : Option Addr} {p : Addr} {ws : List V} {a : Addr} (h : InM mu (upd H p (.lst ws)) a) : InM mu H a := by
  obtain ⟨m, e, h⟩ := h
  refine ⟨m, e, ?_⟩
  rcases h with h | ⟨kvs, k, e4, hm⟩
  · exact .inl h
  · have q : m ≠ p := fun z => by rw [z, upd_same] at e4; cases e4
    rw [upd_ne q] at e4
    exact .inr ⟨kvs, k, e4, hm⟩
theorem acc_upd {p : Addr} {vs : List V} {acc : List D} {v : V} {d : D} (h2 : DenL L g vs acc) (h3 : g.F p = none) (h4 : ¬ InM g.mu H p) (h : Den L g v d) : AccAt L g (upd H p (.lst (vs ++ [v]))) p (acc ++ [d]) :=
  ⟨_, upd_same, h2.append (.cons h .nil), h3, fun i => h4 (inM_upd i)⟩
theorem lc_read {t : IG} {it : II} {c : IT} {i : IE} {own : List Nat} {gt : TG} {tt : TT} {Q : VK} (gk : GK L gt t own) (tk : TK L tt c) (r : Rep L Γ g σ H)
    (w : (iLc t it c i own Γ).wpB g.bud (Wn L FrT g H Q) (XW L W g σ H)) : tLc (RdI L W it) gt tt (Rd1 L DenT (fun _ _ _ _ => False) i) own σ H Q := by
  refine ⟨Γ, g, r, M.wpB_mono (fun ds b k g1 H1 J sp e wk => ?_) (fun _ _ x => x) _ _ ((M.wpB_bind _ _).mp w)⟩
  subst e
  intro Dd nD
  replace k : ((lcRun t c i own Γ [] ds).bind fun acc => M.ret (D.lst acc)).wpB g1.bud (Wn L FrT g H Q) (XW L (fun _ _ _ _ => False) g σ H) := (M.wpB_bind _ _).mpr (M.wpB_noX (Q := fun acc c => Wn L FrT g H Q (.lst acc) c) _ _ ((M.wpB_bind _ _).mp k))
  have r1 := r.step sp
  have s2 : Stp L g1 H1 g1 (upd H1 Dd (.lst [])) := stp_new (o := .lst []) r1 nD false
  have xw : ∀ {g2 : Gh} {H2 : Hp} {σ2 : L2.St} {x : Ex} {b : Nat}, Stp L g1 H1 g2 H2 → XW L (fun _ _ _ _ => False) g σ H x b → XW L (fun _ _ _ _ => False) g2 σ2 H2 x b := fun s h cls d g' H' s' e a => h cls d g' H' (sp.trans (s.trans s')) e a
  have nM0 : ¬ InM g1.mu H1 Dd := fun i => (InM.there r1.rnd.ok i) nD
  refine ⟨fun j m Hj => j ≤ ds.length ∧ m = ds.length - j ∧ ∃ g2 acc, Stp L g1 H1 g2 Hj ∧ AccAt L g2 Hj Dd acc ∧ ((lcRun t c i own Γ acc (ds.drop j)).bind fun acc => M.ret (D.lst acc)).wpB g2.bud (Wn L FrT g H Q) (XW L (fun _ _ _ _ => False) g σ H),
    ⟨ds.length, Nat.zero_le _, by simp, g1, [], s2, ⟨[], upd_same, .nil, nF_of r1 nD, fun i => nM0 (inM_upd i)⟩, k⟩, ?_⟩
  rintro j m Hj ⟨hj, rfl, g2, acc, s, a, w2⟩
  have r2 := r1.step s
  by_cases hlt : j < ds.length
  · have ed : ds.drop j = ds[j] :: ds.drop (j + 1) := List.drop_eq_getElem_cons hlt
    rw [ed] at w2
    obtain ⟨go, yl⟩ := wk.step j ds[j] Γ g2 σ Hj (List.getElem?_eq_getElem hlt) r2 s.fle
    refine .inr ⟨go, fun Hn => ∃ g2 acc, Stp L g1 H1 g2 Hn ∧ AccAt L g2 Hn Dd acc ∧ ((lcRun t c i own Γ acc (ds.drop (j + 1))).bind fun acc => M.ret (D.lst acc)).wpB g2.bud (Wn L FrT g H Q) (XW L (fun _ _ _ _ => False) g σ H), fun H' ⟨g', acc', s', a', w'⟩ => ⟨ds.length - (j + 1), by omega, hlt, rfl, g', acc', s', a', w'⟩, fun x H' y => ?_⟩
    obtain ⟨g3, s3, b3, t3⟩ := yl x H' y
    rw [← b3] at w2
    have s13 := s.trans s3
    have w3 := (M.wpB_bind _ _).mp w2
    refine gk x ds[j] Γ g3 σ H' _ (XW L (fun _ _ _ _ => False) g σ H) g3.bud (wipe_rep (r2.step s3)) t3 (M.wpB_mono (fun Γ1 c' k eb σ1 rp1 wi => ?_) (fun _ _ x => x) _ _ ((M.wpB_bind _ _).mp w3))
    subst eb
    refine ⟨wi, tk σ1 H' _ ⟨Γ1, g3, rp1, M.wpB_mono (fun b c' k g4 H4 s4 e4 => ?_) (fun _ _ x => xw s13 x) _ _ ((M.wpB_bind _ _).mp k)⟩⟩
    subst e4
    have s14 := s13.trans s4
    have a4 := (a.step s3).step s4
    cases b with
    | false => exact iteF ⟨g4, acc, s14, a4, (M.wpB_bind _ _).mpr k⟩
    | true =>
      refine iteT ⟨Γ1, g4, rp1.step s4, M.wpB_mono (fun d b k v g5 H5 s5 e5 t5 => ?_) (fun _ _ x => xw s14 x) _ _ ((M.wpB_bind _ _).mp k)⟩
      subst e5
      split at k
      · rename_i z
        obtain ⟨vs, h1, h2, h3, h4⟩ := a4.step s5
        exact ⟨vs, h1, by rw [h2.length]; exact z, g5, acc ++ [d], stp_upd (s14.trans s5) nD h1 h3 h4, acc_upd h2 h3 h4 t5, (M.wpB_bind _ _).mpr k⟩
      · exact k.elim
  · have e : j = ds.length := by omega
    subst e
    rw [List.drop_length] at w2
    obtain ⟨vs, h1, h2, h3, h4⟩ := a
    exact .inl ⟨wk.stop Γ g2 σ Hj r2 s.fle, w2 (.ref Dd) g2 Hj (sp.trans s) rfl ⟨Dd, vs, acc, rfl, rfl, h1, h2, h3, h4, none_back sp nD⟩⟩
theorem df_lc {t : IG} {it : II} {c : IT} {i : IE} {own : List (Str × Nat)} {gt : TG} {tt : TT} {elt tg iter : Expr} {ifs : List Expr} {scope : Scope} (hc : X.calm = true) (hN : X.N.Nodup) (hi : DI L X it tg iter) (ok : BlkOk X.N X.env.scope scope own)
    (hg : ∀ (s : Shared) (H : Hp) (C : Addr) (cl : List (Str × Addr)) (fp : List Addr), PG (X.blk s H scope (compEnvC scope cl C X.env) fp) tg gt) (gk : GK L gt t (own.map (·.2)))
    (ht : ∀ (s : Shared) (H : Hp) (C : Addr) (cl : List (Str × Addr)) (fp : List Addr), PTs (X.blk s H scope (compEnvC scope cl C X.env) fp) ifs tt) (tk : TK L tt c)
    (he : ∀ (s : Shared) (H : Hp) (C : Addr) (cl : List (Str × Addr)) (fp : List Addr), DE L (X.blk s H scope (compEnvC scope cl C X.env) fp) i elt) (hs : ∀ x, foldedSetIterable iter X.env x = pure x := by intro _; rfl) :
    DF L X (iLc t it c i (own.map (·.2))) (.ListComp elt [⟨tg, iter, ifs, 0⟩] scope pos) := fun W tk' => by
  exact PE.imp (pe_lc hc hN (hi W tk') ok hg ht (fun s H C cl fp => he s H C cl fp _ LamX.takes0) hs) fun σ H Q ⟨Γ, g, r, w⟩ => lc_read gk tk r w
/-- y = [.. for ..], y a plain local -/
theorem ds_setLc {n : Nat} {y : Str} {py spos : Pos} {t : IG} {it : II} {c : IT} {i : IE} {own : List (Str × Nat)} {gt : TG} {tt : TT} {elt tg iter : Expr} {ifs : List Expr} {scope : Scope} (hc : X.calm = true) (hN : X.N.Nodup) (hy : X.N[n]? = some y) (hyl : X.env.scope.names.lookup y = some .local)
    (hsw : swapsWith (.ListComp elt [⟨tg, iter, ifs, 0⟩] scope pos) (some (.Name y py)) spos.line X.env = pure true) (hi : DI L X it tg iter) (ok : BlkOk X.N X.env.scope scope own)
    (hg : ∀ (s : Shared) (H : Hp) (C : Addr) (cl : List (Str × Addr)) (fp : List Addr), PG (X.blk s H scope (compEnvC scope cl C X.env) fp) tg gt) (gk : GK L gt t (own.map (·.2)))
    (ht : ∀ (s : Shared) (H : Hp) (C : Addr) (cl : List (Str × Addr)) (fp : List Addr), PTs (X.blk s H scope (compEnvC scope cl C X.env) fp) ifs tt) (tk : TK L tt c)
    (he : ∀ (s : Shared) (H : Hp) (C : Addr) (cl : List (Str × Addr)) (fp : List Addr), DE L (X.blk s H scope (compEnvC scope cl C X.env) fp) i elt) (hs : ∀ x, foldedSetIterable iter X.env x = pure x := by intro _; rfl) :
    DS L X (sSet n (iLc t it c i (own.map (·.2)))) (.Assign [.Name y py] (.ListComp elt [⟨tg, iter, ifs, 0⟩] scope pos) spos) := fun W g0 H0 tk' => by
  refine PS.imp (ps_setLc hc hN hy hyl hsw (hi W tk') ok hg ht (fun s H C cl fp => he s H C cl fp _ LamX.takes0) hs) fun Dn σ H ⟨Γ, g, r, w⟩ => ?_
  refine lc_read (Q := fun x H1 => gName n x σ H1 Dn.nx) gk tk r.rep (M.wpB_mono (fun d b k v g' H' s e fr => ?_) (fun _ _ x => x.xw r.base) _ _ ((M.wpB_bind _ _).mp w))
  obtain ⟨g2, s2, e2, t2⟩ := stp_frz s fr
  exact k g2 _ H' ((r.step s2).set t2) s2.fle (e2.trans e)
/-- wiping forgets what was stored at a wiped slot -/
theorem wipe_set {n : Nat} {x : Option V} : ∀ {vs : List Nat} {σ : L2.St}, n ∈ vs → wipe (σ.set n x) vs = wipe σ vs := by
  have out : ∀ (vs : List Nat) (σ : L2.St), n ∉ vs → wipe (σ.set n x) vs = (wipe σ vs).set n x := fun vs σ => by
    induction vs with
    | nil => intro _; rfl
    | cons b vs ih =>
      intro hq
      simp only [List.mem_cons, not_or] at hq
      show (wipe (σ.set n x) vs).set b none = ((wipe σ vs).set b none).set n x
      rw [ih hq.2, List.set_comm _ _ hq.1]
  intro vs σ
  induction vs with
  | nil => intro h; cases h
  | cons a vs ih =>
    intro h
    show (wipe (σ.set n x) vs).set a none = (wipe σ vs).set a none
    by_cases q : n ∈ vs
    · rw [ih q]
    · have e : n = a := (List.mem_cons.mp h).resolve_right q
      subst e
      rw [out vs σ q, List.set_set]
theorem wipe_wipe {vs : List Nat} {σ : L2.St} : wipe (wipe σ vs) vs = wipe σ vs := by
  have gen : ∀ (us : List Nat) (τ : L2.St), (∀ x ∈ us, x ∈ vs) → wipe (wipe τ us) vs = wipe τ vs := fun us => by
    induction us with
    | nil => intro τ _; rfl
    | cons a us ih =>
      intro τ hs
      show wipe ((wipe τ us).set a none) vs = wipe τ vs
      rw [wipe_set (hs a List.mem_cons_self), ih τ fun x hx => hs x (List.mem_cons_of_mem _ hx)]
  exact gen vs σ fun _ h => h
theorem gk_name {n : Nat} {own : List Nat} (h : n ∈ own) : GK L (gName n) (gN n) own := fun v d Γ g σ H Q E b r t w =>
  w rfl _ (r.set t) (by rw [wipe_set h, wipe_wipe])
/-- (a, b, ..) with plain names -/
def gNs : List Nat → TGs
  | [] => gNil
  | n :: ns => gCons (gName n) (gNs ns)
theorem gk_tup {ns own : List Nat} (h : ∀ n ∈ ns, n ∈ own) : GK L (gTup L.K ns.length (gNs ns)) (gT (ns.map gN)) own := fun v d Γ g σ H Q E b r t w => by
  unfold gT at w
  split at w
  · rename_i ds
    split at w
    · rename_i z
      rw [List.length_map] at z
      cases t with
      | @tup a vs _ e l =>
        refine ⟨a, vs, rfl, sqT_mono r.sub e.sq, by rw [l.length, z], ?_⟩
        have go : ∀ (ns : List Nat) (vs : List V) (ds : List D) (Γ1 : Env) (σ1 : L2.St), (∀ n ∈ ns, n ∈ own) → DenL L g vs ds → Rep L Γ1 g σ1 H → wipe σ1 own = wipe σ own → (gTs (ns.map gN) ds Γ1).wpB b (fun Γ1 c => c = b → ∀ σ1, Rep L Γ1 g σ1 H → wipe σ1 own = wipe σ own → Q σ1 H) E → gNs ns vs σ1 H Q := fun ns => by
          induction ns with
          | nil =>
            intro vs ds Γ1 σ1 _ l r1 e1 w
            cases l with
            | nil => exact ⟨rfl, w rfl σ1 r1 e1⟩
            | cons _ _ => exact w.elim
          | cons n ns ih =>
            intro vs ds Γ1 σ1 hn l r1 e1 w
            cases l with
            | nil => exact w.elim
            | cons t l => exact ⟨_, _, rfl, ih _ _ _ _ (fun m hm => hn m (List.mem_cons_of_mem _ hm)) l (r1.set t) (by rw [wipe_set (hn n List.mem_cons_self), e1]) w⟩
        exact go ns vs ds _ _ h l r wipe_wipe w
    · exact w.elim
  · exact w.elim
/-- one test -/
theorem tk_one {c : IT} : TK L (RdT L (fun _ _ _ _ => False) c) c := fun σ H Q h => h
end
end DL
/-! Defs and their calls. -/
namespace DL
open PySem PySem.Spec L2
/-- a def's run over data: its slots begin with its arguments -/
def env0 (n : Nat) (ds : List D) : Env := ds.map (fun d => some (.fz d)) ++ List.replicate (n - ds.length) none
def runFn (n : Nat) (body : IS) (ds : List D) : M D := (body (env0 n ds)).bind fun fl => match fl with
  | .rt d => .ret d
  | .nx _ => .ret .non
  | _ => .stuck
section
variable {L : Lx} {X : Cx} {g g' : Gh} {H H' : Hp} {σ : L2.St} {Γ : Env} {W : WX} {pos : Pos}
def XF (L : Lx) (E : XK) (g : Gh) (H : Hp) (x : Ex) (b : Nat) : Prop := ∀ cls d g' H', Stp L g H g' H' → g'.bud = b → ExAt L g' H' x cls d → E cls d H'
/-- a def's promise by its run -/
def SpD (L : Lx) (m : List D → M D) (vs : List V) (H : Hp) (Q : VK) (E : XK) : Prop := ∃ Γ g σ ds, Rep L Γ g σ H ∧ DenL L g vs ds ∧ (m ds).wpB g.bud (Wn L DenT g H Q) (XF L E g H)
/-- at f stands a def whose calls do what m says, from depth k on -/
structure FG (L : Lx) (P : Program) (w : World) (mg : Str → Option Value) (base : Heap) (k : Nat) (f : Addr) (fd : FuncData) (ps : List Str) (m : List D → M D) : Prop where
  go : ∀ (A : Around) (outer : List PySem.Env) (s : Shared) (H : Hp) (args : Args) (us : List Value) (vs : List V) (Q : VK) (E : XK), Room k A → A.guards = some [] → Env0 P w L.K mg base A outer s H → BindsTo s fd args (ps.zip us) → Vals vs us → us.length = ps.length → SpD L m vs H Q E →
    codeAny (model P w) A (.call (.ref f) args) (CR (L2.CX P w) outer P w H s Q E) s
theorem FG.mono {P : Program} {w : World} {mg : Str → Option Value} {base : Heap} {j k : Nat} {f : Addr} {fd : FuncData} {ps : List Str} {m : List D → M D} (F : FG L P w mg base j f fd ps m) (h : j ≤ k) : FG L P w mg base k f fd ps m :=
  ⟨fun A outer s H args us vs Q E hr => F.go A outer s H args us vs Q E (hr.mono h)⟩
theorem rep_start {N : List Str} {ds : List D} {vs : List V} (r : Rep L Γ g σ H) (l : DenL L g vs ds) (hn : vs.length ≤ N.length) : RepS L g H (env0 N.length ds) g (L2.start N vs) H := by
  have at_ : ∀ (i : Nat) (b : B), (env0 N.length ds)[i]? = some (some b) → ∃ d, ds[i]? = some d ∧ b = .fz d := fun i b e => by
    unfold env0 at e
    by_cases h : i < ds.length
    · rw [List.getElem?_append_left (by simpa using h), List.getElem?_map] at e
      cases q : ds[i]? with
      | none => rw [q] at e; cases e
      | some d => rw [q] at e; cases e; exact ⟨d, rfl, rfl⟩
    · rw [List.getElem?_append_right (by simpa using h), List.getElem?_replicate] at e
      split at e <;> cases e
  refine ⟨⟨r.sub, r.rnd, r.tab, fun i b e => ?_, fun i j b c p e1 e2 o1 o2 s1 s2 => ?_, r.nF, ?_⟩, Stp.refl r, fun i b p e o s => ?_⟩
  · obtain ⟨d, hd, rfl⟩ := at_ i b e
    obtain ⟨v, hv, t⟩ := l.get hd
    refine ⟨some v, ?_, v, rfl, t⟩
    unfold L2.start
    rw [List.getElem?_append_left (by rw [List.length_map]; exact (List.getElem?_eq_some_iff.mp hv).1), List.getElem?_map, hv]
    rfl
  · obtain ⟨d, _, rfl⟩ := at_ i b e1
    cases o1
  · unfold env0 L2.start
    rw [List.length_append, List.length_append, List.length_map, List.length_map, List.length_replicate, List.length_replicate, l.length]
  · obtain ⟨d, _, rfl⟩ := at_ i b e
    cases o
/-- a def of the text by its body -/
theorem fg_of {P : Program} {w : World} {mg : Str → Option Value} {base : Heap} {x qual : Str} {st : Stmt} {f : Addr} {fd : FuncData} {N ps : List Str} {k : Nat} {body : IS} (F : Fun L.K x qual st f fd) (S : FnScope N ps (defScope st))
    (hb : ∀ (cdv : Value) (A : Around) (outer : List PySem.Env) (s : Shared) (H : Hp) (E : XK), Room k (A.deeper (PyProof.Rows.envOfC qual (defScope st) s.heap.objs.size f cdv)) → A.guards = some [] →
      DSs L (cxOf (L2.CX P w) P w L.K mg base N qual (defScope st) f cdv A outer s H E) body (defBody st)) : FG L P w mg base (k + 1) f fd ps (runFn N.length body) := by
  refine ⟨fun A outer s H args us vs Q E hr hg e0 bt r hl ⟨Γ, g, σ, ds, rp, l, w⟩ => ?_⟩
  obtain ⟨oc, od, kV, doc, pm, an, cdv, ct, osl, rfl, lk, hcd⟩ := F.ex
  refine LamX.run_ofS lk hcd S hr e0 bt r (r.length.trans hl) fun hr' => ⟨_, hb cdv A outer s H E hr' hg (fun cls d _ H => E cls d H) g H (takes_of rfl rfl rfl rfl), ?_⟩
  have hpl : ps.length ≤ N.length := by have := congrArg List.length S.pre; rw [List.length_take] at this; omega
  refine ⟨env0 N.length ds, g, rep_start rp l (by rw [r.length, hl]; exact hpl), M.wpB_mono (fun fl b k => ?_) (fun _ _ x => fun cls d g σ H s e a => x cls d g H s e a) _ _ ((M.wpB_bind _ _).mp w)⟩
  cases fl with
  | nx Γ' => exact fun g' σ' H' r' _ e => k .non g' H' r'.base e .non
  | rt d => exact fun g' v H' s' e t => k v g' H' s' e t
  | bk Γ' => exact k.elim
  | ct Γ' => exact k.elim

/-! calls -/
variable {k : Nat} {f : Addr} {fd : FuncData} {ps : List Str} {m : List D → M D} {x : Str} {p : Pos} {e : Expr} {es : List Expr} {is : List IE} {i : IE}
def iCall (m : List D → M D) (is : List IE) : IE := fun Γ => (evs is Γ).bind m
theorem run_fg {pins : List (Addr × Obj)} {s : Shared} {Q : VK} {us : List Value} {vs : List V} {args : Args} (F : FG L X.prog X.w X.mg X.base k f fd ps m) (hK : X.K = L.K) (hr : Room k X.A) (hgd : X.A.guards = some []) (tk : Takes X W) (I : Inv X pins σ H s) (r : Vals vs us)
    (hb : BindsTo s fd args (ps.zip us)) (hl : us.length = ps.length) (h : SpD L m vs H Q (WE W σ)) : codeAny (model X.prog X.w) X.A (.call (.ref f) args) (fun r s' => match r with
      | .ok (.ret u) => EP X pins σ Q u s'
      | .ok _ => False
      | .error e => X.xe e s') s := by
  refine codeAny_mono (F.go X.A X.stack s H args us vs Q (WE W σ) hr hgd (hK ▸ I.env0) hb r hl h) fun r s' hq => ?_
  cases r with
  | error e => exact passAt tk σ pins H s e s' I hq
  | ok fl =>
    cases fl with
    | ret u => exact I.after hq
    | next => exact hq
    | brk => exact hq
    | cont => exact hq
theorem spd_of {Γ : Env} {Q : VK} {vs : List V} {ds : List D} (r : Rep L Γ g σ H) (l : DenL L g vs ds) (w : (m ds).wpB g.bud (Wn L DenT g H Q) (XW L W g σ H)) : SpD L m vs H Q (WE W σ) := ⟨Γ, g, σ, ds, r, l, w⟩
theorem call_fg {pins : List (Addr × Obj)} {s : Shared} {Q : VK} {us : List Value} {args : Args} (h : codeAny (model X.prog X.w) X.A (.call (.ref f) args) (fun r s' => match r with
      | .ok (.ret u) => EP X pins σ Q u s'
      | .ok _ => False
      | .error e => X.xe e s') s) (ha : args = ⟨us, []⟩) : wpAny (model X.prog X.w) X.A (call (.ref f) us) (EP X pins σ Q) X.xe s := by
  subst ha
  refine wpAny_call (codeAny_mono h fun r s' hq => ?_)
  cases r with
  | error e => exact hq
  | ok fl => cases fl <;> exact hq
theorem evs_len {Q : List D → Nat → Prop} {E : Ex → Nat → Prop} : ∀ (is : List IE) (b : Nat), (evs is Γ).wpB b Q E → (evs is Γ).wpB b (fun ds c => ds.length = is.length ∧ Q ds c) E := fun is => by
  induction is generalizing Q with
  | nil => intro b h; exact ⟨rfl, h⟩
  | cons i is ih =>
    intro b h
    refine (M.wpB_bind _ _).mpr (M.wpB_mono (fun d c k => ?_) (fun _ _ x => x) _ _ ((M.wpB_bind _ _).mp h))
    exact (M.wpB_bind _ _).mpr (M.wpB_mono (fun ds c k => ⟨congrArg (· + 1) k.1, k.2⟩) (fun _ _ x => x) _ _ (ih _ ((M.wpB_bind _ _).mp k)))
/-- a def's arguments, then its run -/
theorem RdA.call {Γ : Env} {Q : VK} (r : Rep L Γ g σ H) (hn : is.length = ps.length) (w : (iCall m is Γ).wpB g.bud (Wn L DenT g H Q) (XW L W g σ H)) : RdA L W is σ H fun vs H1 => vs.length = ps.length ∧ SpD L m vs H1 Q (WE W σ) := by
  refine ⟨Γ, g, r, M.wpB_mono (fun ds b h vs g' H' s e t => ?_) (fun _ _ x => x) _ _ (evs_len is g.bud ((M.wpB_bind _ _).mp w))⟩
  subst e
  refine ⟨t.length.trans (h.1.trans hn), spd_of (r.step s) t (M.wpB_mono (fun d b k v g2 H2 s2 e t => k v g2 H2 (s.trans s2) e t) (fun _ _ x => x.of s) _ _ h.2)⟩
/-- f(e, ..) -/
theorem de_call (F : FG L X.prog X.w X.mg X.base k f fd ps m) (hK : X.K = L.K) (hr : Room k X.A) (hgd : X.A.guards = some []) (gl : Gl X x) (mf : X.mg x = some (.ref f)) (kp : PySem.W.keepIn X.K (.ref f) = true) (bi : Binds X.K fd ps []) (hn : is.length = ps.length)
    (ha : DA L X is (e :: es)) (nd : (x == ("__debug__" : Str)) = false := by decide) (h1 : starEach (e :: es) X.env = (false, eval e X.env) :: starEach es X.env := by rfl) (h2 : (backTo pos (starEach es X.env)).any (·.1) = false := by rfl) :
    DE L X (iCall m is) (.Call (.Name x p) (e :: es) [] pos) := fun W tk => by
  refine ⟨fun pins s σ H Q I ⟨Γ, g, rp, w⟩ => ?_⟩
  refine wpAny_Call_Name_kw (ld_glob I gl mf (PySem.W.callWith_K (h₀ := X.base) I.ok.mod.kin kp (thn ((ha W tk).run pos pins s σ H _ I (RdA.call rp hn w)) fun us s1 ⟨vs, H1, I1, r, hl, q⟩ => ⟨I1.kIn, ?_⟩) h1 h2) nd)
  have hl2 : us.length = ps.length := by rw [← r.length]; exact hl
  have b := bi s1 us I1.kIn (by rw [List.append_nil]; exact hl2)
  rw [List.append_nil] at b
  exact call_fg (run_fg F hK hr hgd tk I1 r b hl2 q) rfl
end
end DL
/-! Subscripts, slices, membership, built-ins. -/
namespace DL
open PySem PySem.Spec L2
section
variable {L : Lx} {X : Cx} {g g' : Gh} {H H' : Hp} {σ : L2.St} {Γ : Env} {W : WX} {pos : Pos}

/-! a[i] -/
def IxD (L : Lx) (X : Cx) (f : D → D → Option D) : Prop := IxR X (RdO L f)
theorem IxD.or {f f' : D → D → Option D} (h : IxD L X f) (h' : IxD L X f') : IxD L X (orD f f') := by
  intro va sl pins st σ H x y v u Q I rx ry ⟨Γ, g, σ', dx, dy, d, rp, vx, vy, e, w⟩ hs
  unfold orD at e
  split at e
  · rename_i d' e'
    cases e
    exact h va sl pins st σ H x y v u Q I rx ry ⟨Γ, g, σ', dx, dy, d, rp, vx, vy, e', w⟩ hs
  · exact h' va sl pins st σ H x y v u Q I rx ry ⟨Γ, g, σ', dx, dy, d, rp, vx, vy, e, w⟩ hs
theorem DenL.atI {vs : List V} {ds : List D} {i : Int} {d : D} (l : DenL L g vs ds) (e : atI ds i = some d) : ∃ v, L2.atI vs i = some v ∧ Den L g v d := by
  unfold L2.atI at e ⊢
  rw [l.length]
  cases q : ixN ds.length i with
  | none => rw [q] at e; cases e
  | some j =>
    rw [q] at e
    exact l.get (i := j) e
def fIxT : D → D → Option D
  | .tup ds, .int i => atI ds i
  | _, _ => none
def fIxL : D → D → Option D
  | .lst ds, .int i => atI ds i
  | _, _ => none
def fIxS : D → D → Option D
  | .str z, .int i => if z.length ≤ sizeLine then (atI z.cps.toList i).map fun c => .str ⟨#[c]⟩ else none
  | _, _ => none
theorem ixd_tup (hK : X.K = L.K) : IxD L X fIxT := by
  intro va sl pins st σ H x y v u Q I rx ry ⟨Γ, g, σ', dx, dy, d, rp, vx, vy, e, w⟩ hs
  unfold fIxT at e
  split at e
  · obtain ⟨a, vs, rfl, h1, l1, _⟩ := vx.tup rp.sub
    cases vy.int
    obtain ⟨z, hz, t⟩ := l1.atI e
    exact ix_tup va sl pins st σ H _ _ v u Q I rx ry ⟨a, vs, _, z, rfl, rfl, hK ▸ h1, hz, w _ g H (Stp.refl rp) rfl t⟩ hs
  · cases e
theorem ixd_list : IxD L X fIxL := by
  intro va sl pins st σ H x y v u Q I rx ry ⟨Γ, g, σ', dx, dy, d, rp, vx, vy, e, w⟩ hs
  unfold fIxL at e
  split at e
  · obtain ⟨a, vs, rfl, h1, l1⟩ := vx.lst rp.sub
    cases vy.int
    obtain ⟨z, hz, t⟩ := l1.atI e
    exact ix_list va sl pins st σ H _ _ v u Q I rx ry ⟨a, vs, _, z, rfl, rfl, SqL.of h1, hz, w _ g H (Stp.refl rp) rfl t⟩ hs
  · cases e
theorem ixd_str : IxD L X fIxS := by
  intro va sl pins st σ H x y v u Q I rx ry ⟨Γ, g, σ', dx, dy, d, rp, vx, vy, e, w⟩ hs
  cases dx with
  | str z =>
    cases dy with
    | int i =>
      replace e : (if z.length ≤ sizeLine then (L2.atI z.cps.toList i).map fun c => D.str ⟨#[c]⟩ else none) = some d := e
      split at e
      · rename_i hz
        cases vx.str
        cases vy.int
        cases q : L2.atI z.cps.toList i with
        | none => rw [q] at e; cases e
        | some c =>
          rw [q] at e
          cases e
          exact ix_str va sl pins st σ H _ _ v u Q I rx ry ⟨z, i, c, rfl, rfl, hz, q, w _ g H (Stp.refl rp) rfl (.str _)⟩ hs
      · cases e
    | _ => cases e
  | _ => cases dy <;> cases e
theorem de_ix {f : D → D → Option D} {i j : IE} {a b : Expr} (ho : IxD L X f) (ha : DV L X i a) (hb : DV L X j b) (hs : PlainIx b := by exact fun _ _ => rfl) : DE L X (iOp f i j) (.Subscript a b pos) := fun W tk =>
  PE.imp (pe_ix ho (ha W tk) (hb W tk) hs) fun σ H Q h => h.op (fun _ _ _ _ _ t => t) fun _ _ _ _ _ t => t

/-! slices -/
abbrev IO := Env → M (Option Int)
def RdPo (L : Lx) (W : WX) (t : IO) : TO := fun σ H Q => ∃ Γ g, Rep L Γ g σ H ∧ (t Γ).wpB g.bud (fun o b => ∀ g' H', Stp L g H g' H' → g'.bud = b → Q o H') (XW L W g σ H)
def DO (L : Lx) (X : Cx) (t : IO) (e : Option Expr) : Prop := ∀ W, Takes X W → PO X e (RdPo L W t)
theorem PO.imp {e : Option Expr} {t t' : TO} (h : PO X e t) (k : ∀ σ H Q, t' σ H Q → t σ H Q) : PO X e t' := ⟨fun pins s σ H Q I r => h.run pins s σ H Q I (k _ _ _ r)⟩
def oNone : IO := fun _ => .ret none
def oSome (i : IE) : IO := fun Γ => (i Γ).bind fun d => match d with
  | .int k => .ret (some k)
  | _ => .stuck
theorem do_none : DO L X oNone none := fun W tk => PO.imp po_none fun σ H Q ⟨Γ, g, r, w⟩ => w g H (Stp.refl r) rfl
theorem do_some {i : IE} {e : Expr} (h : DE L X i e) : DO L X (oSome i) (some e) := fun W tk => PO.imp (po_some (h W tk)) fun σ H Q ⟨Γ, g, r, w⟩ => Rd1.go r w fun v H1 d g1 r1 s t w => by
  cases d with
  | int k => cases t; exact ⟨k, rfl, w g1 H1 s rfl⟩
  | _ => exact w.elim
def cutD (ds : List D) (lo hi : Option Int) : List D := (ds.drop (HT.sIx ds.length 0 lo)).take (HT.sIx ds.length ds.length hi - HT.sIx ds.length 0 lo)
theorem DenL.cut {vs : List V} {ds : List D} {lo hi : Option Int} (l : DenL L g vs ds) : DenL L g (cutV vs lo hi) (cutD ds lo hi) := by
  unfold cutV cutD
  rw [l.length]
  exact (l.drop _).take _
def RdSl (L : Lx) (T : TT1) (f : D → Option Int → Option Int → Option D) : V → Option Int → Option Int → Hp → VK → Prop := fun x lo hi H Q => ∃ Γ g σ dx d, Rep L Γ g σ H ∧ Vw L g H x dx ∧ f dx lo hi = some d ∧ Wn L T g H Q d g.bud
def SlD (L : Lx) (X : Cx) (T : TT1) (f : D → Option Int → Option Int → Option D) : Prop := SlR X (RdSl L T f)
def iSl (f : D → Option Int → Option Int → Option D) (i : IE) (lo hi : IO) : IE := fun Γ => (i Γ).bind fun x => (lo Γ).bind fun l => (hi Γ).bind fun h => match f x l h with
  | some d => .ret d
  | none => .stuck
theorem RdPo.go {α : Type} {t : IO} {f : Option Int → M α} {R : α → Nat → Prop} {Q : Option Int → Hp → Prop} (r : Rep L Γ g σ H) (h : ((t Γ).bind f).wpB g.bud R (XW L W g σ H))
    (k : ∀ o H1 g1, Rep L Γ g1 σ H1 → Stp L g H g1 H1 → (f o).wpB g1.bud R (XW L W g1 σ H1) → Q o H1) : RdPo L W t σ H Q := by
  refine ⟨Γ, g, r, M.wpB_mono (fun d b h g' H' s e => ?_) (fun _ _ x => x) _ _ ((M.wpB_bind _ _).mp h)⟩
  subst e
  exact k d H' g' (r.step s) s (M.wpB_mono (fun _ _ x => x) (fun _ _ x => x.of s) _ _ h)
theorem Rd1.slc {T : TT1} {f : D → Option Int → Option Int → Option D} {i : IE} {lo hi : IO} {Q : VK} (hT : ∀ {g g1 : Gh} {H H1 H2 : Hp} {g2 : Gh} {v : V} {d : D}, Stp L g H g1 H1 → T L H1 g2 H2 v d → T L H g2 H2 v d) (h : Rd1 L T W (iSl f i lo hi) σ H Q) :
    tSl (RdSl L T f) (Rd1 L VwT W i) (RdPo L W lo) (RdPo L W hi) σ H Q := by
  obtain ⟨Γ, g, rp, w⟩ := h
  refine Rd1.go rp w fun x H1 dx g1 r1 s1 t1 w => RdPo.go r1 w fun l H2 g2 r2 s2 w => RdPo.go r2 w fun h H3 g3 r3 s3 w => ?_
  split at w
  · rename_i d e
    exact ⟨Γ, g3, σ, dx, d, r3, (t1.step s2).step s3, e, fun v g' H' s eb t => w v g' H' (s1.trans (s2.trans (s3.trans s))) eb (hT (s1.trans (s2.trans s3)) t)⟩
  · exact w.elim
theorem de_sl {f : D → Option Int → Option Int → Option D} {i : IE} {lo hi : IO} {a : Expr} {l h : Option Expr} {p2 : Pos} (ho : SlD L X DenT f) (ha : DV L X i a) (hl : DO L X lo l) (hh : DO L X hi h) : DE L X (iSl f i lo hi) (.Subscript a (.Slice l h none p2) pos) := fun W tk =>
  PE.imp (pe_slice ho (ha W tk) (hl W tk) (hh W tk)) fun σ H Q h => h.slc fun _ t => t
theorem df_sl {f : D → Option Int → Option Int → Option D} {i : IE} {lo hi : IO} {a : Expr} {l h : Option Expr} {p2 : Pos} (ho : SlD L X FrT f) (ha : DV L X i a) (hl : DO L X lo l) (hh : DO L X hi h) : DF L X (iSl f i lo hi) (.Subscript a (.Slice l h none p2) pos) := fun W tk =>
  PE.imp (pe_slice ho (ha W tk) (hl W tk) (hh W tk)) fun σ H Q h => h.slc fun s ⟨p, vs, ds, e1, e2, h1, h2, h3, h4, h5⟩ => ⟨p, vs, ds, e1, e2, h1, h2, h3, h4, none_back s h5⟩
def fSlT : D → Option Int → Option Int → Option D
  | .tup ds, lo, hi => some (.tup (cutD ds lo hi))
  | _, _, _ => none
def fSlL : D → Option Int → Option Int → Option D
  | .lst ds, lo, hi => some (.lst (cutD ds lo hi))
  | _, _, _ => none
def fSlS : D → Option Int → Option Int → Option D
  | .str z, lo, hi => if z.length ≤ sizeLine then some (.str (cutS z lo hi)) else none
  | _, _, _ => none
def orSl (f f' : D → Option Int → Option Int → Option D) : D → Option Int → Option Int → Option D := fun x l h => match f x l h with
  | some d => some d
  | none => f' x l h
theorem SlD.or {T : TT1} {f f' : D → Option Int → Option Int → Option D} (h : SlD L X T f) (h' : SlD L X T f') : SlD L X T (orSl f f') := by
  intro pins st σ H x v vl vu lo hi sl Q I rx hs pl pu ⟨Γ, g, σ', dx, d, rp, vx, e, w⟩
  unfold orSl at e
  split at e
  · rename_i d' e'
    cases e
    exact h pins st σ H x v vl vu lo hi sl Q I rx hs pl pu ⟨Γ, g, σ', dx, d, rp, vx, e', w⟩
  · exact h' pins st σ H x v vl vu lo hi sl Q I rx hs pl pu ⟨Γ, g, σ', dx, d, rp, vx, e, w⟩
theorem sld_str : SlD L X DenT fSlS := by
  intro pins st σ H x v vl vu lo hi sl Q I rx hs pl pu ⟨Γ, g, σ', dx, d, rp, vx, e, w⟩
  cases dx with
  | str z =>
    replace e : (if z.length ≤ sizeLine then some (D.str (cutS z lo hi)) else none) = some d := e
    split at e
    · rename_i hz
      cases e
      cases vx.str
      exact sl_str pins st σ H _ v vl vu lo hi sl Q I rx hs pl pu ⟨z, rfl, hz, w _ g H (Stp.refl rp) rfl (.str _)⟩
    · cases e
  | _ => cases e
theorem cutD_all {ds : List D} {lo hi : Option Int} (h : HT.sIx ds.length 0 lo = 0 ∧ HT.sIx ds.length ds.length hi = ds.length) : cutD ds lo hi = ds := by
  unfold cutD
  rw [h.1, h.2, List.drop_zero, Nat.sub_zero, List.take_length]
theorem sld_tup (hK : X.K = L.K) : SlD L X DenT fSlT := by
  intro pins st σ H x v vl vu lo hi sl Q I rx hs pl pu ⟨Γ, g, σ', dx, d, rp, vx, e, w⟩
  unfold fSlT at e
  split at e
  · cases e
    obtain ⟨a, vs, rfl, h1, l1, d1⟩ := vx.tup rp.sub
    refine sl_tupA pins st σ H _ v vl vu lo hi sl Q I rx hs pl pu ⟨a, vs, rfl, hK ▸ h1, fun z => ?_, fun _ p n => ?_⟩
    · rw [l1.length] at z
      rw [cutD_all z] at w
      exact w _ g H (Stp.refl rp) rfl d1
    · have s := stp_put (o := .tup (cutV vs lo hi)) rp n
      exact w _ _ _ s rfl (.tup (.inl put_F) (l1.cut.mono s.le s.mu))
  · cases e
theorem sld_list : SlD L X FrT fSlL := by
  intro pins st σ H x v vl vu lo hi sl Q I rx hs pl pu ⟨Γ, g, σ', dx, d, rp, vx, e, w⟩
  unfold fSlL at e
  split at e
  · cases e
    obtain ⟨a, vs, rfl, h1, l1⟩ := vx.lst rp.sub
    refine L2.sl_list pins st σ H _ v vl vu lo hi sl Q I rx hs pl pu ⟨a, vs, rfl, SqL.of h1, fun p n => ?_⟩
    exact w _ _ _ (stp_new (o := .lst (cutV vs lo hi)) rp n false) rfl (FrT.new rp (Stp.refl rp) n l1.cut)
  · cases e
theorem SlD.frz {f : D → Option Int → Option Int → Option D} (h : SlD L X FrT f) : SlD L X DenT f := by
  intro pins st σ H x v vl vu lo hi sl Q I rx hs pl pu ⟨Γ, g, σ', dx, d, rp, vx, e, w⟩
  refine h pins st σ H x v vl vu lo hi sl Q I rx hs pl pu ⟨Γ, g, σ', dx, d, rp, vx, e, fun v g' H' s eb fr => ?_⟩
  obtain ⟨g2, s2, e2, t2⟩ := stp_frz s fr
  exact w v g2 H' s2 (e2.trans eb) t2

/-! x in xs -/
def okIn (x : D) (ds : List D) : Bool := x.pl && D.plL ds && decide (min (D.depL ds) x.dep ≤ 60)
def dIn (x : D) (ds : List D) : Bool := ds.any fun y => dEq y x
theorem any_py (x : D) : ∀ ds : List D, ((D.pyL ds).any fun y => PyData.eqv y x.py) = dIn x ds
  | [] => rfl
  | d :: ds => by
    show (PyData.eqv d.py x.py || (D.pyL ds).any fun y => PyData.eqv y x.py) = (dEq d x || ds.any fun y => dEq y x)
    rw [any_py x ds]
    rfl
def itemsD : D → Option (List D)
  | .lst ds => some ds
  | .tup ds => some ds
  | _ => none
def fIn (neg : Bool) (x y : D) : Option D := match itemsD y with
  | some ds => if okIn x ds then some (.bl (if neg then !dIn x ds else dIn x ds)) else none
  | none => none
theorem od_in (hK : X.K = L.K) (hu : X.A.units + 65 < cLine) : OpD L X (compareOp .In) (fIn false) := by
  intro pins st σ H x y v u Q I rx ry ⟨Γ, g, σ', dx, dy, d, rp, vx, vy, e, w⟩
  unfold fIn at e
  split at e
  · rename_i ds q
    split at e
    · rename_i z
      cases e
      unfold okIn at z
      simp only [Bool.and_eq_true, decide_eq_true_eq] at z
      have py : dy.pl = true := by
        cases dy <;> simp only [itemsD, Option.some.injEq, reduceCtorEq] at q
        · subst q; simp only [D.pl]; exact z.1.2
        · subst q; simp only [D.pl]; exact z.1.2
      obtain ⟨as, r1⟩ := Dp.reads I dx.py x v (hK ▸ vx.dp rp.sub z.1.1) rx
      obtain ⟨bs, r2⟩ := Dp.reads I dy.py y u (hK ▸ vy.dp rp.sub py) ry
      have fin : EP X pins σ Q (.bool ((D.pyL ds).any fun y => PyData.eqv y dx.py)) st := ⟨.bl _, H, I, by rw [any_py]; rfl, w _ g H (Stp.refl rp) rfl (.bl _)⟩
      have room : X.A.units + 1 + min (PyData.depthAll (D.pyL ds)) dx.py.depth < cLine := by rw [D.depth_pyL, D.depth_py]; omega
      cases dy <;> simp only [itemsD, Option.some.injEq, reduceCtorEq] at q
      · subst q
        simp only [D.py] at r2
        exact SeqAt.in_tuple_data r2 r1 (D.plain_pyL _ z.1.2) (D.plain_py _ z.1.1) room fin
      · subst q
        simp only [D.py] at r2
        exact SeqAt.in_list_data r2 r1 (D.plain_pyL _ z.1.2) (D.plain_py _ z.1.1) room fin
    · cases e
  · cases e
theorem od_notIn (hK : X.K = L.K) (hu : X.A.units + 65 < cLine) : OpD L X (compareOp .NotIn) (fIn true) := by
  intro pins st σ H x y v u Q I rx ry ⟨Γ, g, σ', dx, dy, d, rp, vx, vy, e, w⟩
  unfold fIn at e
  split at e
  · rename_i ds q
    split at e
    · rename_i z
      cases e
      unfold okIn at z
      simp only [Bool.and_eq_true, decide_eq_true_eq] at z
      have py : dy.pl = true := by
        cases dy <;> simp only [itemsD, Option.some.injEq, reduceCtorEq] at q
        · subst q; simp only [D.pl]; exact z.1.2
        · subst q; simp only [D.pl]; exact z.1.2
      obtain ⟨as, r1⟩ := Dp.reads I dx.py x v (hK ▸ vx.dp rp.sub z.1.1) rx
      obtain ⟨bs, r2⟩ := Dp.reads I dy.py y u (hK ▸ vy.dp rp.sub py) ry
      have fin : EP X pins σ Q (.bool (!(D.pyL ds).any fun y => PyData.eqv y dx.py)) st := ⟨.bl _, H, I, by rw [any_py]; rfl, w _ g H (Stp.refl rp) rfl (.bl _)⟩
      have room : X.A.units + 1 + min (PyData.depthAll (D.pyL ds)) dx.py.depth < cLine := by rw [D.depth_pyL, D.depth_py]; omega
      cases dy <;> simp only [itemsD, Option.some.injEq, reduceCtorEq] at q
      · subst q
        simp only [D.py] at r2
        exact SeqAt.notIn_tuple_data r2 r1 (D.plain_pyL _ z.1.2) (D.plain_py _ z.1.1) room fin
      · subst q
        simp only [D.py] at r2
        exact SeqAt.notIn_list_data r2 r1 (D.plain_pyL _ z.1.2) (D.plain_py _ z.1.1) room fin
    · cases e
  · cases e
/-- one sign in a text -/
def fInS (neg : Bool) : D → D → Option D
  | .str x, .str z => if x.cps.size = 1 then some (.bl (if neg then !decide (x.cps.getD 0 0 ∈ z.cps.toList) else decide (x.cps.getD 0 0 ∈ z.cps.toList))) else none
  | _, _ => none
theorem sign_eq {x : Str} (h : x.cps.size = 1) : x = ⟨#[x.cps.getD 0 0]⟩ := by
  obtain ⟨⟨l⟩⟩ := x
  match l, h with
  | [c], _ => rfl
theorem ins_of {neg : Bool} {dx dy d : D} (e : fInS neg dx dy = some d) : ∃ c z, dx = .str ⟨#[c]⟩ ∧ dy = .str z ∧ d = .bl (if neg then !decide (c ∈ z.cps.toList) else decide (c ∈ z.cps.toList)) := by
  cases dx with
  | str x =>
    cases dy with
    | str z =>
      replace e : (if x.cps.size = 1 then some (D.bl (if neg then !decide (x.cps.getD 0 0 ∈ z.cps.toList) else decide (x.cps.getD 0 0 ∈ z.cps.toList))) else none) = some d := e
      split at e
      · rename_i h
        cases e
        exact ⟨_, z, by rw [← sign_eq h], rfl, rfl⟩
      · cases e
    | _ => cases e
  | _ => cases dy <;> cases e
theorem od_inS : OpD L X (compareOp .In) (fInS false) := by
  intro pins st σ H x y v u Q I rx ry ⟨Γ, g, σ', dx, dy, d, rp, vx, vy, e, w⟩
  obtain ⟨c, z, rfl, rfl, rfl⟩ := ins_of e
  cases vx.str
  cases vy.str
  exact op_in_sign pins st σ H _ _ v u Q I rx ry ⟨_, _, rfl, rfl, w _ g H (Stp.refl rp) rfl (.bl _)⟩
theorem od_notInS : OpD L X (compareOp .NotIn) (fInS true) := by
  intro pins st σ H x y v u Q I rx ry ⟨Γ, g, σ', dx, dy, d, rp, vx, vy, e, w⟩
  obtain ⟨c, z, rfl, rfl, rfl⟩ := ins_of e
  cases vx.str
  cases vy.str
  exact op_notIn_sign pins st σ H _ _ v u Q I rx ry ⟨_, _, rfl, rfl, w _ g H (Stp.refl rp) rfl (.bl _)⟩
/-- is None -/
def fIsN (neg : Bool) : D → D → Option D
  | .non, .non => some (.bl (!neg))
  | .bl _, .non | .int _, .non | .str _, .non | .tup _, .non | .lst _, .non | .dct _ _, .non | .ins _ _, .non => some (.bl neg)
  | _, _ => none
theorem isn_of {dx dy d : D} {neg : Bool} {x y : V} (vx : Vw L g H x dx) (vy : Vw L g H y dy) (e : fIsN neg dx dy = some d) : y = .non ∧ d = .bl (if neg then !decide (x = .non) else decide (x = .non)) := by
  have hy : dy = .non := by unfold fIsN at e; split at e <;> first | rfl | cases e
  subst hy
  have ey : y = .non := by
    rcases vy with h | ⟨_, _, _, _, e, _⟩ | ⟨_, _, _, _, e, _⟩
    · cases h; rfl
    · cases e
    · cases e
  refine ⟨ey, ?_⟩
  unfold fIsN at e
  rcases vx with h | ⟨p, _, _, rfl, rfl, _⟩ | ⟨p, _, _, rfl, rfl, _⟩
  · cases h <;> cases neg <;> simp_all
  · cases neg <;> simp_all
  · cases neg <;> simp_all
theorem od_isN : OpD L X (compareOp .Is) (fIsN false) := by
  intro pins st σ H x y v u Q I rx ry ⟨Γ, g, σ', dx, dy, d, rp, vx, vy, e, w⟩
  obtain ⟨e1, rfl⟩ := isn_of vx vy e
  exact op_isN pins st σ H _ _ v u Q I rx ry ⟨e1, w _ g H (Stp.refl rp) rfl (.bl _)⟩
theorem od_notN : OpD L X (compareOp .IsNot) (fIsN true) := by
  intro pins st σ H x y v u Q I rx ry ⟨Γ, g, σ', dx, dy, d, rp, vx, vy, e, w⟩
  obtain ⟨e1, rfl⟩ := isn_of vx vy e
  exact op_notN pins st σ H _ _ v u Q I rx ry ⟨e1, w _ g H (Stp.refl rp) rfl (.bl _)⟩
end
end DL
/-! Built-in functions and types, called. -/
namespace DL
open PySem PySem.Spec L2
section
variable {L : Lx} {X : Cx} {g g' : Gh} {H H' : Hp} {σ : L2.St} {Γ : Env} {W : WX} {pos : Pos}
inductive VwL (L : Lx) (g : Gh) (H : Hp) : List V → List D → Prop
  | nil : VwL L g H [] []
  | cons {v : V} {vs : List V} {d : D} {ds : List D} : Vw L g H v d → VwL L g H vs ds → VwL L g H (v :: vs) (d :: ds)
def RdAv (L : Lx) (W : WX) (is : List IE) : TA := fun σ H Q => ∃ Γ g, Rep L Γ g σ H ∧
  (evs is Γ).wpB g.bud (fun ds b => ∀ vs g' H', Stp L g H g' H' → g'.bud = b → VwL L g' H' vs ds → Q vs H') (XW L W g σ H)
def DAv (L : Lx) (X : Cx) (is : List IE) (es : List Expr) : Prop := ∀ W, Takes X W → PA X es (RdAv L W is)
theorem dav_nil : DAv L X [] [] := fun W _ => PA.imp pa_nil fun σ H Q ⟨Γ, g, rp, w⟩ => w [] g H (Stp.refl rp) rfl .nil
theorem dav_cons {i : IE} {is : List IE} {e : Expr} {es : List Expr} (h : DV L X i e) (hr : DAv L X is es) (hs : starEach (e :: es) X.env = (false, eval e X.env) :: starEach es X.env := by rfl) : DAv L X (i :: is) (e :: es) := fun W tk => by
  refine PA.imp (pa_cons (h W tk) (hr W tk) hs) fun σ H Q ⟨Γ, g, rp, w⟩ => ?_
  refine ⟨Γ, g, rp, M.wpB_mono (fun d b h v g1 H1 s e t => ?_) (fun _ _ x => x) _ _ ((M.wpB_bind _ _).mp w)⟩
  subst e
  refine ⟨Γ, g1, rp.step s, M.wpB_mono (fun ds b h vs g2 H2 s2 e2 t2 => ?_) (fun _ _ x => x.of s) _ _ ((M.wpB_bind _ _).mp h)⟩
  exact h (v :: vs) g2 H2 (s.trans s2) e2 (.cons (t.step s2) t2)
theorem RdAv.go {α : Type} {is : List IE} {f : List D → M α} {R : α → Nat → Prop} {Q : List V → Hp → Prop} (r : Rep L Γ g σ H) (h : ((evs is Γ).bind f).wpB g.bud R (XW L W g σ H))
    (k : ∀ vs H1 ds g1, Rep L Γ g1 σ H1 → Stp L g H g1 H1 → VwL L g1 H1 vs ds → (f ds).wpB g1.bud R (XW L W g1 σ H1) → Q vs H1) : RdAv L W is σ H Q := by
  refine ⟨Γ, g, r, M.wpB_mono (fun d b h v g' H' s e t => ?_) (fun _ _ x => x) _ _ ((M.wpB_bind _ _).mp h)⟩
  subst e
  exact k v H' d g' (r.step s) s t (M.wpB_mono (fun _ _ x => x) (fun _ _ x => x.of s) _ _ h)
/-- a built-in's call on values, by what it says of data -/
def RdC (L : Lx) (T : TT1) (f : List D → Option D) : List V → Hp → VK → Prop := fun vs H Q => ∃ Γ g σ ds d, Rep L Γ g σ H ∧ VwL L g H vs ds ∧ f ds = some d ∧ Wn L T g H Q d g.bud
def CaD (L : Lx) (X : Cx) (T : TT1) (v : Value) (f : List D → Option D) : Prop := CallR X v (RdC L T f)
def orC (f f' : List D → Option D) : List D → Option D := fun x => match f x with
  | some d => some d
  | none => f' x
theorem CaD.or {T : TT1} {v : Value} {f f' : List D → Option D} (h : CaD L X T v f) (h' : CaD L X T v f') : CaD L X T v (orC f f') := by
  intro pins st σ H xs us Q I r ⟨Γ, g, σ', ds, d, rp, vs, e, w⟩
  unfold orC at e
  split at e
  · rename_i d' e'
    cases e
    exact h pins st σ H xs us Q I r ⟨Γ, g, σ', ds, d, rp, vs, e', w⟩
  · exact h' pins st σ H xs us Q I r ⟨Γ, g, σ', ds, d, rp, vs, e, w⟩
theorem CaD.frz {v : Value} {f : List D → Option D} (h : CaD L X FrT v f) : CaD L X DenT v f := by
  intro pins st σ H xs us Q I r ⟨Γ, g, σ', ds, d, rp, vs, e, w⟩
  refine h pins st σ H xs us Q I r ⟨Γ, g, σ', ds, d, rp, vs, e, fun v g' H' s eb fr => ?_⟩
  obtain ⟨g2, s2, e2, t2⟩ := stp_frz s fr
  exact w v g2 H' s2 (e2.trans eb) t2
def iBi (f : List D → Option D) (is : List IE) : IE := fun Γ => (evs is Γ).bind fun ds => match f ds with
  | some d => .ret d
  | none => .stuck
theorem RdAv.bi {T : TT1} {f : List D → Option D} {is : List IE} {Q : VK} (hT : ∀ {g g1 : Gh} {H H1 H2 : Hp} {g2 : Gh} {v : V} {d : D}, Stp L g H g1 H1 → T L H1 g2 H2 v d → T L H g2 H2 v d) (h : Rd1 L T W (iBi f is) σ H Q) : RdAv L W is σ H fun vs H1 => RdC L T f vs H1 Q := by
  obtain ⟨Γ, g, rp, w⟩ := h
  refine RdAv.go rp w fun vs H1 ds g1 r1 s1 t1 w => ?_
  split at w
  · rename_i d e
    exact ⟨Γ, g1, σ, ds, d, r1, t1, e, fun v g' H' s eb t => w v g' H' (s1.trans s) eb (hT s1 t)⟩
  · exact w.elim
theorem frT_back {g g1 g2 : Gh} {H H1 H2 : Hp} {v : V} {d : D} (s : Stp L g H g1 H1) : FrT L H1 g2 H2 v d → FrT L H g2 H2 v d := fun ⟨p, vs, ds, e1, e2, h1, h2, h3, h4, h5⟩ => ⟨p, vs, ds, e1, e2, h1, h2, h3, h4, none_back s h5⟩
section
variable {x : Str} {p : Pos} {e : Expr} {es : List Expr} {is : List IE} {id : String} {f : List D → Option D}
theorem de_bi (ho : CaD L X DenT (.builtin id) f) (gl : Gl X x) (mn : X.mg x = none) (bv : bootBuiltins x = some (.builtin id)) (ha : DAv L X is (e :: es)) (n1 : x ≠ "__name__" := by decide) (n2 : (x == ("__debug__" : Str)) = false := by decide)
    (h1 : starEach (e :: es) X.env = (false, eval e X.env) :: starEach es X.env := by rfl) (h2 : (backTo pos (starEach es X.env)).any (·.1) = false := by rfl) : DE L X (iBi f is) (.Call (.Name x p) (e :: es) [] pos) := fun W tk =>
  PE.imp (pe_callB ho gl mn bv (ha W tk) n1 n2 h1 h2) fun σ H Q h => RdAv.bi (fun _ t => t) h
theorem df_bi (ho : CaD L X FrT (.builtin id) f) (gl : Gl X x) (mn : X.mg x = none) (bv : bootBuiltins x = some (.builtin id)) (ha : DAv L X is (e :: es)) (n1 : x ≠ "__name__" := by decide) (n2 : (x == ("__debug__" : Str)) = false := by decide)
    (h1 : starEach (e :: es) X.env = (false, eval e X.env) :: starEach es X.env := by rfl) (h2 : (backTo pos (starEach es X.env)).any (·.1) = false := by rfl) : DF L X (iBi f is) (.Call (.Name x p) (e :: es) [] pos) := fun W tk =>
  PE.imp (pe_callB ho gl mn bv (ha W tk) n1 n2 h1 h2) fun σ H Q h => RdAv.bi frT_back h
theorem de_ty (ho : CaD L X DenT (.type id) f) (gl : Gl X x) (mn : X.mg x = none) (bv : bootBuiltins x = some (.type id)) (ha : DAv L X is (e :: es)) (n1 : x ≠ "__name__" := by decide) (n2 : (x == ("__debug__" : Str)) = false := by decide)
    (h1 : starEach (e :: es) X.env = (false, eval e X.env) :: starEach es X.env := by rfl) (h2 : (backTo pos (starEach es X.env)).any (·.1) = false := by rfl) : DE L X (iBi f is) (.Call (.Name x p) (e :: es) [] pos) := fun W tk =>
  PE.imp (pe_callTy ho gl mn bv (ha W tk) n1 n2 h1 h2) fun σ H Q h => RdAv.bi (fun _ t => t) h
theorem df_ty (ho : CaD L X FrT (.type id) f) (gl : Gl X x) (mn : X.mg x = none) (bv : bootBuiltins x = some (.type id)) (ha : DAv L X is (e :: es)) (n1 : x ≠ "__name__" := by decide) (n2 : (x == ("__debug__" : Str)) = false := by decide)
    (h1 : starEach (e :: es) X.env = (false, eval e X.env) :: starEach es X.env := by rfl) (h2 : (backTo pos (starEach es X.env)).any (·.1) = false := by rfl) : DF L X (iBi f is) (.Call (.Name x p) (e :: es) [] pos) := fun W tk =>
  PE.imp (pe_callTy ho gl mn bv (ha W tk) n1 n2 h1 h2) fun σ H Q h => RdAv.bi frT_back h
end

/-! the built-ins -/
theorem VwL.one {vs : List V} {d : D} (h : VwL L g H vs [d]) : ∃ v, vs = [v] ∧ Vw L g H v d := by
  cases h with
  | cons a l => cases l; exact ⟨_, rfl, a⟩
theorem VwL.two {vs : List V} {d e : D} (h : VwL L g H vs [d, e]) : ∃ v u, vs = [v, u] ∧ Vw L g H v d ∧ Vw L g H u e := by
  cases h with
  | cons a l => cases l with
    | cons b l => cases l; exact ⟨_, _, rfl, a, b⟩
def fLen : List D → Option D
  | [.str z] => if z.length ≤ sizeLine then some (.int z.length) else none
  | [.lst ds] => some (.int ds.length)
  | [.tup ds] => some (.int ds.length)
  | [.scr ns] => some (.int ns.length)
  | _ => none
theorem ca_len (hK : X.K = L.K) : CaD L X DenT (.builtin "len") fLen := by
  intro pins st σ H xs us Q I r ⟨Γ, g, σ', ds, d, rp, vs, e, w⟩
  unfold fLen at e
  split at e
  · split at e
    · rename_i z hz
      cases e
      obtain ⟨v, rfl, a⟩ := vs.one
      cases a.str
      exact call_len pins st σ H _ us Q I r ⟨_, z.length, rfl, ⟨hz, rfl⟩, w _ g H (Stp.refl rp) rfl (.int _)⟩
    · cases e
  · rename_i ds
    cases e
    obtain ⟨v, rfl, a⟩ := vs.one
    obtain ⟨p, ws, rfl, h1, l1⟩ := a.lst rp.sub
    exact call_len pins st σ H _ us Q I r ⟨_, ds.length, rfl, .inl ⟨ws, SqL.of h1, l1.length.symm⟩, w _ g H (Stp.refl rp) rfl (.int _)⟩
  · rename_i ds
    cases e
    obtain ⟨v, rfl, a⟩ := vs.one
    obtain ⟨p, ws, rfl, h1, l1, _⟩ := a.tup rp.sub
    exact call_len pins st σ H _ us Q I r ⟨_, ds.length, rfl, .inr ⟨ws, hK ▸ h1, l1.length.symm⟩, w _ g H (Stp.refl rp) rfl (.int _)⟩
  · rename_i ns
    cases e
    obtain ⟨v, rfl, a⟩ := vs.one
    rcases a with h | ⟨_, _, _, _, e, _⟩ | ⟨_, _, _, _, e, _⟩
    · cases h with
      | scr h => exact call_len pins st σ H _ us Q I r ⟨_, ns.length, rfl, .inl ⟨_, hK ▸ sqL_mono rp.sub h, by rw [List.length_map]⟩, w _ g H (Stp.refl rp) rfl (.int _)⟩
    · cases e
    · cases e
  · cases e
def fInt : List D → Option D
  | [.int i] => some (.int i)
  | [.bl k] => some (.int (if k then 1 else 0))
  | _ => none
theorem ca_int : CaD L X DenT (.type "int") fInt := by
  intro pins st σ H xs us Q I r ⟨Γ, g, σ', ds, d, rp, vs, e, w⟩
  unfold fInt at e
  split at e
  · cases e
    obtain ⟨v, rfl, a⟩ := vs.one
    cases a.int
    exact call_int1 pins st σ H _ us Q I r (.inl ⟨_, rfl, w _ g H (Stp.refl rp) rfl (.int _)⟩)
  · cases e
    obtain ⟨v, rfl, a⟩ := vs.one
    cases a.bl
    exact call_int1 pins st σ H _ us Q I r (.inr ⟨_, rfl, w _ g H (Stp.refl rp) rfl (.int _)⟩)
  · cases e
def fMin2 : List D → Option D
  | [.int i, .int j] => some (.int (if j < i then j else i))
  | _ => none
def fMax2 : List D → Option D
  | [.int i, .int j] => some (.int (if j > i then j else i))
  | _ => none
theorem ca_min2 (hc : X.calm = true) : CaD L X DenT (.builtin "min") fMin2 := by
  intro pins st σ H xs us Q I r ⟨Γ, g, σ', ds, d, rp, vs, e, w⟩
  unfold fMin2 at e
  split at e
  · cases e
    obtain ⟨v, u, rfl, a, b⟩ := vs.two
    cases a.int
    cases b.int
    exact call_min2 hc pins st σ H _ us Q I r ⟨_, _, rfl, w _ g H (Stp.refl rp) rfl (.int _)⟩
  · cases e
theorem ca_max2 (hc : X.calm = true) : CaD L X DenT (.builtin "max") fMax2 := by
  intro pins st σ H xs us Q I r ⟨Γ, g, σ', ds, d, rp, vs, e, w⟩
  unfold fMax2 at e
  split at e
  · cases e
    obtain ⟨v, u, rfl, a, b⟩ := vs.two
    cases a.int
    cases b.int
    exact call_max2 hc pins st σ H _ us Q I r ⟨_, _, rfl, w _ g H (Stp.refl rp) rfl (.int _)⟩
  · cases e
/-- tuple(xs), list(xs) -/
def fTuple : List D → Option D
  | [.lst ds] => some (.tup ds)
  | [.tup ds] => some (.tup ds)
  | _ => none
theorem ca_tuple (hK : X.K = L.K) : CaD L X DenT (.type "tuple") fTuple := by
  intro pins st σ H xs us Q I r ⟨Γ, g, σ', ds, d, rp, vs, e, w⟩
  unfold fTuple at e
  split at e
  · rename_i ds
    cases e
    obtain ⟨v, rfl, a⟩ := vs.one
    obtain ⟨p, ws, rfl, h1, l1⟩ := a.lst rp.sub
    refine call_tuple_of pins st σ H _ us Q I r ⟨p, ws, rfl, .inl ⟨SqL.of h1, fun q n => ?_⟩⟩
    have s := stp_put (o := .tup ws) rp n
    exact w _ _ _ s rfl (.tup (.inl put_F) (l1.mono s.le s.mu))
  · rename_i ds
    cases e
    obtain ⟨v, rfl, a⟩ := vs.one
    obtain ⟨p, ws, rfl, h1, l1, t⟩ := a.tup rp.sub
    exact call_tuple_of pins st σ H _ us Q I r ⟨p, ws, rfl, .inr ⟨hK ▸ h1, w _ g H (Stp.refl rp) rfl t⟩⟩
  · cases e
def fList : List D → Option D
  | [.lst ds] => some (.lst ds)
  | [.tup ds] => some (.lst ds)
  | _ => none
theorem ca_list (hK : X.K = L.K) : CaD L X FrT (.type "list") fList := by
  intro pins st σ H xs us Q I r ⟨Γ, g, σ', ds, d, rp, vs, e, w⟩
  have fin : ∀ {ws : List V} {ds : List D} {q : Addr}, DenL L g ws ds → H q = none → Wn L FrT g H Q (.lst ds) g.bud → Q (.ref q) (upd H q (.lst ws)) := fun {ws ds q} l n w =>
    w _ g _ (stp_new (o := .lst ws) rp n false) rfl (FrT.new rp (Stp.refl rp) n l)
  unfold fList at e
  split at e
  · rename_i ds
    cases e
    obtain ⟨v, rfl, a⟩ := vs.one
    obtain ⟨p, ws, rfl, h1, l1⟩ := a.lst rp.sub
    exact call_list_of pins st σ H _ us Q I r ⟨p, ws, rfl, .inl (SqL.of h1), fun q n => fin l1 n w⟩
  · rename_i ds
    cases e
    obtain ⟨v, rfl, a⟩ := vs.one
    obtain ⟨p, ws, rfl, h1, l1, _⟩ := a.tup rp.sub
    exact call_list_of pins st σ H _ us Q I r ⟨p, ws, rfl, .inr (hK ▸ h1), fun q n => fin l1 n w⟩
  · cases e
/-- all(xs), any(xs) of truth values -/
def boolsD : List D → Option (List Bool)
  | [] => some []
  | .bl b :: r => (boolsD r).map (b :: ·)
  | _ => none
theorem DenL.bools : ∀ {vs : List V} {ds : List D} {bs : List Bool}, DenL L g vs ds → boolsD ds = some bs → vs = bs.map V.bl
  | _, _, bs, .nil, e => by cases e; rfl
  | _, _, bs, .cons (d := d) a l, e => by
    cases a with
    | bl b =>
      unfold boolsD at e
      cases q : boolsD _ with
      | none => rw [q] at e; cases e
      | some cs =>
        rw [q] at e
        cases e
        rw [l.bools q]
        rfl
    | _ => cases e
def fAll : List D → Option D
  | [.lst ds] => (boolsD ds).map fun bs => .bl (bs.all id)
  | _ => none
theorem ca_all (hc : X.calm = true) : CaD L X DenT (.builtin "all") fAll := by
  intro pins st σ H xs us Q I r ⟨Γ, g, σ', ds, d, rp, vs, e, w⟩
  unfold fAll at e
  split at e
  · rename_i ds
    obtain ⟨v, rfl, a⟩ := vs.one
    obtain ⟨p, ws, rfl, h1, l1⟩ := a.lst rp.sub
    cases q : boolsD ds with
    | none => rw [q] at e; cases e
    | some bs =>
      rw [q] at e
      cases e
      exact cr_all hc pins st σ H _ us Q I r ⟨p, bs, rfl, by rw [← l1.bools q]; exact SqL.of h1, w _ g H (Stp.refl rp) rfl (.bl _)⟩
  · cases e
end
end DL
/-! Lists of one's own, changed in place. -/
namespace DL
open PySem PySem.Spec L2
section
variable {L : Lx} {X : Cx} {g0 g g' : Gh} {H0 H H' : Hp} {σ σ' : L2.St} {Γ Γ' : Env} {W : WX} {pos : Pos}
/-- the frame's data where a list of one's own is changed -/
theorem RepS.upd {n : Nat} {p : Addr} {ds ds' : List D} {vs vs' : List V} (r : RepS L g0 H0 Γ g σ H) (en : Γ[n]? = some (some (.ol ds))) (es : σ[n]? = some (some (.ref p))) (h1 : H p = some (.lst vs)) (h3 : g.F p = none) (h4 : ¬ InM g.mu H p)
    (l : DenL L g vs' ds') : RepS L g0 H0 (Γ.set n (some (.ol ds'))) g σ (L2.upd H p (.lst vs')) := by
  have n0 : H0 p = none := r.new n _ p en rfl es
  have hl : n < Γ.length := (List.getElem?_eq_some_iff.mp en).1
  have s := stp_upd (ws := vs') r.base n0 h1 h3 h4
  have at_ : ∀ (i : Nat) (b : B), (Γ.set n (some (.ol ds')))[i]? = some (some b) → (i = n ∧ b = .ol ds') ∨ (i ≠ n ∧ Γ[i]? = some (some b)) := fun i b e => by
    by_cases h : i = n
    · subst h
      rw [List.getElem?_set_self hl] at e
      cases e
      exact .inl ⟨rfl, rfl⟩
    · rw [List.getElem?_set_ne (Ne.symm h)] at e
      exact .inr ⟨h, e⟩
  refine ⟨⟨s.sub, s.rnd, s.tab, fun i b e => ?_, fun i j b c q e1 e2 o1 o2 s1 s2 => ?_, s.nm, by rw [List.length_set]; exact r.rep.len⟩, s, fun i b q e o sq => ?_⟩
  · rcases at_ i b e with ⟨rfl, rfl⟩ | ⟨hi, e⟩
    · exact ⟨_, es, p, vs', rfl, upd_same, l, h3, fun z => h4 (inM_upd z)⟩
    · obtain ⟨x, ex, hb⟩ := r.rep.loc i b e
      refine ⟨x, ex, ?_⟩
      cases b with
      | fz d => exact hb
      | ol es' =>
        obtain ⟨q, ws, rfl, a1, a2, a3, a4⟩ := hb
        have nq : q ≠ p := fun z => hi (r.rep.dis i n _ _ p e en rfl rfl (z ▸ ex) es)
        exact ⟨q, ws, rfl, by rw [upd_ne nq]; exact a1, a2, a3, fun z => a4 (inM_upd z)⟩
      | od t kvs =>
        obtain ⟨q, rfl, a1, a2, a3⟩ := hb
        have nq : q ≠ p := fun z => hi (r.rep.dis i n _ _ p e en rfl rfl (z ▸ ex) es)
        exact ⟨q, rfl, a1, fun z => a2 (inM_upd z), a3.step (upd_ne nq) (fun _ _ e => e) fun _ e => e⟩
      | os m fs =>
        obtain ⟨q, dx, ws, rfl, sq, a1, a2, a3, a4⟩ := hb
        have nq : q ≠ p := fun z => hi (r.rep.dis i n _ _ p e en rfl rfl (z ▸ ex) es)
        exact ⟨q, dx, ws, rfl, sq, by rw [upd_ne nq]; exact a1, a2, a3, fun z => a4 (inM_upd z)⟩
  · have f : ∀ (i : Nat) (b : B), (Γ.set n (some (.ol ds')))[i]? = some (some b) → b.own = true → ∃ b', Γ[i]? = some (some b') ∧ b'.own = true := fun i b e o => by
      rcases at_ i b e with ⟨rfl, rfl⟩ | ⟨_, e⟩
      · exact ⟨_, en, rfl⟩
      · exact ⟨b, e, o⟩
    obtain ⟨b', e1', o1'⟩ := f i b e1 o1
    obtain ⟨c', e2', o2'⟩ := f j c e2 o2
    exact r.rep.dis i j b' c' q e1' e2' o1' o2' s1 s2
  · rcases at_ i b e with ⟨rfl, rfl⟩ | ⟨_, e⟩
    · rw [es] at sq
      cases sq
      exact n0
    · exact r.new i b q e o sq
/-- a slot is given a new list of one's own -/
theorem RepS.setOwn {n : Nat} {v : V} {ds : List D} {g1 : Gh} {H1 : Hp} (r0 : RepS L g0 H0 Γ g σ H) (s : Stp L g H g1 H1) (h : FrT L H g1 H1 v (.lst ds)) : RepS L g0 H0 (Γ.set n (some (.ol ds))) g1 (σ.set n (some v)) H1 := by
  obtain ⟨p, vs, ds', rfl, e, h1, h2, h3, h4, h5⟩ := h
  cases e
  have r := r0.step s
  have at_ : ∀ (i : Nat) (b : B), (Γ.set n (some (.ol ds)))[i]? = some (some b) → (i = n ∧ b = .ol ds ∧ (σ.set n (some (.ref p)))[i]? = some (some (.ref p))) ∨ (i ≠ n ∧ Γ[i]? = some (some b) ∧ (σ.set n (some (.ref p)))[i]? = σ[i]?) := fun i b e => by
    by_cases h : i = n
    · subst h
      by_cases hl : i < Γ.length
      · rw [List.getElem?_set_self hl] at e
        cases e
        exact .inl ⟨rfl, rfl, List.getElem?_set_self (by rw [← r.rep.len]; exact hl)⟩
      · rw [List.getElem?_eq_none (by simpa using hl)] at e; cases e
    · rw [List.getElem?_set_ne (Ne.symm h)] at e
      exact .inr ⟨h, e, List.getElem?_set_ne (Ne.symm h)⟩
  have old : ∀ (i : Nat) (b : B) (q : Addr), Γ[i]? = some (some b) → b.own = true → σ[i]? = some (some (.ref q)) → q ≠ p := fun i b q e o sq z => by
    subst z
    obtain ⟨x, ex, hb⟩ := r0.rep.loc i b e
    rw [sq] at ex
    cases ex
    cases b with
    | fz d => cases o
    | ol es' => obtain ⟨q, ws, e1, a1, _⟩ := hb; cases e1; rw [h5] at a1; cases a1
    | od t kvs => obtain ⟨q, e1, _, _, a3⟩ := hb; cases e1; rcases a3 with ⟨_, _, _, a, _⟩ | ⟨_, _, _, a, _⟩ <;> rw [h5] at a <;> cases a
    | os m fs => obtain ⟨q, dx, ws, e1, _, a1, _⟩ := hb; cases e1; rw [h5] at a1; cases a1
  refine ⟨⟨r.rep.sub, r.rep.rnd, r.rep.tab, fun i b e => ?_, fun i j b c q e1 e2 o1 o2 s1 s2 => ?_, r.rep.nF, by rw [List.length_set, List.length_set]; exact r.rep.len⟩, r.base, fun i b q e o sq => ?_⟩
  · rcases at_ i b e with ⟨rfl, rfl, t⟩ | ⟨_, e, t⟩
    · exact ⟨_, t, p, vs, rfl, h1, h2, h3, h4⟩
    · rw [t]; exact r.rep.loc i b e
  · rcases at_ i b e1 with ⟨i1, b1, t1⟩ | ⟨n1, f1, t1⟩
    · rcases at_ j c e2 with ⟨j1, c1, t2⟩ | ⟨n2, f2, t2⟩
      · exact i1.trans j1.symm
      · rw [t1] at s1
        cases s1
        rw [t2] at s2
        exact absurd rfl (old j c p f2 o2 s2)
    · rw [t1] at s1
      rcases at_ j c e2 with ⟨j1, c1, t2⟩ | ⟨n2, f2, t2⟩
      · rw [t2] at s2
        cases s2
        exact absurd rfl (old i b p f1 o1 s1)
      · rw [t2] at s2
        exact r.rep.dis i j b c q f1 f2 o1 o2 s1 s2
  · rcases at_ i b e with ⟨rfl, rfl, t⟩ | ⟨_, e, t⟩
    · rw [t] at sq
      cases sq
      exact none_back r0.base h5
    · exact r.new i b q e o (t ▸ sq)

variable {e : Expr} {i : IE}
def sOwn (n : Nat) (i : IE) : IS := fun Γ => (i Γ).bind fun d => match d with
  | .lst ds => .ret (.nx (Γ.set n (some (.ol ds))))
  | _ => .stuck
theorem ds_own {n : Nat} {x : Str} {pos' : Pos} (hN : X.N.Nodup) (hi : X.N[n]? = some x) (hx : Loc X.env.scope x) (h : DF L X i e) (hs : swapsWith e (some (.Name x pos')) pos.line X.env = pure false := by rfl)
    (hf : X.fn x = true ∨ X.env.scope.names.lookup x = some .local := by first | exact .inl rfl | exact .inr rfl) : DS L X (sOwn n i) (.Assign [.Name x pos'] e pos) := fun W g0 H0 tk => by
  refine PS.imp (ps_set hN hi hx (h W tk) hs hf) fun Dn σ H ⟨Γ, g, r, w⟩ => Rd1.goS r w fun v H1 d g1 r1 s t w => ?_
  cases d with
  | lst ds => exact w g1 _ H1 (r.setOwn s t) s.fle rfl
  | _ => exact w.elim
/-- x.append(e), x a local list of one's own -/
def sApp (n : Nat) (i : IE) : IS := fun Γ => match Γ[n]? with
  | some (some (.ol ds)) => (i Γ).bind fun d => if ds.length < sizeLine then .ret (.nx (Γ.set n (some (.ol (ds ++ [d]))))) else .stuck
  | _ => .stuck
theorem ds_app {n : Nat} {e : Expr} (h : ∀ W, Takes X W → PE X e (tBM X.K "list" rAppend (tVar n) (tCons (Rd1 L DenT W i) tNil))) (hs : swapsWith e none pos.line X.env = pure false := by rfl) :
    DS L X (sApp n i) (.Expr e pos) := fun W g0 H0 tk => by
  refine PS.imp (ps_expr (h W tk) hs) fun Dn σ H ⟨Γ, g, r, w⟩ => ?_
  unfold sApp at w
  split at w
  · rename_i ds en
    obtain ⟨xv, es, p, vs, e2, h1, h2, h3, h4⟩ := r.rep.loc _ _ en
    subst e2
    refine ⟨.ref p, es, .inl ⟨rfl, vs, .inl (.inl h1)⟩, Rd1.goS r w fun v H1 d g1 r1 s t w => ?_⟩
    split at w
    · rename_i z
      obtain ⟨e1, m1⟩ := s.keep p _ h1 (fun _ z => nomatch z) h4
      have f1 := (s.nf p (by rw [h1]; simp)).2 h3
      have l1 := h2.mono s.le s.mu
      exact ⟨p, vs, v, rfl, rfl, e1, by rw [h2.length]; exact z, w g1 σ _ (r1.upd en es e1 f1 m1 (l1.append (.cons t .nil))) s.fle rfl⟩
    · exact w.elim
  · exact w.elim
/-- x.extend(ys) -/
def sExt (n : Nat) (i : IE) : IS := fun Γ => match Γ[n]? with
  | some (some (.ol ds)) => (i Γ).bind fun d => match d with
    | .lst es => if ds.length + es.length ≤ sizeLine then .ret (.nx (Γ.set n (some (.ol (ds ++ es))))) else .stuck
    | _ => .stuck
  | _ => .stuck
theorem ds_ext {n : Nat} {e : Expr} (h : ∀ W, Takes X W → PE X e (tBM X.K "list" rExtend (tVar n) (tCons (Rd1 L DenT W i) tNil))) (hs : swapsWith e none pos.line X.env = pure false := by rfl) :
    DS L X (sExt n i) (.Expr e pos) := fun W g0 H0 tk => by
  refine PS.imp (ps_expr (h W tk) hs) fun Dn σ H ⟨Γ, g, r, w⟩ => ?_
  unfold sExt at w
  split at w
  · rename_i ds en
    obtain ⟨xv, es, p, vs, e2, h1, h2, h3, h4⟩ := r.rep.loc _ _ en
    subst e2
    refine ⟨.ref p, es, .inl ⟨rfl, vs, .inl (.inl h1)⟩, Rd1.goS r w fun v H1 d g1 r1 s t w => ?_⟩
    obtain ⟨e1, m1⟩ := s.keep p _ h1 (fun _ z => nomatch z) h4
    have f1 := (s.nf p (by rw [h1]; simp)).2 h3
    have l1 := h2.mono s.le s.mu
    cases d with
    | lst us =>
      replace w : (if ds.length + us.length ≤ sizeLine then M.ret (Fl.nx (Γ.set n (some (.ol (ds ++ us))))) else M.stuck).wpB g1.bud (FlT L g0 H0 g Dn) (XS L W g0 H0) := w
      split at w
      · rename_i z
        cases id t with
        | @lst b ws _ eb lb =>
          exact ⟨p, b, vs, ws, rfl, rfl, e1, r1.rep.sub _ _ eb, by rw [h2.length, lb.length]; exact z, w g1 σ _ (r1.upd en es e1 f1 m1 (l1.append lb)) s.fle rfl⟩
      · exact w.elim
    | _ => exact w.elim
  · exact w.elim
/-- return x, x a list of one's own; x is data from now on -/
def sRetOwn (n : Nat) : IS := fun Γ => match Γ[n]? with
  | some (some (.ol ds)) => .ret (.rt (.lst ds))
  | _ => .stuck
theorem RepS.frzL {n : Nat} {ds : List D} (r : RepS L g0 H0 Γ g σ H) (en : Γ[n]? = some (some (.ol ds))) : ∃ v g1, σ[n]? = some (some v) ∧ RepS L g0 H0 (Γ.set n (some (.fz (.lst ds)))) g1 σ H ∧ FLe g g1 ∧ g1.bud = g.bud ∧ Den L g1 v (.lst ds) := by
  obtain ⟨xv, es, p, vs, e2, h1, h2, h3, h4⟩ := r.rep.loc _ _ en
  subst e2
  have n0 : H0 p = none := r.new n _ p en rfl es
  have le : ∀ a o, g.F a = some o → (g.put p (.lst vs)).F a = some o := fun a o e => upd_keep h3 e
  have hF : ∀ a u, (g.put p (.lst vs)).F a = some u → (a = p ∧ u = .lst vs) ∨ g.F a = some u := fun a u e => by
    by_cases h : a = p
    · subst h
      have e' : L2.upd g.F a (.lst vs) a = some u := e
      rw [upd_same] at e'
      exact .inl ⟨rfl, (Option.some.inj e').symm⟩
    · have e' : L2.upd g.F p (.lst vs) a = some u := e
      rw [upd_ne h] at e'
      exact .inr e'
  have hl : n < Γ.length := (List.getElem?_eq_some_iff.mp en).1
  have sub : ∀ a o, (g.put p (.lst vs)).F a = some o → H a = some o := fun a o e => by
    rcases hF a o e with ⟨rfl, rfl⟩ | e
    · exact h1
    · exact r.rep.sub a o e
  have nm : ∀ a o, (g.put p (.lst vs)).F a = some o → ¬ InM g.mu H a := fun a o e => by
    rcases hF a o e with ⟨rfl, rfl⟩ | e
    · exact h4
    · exact r.rep.nF a o e
  have dn : Den L (g.put p (.lst vs)) (.ref p) (.lst ds) := .lst put_F (h2.mono le fun _ e => e)
  have at_ : ∀ (i : Nat) (b : B), (Γ.set n (some (.fz (.lst ds))))[i]? = some (some b) → (i = n ∧ b = .fz (.lst ds)) ∨ (i ≠ n ∧ Γ[i]? = some (some b)) := fun i b e => by
    by_cases h : i = n
    · subst h
      rw [List.getElem?_set_self hl] at e
      cases e
      exact .inl ⟨rfl, rfl⟩
    · rw [List.getElem?_set_ne (Ne.symm h)] at e
      exact .inr ⟨h, e⟩
  refine ⟨.ref p, g.put p (.lst vs), es, ⟨⟨sub, r.rep.rnd, r.rep.tab, fun i b e => ?_, fun i j b c q e1 e2 o1 o2 s1 s2 => ?_, nm, by rw [List.length_set]; exact r.rep.len⟩, ⟨fun a o e => le a o (r.base.le a o e), r.base.mu, sub, r.base.keep, fun a hn => ⟨(r.base.nf a hn).1, fun e => ?_⟩, nm, r.base.rnd, r.base.bud, r.base.tab⟩, fun i b q e o sq => ?_⟩, ⟨le, fun _ e => e⟩, rfl, dn⟩
  · rcases at_ i b e with ⟨rfl, rfl⟩ | ⟨hi, e⟩
    · exact ⟨_, es, .ref p, rfl, dn⟩
    · obtain ⟨x, ex, hb⟩ := r.rep.loc i b e
      refine ⟨x, ex, ?_⟩
      have np : ∀ q, x = some (.ref q) → b.own = true → q ≠ p := fun q eq o z => hi (r.rep.dis i n _ _ p e en o rfl (by rw [ex, eq, z]) es)
      have fz : ∀ q, q ≠ p → g.F q = none → (g.put p (.lst vs)).F q = none := fun q nq e => (upd_ne nq).trans e
      cases b with
      | fz d => obtain ⟨v, e1, t⟩ := hb; exact ⟨v, e1, t.mono le fun _ e => e⟩
      | ol es' =>
        obtain ⟨q, ws, rfl, a1, a2, a3, a4⟩ := hb
        exact ⟨q, ws, rfl, a1, a2.mono le (fun _ e => e), fz q (np q rfl rfl) a3, a4⟩
      | od t kvs =>
        obtain ⟨q, rfl, a1, a2, a3⟩ := hb
        exact ⟨q, rfl, fz q (np q rfl rfl) a1, a2, a3.step rfl le fun _ e => e⟩
      | os m fs =>
        obtain ⟨q, dx, ws, rfl, sq, a1, a2, a3, a4⟩ := hb
        exact ⟨q, dx, ws, rfl, sq, a1, a2.mono le (fun _ e => e), fz q (np q rfl rfl) a3, a4⟩
  · rcases at_ i b e1 with ⟨_, rfl⟩ | ⟨_, e1⟩
    · cases o1
    rcases at_ j c e2 with ⟨_, rfl⟩ | ⟨_, e2⟩
    · cases o2
    exact r.rep.dis i j b c q e1 e2 o1 o2 s1 s2
  · have q : a ≠ p := fun z => hn (by rw [z]; exact n0)
    exact (upd_ne q).trans ((r.base.nf a hn).2 e)
  · rcases at_ i b e with ⟨_, rfl⟩ | ⟨_, e⟩
    · cases o
    · exact r.new i b q e o sq
theorem ds_retOwn {n : Nat} {x : Str} {p1 : Pos} (hx : PE X (.Name x p1) (tVar n)) : DS L X (sRetOwn n) (.Return (some (.Name x p1)) pos) := fun W g0 H0 tk => by
  refine PS.imp (ps_ret hx) fun Dn σ H ⟨Γ, g, r, w⟩ => ?_
  unfold sRetOwn at w
  split at w
  · rename_i ds en
    obtain ⟨v, g1, es, r1, _, eb, t⟩ := r.frzL en
    exact ⟨v, es, w g1 v H r1.base eb t⟩
  · exact w.elim
/-- ahead of a statement: a list of one's own is data from now on -/
def sFrz (n : Nat) (s : IS) : IS := fun Γ => match Γ[n]? with
  | some (some (.ol ds)) => s (Γ.set n (some (.fz (.lst ds))))
  | _ => .stuck
theorem ds_frz {n : Nat} {s : IS} {st : Stmt} (h : DS L X s st) : DS L X (sFrz n s) st := fun W g0 H0 tk => by
  refine PS.imp (h W g0 H0 tk) fun Dn σ H ⟨Γ, g, r, w⟩ => ?_
  unfold sFrz at w
  split at w
  · rename_i ds en
    obtain ⟨v, g1, es, r1, f, eb, t⟩ := r.frzL en
    exact ⟨_, g1, r1, by rw [eb]; exact M.wpB_mono (fun _ _ z => z.of f) (fun _ _ x => x) _ _ w⟩
  · exact w.elim
end
end DL
/-! The law's own draws. -/
namespace DL
open PySem PySem.Spec L2
section
variable {L : Lx} {g : Gh} {H H' : Hp} {σ : L2.St} {Γ : Env}
theorem fg_raw {P : Program} {w : World} {mg : Str → Option Value} {base : Heap} {x qual : Str} {st : Stmt} {f : Addr} {fd : FuncData} {N ps : List Str} {k : Nat} {m : List D → M D} (F : Fun L.K x qual st f fd) (S : FnScope N ps (defScope st))
    (hb : ∀ (cdv : Value) (A : Around) (outer : List PySem.Env) (s : Shared) (H : Hp) (E : XK) (vs : List V) (Q : VK), Room k (A.deeper (PyProof.Rows.envOfC qual (defScope st) s.heap.objs.size f cdv)) → SpD L m vs H Q E → vs.length = ps.length →
      ∃ t, PSs (cxOf (L2.CX P w) P w L.K mg base N qual (defScope st) f cdv A outer s H E) (defBody st) t ∧ t { nx := fun _ H' => Q .non H', rt := Q } (L2.start N vs) H) : FG L P w mg base (k + 1) f fd ps m := by
  refine ⟨fun A outer s H args us vs Q E hr hg e0 bt r hl sp => ?_⟩
  obtain ⟨oc, od, kV, doc, pm, an, cdv, ct, osl, rfl, lk, hcd⟩ := F.ex
  exact LamX.run_ofS lk hcd S hr e0 bt r (r.length.trans hl) fun hr' => hb cdv A outer s H E vs Q hr' sp (r.length.trans hl)

/-- m as it stands, from the heap H at the entry -/
structure MS (am c l : Addr) (cs : List Int) (H : Hp) (l' : Addr) (ls : List Int) (at_ : Int) (H' : Hp) : Prop where
  atM : H' am = some (.dK [(Sum.inr "cells", .ref c), (Sum.inr "left", .ref l'), (Sum.inr "at", .int at_)])
  atC : H' c = some (.lst (cs.map V.int))
  atL : H' l' = some (.lst (ls.map V.int))
  ncl : c ≠ l'
  old : ∃ zs, H' l = some (.lst zs)
  new : l' = l ∨ H l' = none
  keep : ∀ a o, H a = some o → a ≠ am → a ≠ l → H' a = some o
theorem MS.stp {am c l l' : Addr} {cs ls ls' : List Int} {at0 at_ : Int} {b : Nat} (r : Rep L Γ g σ H) (hm : g.mu = some am) (e1 : H am = some (.dK [(Sum.inr "cells", .ref c), (Sum.inr "left", .ref l), (Sum.inr "at", .int at0)])) (e2 : H c = some (.lst (cs.map V.int))) (e3 : H l = some (.lst (ls.map V.int)))
    (s : MS am c l cs H l' ls' at_ H') (ok : MOk b H' am) (hb : b ≤ g.bud) : Stp L g H { g with bud := b } H' := by
  have inm : ∀ a, a = am ∨ a = c ∨ a = l → InM g.mu H a := fun a h => by
    refine ⟨am, hm, ?_⟩
    rcases h with h | h | h
    · exact .inl h
    · exact .inr ⟨_, Sum.inr "cells", e1, by simp [h]⟩
    · exact .inr ⟨_, Sum.inr "left", e1, by simp [h]⟩
  have back : ∀ a, H a ≠ none → InM g.mu H' a → InM g.mu H a := fun a ha ⟨m', em, h⟩ => by
    rw [hm] at em
    cases em
    rcases h with h | ⟨kvs, k, e, h⟩
    · exact inm a (.inl h)
    · rw [s.atM] at e
      cases e
      simp only [List.mem_cons, Prod.mk.injEq, V.ref.injEq, List.not_mem_nil, or_false] at h
      rcases h with ⟨_, h⟩ | ⟨_, h⟩ | ⟨_, h⟩
      · exact inm a (.inr (.inl h))
      · rcases s.new with z | z
        · exact inm a (.inr (.inr (h.trans z)))
        · exact absurd (h ▸ z) ha
      · cases h
  have kp : ∀ a o, H a = some o → ¬ InM g.mu H a → H' a = some o := fun a o e n => s.keep a o e (fun z => n (inm a (.inl z))) fun z => n (inm a (.inr (.inr z)))
  refine ⟨fun _ _ e => e, fun _ e => e, fun a o e => kp a o (r.sub a o e) (r.nF a o e), fun a o e _ n => ⟨kp a o e n, fun z => n (back a (by rw [e]; simp) z)⟩, fun a h => ⟨?_, fun e => e⟩, fun a o e z => r.nF a o e (back a (by rw [r.sub a o e]; simp) z), ⟨(fun e => by (rw [hm] at e; cases e)), fun m' em => ?_⟩, hb, ⟨fun q hq => ?_, fun ea en ed eu he => ?_⟩⟩
  · by_cases z : InM g.mu H a
    · obtain ⟨m', em, h⟩ := z
      rw [hm] at em
      cases em
      rcases h with h | ⟨kvs, k, e, h⟩
      · rw [h, s.atM]; simp
      · rw [e1] at e
        cases e
        simp only [List.mem_cons, Prod.mk.injEq, V.ref.injEq, List.not_mem_nil, or_false] at h
        rcases h with ⟨_, h⟩ | ⟨_, h⟩ | ⟨_, h⟩
        · rw [h, s.atC]; simp
        · obtain ⟨zs, hz⟩ := s.old
          rw [h, hz]; simp
        · cases h
    · cases e : H a with
      | none => exact absurd e h
      | some o => rw [kp a o e z]; simp
  · rw [hm] at em
    cases em
    exact ok
  · obtain ⟨ps, a1, a2, a3⟩ := r.tab.1 q hq
    refine ⟨ps, s.keep _ _ a1 (fun z => ?_) (fun z => ?_), a2, fun pos cv hc => ?_⟩
    · rw [z, e1] at a1; cases a1
    · rw [z, e3] at a1; cases a1
    · obtain ⟨c', z1, z2⟩ := a3 pos cv hc
      refine ⟨c', z1, s.keep _ _ z2 (fun z => ?_) (fun z => ?_)⟩
      · rw [z, e1] at z2; unfold LamX.CodeO at z2; cases z2
      · rw [z, e3] at z2; unfold LamX.CodeO at z2; cases z2
  · obtain ⟨f, a1, a2⟩ := r.tab.2 ea en ed eu he
    refine ⟨f, a1, s.keep _ _ a2 (fun z => ?_) (fun z => ?_)⟩
    · rw [z, e1] at a2; cases a2
    · rw [z, e3] at a2; cases a2
end
end DL
namespace DL
open PySem PySem.Spec L2
section
variable {L : Lx} {g : Gh} {H H' H1 : Hp} {σ : L2.St} {Γ : Env} {am c l l' : Addr} {cs ls : List Int} {at_ : Int} {K : PySem.W.Frag} {Q : VK}
theorem ne_cl : ¬ ((Sum.inr "cells" : Key) = (Sum.inr "left" : Key)) := by decide +kernel
theorem ne_ca : ¬ ((Sum.inr "cells" : Key) = (Sum.inr "at" : Key)) := by decide +kernel
theorem ne_la : ¬ ((Sum.inr "left" : Key) = (Sum.inr "at" : Key)) := by decide +kernel
theorem val_c (x y z : V) : valV [((Sum.inr "cells" : Key), x), (Sum.inr "left", y), (Sum.inr "at", z)] (Sum.inr "cells") = some x := by
  unfold valV
  rw [List.find?_cons_of_pos (by exact decide_eq_true rfl)]
  rfl
theorem val_l (x y z : V) : valV [((Sum.inr "cells" : Key), x), (Sum.inr "left", y), (Sum.inr "at", z)] (Sum.inr "left") = some y := by
  unfold valV
  rw [List.find?_cons_of_neg (by simp only [decide_eq_true_eq]; exact ne_cl), List.find?_cons_of_pos (by exact decide_eq_true rfl)]
  rfl
theorem val_a (x y z : V) : valV [((Sum.inr "cells" : Key), x), (Sum.inr "left", y), (Sum.inr "at", z)] (Sum.inr "at") = some z := by
  unfold valV
  rw [List.find?_cons_of_neg (by simp only [decide_eq_true_eq]; exact ne_ca), List.find?_cons_of_neg (by simp only [decide_eq_true_eq]; exact ne_la), List.find?_cons_of_pos (by exact decide_eq_true rfl)]
  rfl
theorem put_l (x y z v : V) : putK [((Sum.inr "cells" : Key), x), (Sum.inr "left", y), (Sum.inr "at", z)] (Sum.inr "left") v = ([(Sum.inr "cells", x), (Sum.inr "left", v), (Sum.inr "at", z)] : List (Key × V)) := by
  unfold putK
  rw [if_pos (by simp)]
  show [if _ then _ else _, if _ then _ else _, if _ then _ else _] = _
  rw [if_neg ne_cl, if_pos rfl, if_neg (fun e => ne_la e.symm)]
theorem put_a (x y z v : V) : putK [((Sum.inr "cells" : Key), x), (Sum.inr "left", y), (Sum.inr "at", z)] (Sum.inr "at") v = ([(Sum.inr "cells", x), (Sum.inr "left", y), (Sum.inr "at", v)] : List (Key × V)) := by
  unfold putK
  rw [if_pos (by simp)]
  show [if _ then _ else _, if _ then _ else _, if _ then _ else _] = _
  rw [if_neg ne_ca, if_neg ne_la, if_pos rfl]
theorem MS.lay {p : Addr} {o : HO} (s : MS am c l cs H l' ls at_ H1) (n : H1 p = none) : MS am c l cs H l' ls at_ (upd H1 p o) :=
  ⟨upd_keep n s.atM, upd_keep n s.atC, upd_keep n s.atL, s.ncl, let ⟨z, e⟩ := s.old; ⟨z, upd_keep n e⟩, s.new, fun a u e h1 h2 => upd_keep n (s.keep a u e h1 h2)⟩
theorem rd_l (s : MS am c l cs H l' ls at_ H1) (e : σ[0]? = some (some (.ref am))) (q : Q (.ref l') H1) : tDGet (tVar 0) (tC (.str "left")) σ H1 Q :=
  ⟨_, e, am, .ref l', rfl, by have := DGet.k (k := Sum.inr "left") s.atM; rw [val_l] at this; exact this, q⟩
theorem rd_c (s : MS am c l cs H l' ls at_ H1) (e : σ[0]? = some (some (.ref am))) (q : Q (.ref c) H1) : tDGet (tVar 0) (tC (.str "cells")) σ H1 Q :=
  ⟨_, e, am, .ref c, rfl, by have := DGet.k (k := Sum.inr "cells") s.atM; rw [val_c] at this; exact this, q⟩
theorem rd_a (s : MS am c l cs H l' ls at_ H1) (e : σ[0]? = some (some (.ref am))) (q : Q (.int at_) H1) : tDGet (tVar 0) (tC (.str "at")) σ H1 Q :=
  ⟨_, e, am, .int at_, rfl, by have := DGet.k (k := Sum.inr "at") s.atM; rw [val_a] at this; exact this, q⟩
theorem dp_ints (H : Hp) : ∀ zs : List Int, DpAll K H (zs.map V.int) (zs.map PyData.int)
  | [] => .nil
  | z :: zs => .cons (.int z) (dp_ints H zs)
theorem shaped_ints (zs : List Int) : SeqAt.shaped (.list (zs.map .int)) = true := by
  have a : ∀ zs : List Int, PyData.canLayAll0 (zs.map .int) = true := fun zs => by
    induction zs with
    | nil => rfl
    | cons z zs ih => rw [List.map_cons, PyData.canLayAll0, ih]; rfl
  unfold SeqAt.shaped
  rw [Bool.and_eq_true, decide_eq_true_eq]
  refine ⟨by rw [PyData.canLay0]; exact a zs, ?_⟩
  have b : ∀ zs : List Int, PyData.depthAll (zs.map .int) = 0 := fun zs => by
    induction zs with
    | nil => rfl
    | cons z zs ih => rw [List.map_cons, PyData.depthAll, ih]; rfl
  rw [PyData.depth, b]
  decide
theorem eqv_nil (zs : List Int) : PyData.eqv (.list (zs.map .int)) (.list []) = decide (zs = []) := by
  cases zs with
  | nil => rfl
  | cons z zs => simp [PyData.eqv, PyData.eqvAll]
/-- xs != [] of a list of ints -/
theorem ne_nil {a p : Addr} {zs : List Int} (e : H1 a = some (.lst (zs.map V.int))) (n : H1 p = none) (q : Q (.bl (!decide (zs = []))) (upd H1 p (.lst []))) : rNeD K (.ref a) (.ref p) (upd H1 p (.lst [])) Q :=
  ⟨.list (zs.map .int), .list [], .lst (SqL.of (upd_keep n e)) (dp_ints _ zs), .lst (SqL.of upd_same) .nil, shaped_ints zs, by decide +kernel, by rw [eqv_nil]; exact q⟩
theorem MS.ne (s : MS am c l cs H l' ls at_ H1) : am ≠ c ∧ am ≠ l' ∧ am ≠ l := by
  refine ⟨fun z => ?_, fun z => ?_, fun z => ?_⟩
  · have := s.atC; rw [← z, s.atM] at this; cases this
  · have := s.atL; rw [← z, s.atM] at this; cases this
  · obtain ⟨zs, e⟩ := s.old; rw [← z, s.atM] at e; cases e
theorem MS.setAt (s : MS am c l cs H l' ls at_ H1) (b : Int) : MS am c l cs H l' ls b (upd H1 am (.dK (putK [((Sum.inr "cells" : Key), V.ref c), (Sum.inr "left", V.ref l'), (Sum.inr "at", V.int at_)] (Sum.inr "at") (V.int b)))) := by
  obtain ⟨n1, n2, n3⟩ := s.ne
  refine ⟨by rw [upd_same, put_a], by rw [upd_ne n1.symm]; exact s.atC, by rw [upd_ne n2.symm]; exact s.atL, s.ncl, ?_, s.new, fun a o e h1 h2 => by rw [upd_ne h1]; exact s.keep a o e h1 h2⟩
  obtain ⟨zs, e⟩ := s.old
  exact ⟨zs, by rw [upd_ne n3.symm]; exact e⟩
theorem MS.setLeft {p : Addr} {zs : List Int} (s : MS am c l cs H l' ls at_ H1) (e : H1 p = some (.lst (zs.map V.int))) (n : H p = none) (nc : c ≠ p) :
    MS am c l cs H p zs at_ (upd H1 am (.dK (putK [((Sum.inr "cells" : Key), V.ref c), (Sum.inr "left", V.ref l'), (Sum.inr "at", V.int at_)] (Sum.inr "left") (V.ref p)))) := by
  obtain ⟨n1, n2, n3⟩ := s.ne
  have np : p ≠ am := fun z => by rw [z, s.atM] at e; cases e
  refine ⟨by rw [upd_same, put_l], by rw [upd_ne n1.symm]; exact s.atC, by rw [upd_ne np]; exact e, nc, ?_, .inr n, fun a o e h1 h2 => by rw [upd_ne h1]; exact s.keep a o e h1 h2⟩
  obtain ⟨zs, e⟩ := s.old
  exact ⟨zs, by rw [upd_ne n3.symm]; exact e⟩
theorem MS.setItem {zs : List Int} (s : MS am c l cs H l' ls at_ H1) : MS am c l cs H l' zs at_ (upd H1 l' (.lst (zs.map V.int))) := by
  obtain ⟨n1, n2, n3⟩ := s.ne
  refine ⟨by rw [upd_ne n2]; exact s.atM, by rw [upd_ne s.ncl]; exact s.atC, upd_same, s.ncl, ?_, s.new, fun a o e h1 h2 => ?_⟩
  · by_cases z : l = l'
    · exact ⟨_, by rw [z, upd_same]⟩
    · obtain ⟨ws, e⟩ := s.old
      exact ⟨ws, by rw [upd_ne z]; exact e⟩
  · have q : a ≠ l' := fun z => by
      rcases s.new with w | w
      · exact h2 (z.trans w)
      · rw [z, w] at e; cases e
    rw [upd_ne q]; exact s.keep a o e h1 h2
theorem lim_abs {z : Int} (h0 : 0 ≤ z) (h : z.toNat ≤ lim + 1) : z.natAbs < 2 ^ 100001 := by
  have e : (2 : Nat) ^ 100001 = 2 ^ 100000 + 2 ^ 100000 := by rw [Nat.pow_succ]; omega
  have p : 1 < (2 : Nat) ^ 100000 := Nat.one_lt_two_pow (by decide)
  unfold lim at h
  rw [e]
  omega
theorem at_ints {zs : List Int} {i : Int} (h0 : 0 ≤ i) (h1 : i < zs.length) : ∃ z ∈ zs, atI (zs.map V.int) i = some (.int z) := by
  have hl : i.toNat < zs.length := by omega
  refine ⟨zs[i.toNat], List.getElem_mem hl, ?_⟩
  have := atI_nat (xs := zs.map V.int) (j := i.toNat) (v := .int zs[i.toNat]) (by rw [List.getElem?_map, List.getElem?_eq_getElem hl]; rfl)
  rw [show ((i.toNat : Nat) : Int) = i by omega] at this
  exact this
end
end DL
/-! Own exceptions: made, by position and by the field's name. -/
namespace PySem
namespace DLX
open PySem.W PySem.Calls PyProof.Rows PySem.HandSPX
open Builtin Builtin.ObjectAttr
section
variable {prog : Program} {w : World} {A : Around} {E : Value → Shared → Prop} {R : Result → Shared → Prop} {h : Heap} {g : Array GenState} {d : Drawn} {t : Nat} {os : OsState}
variable {nm q : Str} {C N : Addr} {bs bm bmB : List Value} {hdct : Bool} {sn : List Str} {sub : List Value} {ab : Bool} {col : Option Bool} {dd : Option Addr} {k0 k1 k2 k3 k5 : Option Value} {B newId initId : String}
theorem checkK {M : Model} (F : ExcBaseFacts B newId initId bmB) (hT : ∀ X : String, bm.contains (.type X) = bmB.contains (.type X)) {rest : List Value} {f : Str} {v : Value} {Q : Unit → Shared → Prop}
    (hC : h.get? C = some (excClassObj nm q C N bs bm hdct sn sub ab col dd k0 k1 k2 k3 k5 newId)) (hq : Q () ⟨h, g, d, t, os⟩) : wpAny M A (checkBuiltinCall newId ⟨.ref C :: rest, [(f, v)]⟩) Q E ⟨h, g, d, t, os⟩ := by
  have hcont : (Value.ref C :: bm).contains (.type B) = true := by rw [List.contains_cons, hT, F.hasB, Bool.or_true]
  have hstar := F.noStar
  simp only [checkBuiltinCall, F.newKind, F.newSplit, F.newRow]
  repeat (first
    | refine wpAny_loadPart_at hC ?_
    | (refine wpAny_isSubtype_exc hC ?_; rw [hcont])
    | refine wpAny_staticBase_exc hC ?_
    | refine wpAny_madeBy_exc hC ?_
    | simp only [bne_self_eq_false, Bool.false_eq_true, if_false]
    | wp_step)
  exact hq
theorem newK (F : ExcBaseFacts B newId initId bmB) (hT : ∀ X : String, bm.contains (.type X) = bmB.contains (.type X)) {rest : List Value} {f : Str} {v : Value}
    (hC : h.get? C = some (excClassObj nm q C N bs bm hdct sn sub ab col dd k0 k1 k2 k3 k5 newId))
    (hq : R (.ok (.ret (.ref (h.objs.size + 1)))) ⟨(h.push (kdv_tup rest)).push (excO C h.objs.size), g, d, t, os⟩) (hrest : rest.length ≤ sizeLine) :
    codeAny (model prog w) A (.builtin newId ⟨.ref C :: rest, [(f, v)]⟩) R ⟨h, g, d, t, os⟩ := by
  have he := F.ends
  have cB : (Value.ref C :: bm).contains (.type B) = true := by rw [List.contains_cons, hT, F.hasB, Bool.or_true]
  have cA : (Value.ref C :: bm).contains (.type "AttributeError") = false := by rw [List.contains_cons, hT, F.noAttr]; rfl
  have cN : (Value.ref C :: bm).contains (.type "NameError") = false := by rw [List.contains_cons, hT, F.noName]; rfl
  refine codeAny_builtinAt F.entry ?_
  unfold Builtin.«BaseException.__new__»
  refine wpAt_bind ?_
  show wpAt _ _ _ (stack >>= _) _ _ _
  refine wpAt_bind (wpAt_stack fun p below => wpAt_of_wpAny ?_)
  wp_walk
  refine wpAt_of_wpAny ?_
  rw [F.owner]
  repeat (first
    | with_reducible refine wpAny_madeHere_exc F.canon hC ?_
    | with_reducible refine wpAny_loadPart_at hC ?_
    | (with_reducible refine wpAny_isSubtype_exc hC ?_; first | rw [cB] | rw [cA] | rw [cN])
    | wp_step)
  show R _ _
  rw [Heap.size_push]
  exact hq
theorem typeK (F : ExcBaseFacts B newId initId bmB) (hT : ∀ X : String, bm.contains (.type X) = bmB.contains (.type X)) {rest : List Value} {fI : Addr} {f : Str} {v : Value} {Q : Fin → Shared → Prop}
    (hC : h.get? C = some (excClassObj nm q C N bs bm hdct sn sub ab col dd k0 k1 k2 k3 k5 newId))
    (hi : W.Looks (model prog w) h (typeLookup (.ref C) "__init__") (some (.ref fI))) (hb : ∀ self, W.Looks (model prog w) h (bindSpecial (.ref fI) self) (.ref fI, [self])) (hrest : rest.length ≤ sizeLine)
    (hq : codeAny (model prog w) A (.call (.ref fI) ⟨.ref (h.objs.size + 1) :: rest, [(f, v)]⟩)
      (fun r s' => match r with
        | .ok (.ret v) => v = .none ∧ Q (.done (.ret (.ref (h.objs.size + 1)))) s'
        | .ok _ => False
        | .error e => E e s') ⟨(h.push (kdv_tup rest)).push (excO C h.objs.size), g, d, t, os⟩) :
    wpAny (model prog w) A (Builtin.«type.__call__» ⟨.ref C :: rest, [(f, v)]⟩) Q E ⟨h, g, d, t, os⟩ := by
  repeat (first | with_reducible refine wpAny_loadPart_at hC ?_ | with_reducible refine wpAny_madeBy_exc hC ?_ | wp_step)
  refine codeAny_call_builtin_code (Code.quiet_builtin _ F.quiet) (checkK F hT hC ?_)
  refine newK F hT hC ?_ hrest
  show wpAny _ _ _ _ _ _
  have k : ∀ b o, h.get? b = some o → ((h.push (kdv_tup rest)).push (excO C h.objs.size)).get? b = some o := fun b o e =>
    Heap.get?_push_of_some _ (Heap.get?_push_of_some _ e)
  have c1 := k _ _ hC
  have gt : ((h.push (kdv_tup rest)).push (excO C h.objs.size)).get? (h.objs.size + 1) = some (excO C h.objs.size) := by heap_get
  have cc : (Value.ref C :: bm).contains (.ref C) = true := by simp
  have i1 := hi.keeps k
  have b1 := (hb (.ref (h.objs.size + 1))).keeps k
  unfold isInstance
  repeat (first
    | with_reducible refine wpAny_loadPart_at gt ?_
    | (with_reducible refine wpAny_isSubtype_exc c1 ?_; rw [cc])
    | wp_step)
  show wpAny _ _ (typeLookup (.ref C) _) _ _ _
  refine i1.at ?_
  refine wpAny_holding (wpAny_bind (b1.at ?_))
  refine wpAny_bind (wpAny_call (codeAny_mono hq fun r s' z => ?_))
  cases r with
  | error e => exact z
  | ok fl =>
    cases fl with
    | ret u =>
      have z2 : u = Value.none ∧ Q (.done (.ret (.ref (h.objs.size + 1)))) s' := z
      clear z
      obtain ⟨e, z⟩ := z2
      subst e
      first
        | exact wpAny_pure (wpAny_pure z)
        | (wp_walk; exact z)
    | next => exact False.elim z
    | brk => exact False.elim z
    | cont => exact False.elim z
theorem callK (F : ExcBaseFacts B newId initId bmB) (hT : ∀ X : String, bm.contains (.type X) = bmB.contains (.type X)) {rest : List Value} {fI : Addr} {f : Str} {v : Value}
    (hC : h.get? C = some (excClassObj nm q C N bs bm hdct sn sub ab col dd k0 k1 k2 k3 k5 newId))
    (hi : W.Looks (model prog w) h (typeLookup (.ref C) "__init__") (some (.ref fI))) (hb : ∀ self, W.Looks (model prog w) h (bindSpecial (.ref fI) self) (.ref fI, [self])) (hrest : rest.length ≤ sizeLine)
    (hq : codeAny (model prog w) (A.under (.builtin "type.__call__" ⟨.ref C :: rest, [(f, v)]⟩)) (.call (.ref fI) ⟨.ref (h.objs.size + 1) :: rest, [(f, v)]⟩) (W.InitBack (h.objs.size + 1) R)
      ⟨(h.push (kdv_tup rest)).push (excO C h.objs.size), g, d, t, os⟩) :
    codeAny (model prog w) A (.call (.ref C) ⟨rest, [(f, v)]⟩) R ⟨h, g, d, t, os⟩ := by
  have f1 := tc_lookup
  have f2 := tc_bind (.ref C)
  have ht : (⟨h, g, d, t, os⟩ : Shared).TypeIs (.ref C) "type" := ⟨_, hC, rfl⟩
  refine codeAny_of_tree ?_
  show wpAny _ _ (callAny (.ref C) _) _ _ _
  repeat (any_goals (first | assumption | with_reducible refine wpAny_loadPart_at hC ?_ | wp_step))
  refine ⟨rfl, ?_⟩
  refine codeAny_call_builtin_at (Code.quiet_builtin _ (by decide +kernel)) entry_typeCall (wpAny_check_type_call_sub hC (typeK F hT hC hi hb hrest ?_))
  refine codeAny_mono hq fun r s' z => ?_
  rcases r with e | (v | _ | _ | _) <;> exact z
end
end DLX
end PySem
namespace PySem
namespace DLX
open PySem.W PySem.Calls PyProof.Rows PySem.HandSPX
/-! ### def __init__(self, f): self.f = f -/
def xA (f : Str) (p1 p2 : Pos) : Arguments := ⟨[], [{ arg := "self", annotation := none, pos := p1 }, { arg := f, annotation := none, pos := p2 }], none, [], [], none, []⟩
def xB (f : Str) (q1 q2 q3 q4 : Pos) : List Stmt := [.Assign [.Attribute (.Name "self" q1) f q2] (.Name f q3) q4]
def xS (f : Str) : Scope := { kind := .function, names := [(PySem.Str.ofString "self", .local), (f, .local)], isGenerator := false, isCoroutine := false, more := [] }
/-- the class at C, its __init__ at fI, its field f -/
structure ExT (K : Frag) (C fI : Addr) (f qn : Str) (B newId initId : String) (bmB : List Value) : Prop where
  FB : ExcBaseFacts B newId initId bmB
  SF : StoreFacts B bmB "object.__setattr__" "object"
  q : excInitIn K C bmB newId = true
  ov : excOver K C bmB = true
  tk : takerIn K C f = some none
  sa : findIn K (.ref C) "__setattr__" = some (some (.builtin "object.__setattr__"))
  ga : findIn K (.ref C) "__getattribute__" = some (some (.builtin "BaseException.__getattribute__"))
  gg : findIn K (.ref C) "__getattr__" = some none
  noN : findIn K (.ref C) f = some none
  iC : findIn K (.ref C) "__init__" = some (some (.ref fI))
  tI : typeIn K (.ref fI) = some (.type "function")
  kC : keepIn K (.ref C) = true
  exC : subIn K (.ref C) (.type "BaseException") = some true
  tyC : typeIn K (.ref C) = some (.type "type")
  hdC : hasDictIn K C = true
  hf : f = "value" ∨ f = "place" ∨ f = "line" ∨ f = "most"
  hqn : (qn.length ≤ 200)
  fn : ∃ (oc : Value) (od : Option Addr) (kV doc pm : Value) (an : Option Addr) (cdv ct : Value) (osl : Array (Option Value)) (p1 p2 q1 q2 q3 q4 : Pos),
    K.lookup fI = some ⟨oc, od, .func (fnOf "__init__" qn (xA f p1 p2) (xB f q1 q2 q3 q4) (xS f) .none kV doc pm an cdv ct), osl⟩ ∧ codeIn K cdv qn = true
theorem ldX {M : Model} {s : Shared} {name : Str} {scope : Scope} {L a : Addr} {cd : Value} {m : Str → Option Value} {x : Str} {pos : Pos} {v : Value} {Q : Value → Shared → Prop} {A : Around} {E : Value → Shared → Prop}
    (hn : s.heap.Ns L m) (hv : m x = some v) (h : Q v s) (hk : scope.kind = .function := by rfl) (hl : (envOfC name scope L a cd).kindOf x = some .local := by rfl) (hd : (x == ("__debug__" : Str)) = false := by decide) :
    wpAny M A (eval (.Name x pos) (envOfC name scope L a cd)) Q E s := wpAny_Name (wpAny_loadName_local hk hl hn hv h) hd
open Builtin Builtin.ObjectAttr
/-- what __init__ leaves of an exception at x -/
structure IEnd (h h' : Heap) (f : Str) (x C dx t1 : Addr) (v : Value) : Prop where
  keep : ∀ b o, b ≠ x → h.get? b = some o → h'.get? b = some o
  obj : h'.get? x = some { cls := .ref C, dict := some dx, data := .fields #[.ref t1, .none, .none, .none, .bool false, .none] }
  dbig : h.objs.size ≤ dx
  dne : dx ≠ x
  ns : h'.Ns1 dx (fun y => if y = f then some v else none)
section
variable {prog : Program} {w : World} {A : Around} {E : Value → Shared → Prop} {R : Result → Shared → Prop} {s : Shared} {K : Frag} {C fI : Addr} {f qn : Str} {B newId initId : String} {bmB : List Value}
theorem x_osa (T : ExT K C fI f qn B newId initId bmB) {x t0 : Addr} {v : Value} {tk : Tok} {R : Result → Shared → Prop} (X : K.In s.heap) (hx : s.heap.get? x = some (excO C t0))
    (hq : ∀ h' t' dx, IEnd s.heap h' f x C dx t0 v → R (.ok (.ret .none)) { s with heap := h', toks := t' }) :
    codeAny (model prog w) A (.call (.builtin "object.__setattr__") ⟨[.ref x, .str f tk, v], []⟩) R s := by
  refine osa_openX (od := none) T.SF X ⟨hx, rfl, rfl, trivial⟩ T.ov T.tk fun b => ?_
  obtain ⟨cd, hc, hd'⟩ := any_some T.hdC
  obtain ⟨hp, g, d, t, os⟩ := s
  have hxs : x ≠ hp.objs.size := Nat.ne_of_lt (Heap.lt_size hx)
  refine wpAny_bind (wpAny_pure (wpAny_bind (instanceDict_exc (c2 := .none) hx (looks_clsIn X hc) hd' ?_)))
  show wpAny _ _ (storeInDict hp.objs.size (.str f tk) f v) _ _ _
  refine store_in_new (g := g) (d := d) (os := os) ?_ fun h' tk' hn' hs => ?_
  · exact ⟨_, #[], _, (Heap.get?_update_ne _ _ _ _ hxs.symm).trans (Heap.get?_push_at rfl rfl), rfl, fun e he => absurd he (by simp), fun _ => rfl⟩
  · have hx₁ : (hp.push (dictOf [] 0)).get? x = some (excO C t0) := Heap.get?_push_of_some _ hx
    refine hq h' tk' hp.objs.size ⟨fun b o hb ho => ?_, ?_, Nat.le_refl _, hxs.symm, hn'⟩
    · refine (hs.2 b (Nat.ne_of_lt (Heap.lt_size ho))).trans ?_
      exact (Heap.get?_update_ne _ _ _ _ hb).trans (Heap.get?_push_of_some _ ho)
    · exact (hs.2 x hxs).trans (Heap.get?_update_self _ hx₁ rfl)
def xArgs (f : Str) (first : List Value) (v : Value) (kw : Bool) : Args := if kw then ⟨first, [(f, v)]⟩ else ⟨first ++ [v], []⟩
theorem x_init (T : ExT K C fI f qn B newId initId bmB) (kw : Bool) {x t0 : Addr} {v : Value} (X : K.In s.heap) (hlim : s.heap.NoLimit) (hx : s.heap.get? x = some (excO C t0)) (hroom : A.depth < recursionLimit)
    (hq : ∀ h' tk dx, IEnd s.heap h' f x C dx t0 v → R (.ok (.ret .none)) { s with heap := h', toks := tk }) :
    codeAny (model prog w) A (.call (.ref fI) (xArgs f [.ref x] v kw)) R s := by
  obtain ⟨oc, od, kV, doc, pm, an, cdv, ct, osl, p1, p2, q1, q2, q3, q4, ho, hcd⟩ := T.fn
  have key : ∀ (s₁ : Shared) (args : Args), args = xArgs f [.ref x] v kw → BindsTo s₁ (fnOf "__init__" qn (xA f p1 p2) (xB f q1 q2 q3 q4) (xS f) .none kV doc pm an cdv ct) args [("self", .ref x), (f, v)] := by
    intro s₁ args e
    subst e
    rcases T.hf with rfl | rfl | rfl | rfl <;> cases kw <;> exact BindsTo.of_eq (by first | rfl | with_unfolding_all rfl)
  refine Att.call_fn (binds := [("self", .ref x), (f, v)]) X hlim ho hcd hroom (key s _ rfl) (by rcases T.hf with rfl | rfl | rfl | rfl <;> first | rfl | decide | with_unfolding_all rfl) (fun s₁ IC => ?_) rfl rfl rfl
  obtain ⟨h₁, tk₁, rfl⟩ := IC.toInCall.same
  have k : ∀ b o, s.heap.get? b = some o → h₁.get? b = some o := IC.toInCall.keep
  have hn := IC.toInCall.ns
  have hxL : s.heap.objs.size ≠ x := Nat.ne_of_gt (Heap.lt_size hx)
  have X₁ : K.In h₁ := X.keeps k
  have hx₁ := k _ _ hx
  show wpAny _ _ (execs _ _) _ _ _
  refine wpAny_execs_cons (plainObj_wpAny_Assign_Attribute ?_ (by rcases T.hf with rfl | rfl | rfl | rfl <;> rfl))
  refine ldX (v := v) hn (by rcases T.hf with rfl | rfl | rfl | rfl <;> first | rfl | with_unfolding_all rfl | kernel_rfl) (ldX (v := .ref x) hn (by rcases T.hf with rfl | rfl | rfl | rfl <;> first | rfl | with_unfolding_all rfl | kernel_rfl) ?_ rfl (by rcases T.hf with rfl | rfl | rfl | rfl <;> rfl))
    rfl (by rcases T.hf with rfl | rfl | rfl | rfl <;> rfl) (by rcases T.hf with rfl | rfl | rfl | rfl <;> decide)
  refine set_plain X₁ (ox := excO C t0) (od := none) ⟨hx₁, rfl, rfl, trivial⟩ T.sa ?_
  refine x_osa (s := { s with heap := h₁, toks := tk₁ + 1 }) T X₁ hx₁ fun h₃ tk₃ dx IE => ?_
  have z : s.heap.objs.size ≤ h₁.objs.size := Nat.le_of_lt hn.lt
  show wpAny _ _ (execs _ _) _ _ _
  exact wpAny_execs_nil (hq h₃ tk₃ dx ⟨fun b o hb e => IE.keep b o hb (k b o e), IE.obj, Nat.le_trans z IE.dbig, IE.dne, IE.ns⟩)
/-- a made exception at e -/
structure XMade (h h' : Heap) (f : Str) (e C d t1 : Addr) (v : Value) : Prop where
  keep : ∀ b o, h.get? b = some o → h'.get? b = some o
  new : h.objs.size ≤ e
  obj : h'.get? e = some { cls := .ref C, dict := some d, data := .fields #[.ref t1, .none, .none, .none, .bool false, .none] }
  dbig : h.objs.size ≤ d
  dne : d ≠ e
  ns : h'.Ns1 d (fun y => if y = f then some v else none)
theorem x_made (T : ExT K C fI f qn B newId initId bmB) (kw : Bool) {v : Value} (X : K.In s.heap) (hlim : s.heap.NoLimit) (hroom : A.depth + 1 < recursionLimit)
    (hq : ∀ h' tk e d t1, XMade s.heap h' f e C d t1 v → R (.ok (.ret (.ref e))) { s with heap := h', toks := tk }) : codeAny (model prog w) A (.call (.ref C) (xArgs f [] v kw)) R s := by
  obtain ⟨nm, N', qn', bs, bm, hdct, sn, sub, ab, col, dd, k0, k1, k2, k3, k5, hC, hT⟩ := excInit_of X T.q
  obtain ⟨hp, g, dr, tk, os⟩ := s
  have go : ∀ (rest : List Value) (A' : Around), A'.depth < recursionLimit → codeAny (model prog w) A' (.call (.ref fI) (xArgs f [.ref (hp.objs.size + 1)] v kw)) (W.InitBack (hp.objs.size + 1) R) ⟨(hp.push (kdv_tup rest)).push (excO C hp.objs.size), g, dr, tk, os⟩ := fun rest A' hd => by
    have k : ∀ b o, hp.get? b = some o → ((hp.push (kdv_tup rest)).push (excO C hp.objs.size)).get? b = some o := fun b o e => Heap.get?_push_of_some _ (Heap.get?_push_of_some _ e)
    have hget : ((hp.push (kdv_tup rest)).push (excO C hp.objs.size)).get? (hp.objs.size + 1) = some (excO C hp.objs.size) := by heap_get
    refine x_init (s := ⟨(hp.push (kdv_tup rest)).push (excO C hp.objs.size), g, dr, tk, os⟩) T kw (X.keeps k) (hlim.keeps k) hget hd fun h' tk' dx IE => ?_
    have z : hp.objs.size + 1 + 1 ≤ dx := by
      have q := IE.dbig
      rw [Heap.size_push, Heap.size_push] at q
      exact q
    refine ⟨rfl, hq h' tk' (hp.objs.size + 1) dx _ ⟨fun b o e => IE.keep b o (Nat.ne_of_lt (Nat.lt_succ_of_lt (Heap.lt_size e))) (k b o e), Nat.le_succ _, IE.obj, Nat.le_trans (Nat.le_trans (Nat.le_succ _) (Nat.le_succ _)) z, IE.dne, IE.ns⟩⟩
  cases kw with
  | false =>
    exact call_own T.FB hT hC (looks_findIn X T.iC) (fun self => bind_fn X self T.tI) (by show 1 ≤ sizeLine; rw [sizeLine_eq]; decide) (go [v] _ hroom)
  | true =>
    exact callK T.FB hT hC (looks_findIn X T.iC) (fun self => bind_fn X self T.tI) (by show 0 ≤ sizeLine; rw [sizeLine_eq]; decide) (go [] _ hroom)
end
end DLX
end PySem
/-! Own exceptions as values. -/
namespace DL
open PySem PySem.Spec L2
section
variable {L : Lx} {X : Cx} {g g' : Gh} {H H' H1 : Hp} {σ : L2.St} {Γ : Env} {W : WX} {pos : Pos} {pins : List (Addr × Obj)} {s : Shared}
variable {C fI : Addr} {f qn : Str} {B newId initId : String} {bmB : List Value}
/-- the new exception, tracked -/
theorem x_inv {h' : Heap} {t' : Nat} {e d t1 : Addr} {y : V} {u : Value} (I : Inv X pins σ H s) (M : PySem.DLX.XMade s.heap h' f e C d t1 u) (ry : RelV y u) :
    H e = none ∧ H d = none ∧ Inv X pins σ (upd (upd H d (exd d [(f, y)])) e (exo e C (some d))) { s with heap := h', toks := t' } := by
  have nd : H d = none := I.hok.fresh M.dbig
  have ne : H e = none := I.hok.fresh M.new
  have z1 : ∀ {b : Addr} {o : Obj}, s.heap.get? b = some o → b ≠ d := fun {b o} q => Nat.ne_of_lt (Nat.lt_of_lt_of_le (Heap.lt_size q) M.dbig)
  have z2 : ∀ {b : Addr} {o : Obj}, s.heap.get? b = some o → b ≠ e := fun {b o} q => Nat.ne_of_lt (Nat.lt_of_lt_of_le (Heap.lt_size q) M.new)
  have two : ∀ {b : Addr} {o : HO}, H b = some o → upd (upd H d (exd d [(f, y)])) e (exo e C (some d)) b = some o := fun {b o} q => by
    rw [upd_ne (ne_of_none q ne), upd_ne (ne_of_none q nd)]; exact q
  have U : Un X.fs [] H (upd (upd H d (exd d [(f, y)])) e (exo e C (some d))) s.heap h' := {
    keep := fun b o q n _ _ => M.keep b o q
    slot := fun b o q n _ _ => ⟨o.slots, M.keep b o q⟩
    free := fun b o q n _ => by rw [upd_ne (z2 q), upd_ne (z1 q)]; exact n
    there := fun b o q _ => ⟨o, M.keep b o q⟩
    tups := fun b xs q => two q
    frzs := fun b o v q => two q
    tbls := fun b ps q => ⟨#[], by rw [two q]; simp⟩ }
  refine ⟨ne, nd, I.un (t' := t') U fun b o q => ?_⟩
  by_cases hb : b = e
  · subst hb
    rw [upd_same] at q
    cases q
    exact exo_ok M.obj
  · rw [upd_ne hb] at q
    by_cases hd : b = d
    · subst hd
      rw [upd_same] at q
      cases q
      exact exd_ok M.ns (relO_put (fs := []) ry fun g => True.intro)
    · rw [upd_ne hd] at q
      exact (I.hok b o q).stay (fun c v _ z => M.keep c v z) (fun c hc => two hc) (fun c xs hc => two hc)
/-- C(e), C(f = e): a new exception -/
def tExv (f : Str) (C : Addr) (ta : TA) : TE := fun σ H Q => ta σ H fun vs H1 => ∃ v, vs = [v] ∧ ∀ a d, H1 a = none → H1 d = none → d ≠ a → Q (.ref a) (upd (upd H1 d (exd d [(f, v)])) a (exo a C (some d)))
theorem call_exv (T : PySem.DLX.ExT X.K C fI f qn B newId initId bmB) (kw : Bool) (hr : X.A.depth + 1 < recursionLimit) (I : Inv X pins σ H s) {y : V} {u : Value} (ry : RelV y u) {Q : VK}
    (q : ∀ a d, H a = none → H d = none → d ≠ a → Q (.ref a) (upd (upd H d (exd d [(f, y)])) a (exo a C (some d)))) :
    codeAny (model X.prog X.w) X.A (.call (.ref C) (PySem.DLX.xArgs f [] u kw)) (fun r s' => match r with
      | .ok (.ret u) => EP X pins σ Q u s'
      | .ok _ => False
      | .error e => X.xe e s') s := by
  refine PySem.DLX.x_made T kw I.kIn I.nolimit hr fun h' tk e d t1 M => ?_
  obtain ⟨ne, nd, J⟩ := x_inv (t' := tk) I M ry
  exact ⟨.ref e, _, J, rfl, q e d ne nd M.dne⟩
theorem pe_exv {x : Str} {a : Expr} {ta : TA} {p : Pos} (T : PySem.DLX.ExT X.K C fI f qn B newId initId bmB) (hr : X.A.depth + 1 < recursionLimit) (hg : Gl X x) (gC : X.mg x = some (.ref C)) (ha : PA X [a] ta)
    (hdb : (x == ("__debug__" : Str)) = false := by decide) (he : starEach (a :: []) X.env = (false, eval a X.env) :: starEach [] X.env := by rfl) (hpl : (backTo pos (starEach [] X.env)).any (·.1) = false := by rfl) :
    PE X (.Call (.Name x p) [a] [] pos) (tExv f C ta) := by
  refine ⟨fun pins s σ H Q I h => ?_⟩
  refine wpAny_Call_Name_kw (ld_glob I hg gC ?_ hdb)
  refine PySem.W.callWith_K (h₀ := X.base) I.ok.mod.kin T.kC (thn (ha.run pos pins s σ H _ I h) fun us s1 ⟨vs, H1, I1, r1, v, ev, q1⟩ => ⟨I1.kIn, ?_⟩) he hpl
  subst ev
  cases r1 with
  | cons rv rn =>
    cases rn
    exact wpAny_call (codeAny_mono (call_exv T false hr I1 rv q1) fun r s' z => by
      cases r with
      | error e => exact z
      | ok fl => cases fl <;> exact z)
theorem pe_exvK {x : Str} {a : Expr} {ta : TA} {p kpos : Pos} (T : PySem.DLX.ExT X.K C fI f qn B newId initId bmB) (hr : X.A.depth + 1 < recursionLimit) (hg : Gl X x) (gC : X.mg x = some (.ref C)) (hkw : PK X [⟨some f, a, kpos⟩] ta)
    (hall : (backToKw pos (keywordEach [⟨some f, a, kpos⟩] X.env)).all (·.1.isSome) = true := by rfl) (hks : (backToKw pos (keywordEach [⟨some f, a, kpos⟩] X.env)).filterMap (·.1) = [f] := by rfl) (hdb : (x == ("__debug__" : Str)) = false := by decide)
    (hpl : ((backTo pos (starEach [] X.env)).any (·.1) || (backToKw pos (keywordEach [⟨some f, a, kpos⟩] X.env)).any (·.1.isNone)) = false := by rfl) :
    PE X (.Call (.Name x p) [] [⟨some f, a, kpos⟩] pos) (tExv f C ta) := by
  refine ⟨fun pins s σ H Q I h => ?_⟩
  refine wpAny_Call_Name_kw (ld_glob I hg gC ?_ hdb)
  refine PySem.W.callWith_KW0 (h₀ := X.base) I.ok.mod.kin T.kC hall ?_ hpl
  refine thn (hkw.run pos pins s σ H _ I h) fun ws s2 ⟨zs, H2, I2, rz, v, ev, q2⟩ => ⟨I2.kIn, ?_⟩
  rw [hks]
  subst ev
  cases rz with
  | cons rv rn =>
    cases rn
    exact wpAny_call (codeAny_mono (call_exv T true hr I2 rv q2) fun r s' z => by
      cases r with
      | error e => exact z
      | ok fl => cases fl <;> exact z)
end
end DL
/-! isinstance of own exceptions that have their dict. -/
namespace PySem
namespace DLX
open PySem PySem.Spec PySem.Calls PyProof.Rows PySem.W
section
variable {prog : Program} {w : World} {A : Around} {E : Value → Shared → Prop} {s : Shared} {K : Frag} {x D : Addr} {ox : Obj} {od : Option Obj}
theorem find_data {C : Addr} {name : Str} {a g : Value} (hc : (clsIn K C).isSome = true) (ha : findIn K (.ref C) name = some (some a)) (hg : specialIn K a "__get__" = some (some g)) (ht : takesIn K a = some true) : findObj K C od name = some (.bind g a) := by
  obtain ⟨cd, hc⟩ := Option.isSome_iff_exists.mp hc
  simp only [findObj, hc, ha, hg, ht, Option.bind_some]
theorem cls_some {K : Frag} {D : Addr} (h : hasDictIn K D = true) : (clsIn K D).isSome = true := by
  obtain ⟨cd, hc, _⟩ := any_some h
  rw [hc]
  rfl
theorem class_of_exc {Q : Option Value → Shared → Prop} (c : L2.ExcC K D) (X : K.In s.heap) (I : InstAt s.heap x ox D od) (h : Q (some (.ref D)) { s with toks := s.toks + 1 }) : wpAny (model prog w) A (getAttr? (.ref x) "__class__") Q E s := by
  have hf : findObj K D od "__class__" = some (.bind (.builtin "getset_descriptor.__get__") (.builtin "object.__class__")) := find_data (cls_some c.hd) c.ha c.hn c.ht
  obtain ⟨hp, g, d, t, os⟩ := s
  have l0 := I.type (M := model prog w)
  have l1 := looks_findIn (M := model prog w) X c.hg
  have l2 := looks_findIn (M := model prog w) X c.hk
  have l3 := looks_find (M := model prog w) X I hf
  have below : Looks (model prog w) hp (isInstance (.ref x) (.type "BaseException")) true := l0.andThen (looks_subIn X c.hs)
  have e1 : (Value.builtin "BaseException.__getattribute__" == Value.builtin "object.__getattribute__") = false := by decide +kernel
  have e2 : (onTheHeap (Value.ref D) && Value.builtin "BaseException.__getattribute__" == Value.builtin "object.__getattribute__") = false := by
    rw [e1]; rfl
  have e3 : (false && onTheHeap (Value.builtin "BaseException.__getattribute__")) = false := rfl
  unfold getAttr? getAttrBy? getAttrBy
  refine wpAny_bind (wpAny_mkText (wpAny_bind (wpAny_attempt (wpAny_holding (wpAny_bind (l0.at (wpAny_bind (l1.at ?_))))))))
  show wpAny _ _ (if (onTheHeap (Value.ref D) && Value.builtin "BaseException.__getattribute__" == Value.builtin "object.__getattribute__") = true then _ else _) _ _ _
  rw [e2, if_neg Bool.false_ne_true]
  unfold getAttrByItsOwn hookBefore
  refine wpAny_bind ?_
  rw [if_pos (show onTheHeap (Value.ref D) = true from rfl)]
  refine l2.at (wpAny_bind (wpAny_attempt (wpAny_holding ?_)))
  unfold callGetattribute
  rw [e3, if_neg Bool.false_ne_true]
  unfold boundAndCalled
  rw [PySem.F.excAttr_ValueError.ga.bind (.ref x)]
  refine wpAny_bind (wpAny_pure ?_)
  show wpAny _ _ (call (.builtin "BaseException.__getattribute__") [.ref x, .str "__class__" t]) _ _ _
  refine wpAny_call (codeAny_call_builtin PySem.F.excAttr_ValueError.ga.plain PySem.F.entry_bexc_ga ?_)
  refine @check_slot (model prog w) _ _ ⟨hp, g, d, t + 1, os⟩ "BaseException.__getattribute__" "BaseException" "__getattribute__" (.ref x) [.str "__class__" t] [] _ (by decide +kernel) (by decide +kernel) below
    (PySem.F.args_bexc_ga (.ref x) (.str "__class__" t)) ?_
  unfold Builtin.«object.__getattribute__»
  refine wpAny_bind (wpAny_of_eq (a := ((Value.ref x : Value), [Value.str "__class__" t])) (by first | rfl | (simp only [slotArgs]; rfl)) ?_)
  refine wpAny_bind (wpAny_pure (wpAny_bind (l0.at (wpAny_bind (l3.at ?_)))))
  show wpAny _ _ (holding [Value.builtin "object.__class__"] (call (.builtin "getset_descriptor.__get__") [.builtin "object.__class__", .ref x, .ref D]) >>= ret) _ _ _
  refine wpAny_bind (wpAny_holding (wpAny_call (class_get (s := ⟨hp, g, d, t + 1, os⟩) (ox := ox) (od := od) X I c.hm (wpAny_pure ?_))))
  show wpAny _ _ (handedOut (.ref D)) _ _ _
  rw [handedOut_of (v := .ref D) rfl]
  first
    | exact wpAny_pure (wpAny_pure h)
    | exact wpAny_pure h
    | exact wpAny_pure (wpAny_bind (wpAny_pure (wpAny_pure h)))
theorem at_type {K : Frag} {D : Addr} (h : hasDictIn K D = true) : ∃ c dd cd sl, K.lookup D = some ⟨c, dd, .cls cd, sl⟩ := by
  have q := cls_some h
  unfold clsIn at q
  split at q
  · rename_i c' d' cd' sl' ho
    exact ⟨_, _, _, _, ho⟩
  · cases q
theorem kitx_exc (c : L2.ExcC K D) : KitX K (.ref x) (.ref D) (fun h => InstAt h x ox D od) where
  ty := fun _ _ _ I => I.type
  it := fun M h X _ => by
    obtain ⟨cc, dd, cd, sl, ho⟩ := at_type c.hd
    intro A' Q' E' s' k q
    unfold isType loadHead
    exact wpAny_bind (wpAny_loadPart (k _ _ (X _ _ ho)) (wpAny_pure q))
  ne := fun h tp dd its n sl X htp => (handS_kitx_exc (x := x) (ox := ox) c.hg c.hk c.hs c.hd c.ha c.hn c.ht c.hm).ne h tp dd its n sl X htp
  ca := fun X I k => class_of_exc c X I k
end
end DLX
end PySem
/-! Own exceptions as data; isinstance; repr. -/
namespace DL
open PySem PySem.Spec L2
section
variable {L : Lx} {X : Cx} {g g' : Gh} {H H' H1 : Hp} {σ : L2.St} {Γ : Env} {W : WX} {pos p : Pos} {i : IE}
variable {C fI : Addr} {f qn : Str} {B newId initId : String} {bmB : List Value} {n : Nat} {x : Str} {a : Expr}
/-- C(e): the exception n -/
def iMk (n : Nat) (i : IE) : IE := fun Γ => (i Γ).bind fun d => .ret (.exc n d)
theorem rd_exv {Q : VK} (hC : L.cA n = C) (hf : L.cF n = [f]) (h : Rd1 L DenT W (iMk n i) σ H Q) : tExv f C (tCons (Rd1 L DenT W i) tNil) σ H Q := by
  obtain ⟨Γ, g, rp, w⟩ := h
  refine Rd1.go rp w fun v H1 d g1 r1 s t w => ⟨v, rfl, fun a d na nd ne => ?_⟩
  have s1 := stp_put (o := exd d [(f, v)]) r1 nd
  have na' : upd H1 d (exd d [(f, v)]) a = none := by rw [upd_ne (Ne.symm ne)]; exact na
  have r2 := r1.step s1
  have s2 := stp_put (o := exo a C (some d)) r2 na'
  refine w (.ref a) _ _ (s.trans (s1.trans s2)) rfl ?_
  refine .exc (f := f) (d := d) (v := v) (by rw [hC]; exact put_F) (s2.le _ _ put_F) hf (t.mono (s1.trans s2).le (s1.trans s2).mu)
theorem de_exv (T : PySem.DLX.ExT X.K C fI f qn B newId initId bmB) (hC : L.cA n = C) (hf : L.cF n = [f]) (hr : X.A.depth + 1 < recursionLimit) (hg : Gl X x) (gC : X.mg x = some (.ref C)) (h : DE L X i a)
    (hdb : (x == ("__debug__" : Str)) = false := by decide) (he : starEach (a :: []) X.env = (false, eval a X.env) :: starEach [] X.env := by rfl) (hpl : (backTo pos (starEach [] X.env)).any (·.1) = false := by rfl) :
    DE L X (iMk n i) (.Call (.Name x p) [a] [] pos) := fun W tk => PE.imp (pe_exv T hr hg gC (pa_cons (h W tk) pa_nil he) hdb he hpl) fun σ H Q h => rd_exv hC hf h
theorem de_exvK {kpos : Pos} (T : PySem.DLX.ExT X.K C fI f qn B newId initId bmB) (hC : L.cA n = C) (hf : L.cF n = [f]) (hr : X.A.depth + 1 < recursionLimit) (hg : Gl X x) (gC : X.mg x = some (.ref C)) (h : DE L X i a)
    (hall : (backToKw pos (keywordEach [⟨some f, a, kpos⟩] X.env)).all (·.1.isSome) = true := by rfl) (hks : (backToKw pos (keywordEach [⟨some f, a, kpos⟩] X.env)).filterMap (·.1) = [f] := by rfl) (hdb : (x == ("__debug__" : Str)) = false := by decide)
    (hpl : ((backTo pos (starEach [] X.env)).any (·.1) || (backToKw pos (keywordEach [⟨some f, a, kpos⟩] X.env)).any (·.1.isNone)) = false := by rfl) :
    DE L X (iMk n i) (.Call (.Name x p) [] [⟨some f, a, kpos⟩] pos) := fun W tk => PE.imp (pe_exvK T hr hg gC (pk_cons (h W tk) pk_nil) hall hks hdb hpl) fun σ H Q h => rd_exv hC hf h
/-! ### its field -/
def tXat (K : PySem.W.Frag) (f : Str) (te : TE) : TE := fun σ H Q => te σ H fun x H1 => ∃ a C d v, x = .ref a ∧ H1 a = some (exo a C (some d)) ∧ H1 d = some (exd d [(f, v)]) ∧ XfC K C ∧ PySem.W.findIn K (.ref C) f = some none ∧ Q v H1
theorem pe_xat {e : Expr} {te : TE} (he : PE X e te) (hb : attributeBase e f X.env (eval e X.env) = eval e X.env := by rfl) : PE X (.Attribute e f pos) (tXat X.K f te) := by
  refine ⟨fun pins s σ H Q I h => ?_⟩
  refine attr_of hb (thn (he.run pins s σ H _ I h) fun u s1 hh => ?_)
  obtain ⟨x, H1, I1, rx, a, C, d, v, ex, e1, e2, T, hno, q⟩ := hh
  subst ex
  obtain rfl : u = Value.ref a := rx
  obtain ⟨t1, ho⟩ := exo_at I1.hok e1
  obtain ⟨mA, hns, hr⟩ := exd_at I1.hok e2
  obtain ⟨od, hod, hl⟩ := lookIn_ns hns
  obtain ⟨u, hu, ru⟩ := RelO.some_of (v := v) (o := mA f) (by
    have := hr f
    rw [lookup_put, if_pos rfl] at this
    exact this)
  have J : PySem.W.InstAt s1.heap a { cls := .ref C, dict := some d, data := .fields #[.ref t1, .none, .none, .none, .bool false, .none] } C (some od) := ⟨ho, rfl, rfl, hod⟩
  exact HandSPX.exc_get I1.kIn J T.ga T.gg T.exC (PySem.W.findObj_own T.hdC hno rfl (by rw [hl, hu])) (handed_of ru) ⟨v, H1, I1.tok _, ru, q⟩
/-- x.f of an exception -/
def iXat (ok : Nat → Bool) (i : IE) : IE := fun Γ => (i Γ).bind fun d => match d with
  | .exc n v => if ok n = true then .ret v else .stuck
  | _ => .stuck
theorem de_xat {ok : Nat → Bool} {e : Expr} (h : DE L X i e) (hK : X.K = L.K) (hx : ∀ n, ok n = true → L.cF n = [f] ∧ XfC L.K (L.cA n) ∧ PySem.W.findIn L.K (.ref (L.cA n)) f = some none) (hb : attributeBase e f X.env (eval e X.env) = eval e X.env := by rfl) :
    DE L X (iXat ok i) (.Attribute e f pos) := fun W tk => PE.imp (pe_xat (h W tk) hb) fun σ H Q ⟨Γ, g, rp, w⟩ => by
  refine Rd1.go rp w fun v H1 d g1 r1 s t w => ?_
  split at w
  · rename_i n d
    split at w
    · rename_i hn
      obtain ⟨h1, h2, h3⟩ := hx n hn
      cases t with
      | exc e1 e2 e3 t =>
        rw [h1] at e3
        cases e3
        exact ⟨_, _, _, _, rfl, r1.sub _ _ e1, r1.sub _ _ e2, hK ▸ h2, hK ▸ h3, w _ g1 H1 s rfl t⟩
    · exact w.elim
  · exact w.elim
/-! ### isinstance -/
abbrev TyK := String ⊕ Nat
def Lx.tv (L : Lx) : TyK → Value
  | .inl t => .type t
  | .inr n => .ref (L.cA n)
def D.ck : D → Option TyK
  | .ty n => some (.inl n)
  | .clo n => some (.inr n)
  | _ => none
def D.bk : D → Option String
  | .non => some "NoneType" | .bl _ => some "bool" | .int _ => some "int" | .str _ => some "str" | .tup _ => some "tuple" | .lst _ => some "list" | .dct _ _ => some "dict"
  | _ => none
def isTab (tb : List (String × TyK × Bool)) (te ti : List (Nat × TyK × Bool)) (d c : D) : Option Bool := match c.ck with
  | none => none
  | some k => match d with
    | .exc n _ => (te.find? fun e => decide (e.1 = n) && decide (e.2.1 = k)).map (·.2.2)
    | .ins n _ => (ti.find? fun e => decide (e.1 = n) && decide (e.2.1 = k)).map (·.2.2)
    | d => match d.bk with
      | some t => (tb.find? fun e => decide (e.1 = t) && decide (e.2.1 = k)).map (·.2.2)
      | none => none
def isAny (S : D → Option Bool) : List D → Option Bool
  | [] => some false
  | c :: cs => match S c with
    | some true => some true
    | some false => isAny S cs
    | none => none
def fIsi (S : D → D → Option Bool) : List D → Option D
  | [x, .tup (c :: cs)] => (isAny (S x) (c :: cs)).map .bl
  | [x, .tup []] => none
  | [x, c] => (S x c).map .bl
  | _ => none
/-- what is known of the type of x -/
theorem kit_vw (hK : X.K = L.K) {pins : List (Addr × Obj)} {s : Shared} {v : V} {u : Value} {d : D} {t : String} {σ2 : L2.St} (rp : Rep L Γ g σ H) (I : Inv X pins σ2 H s) (rx : RelV v u) (vx : Vw L g H v d) (e : d.bk = some t) :
    ∃ P : Heap → Prop, PySem.W.KitX X.K u (.type t) P ∧ P s.heap ∧ u ≠ .builtin "__main__.__loader__#opaque" := by
  refine kit_of I rx ?_
  rcases vx with h | ⟨q, vs, ds, rfl, rfl, h1, h2, _⟩ | ⟨q, t, kvs, rfl, rfl, _, hd⟩
  · cases h with
    | non => cases e; exact .base .non
    | bl b => cases e; exact .base (.bl b)
    | int i => cases e; exact .base (.int i)
    | str s => cases e; exact .base (.str s)
    | tup h l =>
      cases e
      rcases h with h | ⟨o, its, m, h, c, _⟩
      · exact .base (.tup (rp.sub _ _ h))
      · exact .kTuple (hK ▸ h) c
    | lst h l => cases e; exact .base (.lst (rp.sub _ _ h))
    | dK h _ _ => cases e; exact .base (.dK (rp.sub _ _ h))
    | dT h _ _ => cases e; exact .base (.dT (rp.sub _ _ h))
    | ins _ _ _ => cases e
    | exc _ _ _ _ => cases e
    | err _ _ => cases e
    | ty _ => cases e
    | clo _ => cases e
    | rnd _ => cases e
    | scr _ => cases e
  · cases e; exact .base (.lst h1)
  · cases e
    rcases hd with ⟨_, _, _, h1, _⟩ | ⟨_, _, _, h1, _⟩
    · exact .base (.dK h1)
    · exact .base (.dT h1)
/-- the type of a value, as isinstance asks of it -/
def KitOf (X : Cx) (s : Shared) (u t : Value) : Prop := ∃ P : Heap → Prop, PySem.W.KitX X.K u t P ∧ P s.heap ∧ u ≠ .builtin "__main__.__loader__#opaque"
/-- an own class whose instances are asked for their class -/
structure InsC (K : PySem.W.Frag) (C : Addr) : Prop where
  cl : Cls K C
  ha : PySem.W.findIn K (.ref C) "__class__" = some (some (.builtin "object.__class__"))
  hn : PySem.W.specialIn K (.builtin "object.__class__") "__get__" = some (some (.builtin "getset_descriptor.__get__"))
  ht : PySem.W.takesIn K (.builtin "object.__class__") = some true
  hm : PySem.W.mroIn K C (.type "object") = some true
structure TabOk (L : Lx) (tb : List (String × TyK × Bool)) (te ti : List (Nat × TyK × Bool)) : Prop where
  b : ∀ e ∈ tb, PySem.W.kitOne L.K (.type e.1) (L.tv e.2.1) = some e.2.2
  e : ∀ e ∈ te, ExcC L.K (L.cA e.1) ∧ PySem.W.kitOne L.K (.ref (L.cA e.1)) (L.tv e.2.1) = some e.2.2
  i : ∀ e ∈ ti, InsC L.K (L.cA e.1) ∧ PySem.W.kitOne L.K (.ref (L.cA e.1)) (L.tv e.2.1) = some e.2.2
/-- the type of x, with all answers of the tables -/
theorem kit_tab {tb : List (String × TyK × Bool)} {te ti : List (Nat × TyK × Bool)} (ok : TabOk L tb te ti) (hK : X.K = L.K) {pins : List (Addr × Obj)} {s : Shared} {v : V} {u : Value} {d : D} {σ2 : L2.St} (rp : Rep L Γ g σ H) (I : Inv X pins σ2 H s) (rx : RelV v u) (vx : Vw L g H v d) :
    (∃ t, KitOf X s u t ∧ ∀ c k b, c.ck = some k → isTab tb te ti d c = some b → PySem.W.kitOne X.K t (L.tv k) = some b) ∨ ∀ c, isTab tb te ti d c = none := by
  by_cases hx : ∃ n y, d = .exc n y
  · obtain ⟨n, y, rfl⟩ := hx
    by_cases hc : ∃ e ∈ te, e.1 = n
    · refine .inl ⟨.ref (L.cA n), ?_, fun c k b hk h => ?_⟩
      · obtain ⟨e, he, rfl⟩ := hc
        have xc := (ok.e e he).1
        rcases vx with h | ⟨_, _, _, _, e, _⟩ | ⟨_, _, _, _, e, _⟩
        · cases h with
          | @exc a d n f v x e1 e2 e3 t =>
            obtain rfl : u = Value.ref a := rx
            obtain ⟨t1, ho⟩ := exo_at I.hok (rp.sub _ _ e1)
            obtain ⟨mA, hns, hr⟩ := exd_at I.hok (rp.sub _ _ e2)
            obtain ⟨od, hod, hl⟩ := lookIn_ns hns
            exact ⟨_, PySem.DLX.kitx_exc (x := a) (od := some od) (hK ▸ xc), ⟨ho, rfl, rfl, hod⟩, fun z => nomatch z⟩
        · cases e
        · cases e
      · unfold isTab at h
        rw [hk] at h
        simp only at h
        obtain ⟨e, h1, rfl⟩ := Option.map_eq_some_iff.mp h
        have h2 := List.find?_some h1
        simp only [Bool.and_eq_true, decide_eq_true_eq] at h2
        have := (ok.e e (List.mem_of_find?_eq_some h1)).2
        rw [h2.1, h2.2] at this
        exact hK ▸ this
    · refine .inr fun c => ?_
      unfold isTab
      split
      · rfl
      · simp only [Option.map_eq_none_iff, List.find?_eq_none, Bool.and_eq_true, decide_eq_true_eq, not_and]
        exact fun e he h => absurd ⟨e, he, h⟩ hc
  · by_cases hy : ∃ n y, d = .ins n y
    · obtain ⟨n, y, rfl⟩ := hy
      by_cases hc : ∃ e ∈ ti, e.1 = n
      · refine .inl ⟨.ref (L.cA n), ?_, fun c k b hk h => ?_⟩
        · obtain ⟨e, he, rfl⟩ := hc
          have xc := (ok.i e he).1
          rcases vx with h | ⟨_, _, _, _, e, _⟩ | ⟨_, _, _, _, e, _⟩
          · cases h with
            | ins e1 e2 e3 => exact kit_of I rx (.base (.ins (rp.sub _ _ e1) (hK ▸ xc.cl) (hK ▸ xc.ha) (hK ▸ xc.hn) (hK ▸ xc.ht) (hK ▸ xc.hm)))
          · cases e
          · cases e
        · unfold isTab at h
          rw [hk] at h
          simp only at h
          obtain ⟨e, h1, rfl⟩ := Option.map_eq_some_iff.mp h
          have h2 := List.find?_some h1
          simp only [Bool.and_eq_true, decide_eq_true_eq] at h2
          have := (ok.i e (List.mem_of_find?_eq_some h1)).2
          rw [h2.1, h2.2] at this
          exact hK ▸ this
      · refine .inr fun c => ?_
        unfold isTab
        split
        · rfl
        · simp only [Option.map_eq_none_iff, List.find?_eq_none, Bool.and_eq_true, decide_eq_true_eq, not_and]
          exact fun e he h => absurd ⟨e, he, h⟩ hc
    have hd : ∀ c k, c.ck = some k → isTab tb te ti d c = match d.bk with
        | some t => (tb.find? fun e => decide (e.1 = t) && decide (e.2.1 = k)).map (·.2.2)
        | none => none := fun c k hk => by
      unfold isTab
      rw [hk]
      cases d <;> first | rfl | exact absurd ⟨_, _, rfl⟩ hx | exact absurd ⟨_, _, rfl⟩ hy
    cases hb : d.bk with
    | none =>
      refine .inr fun c => ?_
      cases hk : c.ck with
      | none => unfold isTab; rw [hk]
      | some k => rw [hd c k hk, hb]
    | some t =>
      refine .inl ⟨.type t, kit_vw hK rp I rx vx hb, fun c k b hk h => ?_⟩
      rw [hd c k hk, hb] at h
      simp only at h
      obtain ⟨e, h1, rfl⟩ := Option.map_eq_some_iff.mp h
      have h2 := List.find?_some h1
      simp only [Bool.and_eq_true, decide_eq_true_eq] at h2
      have := ok.b e (List.mem_of_find?_eq_some h1)
      rw [h2.1, h2.2] at this
      exact hK ▸ this
theorem ck_val {v : V} {u : Value} {c : D} {k : TyK} (h : c.ck = some k) (t : Den L g v c) (r : RelV v u) : u = L.tv k := by
  cases t <;> cases h
  · exact r
  · exact r
theorem tab_ck {tb : List (String × TyK × Bool)} {te ti : List (Nat × TyK × Bool)} {d c : D} {b : Bool} (h : isTab tb te ti d c = some b) : ∃ k, c.ck = some k := by
  unfold isTab at h
  split at h
  · cases h
  · exact ⟨_, by assumption⟩
theorem any_kit {tb : List (String × TyK × Bool)} {te ti : List (Nat × TyK × Bool)} {d : D} {t : Value} (hc : ∀ c k b, c.ck = some k → isTab tb te ti d c = some b → PySem.W.kitOne X.K t (L.tv k) = some b) : ∀ (cs : List D) (vs : List V) (us : List Value) (b : Bool), DenL L g vs cs → Vals vs us → isAny (isTab tb te ti d) cs = some b →
    PySem.W.kitAny X.K t us = some b := fun cs => by
  induction cs with
  | nil =>
    intro vs us b l r h
    cases l
    cases r
    cases h
    exact kitAny_nil
  | cons c cs ih =>
    intro vs us b l r h
    cases l with
    | cons tl l =>
      cases r with
      | cons rv r =>
        unfold isAny at h
        split at h
        · rename_i e
          cases h
          obtain ⟨k, hk⟩ := tab_ck e
          have eu := ck_val hk tl rv
          subst eu
          exact kitAny_cons (hc c k true hk e) (fun z => nomatch z) (fun _ => rfl)
        · rename_i e
          obtain ⟨k, hk⟩ := tab_ck e
          have eu := ck_val hk tl rv
          subst eu
          exact kitAny_cons (hc c k false hk e) (fun _ => ih _ _ b l r h) (fun z => nomatch z)
        · cases h
theorem ca_isi {tb : List (String × TyK × Bool)} {te ti : List (Nat × TyK × Bool)} (ok : TabOk L tb te ti) (hK : X.K = L.K) : CaD L X DenT (.builtin "isinstance") (fIsi (isTab tb te ti)) := by
  intro pins st σ H xs us Q I r ⟨Γ, g, σ', ds, d, rp, vs, e, w⟩
  unfold fIsi at e
  split at e
  · rename_i x c cs
    obtain ⟨b, hb, rfl⟩ := Option.map_eq_some_iff.mp e
    obtain ⟨v1, v2, rfl, a1, a2⟩ := vs.two
    obtain ⟨u1, u2, rfl, r1, r2⟩ := vals2 r
    obtain ⟨q, ws, rfl, h1, l1, _⟩ := a2.tup rp.sub
    cases (show u2 = Value.ref q from r2)
    obtain ⟨its, rv, ⟨o, ho, hc, n, hd⟩, _⟩ := I.tuple (hK ▸ h1)
    rcases kit_tab ok hK rp I r1 a1 with ⟨t, ⟨P, Z, p, hx⟩, hk⟩ | hn
    · obtain ⟨oc, od, dt, sl⟩ := o
      simp only at hc hd
      subst hc hd
      exact PySem.W.kia_tup Z I.kIn p ho (any_kit hk _ _ _ _ l1 rv hb) hx fun tk => ⟨.bl b, H, I.tok tk, rfl, w _ g H (Stp.refl rp) rfl (.bl b)⟩
    · unfold isAny at hb
      rw [hn c] at hb
      cases hb
  · cases e
  · rename_i x c _ _
    obtain ⟨b, hb, rfl⟩ := Option.map_eq_some_iff.mp e
    obtain ⟨v1, v2, rfl, a1, a2⟩ := vs.two
    obtain ⟨u1, u2, rfl, r1, r2⟩ := vals2 r
    obtain ⟨k, hk⟩ := tab_ck hb
    rcases kit_tab ok hK rp I r1 a1 with ⟨t, ⟨P, Z, p, hx⟩, hq⟩ | hn
    · have eu : u2 = L.tv k := by
        rcases a2 with h | ⟨_, _, _, _, e, _⟩ | ⟨_, _, _, _, e, _⟩
        · exact ck_val hk h r2
        · subst e; cases hk
        · subst e; cases hk
      subst eu
      exact PySem.W.kia_one Z I.kIn p (hq c k b hk hb) hx fun tk => ⟨.bl b, H, I.tok tk, rfl, w _ g H (Stp.refl rp) rfl (.bl b)⟩
    · rw [hn c] at hb
      cases hb
  · cases e
/-! ### class names -/
theorem de_own {x : Str} {n : Nat} (hg : Gl X x) (hm : X.mg x = some (.ref (L.cA n))) (hd : (x == ("__debug__" : Str)) = false := by decide) : DE L X (iLit (.clo n)) (.Name x pos) := de_c (pe_glob (v := .ref (L.cA n)) hg hm rfl hd) fun g => .clo n
theorem de_type {x : Str} {t : String} (hg : Gl X x) (hm : X.mg x = none) (hv : bootBuiltins x = some (.type t)) (hn : x ≠ "__name__" := by decide) (hd : (x == ("__debug__" : Str)) = false := by decide) : DE L X (iLit (.ty t)) (.Name x pos) :=
  de_c (pe_bltn (v := .ty t) hg hm hv rfl hn hd) fun g => .ty t
/-! ### repr -/
def D.shw : D → Option PyData
  | .dct _ [] => some (.dict [])
  | d => if d.pl = true then some d.py else none
def fRepr : List D → Option D
  | [d] => match d.shw with
    | some z => if z.showable = true ∧ z.depth ≤ 20 ∧ z.shown.length ≤ sizeLine then some (.str z.shown) else none
    | none => none
  | _ => none
mutual
theorem D.noDict : ∀ d : D, d.pl = true → d.py.hasDict = false
  | .non, _ | .bl _, _ | .int _, _ | .str _, _ => rfl
  | .tup xs, h => by simp only [D.py, PyData.hasDict]; exact D.noDictL xs (by simpa only [D.pl] using h)
  | .lst xs, h => by simp only [D.py, PyData.hasDict]; exact D.noDictL xs (by simpa only [D.pl] using h)
  | .dct _ _, h | .ins _ _, h | .exc _ _, h | .err _ _, h | .ty _, h | .clo _, h | .rnd, h | .scr _, h => by simp only [D.pl] at h; cases h
theorem D.noDictL : ∀ ds : List D, D.plL ds = true → PyData.hasDictAll (D.pyL ds) = false
  | [], _ => rfl
  | x :: r, h => by
    simp only [D.plL, Bool.and_eq_true] at h
    simp only [D.pyL, PyData.hasDictAll, D.noDict x h.1, D.noDictL r h.2, Bool.or_self]
end
theorem vw_reads (hK : X.K = L.K) {pins : List (Addr × Obj)} {s : Shared} {v : V} {u : Value} {d : D} {z : PyData} {σ2 : L2.St} (rp : Rep L Γ g σ H) (I : Inv X pins σ2 H s) (rx : RelV v u) (vx : Vw L g H v d) (h : d.shw = some z) :
    ∃ as, Reads s.heap u z as ∧ (z.hasDict = true → sysModules ∉ as) := by
  unfold D.shw at h
  split at h
  · rename_i t0
    cases h
    have go : ∀ q, (Rd H q (.dK []) ∨ Rd H q (.dT [])) → ∃ as, Reads s.heap (.ref q) (.dict []) as ∧ (sysModules ∉ as) := fun q hq => by
      rcases hq with hq | hq
      · obtain ⟨_, hd, vs, r0, dd⟩ := dk_rd I.hok hq
        cases r0
        obtain ⟨o, es, ep, ho, hx, hdat, _, hp, _⟩ := dd
        obtain ⟨es⟩ := es
        cases hp
        exact ⟨_, Reads.dict ho hx.1 hdat .nil .nil, by simpa using fun z => by rw [← z] at hd; simp at hd⟩
      · obtain ⟨_, hd, xs, r0, o, es, ep, ho, hx, hdat, hp, _⟩ := dt_rd I.hok hq
        cases r0
        obtain ⟨es⟩ := es
        cases (show es = [] from hp)
        exact ⟨_, Reads.dict ho hx.1 hdat .nil .nil, by simpa using fun z => by rw [← z] at hd; simp at hd⟩
    have zl : ∀ {α β γ : Type} {ks : List α} {ws : List γ} {ds : List D} {f : α → D}, ks.length = ws.length → ws.length = ds.length → [] = (ks.map f).zip ds → ks = [] ∧ ws = [] := fun {α β γ ks ws ds f} h1 h2 h3 => by
      cases ks with
      | nil => exact ⟨rfl, List.eq_nil_of_length_eq_zero h1.symm⟩
      | cons k ks =>
        cases ds with
        | nil => rw [h2] at h1; simp at h1
        | cons d ds => simp at h3
    rcases vx with h | ⟨q, vs, ds, rfl, e, h1, h2, _⟩ | ⟨q, t, kvs, rfl, e, _, hd⟩
    · generalize hz : D.dct t0 [] = d at h
      cases h with
      | dK e1 e2 e3 =>
        obtain ⟨rfl, rfl⟩ := zl (β := Nat) e2 e3.length ((D.dct.inj hz).2)
        cases rx
        obtain ⟨as, r, hs⟩ := go _ (.inl (.inl (rp.sub _ _ e1)))
        exact ⟨as, r, fun _ => hs⟩
      | dT e1 e2 e3 =>
        obtain ⟨rfl, rfl⟩ := zl (β := Nat) e2 e3.length ((D.dct.inj hz).2)
        cases rx
        obtain ⟨as, r, hs⟩ := go _ (.inr (.inl (rp.sub _ _ e1)))
        exact ⟨as, r, fun _ => hs⟩
      | _ => cases hz
    · cases e
    · cases e
      cases rx
      rcases hd with ⟨ks, ws, ds, e1, e2, e3, e4⟩ | ⟨ks, ws, ds, e1, e2, e3, e4⟩
      · obtain ⟨rfl, rfl⟩ := zl (β := Nat) e2 e3.length e4.1
        obtain ⟨as, r, hs⟩ := go _ (.inl (.inl e1))
        exact ⟨as, r, fun _ => hs⟩
      · obtain ⟨rfl, rfl⟩ := zl (β := Nat) e2 e3.length e4.1
        obtain ⟨as, r, hs⟩ := go _ (.inr (.inl e1))
        exact ⟨as, r, fun _ => hs⟩
  · split at h
    · rename_i hp
      cases h
      have dp := vx.dp rp.sub hp
      obtain ⟨as, r⟩ := Dp.reads I d.py v u (hK ▸ dp) rx
      refine ⟨as, r, fun q => ?_⟩
      rw [D.noDict d hp] at q
      cases q
    · cases h
theorem ca_repr (hK : X.K = L.K) (hgd : X.A.guards = some []) (hu : X.A.units + 64 < cLine) : CaD L X DenT (.builtin "repr") fRepr := by
  intro pins st σ H xs us Q I r ⟨Γ, g, σ', ds, d, rp, vs, e, w⟩
  unfold fRepr at e
  split at e
  · split at e
    · rename_i z hz
      split at e
      · rename_i hs
        cases e
        obtain ⟨v, rfl, a⟩ := vs.one
        obtain ⟨u, rfl, rv⟩ := vals1 r
        obtain ⟨as, rd, hsm⟩ := vw_reads hK rp I rv a hz
        have fin : ∀ (h' : Heap) (t : Tok) (tk : Nat), (∀ b o, st.heap.get? b = some o → h'.get? b = some o) → EP X pins σ Q (.str z.shown t) { st with heap := h', toks := tk } := fun h' t tk hk =>
          ⟨.str z.shown, H, I.kept (t' := tk) hk, ⟨t, rfl⟩, w _ g H (Stp.refl rp) rfl (.str _)⟩
        have ref : ∀ q, u = .ref q → wpAny (model X.prog X.w) X.A (call (.builtin "repr") [u]) (EP X pins σ Q) X.xe st := fun q hq => by
          subst hq
          exact repr_of_reads' rd hs.1 hsm hgd (by omega) (fun b o e => e) (fun h' t tk hk => fin h' t tk hk) hs.2.2
        cases rd with
        | none => exact PySem.P.repr_of_none (fin _ _ _ fun b o e => e)
        | bool b => exact PySem.P.repr_of_bool (fin _ _ _ fun b o e => e)
        | int i t => exact PySem.P.repr_of_int (of_decide_eq_true hs.1) (fin _ _ _ fun b o e => e)
        | str x t => exact PySem.P.repr_of_str (fin _ _ _ fun b o e => e) hs.2.2
        | list => exact ref _ rfl
        | tuple => exact ref _ rfl
        | dict => exact ref _ rfl
      · cases e
    · cases e
  · cases e
end
end DL
/-! enumerate, {}. -/
namespace DL
open PySem PySem.Spec L2
section
variable {L : Lx} {X : Cx} {g g' : Gh} {H H' H1 : Hp} {σ : L2.St} {Γ : Env} {W : WX} {pos p : Pos} {i : IE}
def enumD (ds : List D) : List D := (List.range ds.length).map fun k => D.tup [.int (k : Nat), ds.getD k .non]
def iiEn (i : IE) : II := fun Γ => (evs [i] Γ).bind fun ds => match ds with
  | [.lst ds] => .ret (enumD ds)
  | _ => .stuck
theorem wk_enum {a : Addr} {vs : List V} {ds : List D} (h : g.F a = some (.lst vs)) (l : DenL L g vs ds) : Wk L (Ite L.K a) g (enumD ds) where
  step := fun i d Γ g' σ H e r f => by
    unfold enumD at e
    rw [List.getElem?_map] at e
    by_cases hi : i < ds.length
    · rw [List.getElem?_range hi] at e
      cases e
      have e2 : ds[i]? = some ds[i] := List.getElem?_eq_getElem hi
      obtain ⟨v, hv, t⟩ := (l.mono f.F f.mu).get e2
      have hH := r.sub _ _ (f.F _ _ h)
      refine ⟨⟨vs, v, .inl (.inl hH), hv⟩, fun x H' ⟨T, y, ex, nT, eH, q⟩ => ?_⟩
      subst ex eH
      have e3 := q vs (.inl (.inl hH))
      rw [hv] at e3
      cases e3
      refine ⟨g'.put T (.tup [.int (i : Nat), v]), stp_put r nT, rfl, .tup (.inl put_F) (.cons (.int _) (.cons ?_ .nil))⟩
      rw [List.getD_eq_getElem?_getD, e2]
      exact t.mono (stp_put (o := .tup [.int (i : Nat), v]) r nT).le (stp_put (o := .tup [.int (i : Nat), v]) r nT).mu
    · rw [List.getElem?_eq_none (by simpa using hi)] at e; cases e
  stop := fun Γ g' σ H r f => ⟨vs, .inl (.inl (r.sub _ _ (f.F _ _ h))), by unfold enumD; rw [List.length_map, List.length_range]; exact Nat.le_of_eq l.length⟩
theorem di_enum (hK : X.K = L.K) {i : IE} {e : Expr} {elts : List Expr} {kk : Nat} {tpos : Pos} (hg : Gl X "enumerate") (hm : X.mg "enumerate" = none) (ha : DA L X [i] [e]) (hs : starEach [e] X.env = [(false, eval e X.env)] := by rfl) :
    DI L X (iiEn i) (.Tuple elts kk tpos) (.Call (.Name "enumerate" p) [e] [] pos) := fun W tk => by
  refine PI.imp (pi_enum hg hm (ha W tk) hs) fun σ H R ⟨Γ, g, r, w⟩ => RdA.go r w fun vs H1 ds g1 r1 s t w => ?_
  split at w
  · rename_i ds
    cases t with
    | cons a l =>
      cases a with
      | lst e l2 =>
        cases l
        exact ⟨_, _, rfl, .inl (.inl (r1.sub _ _ e)), w g1 H1 _ s rfl (hK ▸ wk_enum e l2)⟩
  · exact w.elim
theorem de_dnew : DE L X (iLit (.dct false [])) (.Dict [] [] pos) := fun W tk => PE.imp pe_dnewK fun σ H Q ⟨Γ, g, rp, w⟩ => fun p n => by
  refine w (.ref p) _ _ (stp_put (o := .dK []) rp n) rfl ?_
  exact .dK (ks := []) (vs := []) (ds := []) put_F rfl .nil
def RdOF (L : Lx) (f : D → D → Option D) : R2 := fun x y H Q => ∃ Γ g σ dx dy d, Rep L Γ g σ H ∧ Vw L g H x dx ∧ Vw L g H y dy ∧ f dx dy = some d ∧ Wn L FrT g H Q d g.bud
theorem of_addL : OpR X (binaryOp .Add) (RdOF L fAddL) := by
  intro pins st σ H x y v u Q I rx ry ⟨Γ, g, σ', dx, dy, d, rp, vx, vy, e, w⟩
  unfold fAddL at e
  split at e
  · split at e
    · rename_i z
      cases e
      obtain ⟨a, vs, rfl, h1, l1⟩ := vx.lst rp.sub
      obtain ⟨b, ws, rfl, h2, l2⟩ := vy.lst rp.sub
      refine op_cat pins st σ H _ _ v u Q I rx ry ⟨a, b, vs, ws, rfl, rfl, h1, h2, by rw [l1.length, l2.length]; exact z, fun p n => ?_⟩
      exact w _ _ _ (stp_new rp n false) rfl (FrT.new rp (Stp.refl rp) n (l1.append l2))
    · cases e
  · cases e
theorem df_addL {i j : IE} {a b : Expr} (ha : DV L X i a) (hb : DV L X j b) : DF L X (iOp fAddL i j) (.BinOp a .Add b pos) := fun W tk => PE.imp (pe_op of_addL (ha W tk) (hb W tk)) fun σ H Q ⟨Γ, g, rp, w⟩ => by
  refine Rd1.go rp w fun x H1 dx g1 r1 s1 t1 w => Rd1.go r1 w fun y H2 dy g2 r2 s2 t2 w => ?_
  split at w
  · rename_i d e
    exact ⟨Γ, g2, σ, dx, dy, d, r2, t1.step s2, t2, e, fun v g' H' s eb t => w v g' H' (s1.trans (s2.trans s)) eb (frT_back (s1.trans s2) t)⟩
  · exact w.elim
def fPowI := fII (fun i j => decide (0 ≤ j) && (decide (j ≤ 1000000) && decide (i.natAbs < 2 ^ 64))) fun i j => .int (i ^ j.toNat)
theorem od_powI : OpD L X (binaryOp .Pow) fPowI := opd_ii op_pow (fun _ _ h => by
  simp only [Bool.and_eq_true, decide_eq_true_eq] at h
  exact ⟨h.1, h.2.1, h.2.2⟩) fun _ _ _ => .int _
/-- -e -/
def iNeg (i : IE) : IE := fun Γ => (i Γ).bind fun d => match d with
  | .int z => .ret (.int (-z))
  | _ => .stuck
theorem de_neg {i : IE} {a : Expr} (h : DE L X i a) : DE L X (iNeg i) (.UnaryOp .USub a pos) := fun W tk => PE.imp (pe_un un_neg (h W tk)) fun σ H Q ⟨Γ, g, rp, w⟩ => by
  refine Rd1.go rp w fun x H1 dx g1 r1 s1 t1 w => ?_
  split at w
  · rename_i z
    cases t1
    exact ⟨z, rfl, w _ g1 H1 s1 rfl (.int _)⟩
  · exact w.elim
end
end DL
/-! The end: the law called by the claim's caller. -/
namespace DL
open PySem PySem.Spec PyProof.Rows L2
/-- the promise of a law's def at the entry -/
theorem spd_law {L : Lx} {m : List D → M D} {H : Hp} {a : Addr} {ns : List Int} (hT : L.T = []) (hE : L.er = none) (hS : SqL L.K H a (ns.map V.int)) (hm : (m [.scr ns]).wpB (lim + 1) (fun d _ => d = .bl true) (fun _ _ => False)) :
    SpD L m [.ref a] H (fun v _ => v = .bl true) fun _ _ _ => False := by
  refine ⟨[], ⟨H, none, lim + 1⟩, [], [.scr ns], ⟨fun _ _ e => e, ⟨fun _ => rfl, fun m e => (by cases e)⟩, ⟨fun p hp => (by rw [hT] at hp; cases hp), fun _ _ _ _ h => (by rw [hE] at h; cases h)⟩, fun i b e => (by simp at e), fun i j b c p e => (by simp at e), fun b o e i => ?_, rfl⟩, .cons (.scr hS) .nil, ?_⟩
  · obtain ⟨m, e, _⟩ := i
    cases e
  · refine M.wpB_mono (fun d b e v g' H' s eb t => ?_) (fun _ _ f => f.elim) _ _ hm
    subst e
    cases t
    rfl
theorem law_callG {L : Lx} {P : Program} {w : World} {mg mb : Str → Option Value} {k : Nat} {fa a : Addr} {fd : FuncData} {x : Str} {m : List D → M D} {s₁ : Shared} {vs : List Value} {ns : List Int} (hT : L.T = []) (hE : L.er = none)
    (KX : L.K.In s₁.heap) (hns : s₁.heap.Ns mainGlobals mg) (hb : s₁.heap.Ns builtinsNs mb) (hbb : ∀ x : Str, x ≠ "__name__" → mb x = bootBuiltins x) (hlim : s₁.heap.NoLimit) (hg : s₁.gens = #[])
    (ha : s₁.heap.get? a = some { cls := .type "list", data := .seq vs.toArray }) (hi : IntsAre vs ns) (hl : ns.length ≤ sizeLine) (hr : Room k callerA)
    (F : ∀ base : Heap, L.K.In base → base.Ns mainGlobals mg → FG L P w mg base k fa fd [x] m) (hbind : ∀ (s : Shared) (u : Value), BindsTo s fd ⟨[u], []⟩ [(x, u)])
    (hm : (m [.scr ns]).wpB (lim + 1) (fun d _ => d = .bl true) (fun _ _ => False)) :
    codeAny (model P w) callerA (.call (.ref fa) ⟨[.ref a], []⟩) (fun r s' => r = .ok (.ret (.bool true)) ∧ OldK s₁.heap s'.heap ∧ s'.os = s₁.os ∧ AllBare s'.gens) s₁ := by
  have rv := vals_ints hi
  have core : ∀ H : Hp, Only H → SqL L.K H a (ns.map V.int) → HOk P w H s₁.heap → (∀ b, H b ≠ none → b = a) → (H a ≠ none → L.K.lookup a = none) →
      codeAny (model P w) callerA (.call (.ref fa) ⟨[.ref a], []⟩) (fun r s' => r = .ok (.ret (.bool true)) ∧ OldK s₁.heap s'.heap ∧ s'.os = s₁.os ∧ AllBare s'.gens) s₁ := by
    intro H hO hS hok hA hK
    have here : ∀ {b : Addr}, H b ≠ none → b = a := fun {b} h => hA b h
    have notA : ∀ {b : Addr} {o : Obj} {es : Array DictEntry} {ep : Nat}, s₁.heap.get? b = some o → o.data = .dict es ep → H b = none := fun {b o es ep} e d => by
      by_cases q : H b = none
      · exact q
      · have e' := here q
        subst e'
        rw [ha] at e
        cases e
        have d' : Data.seq vs.toArray _ = Data.dict es ep := d
        cases d'
    have nsK : ∀ {b : Addr} {m : Str → Option Value}, s₁.heap.Ns b m → (hidT s₁.heap H).Ns b m := fun {b m} ⟨o, es, ep, e, d, r⟩ => ⟨o, es, ep, hidT_get e (notA e d), d, r⟩
    have inK : L.K.In (hidT s₁.heap H) := fun b o e => hidT_get (KX b o e) (by
      by_cases q : H b = none
      · exact q
      · have e' := here q
        subst e'
        rw [hK q] at e
        cases e)
    have hM : Mod L.K mg (hidT s₁.heap H) := ⟨inK, nsK hns, ⟨mb, nsK hb, hbb⟩, let ⟨mc, h1, h2⟩ := hlim; ⟨mc, nsK h1, h2⟩⟩
    have e0 : Env0 P w L.K mg (hidT s₁.heap H) callerA [] s₁ H :=
      ⟨rfl, hM, fun b o e => of_hidT e, Nat.le_of_eq (hidT_size _ _), trivial, fun b hb => absurd (show b ∈ ([] : List Addr) from hb) (by simp), hok, .of_eq hg⟩
    refine codeAny_mono ((F _ inK (nsK hns)).go callerA [] s₁ H ⟨[.ref a], []⟩ [.ref a] [.ref a] _ _ hr rfl e0 (hbind s₁ (.ref a)) (.cons rfl .nil) rfl (spd_law hT hE hS hm)) fun r s' h => ?_
    cases r with
    | error e =>
      obtain ⟨_, _, _, _, _, _, _, _, _, _, _, _, z⟩ := h
      exact z.elim
    | ok fl =>
      cases fl with
      | next => exact False.elim h
      | brk => exact False.elim h
      | cont => exact False.elim h
      | ret u =>
        obtain ⟨v, H', os, bare, un, hok', r', q⟩ := h
        have q' : v = .bl true := q
        subst q'
        obtain rfl : u = Value.bool true := r'
        refine ⟨rfl, OldK.of_keep fun b o e => ?_, os, bare⟩
        cases q : H b with
        | none => exact un.keep b o e q (fun z => absurd (show b ∈ ([] : List Addr) from z) (by simp)) (by simp)
        | some u =>
          rcases hO b with z | ⟨ob, xs, z⟩
          · rw [q] at z
            cases z
          · obtain ⟨e1, _⟩ := hok b _ z
            obtain ⟨e2, _⟩ := hok' b _ (un.frzs b ob _ z)
            rw [e] at e1
            cases e1
            exact e2
  have fits : vs.toArray.size ≤ sizeLine := by
    rw [List.size_toArray, hi.length]
    exact hl
  cases hk : L.K.lookup a with
  | some o =>
    have e := KX a o hk
    rw [ha] at e
    cases e
    refine core (fun _ => none) (fun _ => .inl rfl) (.inr ⟨_, vs.toArray, _, hk, rfl, rfl, rfl, fits, by simpa using rv⟩) (fun b u z => ?_) (fun b z => absurd rfl z) fun z => absurd rfl z
    have z' : (none : Option HO) = some u := z
    cases z'
  | none =>
    have at_ : ∀ b, b ≠ a → (if b = a then some (HO.frz { cls := .type "list", data := .seq vs.toArray } (.lst (ns.map V.int))) else none) = none := fun b h => if_neg h
    refine core (fun b => if b = a then some (.frz { cls := .type "list", data := .seq vs.toArray } (.lst (ns.map V.int))) else none) (fun b => ?_) (.inl (.inr ⟨{ cls := .type "list", data := .seq vs.toArray }, if_pos rfl⟩)) (fun b u z => ?_) (fun b z => ?_) fun _ => hk
    · by_cases h : b = a
      · exact .inr ⟨_, _, if_pos h⟩
      · exact .inl (at_ b h)
    · by_cases h : b = a
      · have z' := (if_pos h).symm.trans z
        cases z'
        subst h
        exact ⟨ha, by rw [List.length_map]; exact hl, vs, _, rv, ha⟩
      · exact absurd ((at_ b h).symm.trans z) (by simp)
    · by_cases h : b = a
      · exact h
      · exact absurd (at_ b h) z
end DL
namespace DLH
open PySem PySem.Spec PyProof.Rows L2
/-! ### a hook with conditions of one's own -/
abbrev AlX : Type := Bool × He.AlD
def obsX (n : Nat) (xb : PySem.W.Frag → Bool) (fa : List He.Fa) (fn : List He.DefD) (g : Addr → Option Obj) : AlX := (xb (He.frG g (He.asD g n)), He.obsD fa fn (He.frG g (He.asD g n)))
def hookX (n : Nat) (xb : PySem.W.Frag → Bool) (fa : List He.Fa) (fn : List He.DefD) : PySem.W.Hook where
  α := AlX
  obs := fun s => obsX n xb fa fn s.heap.get?
  val := fun _ => (true, He.valD fn)
  says := fun _ h => ∃ K : PySem.W.Frag, K.In h ∧ xb K = true ∧ He.SaysD fa fn K
  of := fun _ s e => ⟨He.frG s.heap.get? (He.asD s.heap.get? n), He.frG_in, congrArg (fun z : AlX => z.1) e, congrArg (fun z : AlX => z.2) e⟩
  keeps := fun _ _ _ ⟨K, hK, b, c⟩ k => ⟨K, PySem.W.Frag.In.keeps hK k, b, c⟩
theorem obsX_eq {n : Nat} {xb : PySem.W.Frag → Bool} {fa : List He.Fa} {fn : List He.DefD} {g : Addr → Option Obj} {s : Shared} (h : ∀ a, g a = s.heap.get? a) : obsX n xb fa fn g = (hookX n xb fa fn).obs s := by
  have e : g = s.heap.get? := funext h
  rw [e] <;> rfl
theorem fun_of {K : PySem.W.Frag} {x qual : Str} {st : Stmt} {f : Addr} {fd : FuncData} (F : FunD K x qual (defArgs st) (defBody st) (defScope st) [] [] f fd) : Fun K x qual st f fd := by
  obtain ⟨oc, od, dV, kV, doc, pm, an, cdv, ct, osl, rfl, lk, hcd, hD, hK⟩ := F.ex
  rcases hD with ⟨_, rfl⟩ | ⟨e, _⟩
  · exact ⟨⟨oc, od, kV, doc, pm, an, cdv, ct, osl, rfl, lk, hcd⟩, F.kp⟩
  · exact absurd rfl e
/-- what the top must show of an own exception class -/
def exB (K : PySem.W.Frag) (C : Addr) (f : Str) (bm : List Value) (newId : String) : Bool :=
  PySem.W.excInitIn K C bm newId && (PySem.W.excOver K C bm && (decide (PySem.W.takerIn K C f = some none) && (He.eqO (PySem.W.findIn K (.ref C) "__setattr__") (some (some (.builtin "object.__setattr__"))) &&
  (He.eqO (PySem.W.findIn K (.ref C) "__getattribute__") (some (some (.builtin "BaseException.__getattribute__"))) && (He.eqO (PySem.W.findIn K (.ref C) "__getattr__") (some none) && (He.eqO (PySem.W.findIn K (.ref C) f) (some none) &&
  (He.eqO (PySem.W.findIn K (.ref C) "__init__") (some (some (.ref (He.ma K C "__init__")))) && (decide (PySem.W.typeIn K (.ref (He.ma K C "__init__")) = some (.type "function")) && (PySem.W.keepIn K (.ref C) &&
  (decide (PySem.W.subIn K (.ref C) (.type "BaseException") = some true) && (decide (PySem.W.typeIn K (.ref C) = some (.type "type")) && PySem.W.hasDictIn K C)))))))))))
def icB (K : PySem.W.Frag) (C : Addr) : Bool :=
  He.eqO (PySem.W.findIn K (.ref C) "__getattribute__") (some (some (.builtin "BaseException.__getattribute__"))) && (He.eqO (PySem.W.findIn K (.ref C) "__getattr__") (some none) && (decide (PySem.W.subIn K (.ref C) (.type "BaseException") = some true) &&
  (PySem.W.hasDictIn K C && (He.eqO (PySem.W.findIn K (.ref C) "__class__") (some (some (.builtin "object.__class__"))) && (He.eqO (PySem.W.specialIn K (.builtin "object.__class__") "__get__") (some (some (.builtin "getset_descriptor.__get__"))) &&
  (decide (PySem.W.takesIn K (.builtin "object.__class__") = some true) && decide (PySem.W.mroIn K C (.type "object") = some true)))))))
theorem icB_ok {K : PySem.W.Frag} {C : Addr} (h : icB K C = true) : ExcC K C := by
  obtain ⟨h1, h⟩ := He.ba h
  obtain ⟨h2, h⟩ := He.ba h
  obtain ⟨h3, h⟩ := He.ba h
  obtain ⟨h4, h⟩ := He.ba h
  obtain ⟨h5, h⟩ := He.ba h
  obtain ⟨h6, h⟩ := He.ba h
  obtain ⟨h7, h8⟩ := He.ba h
  exact ⟨He.eqO_ok h1, He.eqO_ok h2, of_decide_eq_true h3, h4, He.eqO_ok h5, He.eqO_ok h6, of_decide_eq_true h7, of_decide_eq_true h8⟩
theorem exB_ok {K : PySem.W.Frag} {C : Addr} {f qn : Str} {B newId initId : String} {bm : List Value} {fd : FuncData} {p1 p2 q1 q2 q3 q4 : Pos} (FB : ExcBaseFacts B newId initId bm) (SF : StoreFacts B bm "object.__setattr__" "object") (h : exB K C f bm newId = true)
    (hf : f = "value" ∨ f = "place" ∨ f = "line" ∨ f = "most") (hqn : qn.length ≤ 200) (F : FunD K "__init__" qn (PySem.DLX.xA f p1 p2) (PySem.DLX.xB f q1 q2 q3 q4) (PySem.DLX.xS f) [] [] (He.ma K C "__init__") fd) :
    PySem.DLX.ExT K C (He.ma K C "__init__") f qn B newId initId bm := by
  obtain ⟨h1, h⟩ := He.ba h
  obtain ⟨h2, h⟩ := He.ba h
  obtain ⟨h3, h⟩ := He.ba h
  obtain ⟨h4, h⟩ := He.ba h
  obtain ⟨h5, h⟩ := He.ba h
  obtain ⟨h6, h⟩ := He.ba h
  obtain ⟨h7, h⟩ := He.ba h
  obtain ⟨h8, h⟩ := He.ba h
  obtain ⟨h9, h⟩ := He.ba h
  obtain ⟨h10, h⟩ := He.ba h
  obtain ⟨h11, h⟩ := He.ba h
  obtain ⟨h12, h13⟩ := He.ba h
  obtain ⟨oc, od, dV, kV, doc, pm, an, cdv, ct, osl, rfl, lk, hcd, hD, hK⟩ := F.ex
  rcases hD with ⟨_, rfl⟩ | ⟨e, _⟩
  · exact ⟨FB, SF, h1, h2, of_decide_eq_true h3, He.eqO_ok h4, He.eqO_ok h5, He.eqO_ok h6, He.eqO_ok h7, He.eqO_ok h8, of_decide_eq_true h9, h10, of_decide_eq_true h11, of_decide_eq_true h12, h13, hf, hqn, ⟨oc, od, kV, doc, pm, an, cdv, ct, osl, p1, p2, q1, q2, q3, q4, lk, hcd⟩⟩
  · exact absurd rfl e
end DLH
/-! raise of an own exception. -/
namespace DL
open PySem PySem.Spec L2
section
variable {L : Lx} {X : Cx} {g g' : Gh} {H H' H1 : Hp} {σ : L2.St} {Γ : Env} {W : WX} {pos p : Pos} {i : IE}
variable {C fI : Addr} {f qn : Str} {B newId initId : String} {bmB : List Value} {n : Nat} {x : Str} {a : Expr}
/-- C(e), to be raised: the exception let go, its dict tracked -/
def tMkx (f : Str) (C : Addr) (ta : TA) : St → Hp → XK → Prop := fun σ H Q => ta σ H fun vs H1 => ∃ v, vs = [v] ∧ ∀ d, H1 d = none → Q (.ref C) (some d) (upd H1 d (.xd [(f, v)]))
theorem pmk_x {ta : TA} (T : PySem.DLX.ExT X.K C fI f qn B newId initId bmB) (hr : X.A.depth + 1 < recursionLimit) (hg : Gl X x) (gC : X.mg x = some (.ref C)) (ha : PA X [a] ta)
    (hdb : (x == ("__debug__" : Str)) = false := by decide) (he : starEach (a :: []) X.env = (false, eval a X.env) :: starEach [] X.env := by rfl) (hpl : (backTo pos (starEach [] X.env)).any (·.1) = false := by rfl) :
    PMk X (.Call (.Name x p) [a] [] pos) (tMkx f C ta) := by
  intro pins s σ H Q I h
  refine wpAny_Call_Name_kw (ld_glob I hg gC ?_ hdb)
  refine PySem.W.callWith_K (h₀ := X.base) I.ok.mod.kin T.kC (thn (ha.run pos pins s σ H _ I h) fun us s1 ⟨vs, H1, I1, r1, v, ev, q1⟩ => ⟨I1.kIn, ?_⟩) he hpl
  subst ev
  cases r1 with
  | @cons _ v' _ us' rv rn =>
    cases rn
    have hlim := I1.nolimit
    obtain ⟨hp, gg, dr, tk, os⟩ := s1
    show wpAny _ _ (call (.ref C) [v']) _ _ _
    refine wpAny_call (PySem.DLX.x_made T false I1.kIn hlim hr fun h' tk' e d t1 M => ?_)
    show MkP X pins σ Q (.ref e) ⟨h', gg, dr, tk', os⟩
    obtain ⟨G, k1, k2⟩ := restrict h' fun b => decide (b ≠ e)
    have gk : ∀ b, b ≠ e → G.get? b = h'.get? b := fun b hb => k1 b (decide_eq_true hb)
    have ge : G.get? e = none := k2 e (by simp)
    have lt : ∀ {b : Addr} {o : Obj}, hp.get? b = some o → b ≠ e := fun {b o} q => Nat.ne_of_lt (Nat.lt_of_lt_of_le (Heap.lt_size q) M.new)
    have ob : ObjOk X.prog X.w (upd H1 d (.xd [(f, v)])) G d (.xd [(f, v)]) := ⟨_, M.ns.at (fun o q => (gk d M.dne).trans q), relO_put (fs := []) rv fun g => True.intro⟩
    have J : Inv X pins σ (upd H1 d (.xd [(f, v)])) ⟨G, gg, dr, tk', os⟩ := I1.laid (t' := tk') (fun b o q => (gk b (lt q)).trans (M.keep b o q)) M.dbig ob
    refine ⟨e, _, _, ⟨G, gg, dr, tk', os⟩, _, .ref C, some d, rfl, J, fun b o q => ?_, ge, M.obj, ⟨rfl, rfl⟩, rfl, rfl, ?_, rfl, I1.bare, raises_own T.exC T.tyC, q1 d (I1.hok.fresh M.dbig)⟩
    · by_cases hb : b = e
      · have q' : G.get? b = some o := q
        rw [hb, ge] at q'
        cases q'
      · exact (gk b hb).symm.trans q
    · rw [upd_ne (Ne.symm M.dne)]
      exact I1.hok.fresh M.new
/-- raise C(e) -/
def sRaise (n : Nat) (i : IE) : IS := fun Γ => (i Γ).bind fun d => .exc ⟨n, d⟩
theorem ds_raise {pos2 : Pos} (hc : X.calm = true) (T : PySem.DLX.ExT X.K C fI f qn B newId initId bmB) (hC : L.cA n = C) (hf : L.cF n = [f]) (hr : X.A.depth + 1 < recursionLimit) (hg : Gl X x) (gC : X.mg x = some (.ref C)) (h : DE L X i a)
    (hdb : (x == ("__debug__" : Str)) = false := by decide) (he : starEach (a :: []) X.env = (false, eval a X.env) :: starEach [] X.env := by rfl) (hpl : (backTo pos (starEach [] X.env)).any (·.1) = false := by rfl) :
    DS L X (sRaise n i) (.Raise (some (.Call (.Name x p) [a] [] pos)) none pos2) := fun W g0 H0 tk => by
  refine PS.imp (ps_raise hc tk (pmk_x T hr hg gC (pa_cons (h W tk) pa_nil he) hdb he hpl)) fun Dn σ H ⟨Γ, g, r, w⟩ => Rd1.goS r w fun v H1 d g1 r1 s t w => ⟨v, rfl, fun da nd => ?_⟩
  have s2 := stp_new (o := .xd [(f, v)]) r1.rep nd false
  exact w (.ref C) (some da) g1 σ _ (r1.base.trans s2) rfl ⟨by rw [← hC], da, f, v, rfl, hf, upd_same, t⟩
end
end DL
/-! try with several clauses, each with a name or without one. -/
namespace L2
open PySem PySem.Spec PyProof.Rows
abbrev SuT := Addr → Value → Option Addr → TS
/-- the ends of a suite whose error stood in slot i -/
def Ends.bare (D : Ends) (i : Nat) : Ends := { nx := fun σ H => D.nx (σ.set i none) H, rt := D.rt, bk := fun σ H => D.bk (σ.set i none) H, ct := fun σ H => D.ct (σ.set i none) H }
def suAt (o : Option Nat) (ts : SuT) (D : Ends) (cls : Value) (d : Option Addr) (σ : St) (H : Hp) (a : Addr) : Prop := match o with
  | none => ts a cls d D σ H
  | some i => ts a cls d (D.bare i) (σ.set i (some (.ref a))) H
def wEach (K : PySem.W.Frag) (Wout : WX) (D : Ends) : List (Value × Option Nat × SuT) → WX
  | [] => Wout
  | (c, o, ts) :: r => fun cls d σ H => ∃ b, PySem.W.exmOne K cls c = some b ∧ (b = true → ∀ a, H a = none → suAt o ts D cls d σ H a) ∧ (b = false → wEach K Wout D r cls d σ H)
inductive HdE (X : Cx) : List ExceptHandler → List (Value × Option Nat × SuT) → Prop
  | nil : HdE X [] []
  | one {x : Str} {c : Value} {ts : SuT} {b₀ : Stmt} {suite : List Stmt} {np pos' : Pos} {hds : List ExceptHandler} {l : List (Value × Option Nat × SuT)} (hc : Names X x c)
      (su : ∀ (a : Addr) (oe : Obj) (cls : Value) (d : Option Addr) (pn : List (Addr × Obj)), Zc cls d oe → (∃ vs, oe.data = .fields vs) → PSs (X.suite a ((a, oe) :: pn)) (b₀ :: suite) (ts a cls d)) (r : HdE X hds l) :
      HdE X (.ExceptHandler (some (.Name x np)) none (b₀ :: suite) pos' :: hds) ((c, none, ts) :: l)
  | as {x n : Str} {i : Nat} {c : Value} {ts : SuT} {b₀ : Stmt} {suite : List Stmt} {np pos' : Pos} {hds : List ExceptHandler} {l : List (Value × Option Nat × SuT)} (hc : Names X x c) (hi : X.N[i]? = some n) (hln : X.env.kindOf n = some .local)
      (su : ∀ (a : Addr) (oe : Obj) (cls : Value) (d : Option Addr) (pn : List (Addr × Obj)), Zc cls d oe → (∃ vs, oe.data = .fields vs) → PSs (X.suite a ((a, oe) :: pn)) (b₀ :: suite) (ts a cls d)) (r : HdE X hds l) :
      HdE X (.ExceptHandler (some (.Name x np)) (some n) (b₀ :: suite) pos' :: hds) ((c, some i, ts) :: l)
section
variable {X : Cx} {body : List Stmt} {h₀ : ExceptHandler} {hds : List ExceptHandler} {l : List (Value × Option Nat × SuT)} {pos : Pos} {tb : WX → TS} {Wout : WX}
theorem ps_tryE (hs : X.stack = X.env :: X.outer) (hf : X.env.frame = some X.env.locals) (hN : X.N.Nodup) (tk : Takes X Wout)
    (hb : ∀ (W : WX) (pn : List (Addr × Obj)) (xe : Value → Shared → Prop), Takes (X.tr pn xe) W → PassesOwn (model X.prog X.w) X.A X.env xe → PSs (X.tr pn xe) body (tb W))
    (hh : HdE X (h₀ :: hds) l) : PS X (.Try body (h₀ :: hds) [] [] pos) (fun D σ H => tb (wEach X.K Wout D l) D σ H) := by
  refine ⟨fun pins s σ H D I h => ?_⟩
  have ok := I.ok
  have fr : X.A.frames = some (X.env :: X.outer) := by rw [ok.frames, hs]
  refine wpAny_Try_except ?_
  refine wpAny_mono ((hb (wEach X.K Wout D l) (X.pn ++ pins) (fun e s₁ => wpAny (model X.prog X.w) X.A (noteFrame e X.env) (fun _ s₂ => wpAny (model X.prog X.w) X.A (setFlight e none) (fun _ s₃ =>
    wpAny (model X.prog X.w) X.A (handleBy e X.env (h₀ :: hds)) (SP X pins D) X.xe s₃) X.xe s₂) X.xe s₁) (fun u t xx => ?_) PassesOwn.looking).run [] s σ H D (I.toTry _) h) (fun f t hsp => ?_) (fun _ _ he => he)
  · obtain ⟨a, B, sB, pinsB, τ, HB, cls, d, rfl, JT, nb, up, sky, na, os, ag, w⟩ := xx
    have J : Inv X pins τ HB sB := JT.ofTry ok
    have sky2 : Sky B (X.env :: X.outer) a (Zc cls d) X.env.locals t.heap := by rw [← hs]; exact sky
    show wpAny (model X.prog X.w) X.A (noteFrame (.ref a) X.env) _ _ _
    refine Sky.land Zc.steady fr hf sky2 fun h3 fl3 up3 => ?_
    have J3 : Inv X pins τ HB { t with heap := h3 } := J.landed nb fl3.1 (up.trans up3) os ag
    obtain ⟨o3, vs3, g3, z3, d3⟩ := fl3.there
    have apart : a ∉ frs (X.env :: X.outer) := fun hm => by
      obtain ⟨_, o', e', hnf⟩ := fl3.2.2.1.mem hm
      rw [g3] at e'
      cases e'
      exact hnf _ d3
    have nL : a ≠ X.env.locals := fun z => apart (List.mem_filterMap.mpr ⟨X.env, List.mem_cons_self, by rw [hf, z]⟩)
    have nF : a ∉ X.fs := fun hm => by
      obtain ⟨e, he, q⟩ := List.mem_filterMap.mp hm
      exact apart (List.mem_filterMap.mpr ⟨e, List.mem_cons_of_mem _ he, q⟩)
    have S3 := J3.suite g3 d3 na nL nF
    have LT : PySem.W.Looks (model X.prog X.w) h3 (typeOf (.ref a)) cls := fun A Q E s k q => wpAny_typeOf_ref (k _ _ g3) (by rw [z3.1]; exact q)
    have named : ∀ {x : Str} {c : Value} {np : Pos} {Q : Value → Shared → Prop} {E : Value → Shared → Prop}, Names X x c → Q c { t with heap := h3 } →
        wpAny (model X.prog X.w) (X.A.mark (some (.ref a))) (eval (.Name x np) X.env) Q E { t with heap := h3 } := fun {x c np Q E} hc q => by
      obtain ⟨hg, hdbg, hm | ⟨hm, hv, hnn⟩⟩ := hc
      · exact ld_glob (X := X.suite a ((a, o3) :: (X.pn ++ pins))) S3 hg hm q hdbg
      · exact ld_blt (X := X.suite a ((a, o3) :: (X.pn ++ pins))) S3 hg hm hv q hnn hdbg
    have go : ∀ {hds' : List ExceptHandler} {l' : List (Value × Option Nat × SuT)}, HdE X hds' l' → wEach X.K Wout D l' cls d τ HB →
        wpAny (model X.prog X.w) X.A (handleBy (.ref a) X.env hds') (SP X pins D) X.xe { t with heap := h3 } := by
      intro hds' l' hk
      induction hk with
      | nil =>
        intro w
        refine wpAny_handleBy_nil ?_
        obtain ⟨k1, k2, k3, oe, vs, T, oT, tz, he, hz, hd, h1, hr⟩ := id fl3
        unfold PySem.passOn
        refine wpAny_bind (wpAny_field he hd h1 ?_)
        rw [if_neg (show ¬ ((Value.ref T == Value.none) = true) from by simp)]
        have fin : wpAny (model X.prog X.w) X.A (setFlight (.ref a) X.env.frame) (fun _ s4 => wpAny (model X.prog X.w) X.A (throw (.ref a) : Sem Flow) (SP X pins D) X.xe s4) X.xe { t with heap := h3 } := by
          rw [hf]
          refine HandSPX.setFlight_upZ fl3 fun h4 up5 up4 => wpAny_throw (tk _ _ ?_)
          exact ⟨a, B, sB, pins, τ, HB, cls, d, rfl, J, nb, (up.trans up3).trans up4, .inr (.inr (by rw [hs]; exact up5)), na, os, ag, w⟩
        first
          | exact wpAny_bind (wpAny_pure (wpAny_bind fin))
          | exact wpAny_bind fin
      | @one x c ts b₀ suite np pos' hds2 l2 hc su r ih =>
        intro w
        obtain ⟨b, hb1, yes, no⟩ := w
        refine wpAny_handleBy_cons (codeAny_handlers_test ?_) (by intro q; cases q)
        refine named hc ((PySem.W.exm_one (M := model X.prog X.w) J3.kIn LT hb1).here ?_)
        cases b with
        | false => exact ih (no rfl)
        | true =>
          refine codeAny_handlers_suite ?_
          refine HandSPX.lands_againZ fl3 fun h4 fl4 up4 => ?_
          obtain ⟨o4, vs4, g4, z4, d4⟩ := fl4.there
          have S4 := (J.landed (s' := { t with heap := h4 }) nb fl4.1 ((up.trans up3).trans up4) os ag).suite g4 d4 na nL nF
          refine wpAny_mono ((su a o4 cls d (X.pn ++ pins) z4 ⟨_, d4⟩).run [] _ _ HB _ S4 (yes rfl a na)) (fun f s6 hsp => ?_) (fun _ _ z => False.elim z)
          cases f with
          | ret u =>
            obtain ⟨v6, σ6, H6, S6, r6, q6⟩ := hsp
            exact ⟨_, _, _, S6.unsuite ok, r6, q6⟩
          | next => obtain ⟨σ6, H6, S6, q6⟩ := hsp; exact ⟨_, _, S6.unsuite ok, q6⟩
          | brk => obtain ⟨σ6, H6, S6, q6⟩ := hsp; exact ⟨_, _, S6.unsuite ok, q6⟩
          | cont => obtain ⟨σ6, H6, S6, q6⟩ := hsp; exact ⟨_, _, S6.unsuite ok, q6⟩
      | @as x n i c ts b₀ suite np pos' hds2 l2 hc hi hln su r ih =>
        intro w
        obtain ⟨b, hb1, yes, no⟩ := w
        refine wpAny_handleBy_cons (codeAny_handlers_test ?_) (by intro q; cases q)
        refine named hc ((PySem.W.exm_one (M := model X.prog X.w) J3.kIn LT hb1).here ?_)
        cases b with
        | false => exact ih (no rfl)
        | true =>
          refine codeAny_handlers_suite_as ?_
          refine HandSPX.lands_againZ fl3 fun h4 fl4 up4 => ?_
          obtain ⟨o4, vs4, g4, z4, d4⟩ := fl4.there
          have S4 := (J.landed (s' := { t with heap := h4 }) nb fl4.1 ((up.trans up3).trans up4) os ag).suite g4 d4 na nL nF
          refine store_ok (X := X.suite a ((a, o4) :: (X.pn ++ pins))) (v := .ref a) S4 hN hi (.inl hln) rfl (fun s5 S5 => ?_) (.inr hln)
          refine wpAny_mono ((su a o4 cls d (X.pn ++ pins) z4 ⟨_, d4⟩).run [] s5 _ HB _ S5 (yes rfl a na)) (fun f s6 hsp => ?_) (fun _ _ z => False.elim z)
          have fine : ∀ {σ6 : St} {H6 : Hp} {Q : Shared → Prop}, Inv (X.suite a ((a, o4) :: (X.pn ++ pins))) [] σ6 H6 s6 → (∀ s7, Inv X pins (σ6.set i none) H6 s7 → Q s7) →
              wpAny (model X.prog X.w) X.A (do bindName X.env n .none; unbindBehindTheSuite X.env n pos') (fun _ s7 => Q s7) X.xe s6 := fun {σ6 H6 Q} S6 hq => gone_ok (S6.unsuite ok) hN hi hln hq
          cases f with
          | ret u =>
            obtain ⟨v6, σ6, H6, S6, r6, q6⟩ := hsp
            exact fine S6 fun s7 J7 => ⟨_, _, _, J7, r6, q6⟩
          | next => obtain ⟨σ6, H6, S6, q6⟩ := hsp; exact fine S6 fun s7 J7 => ⟨_, _, J7, q6⟩
          | brk => obtain ⟨σ6, H6, S6, q6⟩ := hsp; exact fine S6 fun s7 J7 => ⟨_, _, J7, q6⟩
          | cont => obtain ⟨σ6, H6, S6, q6⟩ := hsp; exact fine S6 fun s7 J7 => ⟨_, _, J7, q6⟩
    exact go hh w
  · cases f with
    | ret u =>
      obtain ⟨v, τ, HB, JT, r, q⟩ := hsp
      exact ⟨v, τ, HB, JT.ofTry ok, r, q⟩
    | next => obtain ⟨τ, HB, JT, q⟩ := hsp; exact wpAny_execs_nil ⟨τ, HB, JT.ofTry ok, q⟩
    | brk => obtain ⟨τ, HB, JT, q⟩ := hsp; exact ⟨τ, HB, JT.ofTry ok, q⟩
    | cont => obtain ⟨τ, HB, JT, q⟩ := hsp; exact ⟨τ, HB, JT.ofTry ok, q⟩
end
end L2
/-! Fields of instances; what is done with a run that raises. -/
namespace DL
open PySem PySem.Spec L2
theorem lookup_zip {f : Str} {v : V} : ∀ {ns : List Str} {vs : List V} {j : Nat}, ns.Nodup → ns[j]? = some f → vs[j]? = some v → (ns.zip vs).lookup f = some v := fun {ns} => by
  induction ns with
  | nil => intro vs j _ h; simp at h
  | cons n ns ih =>
    intro vs j nd h1 h2
    cases vs with
    | nil => simp at h2
    | cons w vs =>
      rw [List.zip_cons_cons, List.lookup_cons]
      cases j with
      | zero =>
        simp only [List.getElem?_cons_zero, Option.some.injEq] at h1 h2
        subst h1 h2
        simp
      | succ j =>
        simp only [List.getElem?_cons_succ] at h1 h2
        have nd2 := List.nodup_cons.mp nd
        have hm : f ∈ ns := List.mem_of_getElem? h1
        have e : (f == n) = false := by
          rw [beq_eq_false_iff_ne]
          intro z
          exact nd2.1 (z ▸ hm)
        rw [e]
        exact ih nd2.2 h1 h2
section
variable {L : Lx} {X : Cx} {g g' : Gh} {H H' : Hp} {σ : L2.St} {Γ : Env} {W : WX} {pos : Pos} {i : IE} {f : Str}
/-- x.f of an instance: at_ tells where the field stands in the class's list -/
def iFld (at_ : Nat → Option Nat) (i : IE) : IE := fun Γ => (i Γ).bind fun d => match d with
  | .ins n ds => match at_ n with
    | some j => match ds[j]? with
      | some d => .ret d
      | none => .stuck
    | none => .stuck
  | _ => .stuck
theorem de_fld {at_ : Nat → Option Nat} {e : Expr} (h : DE L X i e) (hK : X.K = L.K) (hx : ∀ n j, at_ n = some j → (L.cF n).Nodup ∧ (L.cF n)[j]? = some f ∧ Cls L.K (L.cA n) ∧ NoAttr L.K (L.cA n) f)
    (hb : attributeBase e f X.env (eval e X.env) = eval e X.env := by rfl) : DE L X (iFld at_ i) (.Attribute e f pos) := fun W tk => PE.imp (pe_fld (h W tk) hb) fun σ H Q ⟨Γ, g, rp, w⟩ => by
  refine Rd1.go rp w fun v H1 d g1 r1 s t w => ?_
  split at w
  · rename_i n ds
    split at w
    · rename_i j hj
      split at w
      · rename_i d hd
        obtain ⟨h1, h2, h3, h4⟩ := hx n j hj
        cases t with
        | ins e1 e2 l =>
          obtain ⟨v, hv, t⟩ := l.get hd
          exact ⟨_, _, _, _, v, rfl, r1.sub _ _ e1, hK ▸ h3, hK ▸ h4, lookup_zip h1 h2 hv, w v g1 H1 s rfl t⟩
      · exact w.elim
    · exact w.elim
  · exact w.elim
end
namespace M
/-- a run, its value handed on, its exception caught -/
def tryM {α β : Type} : M α → (α → M β) → (Ex → M β) → M β
  | ret a, f, _ => f a
  | exc x, _, h => h x
  | stuck, _, _ => stuck
  | choose n k, f, h => choose n fun i => (k i).tryM f h
  | begun k, f, h => begun (k.tryM f h)
theorem wpB_try {α β : Type} {Q : β → Nat → Prop} {E : Ex → Nat → Prop} {f : α → M β} {h : Ex → M β} : ∀ (m : M α) (b : Nat), (m.tryM f h).wpB b Q E ↔ m.wpB b (fun a c => (f a).wpB c Q E) (fun x c => (h x).wpB c Q E)
  | ret _, _ => Iff.rfl
  | exc _, _ => Iff.rfl
  | stuck, _ => Iff.rfl
  | choose _ _, 0 => Iff.rfl
  | choose _ k, b + 1 => forall_congr' fun i => forall_congr' fun _ => wpB_try (k i) b
  | begun k, _ => and_congr_right' (wpB_try k lim)
end M
end DL
/-! try at the level of data. -/
namespace DL
open PySem PySem.Spec L2
/-- with a held error -/
def Lx.at (L : Lx) (a : Addr) (n : Nat) (d : Addr) (u : V) : Lx := { L with er := some (a, n, d, u) }
mutual
def D.noErr : D → Bool
  | .non | .bl _ | .int _ | .str _ => true
  | .tup xs | .lst xs => D.noErrL xs
  | .dct _ _ | .ins _ _ | .exc _ _ | .err _ _ | .ty _ | .clo _ | .rnd | .scr _ => false
def D.noErrL : List D → Bool
  | [] => true
  | x :: r => D.noErr x && D.noErrL r
end
section
variable {L : Lx} {g g' : Gh} {H H' : Hp} {σ : L2.St} {Γ : Env} {ea ed : Addr} {en : Nat} {eu : V}
mutual
theorem Den.up (h0 : L.er = none) : ∀ {v : V} {d : D}, Den L g v d → Den (L.at ea en ed eu) g v d
  | _, _, .non => .non
  | _, _, .bl b => .bl b
  | _, _, .int i => .int i
  | _, _, .str s => .str s
  | _, _, .tup e l => .tup e (DenL.up h0 l)
  | _, _, .lst e l => .lst e (DenL.up h0 l)
  | _, _, .dK e z l => .dK e z (DenL.up h0 l)
  | _, _, .dT e z l => .dT e z (DenL.up h0 l)
  | _, _, .ins (c := c) (n := n) e z l => .ins (L := L.at ea en ed eu) (c := c) (n := n) e z (DenL.up h0 l)
  | _, _, .exc (n := n) a b c l => .exc (L := L.at ea en ed eu) (n := n) a b c (Den.up h0 l)
  | _, _, .err a _ => by rw [h0] at a; cases a
  | _, _, .ty n => .ty n
  | _, _, .clo n => .clo (L := L.at ea en ed eu) n
  | _, _, .rnd e => .rnd e
  | _, _, .scr e => .scr e
theorem DenL.up (h0 : L.er = none) : ∀ {vs : List V} {ds : List D}, DenL L g vs ds → DenL (L.at ea en ed eu) g vs ds
  | _, _, .nil => .nil
  | _, _, .cons a l => .cons (Den.up h0 a) (DenL.up h0 l)
end
mutual
theorem Den.drop : ∀ {v : V} {d : D}, Den (L.at ea en ed eu) g v d → d.noErr = true → Den L g v d
  | _, _, .non, _ => .non
  | _, _, .bl b, _ => .bl b
  | _, _, .int i, _ => .int i
  | _, _, .str s, _ => .str s
  | _, _, .tup e l, h => .tup e (DenL.dropE l (by simpa only [D.noErr] using h))
  | _, _, .lst e l, h => .lst e (DenL.dropE l (by simpa only [D.noErr] using h))
  | _, _, .dK _ _ _, h => by simp only [D.noErr] at h; cases h
  | _, _, .dT _ _ _, h => by simp only [D.noErr] at h; cases h
  | _, _, .ins _ _ _, h => by simp only [D.noErr] at h; cases h
  | _, _, .exc _ _ _ _, h => by simp only [D.noErr] at h; cases h
  | _, _, .err _ _, h => by simp only [D.noErr] at h; cases h
  | _, _, .ty _, h => by simp only [D.noErr] at h; cases h
  | _, _, .clo _, h => by simp only [D.noErr] at h; cases h
  | _, _, .rnd _, h => by simp only [D.noErr] at h; cases h
  | _, _, .scr _, h => by simp only [D.noErr] at h; cases h
theorem DenL.dropE : ∀ {vs : List V} {ds : List D}, DenL (L.at ea en ed eu) g vs ds → D.noErrL ds = true → DenL L g vs ds
  | _, _, .nil, _ => .nil
  | _, _, .cons a l, h => by
    simp only [D.noErrL, Bool.and_eq_true] at h
    exact .cons (Den.drop a h.1) (DenL.dropE l h.2)
end
theorem DctAt.up (h0 : L.er = none) {p : Addr} {t : Bool} {kvs : List (D × D)} (h : DctAt L g H p t kvs) : DctAt (L.at ea en ed eu) g H p t kvs := by
  rcases h with ⟨ks, vs, ds, h1, h2, h3, h4⟩ | ⟨ks, vs, ds, h1, h2, h3, h4⟩
  · exact .inl ⟨ks, vs, ds, h1, h2, h3.up h0, h4⟩
  · exact .inr ⟨ks, vs, ds, h1, h2, h3.up h0, h4⟩
theorem Bind1.up (h0 : L.er = none) {x : Option V} {b : B} (h : Bind1 L g H x b) : Bind1 (L.at ea en ed eu) g H x b := by
  cases b with
  | fz d => obtain ⟨v, e, h⟩ := h; exact ⟨v, e, h.up h0⟩
  | ol ds => obtain ⟨p, vs, e, hp, hd, r⟩ := h; exact ⟨p, vs, e, hp, hd.up h0, r⟩
  | od t kvs => obtain ⟨p, e, h1, h2, hd⟩ := h; exact ⟨p, e, h1, h2, hd.up h0⟩
  | os n fs => obtain ⟨p, dx, vs, e, es, h1, hd, r⟩ := h; exact ⟨p, dx, vs, e, es, h1, hd.up h0, r⟩
theorem Rep.up (h0 : L.er = none) {f : Str} (hf : L.cF en = [f]) (hd : H ed = some (.xd [(f, eu)])) (r : Rep L Γ g σ H) : Rep (L.at ea en ed eu) Γ g σ H :=
  ⟨r.sub, r.rnd, ⟨r.tab.1, fun a n d u e => by cases e; exact ⟨f, hf, hd⟩⟩, fun i b e => let ⟨x, e1, h⟩ := r.loc i b e; ⟨x, e1, h.up h0⟩, r.dis, r.nF, r.len⟩
theorem Stp.drop (h0 : L.er = none) (s : Stp (L.at ea en ed eu) g H g' H') : Stp L g H g' H' :=
  ⟨s.le, s.mu, s.sub, s.keep, s.nf, s.nm, s.rnd, s.bud, ⟨s.tab.1, fun a n d u e => by rw [h0] at e; cases e⟩⟩
end
section
variable {L : Lx} {X : Cx} {g0 g g' : Gh} {H0 H H' : Hp} {σ : L2.St} {Γ : Env} {W : WX} {pos : Pos}
/-- a suite that returns -/
def tsX (L : Lx) (i : IE) : SuT := fun a cls d D σ H => ∃ n dd u, cls = .ref (L.cA n) ∧ d = some dd ∧ tRet (Rd1 (L.at a n dd u) DenT (fun _ _ _ _ => False) i) D σ H
abbrev Cl : Type := Nat × Option Nat × IE
def Cl.su (L : Lx) (c : Cl) : Value × Option Nat × SuT := (.ref (L.cA c.1), c.2.1, tsX L c.2.2)
/-- what a suite's expression must be read to do -/
def DSu (L : Lx) (X : Cx) (i : IE) (e : Expr) : Prop := ∀ (a : Addr) (oe : Obj) (cls : Value) (d : Option Addr) (pn : List (Addr × Obj)), Zc cls d oe → (∃ vs, oe.data = .fields vs) → ∀ n dd u, cls = .ref (L.cA n) → d = some dd → DE (L.at a n dd u) (X.suite a ((a, oe) :: pn)) i e
theorem su_ret {i : IE} {e : Expr} {p : Pos} (h : DSu L X i e) (a : Addr) (oe : Obj) (cls : Value) (d : Option Addr) (pn : List (Addr × Obj)) (hz : Zc cls d oe) (hf : ∃ vs, oe.data = .fields vs) : PSs (X.suite a ((a, oe) :: pn)) [.Return (some e) p] (tsX L i a cls d) := by
  refine ⟨fun pins s σ H D I ⟨n, dd, u, h1, h2, q⟩ => ?_⟩
  exact (pss_one (ps_ret (h a oe cls d pn hz hf n dd u h1 h2 _ LamX.takes0))).run pins s σ H D I q
/-- the clauses' run -/
def clRun (sub : Nat → Nat → Option Bool) : List Cl → Ex → Env → M Fl
  | [], x, _ => .exc x
  | (k, o, i) :: r, x, Γ => match sub x.c k with
    | some true => (i (match o with
      | some j => Γ.set j (some (.fz (.err x.c x.v)))
      | none => Γ)).noX.bind fun d => if d.noErr = true then .ret (.rt d) else .stuck
    | some false => clRun sub r x Γ
    | none => .stuck
theorem cl_wish {sub : Nat → Nat → Option Bool} (hsub : ∀ n k b, sub n k = some b → PySem.W.exmOne L.K (.ref (L.cA n)) (.ref (L.cA k)) = some b) (h0 : L.er = none) {Dn : Ends} {x : Ex} {b : Nat} (r : RepS L g0 H0 Γ g σ H) : ∀ (cl : List Cl),
    (clRun sub cl x Γ).wpB b (FlT L g0 H0 g Dn) (XS L W g0 H0) → XW L (wEach L.K W Dn (cl.map (Cl.su L))) g σ H x b := fun cl => by
  induction cl with
  | nil => intro w cls d g' H' s e ea; exact w cls d g' σ H' (r.base.trans s) e ea
  | cons c cl ih =>
    obtain ⟨k, o, i⟩ := c
    intro w cls d g' H' s e ea
    unfold clRun at w
    split at w
    · rename_i hs
      obtain ⟨hc, da, f, v, hd, hf, hda, hv⟩ := id ea
      refine ⟨true, hc ▸ hsub _ _ _ hs, fun _ a na => ?_, fun z => Bool.noConfusion z⟩
      subst e
      have base := r.base.trans s
      have rp : Rep (L.at a x.c da v) Γ g' σ H' := (r.rep.step s).up h0 hf hda
      have fin : ∀ (Γ' : Env) (σ' : L2.St) (D' : Ends), (∀ v H, D'.rt v H = Dn.rt v H) → Rep (L.at a x.c da v) Γ' g' σ' H' → ((i Γ').noX.bind fun d => if d.noErr = true then M.ret (Fl.rt d) else M.stuck).wpB g'.bud (FlT L g0 H0 g Dn) (XS L W g0 H0) → tsX L i a cls d D' σ' H' := fun Γ' σ' D' hD rp' w' => by
        refine ⟨x.c, da, v, hc, hd, Γ', g', rp', M.wpB_mono (fun dd c w2 u g2 H2 s2 e2 t2 => ?_) (fun _ _ z => z) _ _ (M.wpB_noX _ _ ((M.wpB_bind _ _).mp w'))⟩
        split at w2
        · rename_i hn
          rw [hD]
          exact w2 g2 u H2 (base.trans (s2.drop h0)) e2 (t2.drop hn)
        · exact w2.elim
      cases o with
      | none => exact fin Γ σ Dn (fun _ _ => rfl) rp w
      | some j => exact fin _ _ (Dn.bare j) (fun _ _ => rfl) (rp.set (.err rfl (hv.up h0))) w
    · rename_i hs
      obtain ⟨hc, _⟩ := id ea
      exact ⟨false, hc ▸ hsub _ _ _ hs, fun z => Bool.noConfusion z, fun _ => ih w cls d g' H' s e ea⟩
    · exact w.elim
/-- try: x = e / except .. -/
def sTrySet (sub : Nat → Nat → Option Bool) (n : Nat) (i : IE) (cl : List Cl) : IS := fun Γ => (i Γ).tryM (fun d => .ret (.nx (Γ.set n (some (.fz d))))) fun x => clRun sub cl x Γ
/-- try: return e / except .. -/
def sTryRet (sub : Nat → Nat → Option Bool) (i : IE) (cl : List Cl) : IS := fun Γ => (i Γ).tryM (fun d => .ret (.rt d)) fun x => clRun sub cl x Γ
variable {sub : Nat → Nat → Option Bool} {i : IE} {e : Expr} {cl : List Cl} {h₀ : ExceptHandler} {hds : List ExceptHandler}
theorem ds_trySet {n : Nat} {x : Str} {px ps : Pos} (hK : X.K = L.K) (h0 : L.er = none) (hs : X.stack = X.env :: X.outer) (hf : X.env.frame = some X.env.locals) (hN : X.N.Nodup) (hi : X.N[n]? = some x) (hx : Loc X.env.scope x)
    (hsub : ∀ n k b, sub n k = some b → PySem.W.exmOne L.K (.ref (L.cA n)) (.ref (L.cA k)) = some b)
    (h : ∀ (pn : List (Addr × Obj)) (xe : Value → Shared → Prop), PassesOwn (model X.prog X.w) X.A X.env xe → DE L (X.tr pn xe) i e) (hh : HdE X (h₀ :: hds) (cl.map (Cl.su L)))
    (hsw : swapsWith e (some (.Name x px)) ps.line X.env = pure false := by rfl) (hfn : X.fn x = true ∨ X.env.scope.names.lookup x = some .local := by first | exact .inl rfl | exact .inr rfl) :
    DS L X (sTrySet sub n i cl) (.Try [.Assign [.Name x px] e ps] (h₀ :: hds) [] [] pos) := fun W g0 H0 tk => by
  refine PS.imp (ps_tryE (tb := fun W => tAsg (Rd1 L DenT W i) (gName n)) hs hf hN tk (fun W' pn xe tk' pa => pss_one (ps_set (X := X.tr pn xe) hN hi hx (h pn xe pa W' tk') hsw hfn)) hh) fun Dn σ H ⟨Γ, g, r, w⟩ => ?_
  refine ⟨Γ, g, r.rep, M.wpB_mono (fun d b k v g' H' s eb t => ?_) (fun x b k => hK ▸ cl_wish hsub h0 r cl k) _ _ ((M.wpB_try _ _).mp w)⟩
  exact k g' _ H' ((r.step s).set t) s.fle eb
theorem ds_tryRet {ps : Pos} (hK : X.K = L.K) (h0 : L.er = none) (hs : X.stack = X.env :: X.outer) (hf : X.env.frame = some X.env.locals) (hN : X.N.Nodup)
    (hsub : ∀ n k b, sub n k = some b → PySem.W.exmOne L.K (.ref (L.cA n)) (.ref (L.cA k)) = some b)
    (h : ∀ (pn : List (Addr × Obj)) (xe : Value → Shared → Prop), PassesOwn (model X.prog X.w) X.A X.env xe → DE L (X.tr pn xe) i e) (hh : HdE X (h₀ :: hds) (cl.map (Cl.su L))) :
    DS L X (sTryRet sub i cl) (.Try [.Return (some e) ps] (h₀ :: hds) [] [] pos) := fun W g0 H0 tk => by
  refine PS.imp (ps_tryE (tb := fun W => tRet (Rd1 L DenT W i)) hs hf hN tk (fun W' pn xe tk' pa => pss_one (ps_ret (h pn xe pa W' tk'))) hh) fun Dn σ H ⟨Γ, g, r, w⟩ => ?_
  refine ⟨Γ, g, r.rep, M.wpB_mono (fun d b k v g' H' s eb t => ?_) (fun x b k => hK ▸ cl_wish hsub h0 r cl k) _ _ ((M.wpB_try _ _).mp w)⟩
  exact k g' v H' (r.base.trans s) eb t
theorem hd_nil : HdE X [] (([] : List Cl).map (Cl.su L)) := .nil
theorem hd_as {x n : Str} {j k : Nat} {np pos' p : Pos} (hc : Names X x (.ref (L.cA k))) (hi : X.N[j]? = some n) (hln : X.env.kindOf n = some .local) (h : DSu L X i e) (r : HdE X hds (cl.map (Cl.su L))) :
    HdE X (.ExceptHandler (some (.Name x np)) (some n) [.Return (some e) p] pos' :: hds) (((k, some j, i) :: cl).map (Cl.su L)) := .as hc hi hln (su_ret h) r
theorem hd_one {x : Str} {k : Nat} {np pos' p : Pos} (hc : Names X x (.ref (L.cA k))) (h : DSu L X i e) (r : HdE X hds (cl.map (Cl.su L))) :
    HdE X (.ExceptHandler (some (.Name x np)) none [.Return (some e) p] pos' :: hds) (((k, none, i) :: cl).map (Cl.su L)) := .one hc (su_ret h) r
/-- e.f of the held error -/
def iErr (ok : Nat → Bool) (j : Nat) : IE := fun Γ => match Γ[j]? with
  | some (some (.fz (.err n x))) => if ok n = true then .ret x else .stuck
  | _ => .stuck
theorem de_err {ok : Nat → Bool} {j : Nat} {f n : Str} {np : Pos} {a : Addr} {oe : Obj} {cls : Value} {d : Option Addr} {pn : List (Addr × Obj)} {m : Nat} {dd : Addr} {u : V} (hz : Zc cls d oe) (hf : ∃ vs, oe.data = .fields vs) (hc : cls = .ref (L.cA m)) (hd : d = some dd) (hK : X.K = L.K)
    (hx : ∀ n, ok n = true → L.cF n = [f] ∧ XfC L.K (L.cA n) ∧ PySem.W.findIn L.K (.ref (L.cA n)) f = some none) (hv : PE (X.suite a ((a, oe) :: pn)) (.Name n np) (tVar j))
    (hb : attributeBase (.Name n np) f X.env (eval (.Name n np) X.env) = eval (.Name n np) X.env := by rfl) : DE (L.at a m dd u) (X.suite a ((a, oe) :: pn)) (iErr ok j) (.Attribute (.Name n np) f pos) := fun W tk => by
  by_cases ho : ok m = true
  · obtain ⟨h1, h2, h3⟩ := hx m ho
    refine PE.imp (pe_xf (hK ▸ h2) (hK ▸ h3) hz hf hv hb) fun σ H Q ⟨Γ, g, rp, w⟩ => ?_
    unfold iErr at w
    split at w
    · rename_i n' x e
      split at w
      · obtain ⟨y, e1, v, e2, t⟩ := rp.loc _ _ e
        subst e2
        cases t with
        | err q t =>
          cases q
          obtain ⟨f', h4, h5⟩ := rp.tab.2 _ _ _ _ rfl
          have h6 : L.cF m = [f'] := h4
          rw [h1] at h6
          cases h6
          exact ⟨_, e1, rfl, hc, dd, _, u, hd, h5, by simp [List.lookup], w u g H (Stp.refl rp) rfl t⟩
      · exact w.elim
    · exact w.elim
  · refine ⟨fun pins s σ H Q I ⟨Γ, g, rp, w⟩ => ?_⟩
    unfold iErr at w
    split at w
    · rename_i n' x e
      obtain ⟨y, e1, v, e2, t⟩ := rp.loc _ _ e
      cases t with
      | err q t =>
        cases q
        rw [if_neg ho] at w
        exact w.elim
    · exact w.elim
end
end DL
/-! An instance while it is made. -/
namespace DL
open PySem PySem.Spec L2
section
variable {L : Lx} {X : Cx} {g0 g g' : Gh} {H0 H H' : Hp} {σ σ' : L2.St} {Γ Γ' : Env} {W : WX} {pos : Pos} {C dx p : Addr} {fs fs' : List (Str × V)}
theorem inM_ins {mu : Option Addr} {a : Addr} (h : InM mu (upd H p (.ins C dx fs)) a) : InM mu H a := by
  obtain ⟨m, e, h⟩ := h
  refine ⟨m, e, ?_⟩
  rcases h with h | ⟨kvs, k, e4, hm⟩
  · exact .inl h
  · have q : m ≠ p := fun z => by rw [z, upd_same] at e4; cases e4
    rw [upd_ne q] at e4
    exact .inr ⟨kvs, k, e4, hm⟩
theorem stp_ins {gs : Gh} {Hs : Hp} (s : Stp L gs Hs g H) (n : Hs p = none) (h1 : H p = some (.ins C dx fs)) (h3 : g.F p = none) (h4 : ¬ InM g.mu H p) : Stp L gs Hs g (upd H p (.ins C dx fs')) := by
  have ne : ∀ a, Hs a ≠ none → a ≠ p := fun a h z => h (by rw [z]; exact n)
  refine ⟨s.le, s.mu, fun a o e => ?_, fun a o e nt nm => ?_, fun a h => ?_, fun a o e i => s.nm a o e (inM_ins i), ⟨s.rnd.1, fun m e => ?_⟩, s.bud, ⟨fun q hq => ?_, fun ea en ed eu he => ?_⟩⟩
  · have q : a ≠ p := fun z => by rw [z, h3] at e; cases e
    rw [upd_ne q]; exact s.sub a o e
  · obtain ⟨e1, m1⟩ := s.keep a o e nt nm
    rw [upd_ne (ne a (by rw [e]; simp))]
    exact ⟨e1, fun i => m1 (inM_ins i)⟩
  · rw [upd_ne (ne a h)]; exact s.nf a h
  · obtain ⟨c, l, cs, ls, at_, e1, e2, e3, r⟩ := s.rnd.2 m e
    have q : ∀ a, InM g.mu H a → a ≠ p := fun a i z => h4 (z ▸ i)
    have em : upd H p (.ins C dx fs') m = H m := upd_ne (q m ⟨m, e, .inl rfl⟩)
    have ec : upd H p (.ins C dx fs') c = H c := upd_ne (q c ⟨m, e, .inr ⟨_, Sum.inr "cells", e1, by simp⟩⟩)
    have el : upd H p (.ins C dx fs') l = H l := upd_ne (q l ⟨m, e, .inr ⟨_, Sum.inr "left", e1, by simp⟩⟩)
    exact ⟨c, l, cs, ls, at_, em.trans e1, ec.trans e2, el.trans e3, r⟩
  · obtain ⟨ps, e1, e2, e3⟩ := s.tab.1 q hq
    have n1 : q.1 ≠ p := fun z => by rw [z, h1] at e1; cases e1
    refine ⟨ps, by rw [upd_ne n1]; exact e1, e2, fun pos cv hc => ?_⟩
    obtain ⟨c, z1, z2⟩ := e3 pos cv hc
    have n2 : c ≠ p := fun z => by rw [z, h1] at z2; unfold LamX.CodeO at z2; cases z2
    exact ⟨c, z1, by rw [upd_ne n2]; exact z2⟩
  · obtain ⟨f, e1, e2⟩ := s.tab.2 ea en ed eu he
    have n1 : ed ≠ p := fun z => by rw [z, h1] at e2; cases e2
    exact ⟨f, e1, by rw [upd_ne n1]; exact e2⟩
/-- a field of the instance that is made is given -/
theorem RepS.updI {n c : Nat} {ds ds' : List (Str × D)} {vs vs' : List V} (r : RepS L g0 H0 Γ g σ H) (en : Γ[n]? = some (some (.os c ds))) (esf : L.sf = some p) (es : σ[n]? = some (some (.ref p))) (h1 : H p = some (.ins (L.cA c) dx ((ds.map (·.1)).zip vs))) (h3 : g.F p = none) (h4 : ¬ InM g.mu H p)
    (l : DenL L g vs' (ds'.map (·.2))) : RepS L g0 H0 (Γ.set n (some (.os c ds'))) g σ (L2.upd H p (.ins (L.cA c) dx ((ds'.map (·.1)).zip vs'))) := by
  have n0 : H0 p = none := r.new n _ p en rfl es
  have hl : n < Γ.length := (List.getElem?_eq_some_iff.mp en).1
  have s := stp_ins (fs' := (ds'.map (·.1)).zip vs') r.base n0 h1 h3 h4
  have at_ : ∀ (i : Nat) (b : B), (Γ.set n (some (.os c ds')))[i]? = some (some b) → (i = n ∧ b = .os c ds') ∨ (i ≠ n ∧ Γ[i]? = some (some b)) := fun i b e => by
    by_cases h : i = n
    · subst h
      rw [List.getElem?_set_self hl] at e
      cases e
      exact .inl ⟨rfl, rfl⟩
    · rw [List.getElem?_set_ne (Ne.symm h)] at e
      exact .inr ⟨h, e⟩
  have f : ∀ (i : Nat) (b : B), (Γ.set n (some (.os c ds')))[i]? = some (some b) → b.own = true → ∃ b', Γ[i]? = some (some b') ∧ b'.own = true := fun i b e o => by
    rcases at_ i b e with ⟨rfl, rfl⟩ | ⟨_, e⟩
    · exact ⟨_, en, rfl⟩
    · exact ⟨b, e, o⟩
  refine ⟨⟨s.sub, s.rnd, s.tab, fun i b e => ?_, fun i j b c q e1 e2 o1 o2 s1 s2 => ?_, s.nm, by rw [List.length_set]; exact r.rep.len⟩, s, fun i b q e o sq => ?_⟩
  · rcases at_ i b e with ⟨rfl, rfl⟩ | ⟨hi, e⟩
    · exact ⟨_, es, p, dx, vs', rfl, esf, upd_same, l, h3, fun z => h4 (inM_ins z)⟩
    · obtain ⟨x, ex, hb⟩ := r.rep.loc i b e
      refine ⟨x, ex, ?_⟩
      cases b with
      | fz d => exact hb
      | ol es' =>
        obtain ⟨q, ws, rfl, a1, a2, a3, a4⟩ := hb
        have nq : q ≠ p := fun z => hi (r.rep.dis i n _ _ p e en rfl rfl (z ▸ ex) es)
        exact ⟨q, ws, rfl, by rw [upd_ne nq]; exact a1, a2, a3, fun z => a4 (inM_ins z)⟩
      | od t kvs =>
        obtain ⟨q, rfl, a1, a2, a3⟩ := hb
        have nq : q ≠ p := fun z => hi (r.rep.dis i n _ _ p e en rfl rfl (z ▸ ex) es)
        exact ⟨q, rfl, a1, fun z => a2 (inM_ins z), a3.step (upd_ne nq) (fun _ _ e => e) fun _ e => e⟩
      | os m fs =>
        obtain ⟨q, dy, ws, rfl, sq, a1, a2, a3, a4⟩ := hb
        have nq : q ≠ p := fun z => hi (r.rep.dis i n _ _ p e en rfl rfl (z ▸ ex) es)
        exact ⟨q, dy, ws, rfl, sq, by rw [upd_ne nq]; exact a1, a2, a3, fun z => a4 (inM_ins z)⟩
  · obtain ⟨b', e1', o1'⟩ := f i b e1 o1
    obtain ⟨c', e2', o2'⟩ := f j c e2 o2
    exact r.rep.dis i j b' c' q e1' e2' o1' o2' s1 s2
  · obtain ⟨b', e', o'⟩ := f i b e o
    exact r.new i b' q e' o' sq
theorem zip_snoc {f : Str} {v : V} : ∀ {ns : List Str} {vs : List V}, ns.length = vs.length → (ns ++ [f]).zip (vs ++ [v]) = ns.zip vs ++ [(f, v)] := fun {ns vs} h => List.zip_append h
theorem zip_names : ∀ {ns : List Str} {vs : List V}, ns.length = vs.length → (ns.zip vs).map (·.1) = ns := fun {ns} => by
  induction ns with
  | nil => intro vs _; rfl
  | cons n ns ih =>
    intro vs h
    cases vs with
    | nil => simp at h
    | cons v vs => rw [List.zip_cons_cons, List.map_cons, ih (by simpa using h)]
/-- self.f = e, self at slot n -/
def sSelf (ok : Nat → Bool) (n : Nat) (f : Str) (i : IE) : IS := fun Γ => (i Γ).bind fun d => match Γ[n]? with
  | some (some (.os c fs)) => if ok c = true ∧ f ∉ fs.map (·.1) ∧ fs.length < 1000 then .ret (.nx (Γ.set n (some (.os c (fs ++ [(f, d)]))))) else .stuck
  | _ => .stuck
theorem putF_new {f : Str} {v : V} : ∀ {fs : List (Str × V)}, f ∉ fs.map (·.1) → putF f v fs = fs ++ [(f, v)] := fun {fs} => by
  induction fs with
  | nil => intro _; rfl
  | cons q fs ih =>
    obtain ⟨n, y⟩ := q
    intro h
    rw [List.map_cons, List.mem_cons, not_or] at h
    unfold putF
    rw [if_neg (fun z => h.1 z.symm), ih h.2]
    rfl
theorem ds_self {ok : Nat → Bool} {n : Nat} {f sn : Str} {sp p1 : Pos} {i : IE} {e : Expr} (hK : X.K = L.K) (hx : ∀ c, ok c = true → Cls L.K (L.cA c) ∧ NoAttr L.K (L.cA c) f) (hv : PE X (.Name sn sp) (tVar n)) (h : DE L X i e)
    (hs : swapsWith e (some (.Attribute (.Name sn sp) f p1)) pos.line X.env = pure false := by rfl) : DS L X (sSelf ok n f i) (.Assign [.Attribute (.Name sn sp) f p1] e pos) := fun W g0 H0 tk => by
  refine PS.imp (ps_fld hv (h W tk) hs) fun Dn σ H ⟨Γ, g, r, w⟩ => Rd1.goS r w fun v H1 d g1 r1 s t w => ?_
  split at w
  · rename_i c fs en
    split at w
    · rename_i hc
      obtain ⟨x, es, p, dx, vs, e2, sq, h1, hd, h3, h4⟩ := r1.rep.loc _ _ en
      subst e2
      obtain ⟨k1, k2⟩ := hx c hc.1
      have hl : (fs.map (·.1)).length = vs.length := by rw [hd.length, List.length_map, List.length_map]
      have ep : putF f v ((fs.map (·.1)).zip vs) = ((fs ++ [(f, d)]).map (·.1)).zip (vs ++ [v]) := by
        rw [putF_new (by rw [zip_names hl]; exact hc.2.1), List.map_append, List.map_cons, List.map_nil, zip_snoc hl]
      refine ⟨.ref p, es, p, L.cA c, dx, _, rfl, h1, hK ▸ k1, hK ▸ k2, ?_, ?_⟩
      · rw [List.length_zip, ← hl, Nat.min_self, List.length_map]
        exact hc.2.2
      · rw [ep]
        exact w g1 σ _ (r1.updI en sq es h1 h3 h4 (by rw [List.map_append]; exact hd.append (.cons t .nil))) s.fle rfl
    · exact w.elim
  · exact w.elim
end
end DL
/-! An __init__, a class called. -/
namespace DL
open PySem PySem.Spec L2
/-- an __init__'s run: what stands in self behind it -/
def runIn (n : Nat) (body : IS) (c : Nat) (ds : List D) : M (List (Str × D)) := (body (some (.os c []) :: env0 (n - 1) ds)).bind fun (fl : Fl) => match fl with
  | .nx Γ => match (Γ[0]? : Option (Option B)) with
    | some (some (.os c' fs)) => if c' = c then .ret fs else .stuck
    | _ => .stuck
  | _ => .stuck
def Lx.ms (L : Lx) (a : Addr) : Lx := { L with sf := some a }
section
variable {L : Lx} {g : Gh} {H : Hp} {σ : L2.St} {a : Addr}
mutual
theorem Den.toMk : ∀ {v : V} {d : D}, Den L g v d → Den (L.ms a) g v d
  | _, _, .non => .non
  | _, _, .bl b => .bl b
  | _, _, .int i => .int i
  | _, _, .str s => .str s
  | _, _, .tup e l => .tup e (DenL.toMk l)
  | _, _, .lst e l => .lst e (DenL.toMk l)
  | _, _, .dK e z l => .dK e z (DenL.toMk l)
  | _, _, .dT e z l => .dT e z (DenL.toMk l)
  | _, _, .ins (c := c) (n := n) e z l => .ins (L := L.ms a) (c := c) (n := n) e z (DenL.toMk l)
  | _, _, .exc (n := n) p q r l => .exc (L := L.ms a) (n := n) p q r (Den.toMk l)
  | _, _, .err (n := n) p l => .err (L := L.ms a) (n := n) p (Den.toMk l)
  | _, _, .ty n => .ty n
  | _, _, .clo n => .clo (L := L.ms a) n
  | _, _, .rnd e => .rnd e
  | _, _, .scr e => .scr e
theorem DenL.toMk : ∀ {vs : List V} {ds : List D}, DenL L g vs ds → DenL (L.ms a) g vs ds
  | _, _, .nil => .nil
  | _, _, .cons p l => .cons (Den.toMk p) (DenL.toMk l)
end
mutual
theorem Den.ofMk : ∀ {v : V} {d : D}, Den (L.ms a) g v d → Den L g v d
  | _, _, .non => .non
  | _, _, .bl b => .bl b
  | _, _, .int i => .int i
  | _, _, .str s => .str s
  | _, _, .tup e l => .tup e (DenL.ofMk l)
  | _, _, .lst e l => .lst e (DenL.ofMk l)
  | _, _, .dK e z l => .dK e z (DenL.ofMk l)
  | _, _, .dT e z l => .dT e z (DenL.ofMk l)
  | _, _, .ins (c := c) (n := n) e z l => .ins (L := L) (c := c) (n := n) e z (DenL.ofMk l)
  | _, _, .exc (n := n) p q r l => .exc (L := L) (n := n) p q r (Den.ofMk l)
  | _, _, .err (n := n) p l => .err (L := L) (n := n) p (Den.ofMk l)
  | _, _, .ty n => .ty n
  | _, _, .clo n => .clo (L := L) n
  | _, _, .rnd e => .rnd e
  | _, _, .scr e => .scr e
theorem DenL.ofMk : ∀ {vs : List V} {ds : List D}, DenL (L.ms a) g vs ds → DenL L g vs ds
  | _, _, .nil => .nil
  | _, _, .cons p l => .cons (Den.ofMk p) (DenL.ofMk l)
end
theorem Stp.toMk {g' : Gh} {H' : Hp} (s : Stp L g H g' H') : Stp (L.ms a) g H g' H' := ⟨s.le, s.mu, s.sub, s.keep, s.nf, s.nm, s.rnd, s.bud, s.tab⟩
theorem Stp.ofMk {g' : Gh} {H' : Hp} (s : Stp (L.ms a) g H g' H') : Stp L g H g' H' := ⟨s.le, s.mu, s.sub, s.keep, s.nf, s.nm, s.rnd, s.bud, s.tab⟩
end
section
variable {L : Lx} {X : Cx} {gB g g' : Gh} {HB H H' : Hp} {σ : L2.St} {Γ : Env} {W : WX} {pos : Pos}
/-- a run begins where nothing is known of the slots -/
theorem Rep.bare (r : Rep L Γ g σ H) : Rep L [] g [] H := ⟨r.sub, r.rnd, r.tab, fun i b e => (by simp at e), fun i j b c p e => (by simp at e), r.nF, rfl⟩
/-- an own instance of class c at a, with the fields fs, new since (gB, HB) -/
structure Own (L : Lx) (gB : Gh) (HB : Hp) (g : Gh) (H : Hp) (a : Addr) (c : Nat) (fs : List (Str × D)) : Prop where
  st : Stp L gB HB g H
  new : HB a = none
  ins : ∃ dx vs, H a = some (.ins (L.cA c) dx ((fs.map (·.1)).zip vs)) ∧ DenL L g vs (fs.map (·.2))
  nF : g.F a = none
  nM : ¬ InM g.mu H a
def SpI (L : Lx) (c : Nat) (m : List D → M (List (Str × D))) (vs : List V) (H : Hp) (Q : VK) (E : XK) : Prop := ∃ gB HB Γ g σ ds a vs', vs = V.ref a :: vs' ∧ Rep L Γ g σ H ∧ Own L gB HB g H a c [] ∧ DenL L g vs' ds ∧
  (m ds).wpB g.bud (fun fs b => ∀ g' H', g'.bud = b → Own L gB HB g' H' a c fs → Q .non H') (XF L E gB HB)
structure FGI (L : Lx) (P : Program) (w : World) (mg : Str → Option Value) (base : Heap) (k : Nat) (f : Addr) (fd : FuncData) (ps : List Str) (c : Nat) (m : List D → M (List (Str × D))) : Prop where
  go : ∀ (A : Around) (outer : List PySem.Env) (s : Shared) (H : Hp) (args : Args) (us : List Value) (vs : List V) (Q : VK) (E : XK), Room k A → A.guards = some [] → Env0 P w L.K mg base A outer s H → BindsTo s fd args (ps.zip us) → Vals vs us → us.length = ps.length → SpI L c m vs H Q E →
    codeAny (model P w) A (.call (.ref f) args) (CR (L2.CX P w) outer P w H s Q E) s
theorem own_start {N : List Str} {ds : List D} {vs : List V} {a : Addr} {c : Nat} (r : Rep L Γ g σ H) (o : Own L gB HB g H a c []) (l : DenL L g vs ds) (hn : vs.length + 1 ≤ N.length) :
    RepS (L.ms a) gB HB (some (.os c []) :: env0 (N.length - 1) ds) g (L2.start N (.ref a :: vs)) H := by
  have at_ : ∀ (i : Nat) (b : B), (some (.os c []) :: env0 (N.length - 1) ds)[i]? = some (some b) → (i = 0 ∧ b = .os c []) ∨ ∃ j d, i = j + 1 ∧ ds[j]? = some d ∧ b = .fz d := fun i b e => by
    cases i with
    | zero => cases e; exact .inl ⟨rfl, rfl⟩
    | succ i =>
      rw [List.getElem?_cons_succ] at e
      unfold env0 at e
      by_cases h : i < ds.length
      · rw [List.getElem?_append_left (by simpa using h), List.getElem?_map] at e
        cases q : ds[i]? with
        | none => rw [q] at e; cases e
        | some d => rw [q] at e; cases e; exact .inr ⟨i, d, rfl, q, rfl⟩
      · rw [List.getElem?_append_right (by simpa using h), List.getElem?_replicate] at e
        split at e <;> cases e
  obtain ⟨dx, ws, h1, h2⟩ := o.ins
  refine ⟨⟨r.sub, r.rnd, r.tab, fun i b e => ?_, fun i j b c p e1 e2 o1 o2 s1 s2 => ?_, r.nF, ?_⟩, o.st.toMk, fun i b p e ob s => ?_⟩
  · rcases at_ i b e with ⟨rfl, rfl⟩ | ⟨j, d, rfl, hd, rfl⟩
    · exact ⟨some (.ref a), rfl, a, dx, ws, rfl, rfl, h1, h2.toMk, o.nF, o.nM⟩
    · obtain ⟨v, hv, t⟩ := l.get hd
      refine ⟨some v, ?_, v, rfl, t.toMk⟩
      unfold L2.start
      rw [List.getElem?_append_left (by rw [List.length_map, List.length_cons]; exact Nat.succ_lt_succ (List.getElem?_eq_some_iff.mp hv).1), List.getElem?_map, List.getElem?_cons_succ, hv]
      rfl
  · rcases at_ i b e1 with ⟨rfl, rfl⟩ | ⟨_, _, _, _, rfl⟩
    · rcases at_ j c e2 with ⟨rfl, rfl⟩ | ⟨_, _, _, _, rfl⟩
      · rfl
      · cases o2
    · cases o1
  · unfold env0 L2.start
    rw [List.length_cons, List.length_append, List.length_append, List.length_map, List.length_map, List.length_replicate, List.length_replicate, List.length_cons, l.length]
    have := l.length
    omega
  · rcases at_ i b e with ⟨rfl, rfl⟩ | ⟨_, _, _, _, rfl⟩
    · cases s
      exact o.new
    · cases ob
theorem fgi_of {P : Program} {w : World} {mg : Str → Option Value} {base : Heap} {x qual : Str} {st : Stmt} {f : Addr} {fd : FuncData} {N ps : List Str} {k c : Nat} {body : IS} (F : Fun L.K x qual st f fd) (S : FnScope N ps (defScope st))
    (hb : ∀ (a : Addr) (cdv : Value) (A : Around) (outer : List PySem.Env) (s : Shared) (H : Hp) (E : XK), Room k (A.deeper (PyProof.Rows.envOfC qual (defScope st) s.heap.objs.size f cdv)) → A.guards = some [] →
      DSs (L.ms a) (cxOf (L2.CX P w) P w L.K mg base N qual (defScope st) f cdv A outer s H E) body (defBody st)) : FGI L P w mg base (k + 1) f fd ps c (runIn N.length body c) := by
  refine ⟨fun A outer s H args us vs Q E hr hg e0 bt r hl ⟨gB, HB, Γ, g, σ, ds, a, vs', ev, rp, o, l, w⟩ => ?_⟩
  obtain ⟨oc, od, kV, doc, pm, an, cdv, ct, osl, rfl, lk, hcd⟩ := F.ex
  refine LamX.run_ofS lk hcd S hr e0 bt r (r.length.trans hl) fun hr' => ⟨_, hb a cdv A outer s H E hr' hg (fun cls d _ H => E cls d H) gB HB (takes_of rfl rfl rfl rfl), ?_⟩
  have hpl : ps.length ≤ N.length := by have := congrArg List.length S.pre; rw [List.length_take] at this; omega
  subst ev
  have hn : vs'.length + 1 ≤ N.length := by
    have := r.length.trans hl
    rw [List.length_cons] at this
    omega
  refine ⟨_, g, own_start rp o l hn, M.wpB_mono (fun fl b k => ?_) (fun x _ z => fun cls d g σ H s e ⟨q, da, f, v, e1, e2, e3, e4⟩ => z cls d g H s.ofMk e ⟨q, da, f, v, e1, e2, e3, e4.ofMk⟩) _ _ ((M.wpB_bind _ _).mp w)⟩
  cases fl with
  | nx Γ' =>
    intro g' σ' H' r' _ e
    simp only at k
    split at k
    · rename_i c' fs en
      split at k
      · rename_i hc
        subst hc
        obtain ⟨x, es, p, dx, ws, e2, ep, h1, h2, h3, h4⟩ := r'.rep.loc _ _ en
        cases ep
        exact k g' H' e ⟨r'.base.ofMk, o.new, ⟨dx, ws, h1, h2.ofMk⟩, h3, h4⟩
      · exact k.elim
    · exact k.elim
  | rt d => exact k.elim
  | bk Γ' => exact k.elim
  | ct Γ' => exact k.elim
end
end DL
/-! A class called. -/
namespace DL
open PySem PySem.Spec L2
section
variable {L : Lx} {X : Cx} {gB g g' : Gh} {HB H H' : Hp} {σ : L2.St} {Γ : Env} {W : WX} {pos : Pos}
/-- the made instance is frozen -/
theorem Own.frz {a : Addr} {c : Nat} {fs : List (Str × D)} (o : Own L gB HB g H a c fs) (hn : fs.map (·.1) = L.cF c) : ∃ g2, Stp L gB HB g2 H ∧ g2.bud = g.bud ∧ Den L g2 (.ref a) (.ins c (fs.map (·.2))) := by
  obtain ⟨dx, vs, h1, h2⟩ := o.ins
  have s := o.st
  have le : ∀ b u, g.F b = some u → (g.put a (.ins (L.cA c) dx ((fs.map (·.1)).zip vs))).F b = some u := fun b u e => upd_keep o.nF e
  have hF : ∀ b u, (g.put a (.ins (L.cA c) dx ((fs.map (·.1)).zip vs))).F b = some u → (b = a ∧ u = .ins (L.cA c) dx ((fs.map (·.1)).zip vs)) ∨ g.F b = some u := fun b u e => by
    by_cases h : b = a
    · subst h
      have e' : upd g.F b (.ins (L.cA c) dx ((fs.map (·.1)).zip vs)) b = some u := e
      rw [upd_same] at e'
      exact .inl ⟨rfl, (Option.some.inj e').symm⟩
    · have e' : upd g.F a (.ins (L.cA c) dx ((fs.map (·.1)).zip vs)) b = some u := e
      rw [upd_ne h] at e'
      exact .inr e'
  refine ⟨g.put a (.ins (L.cA c) dx ((fs.map (·.1)).zip vs)), ⟨fun b u e => le b u (s.le b u e), s.mu, fun b u e => ?_, s.keep, fun b n => ⟨(s.nf b n).1, fun e => ?_⟩, fun b u e => ?_, s.rnd, s.bud, s.tab⟩, rfl, ?_⟩
  · rcases hF b u e with ⟨rfl, rfl⟩ | e
    · exact h1
    · exact s.sub _ _ e
  · have q : b ≠ a := fun z => n (by rw [z]; exact o.new)
    exact (upd_ne q).trans ((s.nf b n).2 e)
  · rcases hF b u e with ⟨rfl, rfl⟩ | e
    · exact o.nM
    · exact s.nm _ _ e
  · exact .ins (c := 0) (by rw [← hn]; exact put_F) (by rw [← hn, List.length_map, h2.length, List.length_map]) (h2.mono le fun _ e => e)
/-- the new instance, nothing in it yet -/
theorem own_new {a dx : Addr} {c : Nat} (r : Rep L Γ g σ H) (na : H a = none) (nd : H dx = none) (ne : dx ≠ a) : Rep L Γ g σ (upd (upd H dx (.own a)) a (.ins (L.cA c) dx [])) ∧ Own L g H g (upd (upd H dx (.own a)) a (.ins (L.cA c) dx [])) a c [] := by
  have s1 : Stp L g H g (upd H dx (.own a)) := stp_new (o := .own a) r nd false
  have r1 := r.step s1
  have na2 : upd H dx (.own a) a = none := by rw [upd_ne (Ne.symm ne)]; exact na
  have s2 : Stp L g (upd H dx (.own a)) g (upd (upd H dx (.own a)) a (.ins (L.cA c) dx [])) := stp_new (o := .ins (L.cA c) dx []) r1 na2 false
  refine ⟨r1.step s2, s1.trans s2, na, ⟨dx, [], upd_same, .nil⟩, nF_of r na, fun i => ?_⟩
  exact (InM.there r1.rnd.ok (i.new na2 r1.rnd.ok)) na2
theorem run_mkI {pins : List (Addr × Obj)} {s : Shared} {Q : VK} {us : List Value} {vs : List V} {C f : Addr} {fd : FuncData} {ps : List Str} {k c : Nat} {m : List D → M (List (Str × D))} {ds : List D} {Γ : Env} (M : Mk X.K C f) (F : FGI L X.prog X.w X.mg X.base k f fd ps c m) (hK : X.K = L.K) (hC : L.cA c = C)
    (hr : Room (k + 1) X.A) (hgd : X.A.guards = some []) (hb : Binds X.K fd ps []) (tk : Takes X W) (I : Inv X pins σ H s) (r : Vals vs us) (hl : us.length + 1 = ps.length) (rp : Rep L Γ g σ H) (l : DenL L g vs ds)
    (h : (m ds).wpB g.bud (fun fs b => ∀ a g' H', g'.bud = b → Own L g H g' H' a c fs → Q (.ref a) H') (XW L W g σ H)) : wpAny (model X.prog X.w) X.A (call (.ref C) us) (EP X pins σ Q) X.xe s := by
  have na := I.hok.fresh (Nat.le_succ s.heap.objs.size)
  have nd := I.hok.fresh (Nat.le_refl s.heap.objs.size)
  have ne : s.heap.objs.size ≠ s.heap.objs.size + 1 := Nat.ne_of_lt (Nat.lt_succ_self _)
  obtain ⟨rp2, ow⟩ := own_new (c := c) rp na nd ne
  rw [hC] at rp2
  have I2 := Inv.made (C := C) I
  have r2 : Vals (V.ref (s.heap.objs.size + 1) :: vs) (Value.ref (s.heap.objs.size + 1) :: us) := .cons rfl r
  have hl2 : (Value.ref (s.heap.objs.size + 1) :: us).length = ps.length := hl
  have sp : SpI L c m (V.ref (s.heap.objs.size + 1) :: vs) (upd (upd H s.heap.objs.size (.own (s.heap.objs.size + 1))) (s.heap.objs.size + 1) (.ins C s.heap.objs.size [])) (fun v H3 => v = .non ∧ Q (.ref (s.heap.objs.size + 1)) H3) (WE W σ) :=
    ⟨g, H, Γ, g, σ, ds, _, vs, rfl, rp2, hC ▸ ow, l.mono (fun _ _ e => e) (fun _ e => e), DL.M.wpB_mono (fun fs b q g' H' e o => ⟨rfl, q _ g' H' e o⟩) (fun _ _ x => x) _ _ h⟩
  have b := hb { s with heap := (s.heap.push PySem.W.emptyDict).push (PySem.W.instObj C s.heap.objs.size) } (Value.ref (s.heap.objs.size + 1) :: us) I2.kIn (by rw [List.append_nil]; exact hl2)
  rw [List.append_nil] at b
  refine wpAny_call (make_map (f := f) I.kIn M.makes M.init (beq_iff_eq.mp M.fn) (codeAny_mono (F.go _ X.stack _ _ ⟨Value.ref (s.heap.objs.size + 1) :: us, []⟩ (Value.ref (s.heap.objs.size + 1) :: us) _ _ (WE W σ) (hr.make C us []) hgd
    (hK ▸ I2.env0.make C us []) b r2 hl2 sp) fun r s' hq' => ?_))
  cases r with
  | error e => exact passAt tk σ pins _ _ e s' I2 hq'
  | ok fl =>
    cases fl with
    | ret u =>
      obtain ⟨v, H', I3, rv, ev, q3⟩ := I2.after hq'
      subst ev
      exact ⟨rv, ⟨V.ref (s.heap.objs.size + 1), H', I3, rfl, q3⟩⟩
    | next => exact False.elim hq'
    | brk => exact False.elim hq'
    | cont => exact False.elim hq'
end
end DL
/-! Things that are called: defs, classes; by position and by keywords. -/
namespace DL
open PySem PySem.Spec L2
section
variable {L : Lx} {X : Cx} {g g' : Gh} {H H' : Hp} {σ : L2.St} {Γ : Env} {W : WX} {pos p : Pos}
/-- the value u, called with n values and keywords ks, does what m says of all of them, one behind another -/
def CalG (L : Lx) (X : Cx) (u : Value) (n : Nat) (ks : List Str) (m : List D → M D) : Prop :=
  ∀ (W : WX) (pins : List (Addr × Obj)) (s : Shared) (σ : L2.St) (H : Hp) (Γ : Env) (g : Gh) (us ws : List Value) (vs zs : List V) (ds es : List D) (Q : VK), Takes X W → Inv X pins σ H s → Vals vs us → Vals zs ws → us.length = n → ws.length = ks.length →
    Rep L Γ g σ H → DenL L g vs ds → DenL L g zs es → (m (ds ++ es)).wpB g.bud (Wn L DenT g H Q) (XW L W g σ H) → wpAny (model X.prog X.w) X.A (call u us (ks.zip ws)) (EP X pins σ Q) X.xe s
/-- how values come to parameters: by the def's binding, and of data -/
structure KD (L : Lx) (fd : FuncData) (ps : List Str) (n : Nat) (ks : List Str) (gD : List D → List D → List D) : Prop where
  ex : ∃ (g : List Value → List Value → List Value) (gV : List V → List V → List V), KBn L.K fd ps n ks g gV ∧ (∀ (gh : Gh) {vs zs : List V} {ds es : List D}, DenL L gh vs ds → DenL L gh zs es → DenL L gh (gV vs zs) (gD ds es)) ∧ ∀ us ws, us.length = n → ws.length = ks.length → (g us ws).length = ps.length
def mKD (n : Nat) (gD : List D → List D → List D) (m : List D → M D) : List D → M D := fun ds => m (gD (ds.take n) (ds.drop n))
theorem cal_fg {k n : Nat} {f : Addr} {fd : FuncData} {ps ks : List Str} {m : List D → M D} {gD : List D → List D → List D} (F : FG L X.prog X.w X.mg X.base k f fd ps m) (hK : X.K = L.K) (hr : Room k X.A) (hgd : X.A.guards = some []) (kd : KD L fd ps n ks gD) : CalG L X (.ref f) n ks (mKD n gD m) := by
  intro W pins s σ H Γ g us ws vs zs ds es Q tk I r rz l1 l2 rp l lz w
  obtain ⟨gg, gV, hb, hd, hl⟩ := kd.ex
  have e1 : ds.length = n := l.length.symm.trans (r.length.trans l1)
  have w' : (m (gD ds es)).wpB g.bud (Wn L DenT g H Q) (XW L W g σ H) := by
    unfold mKD at w
    rw [List.take_left' e1, List.drop_left' e1] at w
    exact w
  refine wpAny_call (codeAny_mono (F.go X.A X.stack s H ⟨us, ks.zip ws⟩ (gg us ws) (gV vs zs) Q (WE W σ) hr hgd (hK ▸ I.env0) (hb.to s us ws (hK ▸ I.kIn) l1 l2) (hb.rel r rz) (hl _ _ l1 l2) (spd_of rp (hd g l lz) w')) fun r s' hq => ?_)
  cases r with
  | error e => exact passAt tk σ pins H s e s' I hq
  | ok fl =>
    cases fl with
    | ret u => exact I.after hq
    | next => exact hq
    | brk => exact hq
    | cont => exact hq
/-- all values by position -/
theorem kd_all {fd : FuncData} {ps : List Str} (b : Binds L.K fd ps []) : KD L fd ps ps.length [] (fun ds _ => ds) := by
  refine ⟨fun us _ => us, fun vs _ => vs, ⟨fun s us ws X l1 l2 => ?_, fun r _ => r⟩, fun _ {vs zs ds es} l _ => l, fun _ _ h _ => h⟩
  obtain rfl : ws = [] := List.length_eq_zero_iff.mp l2
  have := b s us X (by rw [List.append_nil]; exact l1)
  rw [List.append_nil] at this
  exact this
end
end DL
/-! Classes called, calls by name and by method as expressions. -/
namespace DL
open PySem PySem.Spec L2
section
variable {L : Lx} {X : Cx} {g g' : Gh} {H H' : Hp} {σ : L2.St} {Γ : Env} {W : WX} {pos p apos : Pos}
/-- what a class's call gives, by its __init__'s run -/
def mInit (c : Nat) (fs : List Str) (m : List D → M (List (Str × D))) : List D → M D := fun ds => (m ds).bind fun q => if q.map (·.1) = fs then .ret (.ins c (q.map (·.2))) else .stuck
theorem cal_cls {C f : Addr} {fd : FuncData} {ps : List Str} {k c : Nat} {m : List D → M (List (Str × D))} (M : Mk X.K C f) (F : FGI L X.prog X.w X.mg X.base k f fd ps c m) (hK : X.K = L.K) (hC : L.cA c = C) (hr : Room (k + 1) X.A) (hgd : X.A.guards = some []) (hb : Binds X.K fd ps [])
    (hn : n + 1 = ps.length) : CalG L X (.ref C) n [] (mInit c (L.cF c) m) := by
  intro W pins s σ H Γ g us ws vs zs ds es Q tk I r rz l1 l2 rp l lz w
  obtain rfl : ws = [] := List.length_eq_zero_iff.mp l2
  cases rz
  cases lz
  rw [List.append_nil] at w
  refine run_mkI M F hK hC hr hgd hb tk I r (by omega) rp l (DL.M.wpB_mono (fun fs b q a g' H' e o => ?_) (fun _ _ x => x) _ _ ((DL.M.wpB_bind _ _).mp w))
  split at q
  · rename_i hf
    obtain ⟨g2, s2, e2, t2⟩ := o.frz hf
    exact q _ g2 H' s2 (e2.trans e) t2
  · exact q.elim
/-- the values of a call -/
def RdA2 (L : Lx) (W : WX) (is js : List IE) (R : List V → List V → Hp → Prop) (E : Env → Gh → Prop) : Prop := True
def iCal (m : List D → M D) (is : List IE) : IE := fun Γ => (evs is Γ).bind m
theorem evs_app {is js : List IE} : evs (is ++ js) Γ = (evs is Γ).bind fun ds => (evs js Γ).bind fun es => .ret (ds ++ es) := by
  induction is with
  | nil =>
    show evs js Γ = (evs js Γ).bind fun es => .ret es
    generalize evs js Γ = m
    induction m with
    | ret a => rfl
    | exc x => rfl
    | stuck => rfl
    | choose n k ih => exact congrArg (M.choose n) (funext fun i => ih i)
    | begun k ih => exact congrArg M.begun ih
  | cons i is ih =>
    have as : ∀ {α β γ : Type} (m : M α) (f : α → M β) (h : β → M γ), (m.bind f).bind h = m.bind fun x => (f x).bind h := fun m f h => by
      induction m with
      | ret a => rfl
      | exc x => rfl
      | stuck => rfl
      | choose n k ih => exact congrArg (M.choose n) (funext fun i => ih i)
      | begun k ih => exact congrArg M.begun ih
    show ((i Γ).bind fun d => (evs (is ++ js) Γ).bind fun ds => .ret (d :: ds)) = ((i Γ).bind fun d => (evs is Γ).bind fun ds => .ret (d :: ds)).bind _
    rw [as]
    congr 1
    funext d
    rw [ih, as, as]
    congr 1
    funext ds
    rw [as]
    rfl
variable {x : Str} {e o : Expr} {es : List Expr} {is js : List IE} {m : List D → M D} {u : Value} {n : Nat} {ks : List Str} {kws : List Keyword}
/-- f(e, ..), C(e, ..) -/
theorem de_cal (c : CalG L X u is.length [] m) (kp : PySem.W.keepIn X.K u = true) (gl : Gl X x) (mf : X.mg x = some u) (ha : DA L X is (e :: es)) (nd : (x == ("__debug__" : Str)) = false := by decide)
    (h1 : starEach (e :: es) X.env = (false, eval e X.env) :: starEach es X.env := by rfl) (h2 : (backTo pos (starEach es X.env)).any (·.1) = false := by rfl) :
    DE L X (iCal m is) (.Call (.Name x p) (e :: es) [] pos) := fun W tk => by
  refine ⟨fun pins s σ H Q I ⟨Γ, g, rp, w⟩ => ?_⟩
  have w := evs_len is g.bud ((M.wpB_bind _ _).mp w)
  refine wpAny_Call_Name_kw (ld_glob I gl mf ?_ nd)
  refine PySem.W.callWith_K (h₀ := X.base) I.ok.mod.kin kp (thn ((ha W tk).run pos pins s σ H (fun vs H1 => ∃ ds g1, Rep L Γ g1 σ H1 ∧ Stp L g H g1 H1 ∧ DenL L g1 vs ds ∧ ds.length = is.length ∧ (m ds).wpB g1.bud (Wn L DenT g H Q) (XW L W g σ H)) I
    ⟨Γ, g, rp, M.wpB_mono (fun ds b h vs g' H' s' e t => ⟨ds, g', rp.step s', s', t, h.1, by rw [e]; exact h.2⟩) (fun _ _ x => x) _ _ w⟩) fun us s1 ⟨vs, H1, I1, r, ds, g1, r1, s', t, hl, w1⟩ => ⟨I1.kIn, ?_⟩) h1 h2
  have hl2 : us.length = is.length := r.length.symm.trans (t.length.trans hl)
  have := c W pins s1 σ H1 Γ g1 us [] vs [] ds [] Q tk I1 r .nil hl2 rfl r1 t .nil (by
    rw [List.append_nil]
    exact M.wpB_mono (fun d b k v g2 H2 s2 e t => k v g2 H2 (s'.trans s2) e t) (fun _ _ x => x.of s') _ _ w1)
  exact this
end
end DL
/-! Calls with keywords; methods. -/
namespace DL
open PySem PySem.Spec L2
section
variable {L : Lx} {X : Cx} {g g' : Gh} {H H' : Hp} {σ : L2.St} {Γ : Env} {W : WX} {pos p apos kpos : Pos}
variable {x nm : Str} {e o : Expr} {es : List Expr} {i : IE} {is js : List IE} {m : List D → M D} {u : Value} {n c : Nat} {ks : List Str} {kws : List Keyword}
def DK (L : Lx) (X : Cx) (is : List IE) (kws : List Keyword) : Prop := ∀ W, Takes X W → PK X kws (RdA L W is)
theorem PK.imp {t t' : TA} (h : PK X kws t) (k : ∀ σ H Q, t' σ H Q → t σ H Q) : PK X kws t' := ⟨fun pos pins s σ H Q I r => h.run pos pins s σ H Q I (k _ _ _ r)⟩
theorem dk_nil : DK L X [] [] := fun W _ => PK.imp pk_nil fun σ H Q ⟨Γ, g, rp, w⟩ => w [] g H (Stp.refl rp) rfl .nil
theorem dk_cons {on : Option Str} (h : DE L X i e) (hr : DK L X is kws) : DK L X (i :: is) (⟨on, e, kpos⟩ :: kws) := fun W tk => by
  refine PK.imp (pk_cons (h W tk) (hr W tk)) fun σ H Q ⟨Γ, g, rp, w⟩ => ?_
  refine ⟨Γ, g, rp, M.wpB_mono (fun d b h v g1 H1 s e t => ?_) (fun _ _ x => x) _ _ ((M.wpB_bind _ _).mp w)⟩
  subst e
  refine ⟨Γ, g1, rp.step s, M.wpB_mono (fun ds b h vs g2 H2 s2 e2 t2 => ?_) (fun _ _ x => x.of s) _ _ ((M.wpB_bind _ _).mp h)⟩
  exact h (v :: vs) g2 H2 (s.trans s2) e2 (.cons (t.mono s2.le s2.mu) t2)
/-- what is known behind some values of a call -/
def Got (L : Lx) (W : WX) (Γ : Env) (g : Gh) (σ : L2.St) (H : Hp) (n : Nat) (f : List D → M D) (Q : VK) : List V → Hp → Prop := fun vs H1 => ∃ ds g1, Rep L Γ g1 σ H1 ∧ Stp L g H g1 H1 ∧ DenL L g1 vs ds ∧ ds.length = n ∧ (f ds).wpB g1.bud (Wn L DenT g1 H1 Q) (XW L W g1 σ H1)
theorem got_of {f : List D → M D} {Q : VK} (rp : Rep L Γ g σ H) (w : ((evs is Γ).bind f).wpB g.bud (Wn L DenT g H Q) (XW L W g σ H)) : RdA L W is σ H (Got L W Γ g σ H is.length f Q) :=
  ⟨Γ, g, rp, M.wpB_mono (fun ds b h vs g' H' s' e t => ⟨ds, g', rp.step s', s', t, h.1, by rw [e]; exact M.wpB_mono (fun d b k v g2 H2 s2 e t => k v g2 H2 (s'.trans s2) e t) (fun _ _ x => x.of s') _ _ h.2⟩) (fun _ _ x => x) _ _ (evs_len is g.bud ((M.wpB_bind _ _).mp w))⟩
theorem Got.den {v : V} {d : D} {f : List D → M D} {Q : VK} {vs : List V} {H1 : Hp} (h : Got L W Γ g σ H n f Q vs H1) (t : Den L g v d) : ∃ ds g1, Rep L Γ g1 σ H1 ∧ Den L g1 v d ∧ DenL L g1 vs ds ∧ ds.length = n ∧ (f ds).wpB g1.bud (Wn L DenT g1 H1 Q) (XW L W g1 σ H1) :=
  let ⟨ds, g1, r, s, l, hl, w⟩ := h; ⟨ds, g1, r, t.mono s.le s.mu, l, hl, w⟩
theorem evs_two {f : List D → M D} {Q : VK} (w : ((evs (is ++ js) Γ).bind f).wpB g.bud (Wn L DenT g H Q) (XW L W g σ H)) : ((evs is Γ).bind fun ds => (evs js Γ).bind fun es => f (ds ++ es)).wpB g.bud (Wn L DenT g H Q) (XW L W g σ H) := by
  rw [evs_app] at w
  refine (M.wpB_bind _ _).mpr (M.wpB_mono (fun ds b k => ?_) (fun _ _ x => x) _ _ ((M.wpB_bind _ _).mp ((M.wpB_bind _ _).mp w)))
  have k2 := (M.wpB_bind (f := fun es => M.ret (ds ++ es)) (evs js Γ) b).mp k
  exact (M.wpB_bind (evs js Γ) b).mpr k2
/-- f(e, .., k = v, ..) -/
theorem de_calK (c : CalG L X u is.length ks m) (kp : PySem.W.keepIn X.K u = true) (gl : Gl X x) (mf : X.mg x = some u) (ha : DA L X is (e :: es)) (hk : DK L X js kws) (hj : js.length = ks.length := by rfl)
    (hall : (backToKw pos (keywordEach kws X.env)).all (·.1.isSome) = true := by rfl) (hks : (backToKw pos (keywordEach kws X.env)).filterMap (·.1) = ks := by rfl) (nd : (x == ("__debug__" : Str)) = false := by decide)
    (h1 : starEach (e :: es) X.env = (false, eval e X.env) :: starEach es X.env := by rfl) (h2 : ((backTo pos (starEach (e :: es) X.env)).any (·.1) || (backToKw pos (keywordEach kws X.env)).any (·.1.isNone)) = false := by rfl) :
    DE L X (iCal m (is ++ js)) (.Call (.Name x p) (e :: es) kws pos) := fun W tk => by
  refine ⟨fun pins s σ H Q I ⟨Γ, g, rp, w⟩ => ?_⟩
  refine wpAny_Call_Name_kw (ld_glob I gl mf ?_ nd)
  refine PySem.W.callWith_KW (h₀ := X.base) I.ok.mod.kin kp hall (thn ((ha W tk).run pos pins s σ H _ I (got_of rp (evs_two w))) fun us s1 ⟨vs, H1, I1, r, ds, g1, r1, s', t, hl, w1⟩ => ?_) h2 h1
  refine thn ((hk W tk).run pos pins s1 σ H1 _ I1 (got_of r1 w1)) fun ws s2 ⟨zs, H2, I2, rz, es', g2, r2, s2', tz, hz, w2⟩ => ⟨I2.kIn, ?_⟩
  rw [hks]
  exact c W pins s2 σ H2 Γ g2 us ws vs zs ds es' Q tk I2 r rz (r.length.symm.trans (t.length.trans hl)) (rz.length.symm.trans (tz.length.trans (hz.trans hj))) r2 (t.mono s2'.le s2'.mu) tz w2
/-- f(k = v, ..) -/
theorem de_calK0 (c : CalG L X u 0 ks m) (kp : PySem.W.keepIn X.K u = true) (gl : Gl X x) (mf : X.mg x = some u) (hk : DK L X js kws) (hj : js.length = ks.length := by rfl)
    (hall : (backToKw pos (keywordEach kws X.env)).all (·.1.isSome) = true := by rfl) (hks : (backToKw pos (keywordEach kws X.env)).filterMap (·.1) = ks := by rfl) (nd : (x == ("__debug__" : Str)) = false := by decide)
    (h2 : ((backTo pos (starEach [] X.env)).any (·.1) || (backToKw pos (keywordEach kws X.env)).any (·.1.isNone)) = false := by rfl) :
    DE L X (iCal m js) (.Call (.Name x p) [] kws pos) := fun W tk => by
  refine ⟨fun pins s σ H Q I ⟨Γ, g, rp, w⟩ => ?_⟩
  refine wpAny_Call_Name_kw (ld_glob I gl mf ?_ nd)
  refine PySem.W.callWith_KW0 (h₀ := X.base) I.ok.mod.kin kp hall ?_ h2
  refine thn ((hk W tk).run pos pins s σ H _ I (got_of rp w)) fun ws s2 ⟨zs, H2, I2, rz, es', g2, r2, s2', tz, hz, w2⟩ => ⟨I2.kIn, ?_⟩
  rw [hks]
  exact c W pins s2 σ H2 Γ g2 [] ws [] zs [] es' Q tk I2 .nil rz rfl (rz.length.symm.trans (tz.length.trans (hz.trans hj))) r2 .nil tz w2
/-- f() -/
theorem de_cal0 (c : CalG L X u 0 [] m) (kp : PySem.W.keepIn X.K u = true) (gl : Gl X x) (mf : X.mg x = some u) (nd : (x == ("__debug__" : Str)) = false := by decide) :
    DE L X (iCal m []) (.Call (.Name x p) [] [] pos) := fun W tk => by
  refine ⟨fun pins s σ H Q I ⟨Γ, g, rp, w⟩ => ?_⟩
  refine wpAny_Call_Name_kw (ld_glob I gl mf ?_ nd)
  exact PySem.W.callWith_K0 (first := []) I.kIn kp (c W pins s σ H Γ g [] [] [] [] [] [] Q tk I .nil .nil rfl rfl rp .nil .nil w)

/-! o.m(..) -/
def iMth (c : Nat) (m : List D → M D) (i : IE) (is : List IE) : IE := fun Γ => (i Γ).bind fun d => match d with
  | .ins c' ds => if c' = c then (evs is Γ).bind fun es => m (.ins c' ds :: es) else .stuck
  | _ => .stuck
structure MthOk (L : Lx) (c : Nat) (nm : Str) (f : Addr) : Prop where
  cl : Cls L.K (L.cA c)
  me : Meth L.K (L.cA c) nm f
  no : nm ∉ L.cF c
theorem lookup_no {nm : Str} : ∀ {ns : List Str} {vs : List V}, nm ∉ ns → (ns.zip vs).lookup nm = none := fun {ns} => by
  induction ns with
  | nil => intro vs _; rfl
  | cons n ns ih =>
    intro vs h
    cases vs with
    | nil => rfl
    | cons v vs =>
      rw [List.mem_cons, not_or] at h
      rw [List.zip_cons_cons, List.lookup_cons, beq_eq_false_iff_ne.mpr h.1]
      exact ih h.2
/-- the receiver, then on -/
theorem meth_go {f : Addr} {Q : VK} {pl : Sem Bool} {args : List Expr} {pins : List (Addr × Obj)} {s : Shared} (ok : MthOk L c nm f) (hK : X.K = L.K) (ho : DE L X i o) (tk : Takes X W) (I : Inv X pins σ H s) (rp : Rep L Γ g σ H)
    (w : (iMth c m i is Γ).wpB g.bud (Wn L DenT g H Q) (XW L W g σ H))
    (k : ∀ (s1 : Shared) (H1 : Hp) (g1 : Gh) (a : Addr) (fs : List D), Inv X pins σ H1 s1 → Rep L Γ g1 σ H1 → Den L g1 (.ref a) (.ins c fs) → ((evs is Γ).bind fun es => m (.ins c fs :: es)).wpB g1.bud (Wn L DenT g1 H1 Q) (XW L W g1 σ H1) →
      wpAny (model X.prog X.w) X.A (callWith pos (.ref f) [.ref a] (backTo pos (starEach args X.env)) (backToKw pos (keywordEach kws X.env))) (EP X pins σ Q) X.xe s1)
    (ht : eval (.Call (.Attribute o nm apos) args kws pos) X.env = (do
      let ov ← eval o X.env
      standAt apos.atName
      let (f, first) ← holding [ov] (getMethod ov nm pl)
      callWith pos f first (backTo pos (starEach args X.env)) (backToKw pos (keywordEach kws X.env)))) :
    wpAny (model X.prog X.w) X.A (eval (.Call (.Attribute o nm apos) args kws pos) X.env) (EP X pins σ Q) X.xe s := by
  refine PySem.W.methodCall_KW (pl := pl) (thn ((ho W tk).run pins s σ H (fun v H1 => ∃ (g1 : Gh) (a : Addr) (fs : List D) (dx : Addr) (vs : List V), v = .ref a ∧ H1 a = some (.ins (L.cA c) dx ((L.cF c).zip vs)) ∧ Rep L Γ g1 σ H1 ∧ Den L g1 (.ref a) (.ins c fs) ∧ ((evs is Γ).bind fun es => m (.ins c fs :: es)).wpB g1.bud (Wn L DenT g1 H1 Q) (XW L W g1 σ H1)) I
    ⟨Γ, g, rp, M.wpB_mono (fun d b h v g1 H1 s1 e t => ?_) (fun _ _ x => x) _ _ ((M.wpB_bind _ _).mp w)⟩) fun u s1 ⟨v, H1, I1, rv, g1, a, fs, dx, vs, ev, hH, r1, t, w1⟩ => ?_) ht
  · subst e
    split at h
    · rename_i c' ds
      split at h
      · rename_i hc
        subst hc
        have t' := t
        cases t with
        | ins e1 e2 l =>
          exact ⟨g1, _, ds, _, _, rfl, s1.sub _ _ e1, rp.step s1, t', M.wpB_mono (fun d b k v g2 H2 s2 e t => k v g2 H2 (s1.trans s2) e t) (fun _ _ x => x.of s1) _ _ h⟩
      · exact h.elim
    · exact h.elim
  · subst ev
    obtain rfl : u = Value.ref a := rv
    exact getmeth_ok I1 hH (hK ▸ ok.cl) (hK ▸ ok.me) (lookup_no ok.no) (k s1 H1 g1 a fs I1 r1 t w1)
theorem de_meth {f : Addr} {pl : Sem Bool} (cg : CalG L X (.ref f) (is.length + 1) [] m) (ok : MthOk L c nm f) (hK : X.K = L.K) (ho : DE L X i o) (ha : DA L X is (e :: es))
    (h1 : starEach (e :: es) X.env = (false, eval e X.env) :: starEach es X.env := by rfl) (h2 : (backTo pos (starEach es X.env)).any (·.1) = false := by rfl)
    (ht : eval (.Call (.Attribute o nm apos) (e :: es) [] pos) X.env = (do
      let ov ← eval o X.env
      standAt apos.atName
      let (f, first) ← holding [ov] (getMethod ov nm pl)
      callWith pos f first (backTo pos (starEach (e :: es) X.env)) (backToKw pos (keywordEach [] X.env))) := by rfl) : DE L X (iMth c m i is) (.Call (.Attribute o nm apos) (e :: es) [] pos) := fun W tk => by
  refine ⟨fun pins s σ H Q I ⟨Γ, g, rp, w⟩ => ?_⟩
  refine meth_go (kws := []) ok hK ho tk I rp w (fun s1 H1 g1 a fs I1 r1 t w1 => ?_) ht
  refine PySem.W.callWith_K (first := [.ref a]) (h₀ := X.base) I.ok.mod.kin (hK ▸ ok.me.kp) (thn ((ha W tk).run pos pins s1 σ H1 _ I1 (got_of r1 w1)) fun us s2 ⟨vs, H2, I2, r, ds, g2, r2, s', l, hl, w2⟩ => ⟨I2.kIn, ?_⟩) h1 h2
  exact cg W pins s2 σ H2 Γ g2 (.ref a :: us) [] (.ref a :: vs) [] (.ins c fs :: ds) [] Q tk I2 (.cons rfl r) .nil (by rw [List.length_cons, ← r.length, l.length, hl]) rfl r2 (.cons (t.mono s'.le s'.mu) l) .nil (by rw [List.append_nil]; exact w2)
theorem de_meth0 {f : Addr} {pl : Sem Bool} (cg : CalG L X (.ref f) 1 [] m) (ok : MthOk L c nm f) (hK : X.K = L.K) (ho : DE L X i o)
    (ht : eval (.Call (.Attribute o nm apos) [] [] pos) X.env = (do
      let ov ← eval o X.env
      standAt apos.atName
      let (f, first) ← holding [ov] (getMethod ov nm pl)
      callWith pos f first (backTo pos (starEach [] X.env)) (backToKw pos (keywordEach [] X.env))) := by rfl) : DE L X (iMth c m i []) (.Call (.Attribute o nm apos) [] [] pos) := fun W tk => by
  refine ⟨fun pins s σ H Q I ⟨Γ, g, rp, w⟩ => ?_⟩
  refine meth_go (kws := []) ok hK ho tk I rp w (fun s1 H1 g1 a fs I1 r1 t w1 => ?_) ht
  exact PySem.W.callWith_K0 (first := [.ref a]) I1.kIn (hK ▸ ok.me.kp) (cg W pins s1 σ H1 Γ g1 [.ref a] [] [.ref a] [] [.ins c fs] [] Q tk I1 (.cons rfl .nil) .nil rfl rfl r1 (.cons t .nil) .nil w1)
theorem de_methK0 {f : Addr} {pl : Sem Bool} (cg : CalG L X (.ref f) 1 ks m) (ok : MthOk L c nm f) (hK : X.K = L.K) (ho : DE L X i o) (hk : DK L X js kws) (hj : js.length = ks.length := by rfl)
    (hall : (backToKw pos (keywordEach kws X.env)).all (·.1.isSome) = true := by rfl) (hks : (backToKw pos (keywordEach kws X.env)).filterMap (·.1) = ks := by rfl)
    (h2 : ((backTo pos (starEach [] X.env)).any (·.1) || (backToKw pos (keywordEach kws X.env)).any (·.1.isNone)) = false := by rfl)
    (ht : eval (.Call (.Attribute o nm apos) [] kws pos) X.env = (do
      let ov ← eval o X.env
      standAt apos.atName
      let (f, first) ← holding [ov] (getMethod ov nm pl)
      callWith pos f first (backTo pos (starEach [] X.env)) (backToKw pos (keywordEach kws X.env))) := by rfl) : DE L X (iMth c m i js) (.Call (.Attribute o nm apos) [] kws pos) := fun W tk => by
  refine ⟨fun pins s σ H Q I ⟨Γ, g, rp, w⟩ => ?_⟩
  refine meth_go ok hK ho tk I rp w (fun s1 H1 g1 a fs I1 r1 t w1 => ?_) ht
  refine PySem.W.callWith_KW0 (first := [.ref a]) (h₀ := X.base) I.ok.mod.kin (hK ▸ ok.me.kp) hall ?_ h2
  refine thn ((hk W tk).run pos pins s1 σ H1 _ I1 (got_of r1 w1)) fun ws s2 ⟨zs, H2, I2, rz, es', g2, r2, s', tz, hz, w2⟩ => ⟨I2.kIn, ?_⟩
  rw [hks]
  exact cg W pins s2 σ H2 Γ g2 [.ref a] ws [.ref a] zs [.ins c fs] es' Q tk I2 (.cons rfl .nil) rz rfl (rz.length.symm.trans (tz.length.trans (hz.trans hj))) r2 (.cons (t.mono s'.le s'.mu) .nil) tz w2
theorem de_methK {f : Addr} {pl : Sem Bool} (cg : CalG L X (.ref f) (is.length + 1) ks m) (ok : MthOk L c nm f) (hK : X.K = L.K) (ho : DE L X i o) (ha : DA L X is (e :: es)) (hk : DK L X js kws) (hj : js.length = ks.length := by rfl)
    (hall : (backToKw pos (keywordEach kws X.env)).all (·.1.isSome) = true := by rfl) (hks : (backToKw pos (keywordEach kws X.env)).filterMap (·.1) = ks := by rfl)
    (h1 : starEach (e :: es) X.env = (false, eval e X.env) :: starEach es X.env := by rfl) (h2 : ((backTo pos (starEach (e :: es) X.env)).any (·.1) || (backToKw pos (keywordEach kws X.env)).any (·.1.isNone)) = false := by rfl)
    (ht : eval (.Call (.Attribute o nm apos) (e :: es) kws pos) X.env = (do
      let ov ← eval o X.env
      standAt apos.atName
      let (f, first) ← holding [ov] (getMethod ov nm pl)
      callWith pos f first (backTo pos (starEach (e :: es) X.env)) (backToKw pos (keywordEach kws X.env))) := by rfl) : DE L X (iMth c m i (is ++ js)) (.Call (.Attribute o nm apos) (e :: es) kws pos) := fun W tk => by
  refine ⟨fun pins s σ H Q I ⟨Γ, g, rp, w⟩ => ?_⟩
  refine meth_go ok hK ho tk I rp w (fun s1 H1 g1 a fs I1 r1 t w1 => ?_) ht
  refine PySem.W.callWith_KW (first := [.ref a]) (h₀ := X.base) I.ok.mod.kin (hK ▸ ok.me.kp) hall (thn ((ha W tk).run pos pins s1 σ H1 _ I1 (got_of r1 (evs_two w1))) fun us s2 ⟨vs, H2, I2, r, ds, g2, r2, s', l, hl, w2⟩ => ?_) h2 h1
  refine thn ((hk W tk).run pos pins s2 σ H2 _ I2 (got_of r2 w2)) fun ws s3 ⟨zs, H3, I3, rz, es', g3, r3, s3', tz, hz, w3⟩ => ⟨I3.kIn, ?_⟩
  rw [hks]
  exact cg W pins s3 σ H3 Γ g3 (.ref a :: us) ws (.ref a :: vs) zs (.ins c fs :: ds) es' Q tk I3 (.cons rfl r) rz (by rw [List.length_cons, ← r.length, l.length, hl]) (rz.length.symm.trans (tz.length.trans (hz.trans hj))) r3 (.cons ((t.mono s'.le s'.mu).mono s3'.le s3'.mu) (l.mono s3'.le s3'.mu)) tz w3
end
end DL
/-! Order of data, chains of comparisons, is of truth values, texts and tuples many times over. -/
namespace DL
open PySem PySem.Spec L2
section
variable {L : Lx} {X : Cx} {g g' : Gh} {H H' : Hp} {σ : L2.St} {Γ : Env} {W : WX} {pos p : Pos} {i j k : IE} {a b c : Expr}
/-! order -/
def D.isNon : D → Bool
  | .non => true
  | _ => false
def okLt (x y : D) : Bool := x.pl && (y.pl && (PySem.W.alike x.py y.py && (!x.isNon && decide (min x.dep y.dep ≤ 60))))
def dLt (x y : D) : Bool := PySem.W.dataLt x.py y.py
def fLtD (x y : D) : Option D := if okLt x y then some (.bl (dLt x y)) else none
def fLeD (x y : D) : Option D := if okLt x y then some (.bl (!dLt y x)) else none
def fGtD (x y : D) : Option D := if okLt x y then some (.bl (dLt y x)) else none
def fGeD (x y : D) : Option D := if okLt x y then some (.bl (!dLt x y)) else none
theorem py_non {x : D} (p : x.pl = true) (h : (!x.isNon) = true) : x.py ≠ .none := by
  cases x <;> simp [D.pl, D.isNon, D.py] at p h ⊢
theorem ord_of {op : CmpOp} {f : D → D → Option D} {r : D → D → Bool} (hf : ∀ x y d, f x y = some d → okLt x y = true ∧ d = .bl (r x y)) (hK : X.K = L.K) (hu : X.A.units + 64 < cLine)
    (h : ∀ {s : Shared} {u v : Value} {x y : D} {as bs : List Addr} {Q : Value → Shared → Prop}, Reads s.heap u x.py as → Reads s.heap v y.py bs → PySem.W.alike x.py y.py = true → x.py ≠ .none → X.A.units + min x.py.depth y.py.depth < cLine → Q (.bool (r x y)) s → wpAny (model X.prog X.w) X.A (compareOp op u v) Q X.xe s) : OpD L X (compareOp op) f := by
  intro pins st σ H x y v u Q I rx ry ⟨Γ, g, σ', dx, dy, d, rp, vx, vy, e, w⟩
  obtain ⟨z, rfl⟩ := hf _ _ _ e
  unfold okLt at z
  simp only [Bool.and_eq_true, decide_eq_true_eq] at z
  obtain ⟨z1, z2, z3, z4, z5⟩ := z
  obtain ⟨as, r1⟩ := Dp.reads I dx.py x v (hK ▸ vx.dp rp.sub z1) rx
  obtain ⟨bs, r2⟩ := Dp.reads I dy.py y u (hK ▸ vy.dp rp.sub z2) ry
  exact h r1 r2 z3 (py_non z1 z4) (by rw [D.depth_py, D.depth_py]; omega) ⟨.bl _, H, I, rfl, w _ g H (Stp.refl rp) rfl (.bl _)⟩
theorem od_ltD (hK : X.K = L.K) (hu : X.A.units + 64 < cLine) : OpD L X (compareOp .Lt) fLtD := ord_of (r := dLt) (fun x y d e => by unfold fLtD at e; split at e <;> cases e; exact ⟨by assumption, rfl⟩) hK hu fun r1 r2 h3 h4 h5 q => PySem.W.lt_data r1 r2 h3 h4 h5 q
theorem od_gtD (hK : X.K = L.K) (hu : X.A.units + 64 < cLine) : OpD L X (compareOp .Gt) fGtD := ord_of (r := fun x y => dLt y x) (fun x y d e => by unfold fGtD at e; split at e <;> cases e; exact ⟨by assumption, rfl⟩) hK hu fun r1 r2 h3 h4 h5 q => PySem.W.gt_data r1 r2 h3 h4 h5 q
theorem od_leD (hK : X.K = L.K) (hu : X.A.units + 64 < cLine) : OpD L X (compareOp .LtE) fLeD := ord_of (r := fun x y => !dLt y x) (fun x y d e => by unfold fLeD at e; split at e <;> cases e; exact ⟨by assumption, rfl⟩) hK hu fun r1 r2 h3 h4 h5 q => PySem.W.le_data r1 r2 h3 h4 h5 q
theorem od_geD (hK : X.K = L.K) (hu : X.A.units + 64 < cLine) : OpD L X (compareOp .GtE) fGeD := ord_of (r := fun x y => !dLt x y) (fun x y d e => by unfold fGeD at e; split at e <;> cases e; exact ⟨by assumption, rfl⟩) hK hu fun r1 r2 h3 h4 h5 q => PySem.W.ge_data r1 r2 h3 h4 h5 q
/-- with ints told plainly -/
def fLt := orD fLtI fLtD
def fLe := orD fLeI fLeD
def fGt := orD fGtI fGtD
def fGe := orD fGeI fGeD
theorem od_lt (hK : X.K = L.K) (hu : X.A.units + 64 < cLine) : OpD L X (compareOp .Lt) fLt := od_ltI.or (od_ltD hK hu)
theorem od_le (hK : X.K = L.K) (hu : X.A.units + 64 < cLine) : OpD L X (compareOp .LtE) fLe := od_leI.or (od_leD hK hu)
theorem od_gt (hK : X.K = L.K) (hu : X.A.units + 64 < cLine) : OpD L X (compareOp .Gt) fGt := od_gtI.or (od_gtD hK hu)
theorem od_ge (hK : X.K = L.K) (hu : X.A.units + 64 < cLine) : OpD L X (compareOp .GtE) fGe := od_geI.or (od_geD hK hu)
/-! a < b <= c -/
def iChain (f f' : D → D → Option D) (i j k : IE) : IE := fun Γ => (i Γ).bind fun x => (j Γ).bind fun y => match f x y with
  | some (.bl t) => if t = true then (k Γ).bind fun z => (match f' y z with
    | some d => .ret d
    | none => .stuck) else .ret (.bl false)
  | _ => .stuck
theorem rd_chain {f f' : D → D → Option D} {Q : VK} (h : Rd1 L DenT W (iChain f f' i j k) σ H Q) : tChain (RdO L f) (RdO L f') (Rd1 L VwT W i) (Rd1 L VwT W j) (Rd1 L VwT W k) σ H Q := by
  obtain ⟨Γ, g, rp, w⟩ := h
  refine Rd1.go rp w fun x H1 dx g1 r1 s1 t1 w => Rd1.go r1 w fun y H2 dy g2 r2 s2 t2 w => ?_
  split at w
  · rename_i t e
    refine ⟨Γ, g2, σ, dx, dy, .bl t, r2, t1.step s2, t2, e, fun v g3 H3 s3 eb t3 => ?_⟩
    cases t3
    refine ⟨t, rfl, ?_⟩
    cases t with
    | false => exact iteF (w _ g3 H3 (s1.trans (s2.trans s3)) eb (.bl _))
    | true =>
      rw [← eb] at w
      refine iteT (Rd1.go (r2.step s3) (M.wpB_mono (fun _ _ x => x) (fun _ _ x => x.of s3) _ _ w) fun z H4 dz g4 r4 s4 t4 w => ?_)
      split at w
      · rename_i d e2
        exact ⟨Γ, g4, σ, dy, dz, d, r4, (t2.step s3).step s4, t4, e2, fun v g5 H5 s5 eb t5 => w v g5 H5 (s1.trans (s2.trans (s3.trans (s4.trans s5)))) eb t5⟩
      · exact w.elim
  · exact w.elim
theorem de_chain {o o' : CmpOp} {f f' : D → D → Option D} (ho : OpD L X (compareOp o) f) (ho' : OpD L X (compareOp o') f') (ha : DV L X i a) (hb : DV L X j b) (hc : DV L X k c) (hm : lastMarks [o, o'] [b, c] = false := by with_unfolding_all rfl) :
    DE L X (iChain f f' i j k) (.Compare a [o, o'] [b, c] pos) := fun W tk => PE.imp (pe_chain ho ho' (ha W tk) (hb W tk) (hc W tk) hm) fun σ H Q h => rd_chain h
theorem dt_chain {o o' : CmpOp} {f f' : D → D → Option D} (ho : OpD L X (compareOp o) f) (ho' : OpD L X (compareOp o') f') (ha : DV L X i a) (hb : DV L X j b) (hc : DV L X k c) (hm : lastMarks [o, o'] [b, c] = false := by with_unfolding_all rfl) :
    DT L X (asB (iChain f f' i j k)) (.Compare a [o, o'] [b, c] pos) := fun W tk => PT.imp (pt_chain ho ho' (ha W tk) (hb W tk) (hc W tk) hm) fun σ H Q ⟨Γ, g, r, w⟩ => by
  refine rd_chain (Q := fun x H' => ∃ k, x = .bl k ∧ Q k H') ⟨Γ, g, r, M.wpB_mono (fun d b k v g' H' s e t => ?_) (fun _ _ x => x) _ _ ((M.wpB_bind _ _).mp w)⟩
  cases d with
  | bl c => cases t; exact ⟨c, rfl, k g' H' s e⟩
  | _ => exact k.elim
/-! is True, is not True -/
def fIsB (neg : Bool) : D → D → Option D
  | .bl x, .bl y => some (.bl (if neg then !decide (x = y) else decide (x = y)))
  | _, _ => none
theorem od_isB : OpD L X (compareOp .Is) (fIsB false) := by
  intro pins st σ H x y v u Q I rx ry ⟨Γ, g, σ', dx, dy, d, rp, vx, vy, e, w⟩
  cases dx <;> cases dy <;> simp only [fIsB, reduceCtorEq, Option.some.injEq] at e
  subst e
  cases vx.bl
  cases vy.bl
  exact op_isBl pins st σ H _ _ v u Q I rx ry ⟨_, _, rfl, rfl, w _ g H (Stp.refl rp) rfl (.bl _)⟩
theorem od_notB : OpD L X (compareOp .IsNot) (fIsB true) := by
  intro pins st σ H x y v u Q I rx ry ⟨Γ, g, σ', dx, dy, d, rp, vx, vy, e, w⟩
  cases dx <;> cases dy <;> simp only [fIsB, reduceCtorEq, Option.some.injEq] at e
  subst e
  cases vx.bl
  cases vy.bl
  exact op_notBl pins st σ H _ _ v u Q I rx ry ⟨_, _, rfl, rfl, w _ g H (Stp.refl rp) rfl (.bl _)⟩
end
end DL
/-! A tuple read backwards; texts and tuples many times over. -/
namespace PySem.DLR
open PySem PySem.Spec HT PyProof.Rows SeqAt
section
variable {prog : Program} {w : World} {A : Around} {E : Value → Shared → Prop} {s : Shared}
theorem adjust_back (n : Nat) : Builtin.Slice.sliceAdjust none none (-1) (n : Int) = ((n : Int) - 1, -1) := by
  unfold Builtin.Slice.sliceAdjust
  have h : (-1 : Int) < 0 := by decide
  simp only [h, if_true]
theorem places_back (n : Nat) : Builtin.Slice.slicePlaces ((n : Int) - 1) (-1) (-1) = n := by
  unfold Builtin.Slice.slicePlaces
  have h : ¬ ((-1 : Int) > 0) := by decide
  simp only [h, if_false]
  by_cases q : (n : Int) - 1 > -1
  · rw [if_pos q]
    have e : (n : Int) - 1 - -1 - 1 = (n : Int) - 1 := by omega
    rw [e, show (- (-1 : Int)) = 1 from rfl, Int.ediv_one]
    omega
  · rw [if_neg q]
    omega
theorem pick_back (xs : Array Value) : ((List.range xs.size).filterMap fun (k : Nat) => xs[((xs.size : Int) - 1 + (k : Int) * (-1)).toNat]?) = xs.toList.reverse := by
  have e : ∀ l : List Nat, (∀ k ∈ l, k < xs.size) → (l.filterMap fun (k : Nat) => xs[((xs.size : Int) - 1 + (k : Int) * (-1)).toNat]?) = (l.map fun k => xs.size - 1 - k).filterMap (xs[·]?) := fun l => by
    induction l with
    | nil => intro _; rfl
    | cons k l ih =>
      intro h
      have hk := h k List.mem_cons_self
      have e1 : ((xs.size : Int) - 1 + (k : Int) * (-1)).toNat = xs.size - 1 - k := by omega
      rw [List.map_cons, List.filterMap_cons, List.filterMap_cons, e1, ih fun m hm => h m (List.mem_cons_of_mem _ hm)]
  rw [e _ fun k hk => List.mem_range.mp hk, PySem.W.krv_range, List.filterMap_reverse, PySem.W.krv_all]
theorem getItem_tuple_back {t sl : Addr} {items : Array Value} {vs : Value} {Q : Value → Shared → Prop} (ht : IsTup s.heap t items) (hs : s.heap.IsSliceOf sl .none .none vs) (ps : IsPart vs (some (-1)))
    (h : Q (.ref s.heap.objs.size) { s with heap := s.heap.push { cls := .type "tuple", data := .seq items.toList.reverse.toArray } }) (hsz : items.size ≤ sizeLine) : wpAny (model prog w) A (getItem (.ref t) (.ref sl)) Q E s := by
  have fit : sizeOk (.seq items.toList.reverse.toArray) := by
    show items.toList.reverse.toArray.size ≤ sizeLine
    rw [List.size_toArray, List.length_reverse, Array.length_toList]
    exact hsz
  obtain ⟨os, hos, hcs, hds⟩ := id hs
  have hT : s.TypeIs (.ref sl) "slice" := ⟨os, hos, hcs⟩
  unfold getItem
  try with_reducible refine wpAny_holding ?_
  first | refine wpAny_bind (wpAny_pure ?_) | skip
  refine wpAny_bind (wpAny_sequenceKey ht.typeIs (by decide) (wpAny_bind (wpAny_callSpecial?_slot (name := Str.ofString "__getitem__") ht.typeIs slot_tuple_getitem (wpAny_call_entry slot_tuple_getitem ht.typeIs entry_tuple_getitem ?_ (args_tuple_getitem _ _)))))
  show wpAny _ _ (Builtin.Tuple.tupleItemsOf (.ref t) >>= _) _ _ s
  refine wpAny_bind (tupleItemsOf_ ht (wpAny_bind (wpAny_typeOf hT ?_)))
  rw [if_pos (by decide)]
  refine wpAny_bind (m := Builtin.Slice.sliceApplied (.ref sl) (pure (items.size : Int))) ?_
  unfold Builtin.Slice.sliceApplied Builtin.Slice.sliceFields
  refine wpAny_bind (wpAny_bind (wpAny_field hos hds (x := .none) rfl (wpAny_bind (wpAny_field hos hds (x := .none) rfl (wpAny_bind (wpAny_field hos hds (x := vs) rfl (wpAny_pure ?_)))))))
  refine wpAny_bind (slicePart_ ps ?_)
  show wpAny _ _ (if ((-1 : Int) == 0) = true then _ else _) _ _ s
  rw [if_neg (by decide)]
  refine wpAny_bind (slicePart_none (wpAny_bind (slicePart_none (wpAny_bind (wpAny_pure ?_)))))
  show wpAny _ _ (match Builtin.Slice.sliceAdjust none none (-1) (items.size : Int) with | (lo, hi) => pure (lo, (-1 : Int), Builtin.Slice.slicePlaces lo hi (-1))) _ _ s
  rw [adjust_back]
  show wpAny _ _ (pure ((items.size : Int) - 1, (-1 : Int), Builtin.Slice.slicePlaces ((items.size : Int) - 1) (-1) (-1))) _ _ s
  rw [places_back]
  refine wpAny_pure ?_
  show wpAny _ _ (if (((items.size : Int) - 1 == 0 && (-1 : Int) == 1 && items.size == items.size) = true) then _ else _) _ _ s
  have no : ¬ (((items.size : Int) - 1 == 0 && (-1 : Int) == 1 && items.size == items.size) = true) := by
    rw [show ((-1 : Int) == 1) = false from by decide, Bool.and_false, Bool.false_and]
    exact Bool.false_ne_true
  rw [if_neg no, pick_back]
  first
    | exact wpAny_bind (m := Builtin.Tuple.tupleExact _) (wpAny_newObj_type (wpAny_pure ⟨_, rfl, wpAny_pure h⟩) fit)
    | exact wpAny_bind (m := Builtin.Tuple.tupleExact _) (wpAny_newObj_type (wpAny_bind (wpAny_pure (wpAny_pure ⟨_, rfl, wpAny_pure h⟩))) fit)
    | exact wpAny_bind (wpAny_bind (m := Builtin.Tuple.tupleExact _) (wpAny_newObj_type (wpAny_pure (wpAny_pure ⟨_, rfl, wpAny_pure h⟩)) fit))
    | exact wpAny_bind (wpAny_bind (m := Builtin.Tuple.tupleExact _) (wpAny_newObj_type (wpAny_pure ⟨_, rfl, wpAny_pure h⟩) fit))
end
end PySem.DLR
namespace DL
open PySem PySem.Spec L2
section
variable {L : Lx} {X : Cx} {g g' : Gh} {H H' : Hp} {σ : L2.St} {Γ : Env} {W : WX} {pos p : Pos} {i j k : IE} {a b c e : Expr}
def tRevA (K : PySem.W.Frag) (te : TE) : TE := fun σ H Q => te σ H fun x H1 => ∃ a xs, x = .ref a ∧ ((SqL K H1 a xs ∧ ∀ p, H1 p = none → Q (.ref p) (L2.upd H1 p (.lst xs.reverse))) ∨ (SqT K H1 a xs ∧ ∀ p, H1 p = none → Q (.ref p) (L2.upd H1 p (.tup xs.reverse))))
theorem pe_revA {te : TE} {n : Nat} {p1 p2 p3 : Pos} (he : PE X e te) : PE X (.Subscript e (.Slice none none (some (.UnaryOp .USub (.Constant (.int 1) n p1) p2)) p3) pos) (tRevA X.K te) := by
  refine ⟨fun pins s σ H Q I h => PyProof.Rows.Subscript_ (thn (he.run pins s σ H _ I h) fun v s1 ⟨x, H1, I1, r1, a, xs, ex, q⟩ => ?_)⟩
  subst ex
  cases r1
  have part : PO X (some (.UnaryOp .USub (.Constant (.int 1) n p1) p2)) (tPart (tUn (rU fun i => .int (-i)) (tC (.int 1)))) := po_some (pe_un un_neg pe_int)
  refine wpAny_Slice (thn (po_none.run pins s1 σ H1 (fun o H2 => o = none ∧ H2 = H1) I1 ⟨rfl, rfl⟩) fun vl s2 ⟨l, H2, I2, pl, el, e2⟩ => ?_)
  subst el e2
  refine thn (po_none.run pins s2 σ H2 (fun o H3 => o = none ∧ H3 = H2) I2 ⟨rfl, rfl⟩) fun vu s3 ⟨u, H3, I3, pu, eu, e3⟩ => ?_
  subst eu e3
  refine thn (part.run pins s3 σ H3 (fun o H4 => o = some (-1) ∧ H4 = H3) I3 ⟨1, rfl, -1, rfl, rfl, rfl⟩) fun vs s4 ⟨o, H4, I4, ps, eo, e4⟩ => ?_
  subst eo e4
  have I5 : Inv X pins σ H4 { s4 with heap := s4.heap.push { cls := .type "slice", data := .fields #[vl, vu, vs] } } := I4.kept (t' := s4.toks) fun b ob q => Heap.get?_push_of_some _ q
  show wpAny (model X.prog X.w) X.A (PyProof.Rows.subscriptTail e (.Slice none none (some (.UnaryOp .USub (.Constant (.int 1) n p1) p2)) p3) (.ref a) (.ref s4.heap.objs.size)) (EP X pins σ Q) X.xe { s4 with heap := s4.heap.push { cls := .type "slice", data := .fields #[vl, vu, vs] } }
  rcases q with ⟨hx, q⟩ | ⟨hx, q⟩
  · obtain ⟨its, r, ht, hz⟩ := I5.list hx
    have hlen := r.length
    refine PyProof.Rows.tail_any (ops := [.ref a, .ref s4.heap.objs.size]) ht.isList.typeIs (PySem.slot_list_getitem.lookup) (wpAny_getItem_list_slice ht.isList (Heap.IsSliceOf.new _ vl vu vs) pl pu ps (by decide) ?_ (by rw [List.size_toArray]; omega)) (by with_unfolding_all rfl)
    rw [PySem.W.krv_pick]
    exact ⟨.ref _, _, I5.laid (t' := s4.toks) (o := .lst xs.reverse) (fun b ob q => Heap.get?_push_of_some _ q) (Nat.le_refl _) ⟨by rw [List.length_reverse]; exact hz, _, 0, r.reverse, Heap.get?_push_size _ rfl⟩, rfl, q _ (I5.hok.fresh (Nat.le_refl _))⟩
  · cases pl
    cases pu
    obtain ⟨its, r, ht, hz⟩ := I5.tuple hx
    have hlen := r.length
    refine PyProof.Rows.tail_any (ops := [.ref a, .ref s4.heap.objs.size]) ht.typeIs PyProof.Rows.slot_tuple_getitem.lookup (PySem.DLR.getItem_tuple_back ht (Heap.IsSliceOf.new _ .none .none vs) ps ?_ (by rw [List.size_toArray]; omega)) (by with_unfolding_all rfl)
    refine ⟨.ref _, _, I5.laid (t' := s4.toks) (o := .tup xs.reverse) (fun b ob q => Heap.get?_push_of_some _ q) (Nat.le_refl _) ?_, rfl, q _ (I5.hok.fresh (Nat.le_refl _))⟩
    exact ⟨by rw [List.length_reverse]; exact hz, its.reverse, r.reverse, _, Heap.get?_push_size _ rfl, rfl, 0, by simp⟩
def iRev (i : IE) : IE := fun Γ => (i Γ).bind fun d => match d with
  | .lst ds => .ret (.lst ds.reverse)
  | .tup ds => .ret (.tup ds.reverse)
  | _ => .stuck
theorem de_rev {n : Nat} {p1 p2 p3 : Pos} (hK : X.K = L.K) (h : DV L X i e) : DE L X (iRev i) (.Subscript e (.Slice none none (some (.UnaryOp .USub (.Constant (.int 1) n p1) p2)) p3) pos) := fun W tk => PE.imp (pe_revA (h W tk)) fun σ H Q ⟨Γ, g, rp, w⟩ => by
  refine Rd1.go rp w fun v H1 d g1 r1 s t w => ?_
  split at w
  · rename_i ds
    obtain ⟨a, vs, rfl, h1, l1⟩ := t.lst r1.sub
    refine ⟨a, vs, rfl, .inl ⟨SqL.of h1, fun p n => ?_⟩⟩
    have s2 := stp_put (o := .lst vs.reverse) r1 n
    exact w _ _ _ (s.trans s2) rfl (.lst put_F (l1.reverse.mono s2.le s2.mu))
  · rename_i ds
    obtain ⟨a, vs, rfl, h1, l1, _⟩ := t.tup r1.sub
    refine ⟨a, vs, rfl, .inr ⟨hK ▸ h1, fun p n => ?_⟩⟩
    have s2 := stp_put (o := .tup vs.reverse) r1 n
    exact w _ _ _ (s.trans s2) rfl (.tup (.inl put_F) (l1.reverse.mono s2.le s2.mu))
  · exact w.elim
/-! many times over -/
def fMulS : D → D → Option D
  | .str x, .int n => if 0 ≤ n ∧ n ≤ 1000 ∧ x.length ≤ 1000 then some (.str (Txt.mul x n)) else none
  | _, _ => none
theorem od_mulS : OpD L X (binaryOp .Mult) fMulS := by
  intro pins st σ H x y v u Q I rx ry ⟨Γ, g, σ', dx, dy, d, rp, vx, vy, e, w⟩
  unfold fMulS at e
  split at e
  · rename_i z n
    split at e
    · rename_i hc
      cases e
      cases vx.str
      cases vy.int
      obtain ⟨t, rfl⟩ := rx
      obtain ⟨t', rfl⟩ := ry
      refine PySem.SB.mul ⟨by simp; omega, fun h1 h2 => ?_, fun h1 h2 => ?_⟩ fun t2 k => ⟨.str _, H, I.tok _, ⟨t2, rfl⟩, w _ g H (Stp.refl rp) rfl (.str _)⟩
      · have q : (1000 : Int) ≤ (2 ^ 63 - 1) / n := by
          refine (Int.le_ediv_iff_mul_le (by omega)).mpr ?_
          have : (1000 : Int) * n ≤ 1000 * 1000 := Int.mul_le_mul_of_nonneg_left hc.2.1 (by decide)
          omega
        omega
      · have q : z.length * n.toNat ≤ 1000 * 1000 := Nat.mul_le_mul hc.2.2 (by omega)
        show decide (z.length * n.toNat > sizeLine) = false
        refine decide_eq_false (Nat.not_lt.mpr (Nat.le_trans q ?_))
        rw [sizeLine_eq]
        decide
    · cases e
  · cases e
end
end DL
/-! sorted of data; a tuple == (); walks over zip and texts. -/
namespace DL
open PySem PySem.Spec L2
/-! a stable sort that the kernel can follow -/
def ins1 {α : Type} (le : α → α → Bool) (x : α) : List α → List α
  | [] => [x]
  | y :: ys => if le x y = true then x :: y :: ys else y :: ins1 le x ys
def isort {α : Type} (le : α → α → Bool) : List α → List α
  | [] => []
  | x :: xs => ins1 le x (isort le xs)
section
variable {α : Type} {le : α → α → Bool}
theorem mem_ins1 {x y : α} : ∀ {l : List α}, y ∈ ins1 le x l → y = x ∨ y ∈ l
  | [], h => .inl (by simpa [ins1] using h)
  | z :: l, h => by
    unfold ins1 at h
    split at h
    · simpa using h
    · rcases List.mem_cons.mp h with h | h
      · exact .inr (by rw [h]; exact List.mem_cons_self)
      · rcases mem_ins1 h with h | h
        · exact .inl h
        · exact .inr (List.mem_cons_of_mem _ h)
theorem ins1_pair (h : PySem.W.TotalLe le) (x : α) : ∀ {l : List α}, l.Pairwise (fun a b => le a b = true) → (ins1 le x l).Pairwise (fun a b => le a b = true)
  | [], _ => List.pairwise_singleton _ _
  | y :: l, p => by
    unfold ins1
    split
    · rename_i q
      refine List.pairwise_cons.mpr ⟨fun z hz => ?_, p⟩
      rcases List.mem_cons.mp hz with rfl | hz
      · exact q
      · exact h.trans _ _ _ q ((List.pairwise_cons.mp p).1 z hz)
    · rename_i q
      obtain ⟨p1, p2⟩ := List.pairwise_cons.mp p
      refine List.pairwise_cons.mpr ⟨fun z hz => ?_, ins1_pair h x p2⟩
      rcases mem_ins1 hz with rfl | hz
      · exact (h.total z y).resolve_left (by simpa using q)
      · exact p1 z hz
theorem ins1_filter (h : PySem.W.TotalLe le) (c x : α) : ∀ {l : List α}, l.Pairwise (fun a b => le a b = true) → (ins1 le x l).filter (PySem.W.sameRank le c) = (x :: l).filter (PySem.W.sameRank le c)
  | [], _ => rfl
  | y :: l, p => by
    unfold ins1
    split
    · rfl
    · rename_i q
      obtain ⟨p1, p2⟩ := List.pairwise_cons.mp p
      have ih := ins1_filter h c x p2
      rw [List.filter_cons, ih]
      simp only [List.filter_cons]
      by_cases hx : PySem.W.sameRank le c x = true
      · by_cases hy : PySem.W.sameRank le c y = true
        · exfalso
          unfold PySem.W.sameRank at hx hy
          rw [Bool.and_eq_true] at hx hy
          exact q (h.trans _ _ _ hx.2 hy.1)
        · simp only [if_pos hx, if_neg hy]
      · simp only [if_neg hx]
theorem isort_pair (h : PySem.W.TotalLe le) : ∀ l : List α, (isort le l).Pairwise (fun a b => le a b = true)
  | [] => List.Pairwise.nil
  | x :: l => ins1_pair h x (isort_pair h l)
theorem isort_filter (h : PySem.W.TotalLe le) (c : α) : ∀ l : List α, (isort le l).filter (PySem.W.sameRank le c) = l.filter (PySem.W.sameRank le c)
  | [] => rfl
  | x :: l => by
    show (ins1 le x (isort le l)).filter _ = _
    rw [ins1_filter h c x (isort_pair h l), List.filter_cons, List.filter_cons, isort_filter h c l]
theorem isort_eq (h : PySem.W.TotalLe le) (l : List α) : isort le l = l.mergeSort le := PySem.W.sort_unique h (isort_pair h l) fun c => isort_filter h c l
end
def dLe (x y : D) : Bool := !PySem.W.dataLt y.py x.py
theorem dLe_eq : PySem.W.dataLe false D.py = dLe := rfl
theorem dLe_total : PySem.W.TotalLe dLe := PySem.W.sortLe_total (PyProof.Rows.listOrd PyProof.Rows.itemOrd) false fun b : D => PySem.W.keyToks b.py
def isTupNe : D → Bool
  | .tup (_ :: _) => true
  | _ => false
def isTupNon : D → Bool
  | .tup _ | .non => true
  | _ => false
def okSort (ds : List D) : Bool := D.plL ds && (ds.all fun x => ds.all fun y => PySem.W.alike x.py y.py) && (ds.all isTupNe || ds.all fun x => !isTupNon x) && ds.all fun x => decide (x.dep ≤ 60)
def sortD (ds : List D) : List D := isort dLe ds
section
variable {L : Lx} {X : Cx} {g g' : Gh} {H H' : Hp} {σ : L2.St} {Γ : Env} {W : WX} {pos p : Pos} {i j k : IE} {a b c e : Expr}
theorem plL_all : ∀ {ds : List D}, D.plL ds = true → ∀ d ∈ ds, d.pl = true
  | [], _, d, h => by cases h
  | x :: r, hp, d, h => by
    simp only [D.plL, Bool.and_eq_true] at hp
    rcases List.mem_cons.mp h with rfl | h
    · exact hp.1
    · exact plL_all hp.2 d h
theorem each_of {vs : List V} {ds : List D} {us : List Value} {R : Value → D → Prop} (hR : ∀ v d u, RelV v u → Den L g v d → d ∈ ds → R u d) (r : Vals vs us) (l : DenL L g vs ds) : PySem.W.EachIs R us ds := by
  have gen : ∀ (vs : List V) (us : List Value) (es : List D), (∀ d ∈ es, d ∈ ds) → Vals vs us → DenL L g vs es → PySem.W.EachIs R us es := fun vs => by
    induction vs with
    | nil => intro us es _ r l; cases r; cases l; exact .nil
    | cons v vs ih =>
      intro us es hs r l
      cases r with
      | cons r1 r2 =>
        cases l with
        | cons l1 l2 => exact .cons (hR _ _ _ r1 l1 (hs _ List.mem_cons_self)) (ih _ _ (fun d hd => hs d (List.mem_cons_of_mem _ hd)) r2 l2)
  exact gen vs us ds (fun _ h => h) r l
theorem of_each {us : List Value} {ds : List D} (h : PySem.W.EachIs (fun u d => ∃ v, RelV v u ∧ Den L g v d) us ds) : ∃ vs, Vals vs us ∧ DenL L g vs ds := by
  induction h with
  | nil => exact ⟨[], .nil, .nil⟩
  | cons h _ ih =>
    obtain ⟨v, r, t⟩ := h
    obtain ⟨vs, rs, ts⟩ := ih
    exact ⟨v :: vs, .cons r rs, .cons t ts⟩
/-- sorted(xs) of a list of data -/
def fSorted : List D → Option D
  | [.lst ds] => if okSort ds = true then some (.lst (sortD ds)) else none
  | _ => none
theorem ca_sorted (hK : X.K = L.K) (hu : X.A.units + 66 < cLine) : CaD L X FrT (.builtin "sorted") fSorted := by
  intro pins st σ H xs us Q I r ⟨Γ, g, σ', ds, d, rp, vs, e, w⟩
  unfold fSorted at e
  split at e
  · rename_i ds
    split at e
    · rename_i hs
      cases e
      unfold okSort at hs
      simp only [Bool.and_eq_true, Bool.or_eq_true, List.all_eq_true, decide_eq_true_eq] at hs
      obtain ⟨⟨⟨h1, h2⟩, h3⟩, h4⟩ := hs
      obtain ⟨v, rfl, a⟩ := vs.one
      obtain ⟨q, ws, rfl, e1, l1⟩ := a.lst rp.sub
      cases r with
      | cons r0 rn =>
        cases rn
        cases r0
        obtain ⟨its, rv, pl, hz⟩ := I.list (.inl (.inl e1))
        have hpl := plL_all h1
        have hal : PySem.W.AllAlike (ds.map D.py) := fun x hx y hy => by
          obtain ⟨x', hx', rfl⟩ := List.mem_map.mp hx
          obtain ⟨y', hy', rfl⟩ := List.mem_map.mp hy
          exact h2 x' hx' y' hy'
        have hk : PySem.W.Sortable (ds.map D.py) := by
          rcases h3 with h3 | h3
          · refine .inl fun x hx => ?_
            obtain ⟨x', hx', rfl⟩ := List.mem_map.mp hx
            have t := h3 x' hx'
            cases x' with
            | tup l => cases l with
              | nil => cases t
              | cons y l => exact ⟨y.py, D.pyL l, by simp only [D.py, D.pyL]⟩
            | _ => cases t
          · refine .inr fun x hx => ?_
            obtain ⟨x', hx', rfl⟩ := List.mem_map.mp hx
            have t := h3 x' hx'
            have t2 := hpl x' hx'
            cases x' <;> simp [isTupNon, D.pl, D.py] at t t2 ⊢
        have hlen : ds.length = its.length := l1.length.symm.trans rv.length
        refine PySem.W.sorted_data (R := fun u d => ∃ v, RelV v u ∧ Den L g v d) (enc := D.py) (bs := ds) pl.isList (each_of (fun v d u r t _ => ⟨v, r, t⟩) rv l1)
          (each_of (fun v d u r t hd => Dp.reads I d.py v u (hK ▸ t.dp rp.sub (hpl d hd)) r) rv l1) hal hk (by have := rv.length; have := l1.length; omega) (fun d hd => by rw [D.depth_py]; have := h4 d hd; omega) fun out ho eo => ?_
        rw [dLe_eq, ← isort_eq dLe_total] at eo
        obtain ⟨vs', r2, l2⟩ := of_each eo
        obtain ⟨n, hn⟩ := PyProof.Rows.sortedAll_at st.heap its out.toArray
        have nn := I.hok.fresh (a := st.heap.objs.size + 1) (Nat.le_succ _)
        have hl2 := r2.length
        have J := I.laid (t' := st.toks) (h' := PyProof.Rows.sortedAll st.heap its out.toArray) (o := .lst vs') (fun b o q => PyProof.Rows.sortedAll_old q) (Nat.le_succ _) ⟨by have := l1.length; have := rv.length; omega, out, n, r2, hn⟩
        exact ⟨.ref _, _, J, rfl, w _ g _ (stp_new (o := .lst vs') rp nn false) rfl (FrT.new rp (Stp.refl rp) nn l2)⟩
    · cases e
  · cases e
/-! (..) == () -/
def fEq0 (neg : Bool) : D → D → Option D
  | .tup xs, .tup [] => some (.bl (if neg then !xs.isEmpty else xs.isEmpty))
  | _, _ => none
def fEq := orD fEqD (fEq0 false)
def fNe := orD fNeD (fEq0 true)
theorem od_eq0 (hK : X.K = L.K) (hu : X.A.units + 1 < cLine) : OpD L X (compareOp .Eq) (fEq0 false) := by
  intro pins st σ H x y v u Q I rx ry ⟨Γ, g, σ', dx, dy, d, rp, vx, vy, e, w⟩
  unfold fEq0 at e
  split at e
  · rename_i ds
    cases e
    obtain ⟨a, vs, rfl, h1, l1, _⟩ := vx.tup rp.sub
    obtain ⟨b, ws, rfl, h2, l2, _⟩ := vy.tup rp.sub
    cases rx
    cases ry
    obtain ⟨its, rv, p1, _⟩ := I.tuple (hK ▸ h1)
    obtain ⟨its2, rv2, p2, _⟩ := I.tuple (hK ▸ h2)
    cases l2
    cases rv2
    refine PySem.W.eq_tuplesT (n := 0) (e := fun _ => true) p1 p2 (fun j h1 h2 => absurd h2 (by simp)) (by omega) ⟨.bl _, H, I, rfl, ?_⟩
    have e : ((List.range (min its.toArray.size ([] : List Value).toArray.size)).all (fun _ => true) && its.toArray.size == ([] : List Value).toArray.size) = ds.isEmpty := by
      have q : its.length = ds.length := rv.length.symm.trans l1.length
      cases its <;> cases ds <;> simp at q ⊢
    rw [e]
    exact w _ g H (Stp.refl rp) rfl (.bl _)
  · cases e
theorem od_eq (hK : X.K = L.K) (hu : X.A.units + 64 < cLine) : OpD L X (compareOp .Eq) fEq := (od_eqD hK hu).or (od_eq0 hK (by omega))
end
end DL
/-! Walks over zip, texts; while; three at once. -/
namespace DL
open PySem PySem.Spec L2
section
variable {L : Lx} {X : Cx} {g g' : Gh} {H H' : Hp} {σ : L2.St} {Γ : Env} {W : WX} {pos p tpos : Pos} {i j k : IE} {a b c e : Expr}
def zipD : List D → List D → List D
  | x :: xs, y :: ys => .tup [x, y] :: zipD xs ys
  | _, _ => []
theorem zipD_at : ∀ {xs ys : List D} {n : Nat} {d : D}, (zipD xs ys)[n]? = some d → ∃ x y, xs[n]? = some x ∧ ys[n]? = some y ∧ d = .tup [x, y]
  | [], _, _, _, h => by simp [zipD] at h
  | _ :: _, [], _, _, h => by simp [zipD] at h
  | x :: xs, y :: ys, 0, d, h => ⟨x, y, rfl, rfl, by simpa [zipD] using h.symm⟩
  | x :: xs, y :: ys, n + 1, d, h => by
    obtain ⟨u, v, h1, h2, h3⟩ := zipD_at (xs := xs) (ys := ys) (n := n) (d := d) (by simpa [zipD] using h)
    exact ⟨u, v, by simpa using h1, by simpa using h2, h3⟩
theorem zipD_len : ∀ {xs ys : List D}, xs.length ≤ (zipD xs ys).length ∨ ys.length ≤ (zipD xs ys).length
  | [], _ => .inl (Nat.zero_le _)
  | _ :: _, [] => .inr (Nat.zero_le _)
  | x :: xs, y :: ys => by
    rcases zipD_len (xs := xs) (ys := ys) with h | h
    · exact .inl (Nat.succ_le_succ h)
    · exact .inr (Nat.succ_le_succ h)
def itZ : List D → M (List D)
  | [.lst xs, .lst ys] => .ret (zipD xs ys)
  | [.tup xs, .tup ys] => .ret (zipD xs ys)
  | _ => .stuck
def iiZ (i j : IE) : II := fun Γ => (evs [i, j] Γ).bind itZ
/-- one turn of a zip, by what the two hold -/
theorem wk_zip {J : It} {a b : Addr} {us vs : List V} {xs ys : List D} (S : Hp → Addr → List V → Prop) (keep : ∀ {g' : Gh} {Γ : Env} {σ : L2.St} {H : Hp}, Rep L Γ g' σ H → FLe g g' → S H a us ∧ S H b vs) (l1 : DenL L g us xs) (l2 : DenL L g vs ys)
    (go : ∀ n H x y, S H a us → S H b vs → us[n]? = some x → vs[n]? = some y → J.go n H) (yld : ∀ n H v H', S H a us → S H b vs → J.yld n H v H' → ∃ T x y, v = .ref T ∧ H T = none ∧ H' = L2.upd H T (.tup [x, y]) ∧ us[n]? = some x ∧ vs[n]? = some y)
    (stop : ∀ n H, S H a us → S H b vs → us.length ≤ n ∨ vs.length ≤ n → J.stop n H) : Wk L J g (zipD xs ys) where
  step := fun n d Γ g' σ H e r f => by
    obtain ⟨x, y, h1, h2, rfl⟩ := zipD_at e
    obtain ⟨u, hu, tu⟩ := (l1.mono f.F f.mu).get h1
    obtain ⟨v, hv, tv⟩ := (l2.mono f.F f.mu).get h2
    obtain ⟨s1, s2⟩ := keep r f
    refine ⟨go n H u v s1 s2 hu hv, fun z H' hy => ?_⟩
    obtain ⟨T, u', v', rfl, nT, rfl, hu', hv'⟩ := yld n H z H' s1 s2 hy
    rw [hu] at hu'
    rw [hv] at hv'
    cases hu'
    cases hv'
    have s := stp_put (o := .tup [u, v]) r nT
    exact ⟨g'.put T (.tup [u, v]), s, rfl, .tup (.inl put_F) (.cons (tu.mono s.le s.mu) (.cons (tv.mono s.le s.mu) .nil))⟩
  stop := fun Γ g' σ H r f => by
    obtain ⟨s1, s2⟩ := keep r f
    refine stop _ H s1 s2 ?_
    rw [l1.length, l2.length]
    exact zipD_len
theorem di_zip (hK : X.K = L.K) {elts : List Expr} {kk : Nat} (hg : Gl X "zip") (hm : X.mg "zip" = none) (ha : DA L X [i, j] [a, b])
    (hs : starEach [a, b] X.env = (false, eval a X.env) :: starEach [b] X.env := by rfl) (hpl : (backTo pos (starEach [b] X.env)).any (·.1) = false := by rfl) :
    DI L X (iiZ i j) (.Tuple elts kk tpos) (.Call (.Name "zip" p) [a, b] [] pos) := fun W tk => by
  refine PI.imp (RZ.pi_zipA hg hm (ha W tk) hs hpl) fun σ H R ⟨Γ, g, r, w⟩ => RdA.go r w fun vs H1 ds g1 r1 s t w => ?_
  unfold itZ at w
  split at w
  · rename_i xs ys
    cases t with
    | cons t1 t2 =>
      cases t2 with
      | cons t2 t3 =>
        cases t3
        cases t1 with
        | @lst a us _ e1 l1 =>
          cases t2 with
          | @lst b ws _ e2 l2 =>
            refine ⟨a, b, us, ws, rfl, .inl ⟨.inl (.inl (r1.sub _ _ e1)), .inl (.inl (r1.sub _ _ e2)), w g1 H1 _ s rfl ?_⟩⟩
            refine wk_zip (a := a) (b := b) (us := us) (vs := ws) (fun H q vs => H q = some (.lst vs)) (fun r f => ⟨r.sub _ _ (f.F _ _ e1), r.sub _ _ (f.F _ _ e2)⟩) l1 l2 (fun n H x y s1 s2 h1 h2 => ⟨us, ws, x, y, .inl (.inl s1), .inl (.inl s2), h1, h2⟩)
              (fun n H v H' s1 s2 ⟨T, x, y, e1, e2, e3, f1, f2⟩ => ⟨T, x, y, e1, e2, e3, f1 us (.inl (.inl s1)), f2 ws (.inl (.inl s2))⟩) (fun n H s1 s2 h => ⟨us, ws, .inl (.inl s1), .inl (.inl s2), h⟩)
  · rename_i xs ys
    cases t with
    | cons t1 t2 =>
      cases t2 with
      | cons t2 t3 =>
        cases t3
        cases t1 with
        | @tup a us _ e1 l1 =>
          cases t2 with
          | @tup b ws _ e2 l2 =>
            refine ⟨a, b, us, ws, rfl, .inr ⟨hK ▸ sqT_mono r1.sub e1.sq, hK ▸ sqT_mono r1.sub e2.sq, w g1 H1 _ s rfl ?_⟩⟩
            refine wk_zip (a := a) (b := b) (us := us) (vs := ws) (fun H q vs => SqT X.K H q vs) (fun r f => ⟨hK ▸ sqT_mono r.sub (sqT_mono f.F e1.sq), hK ▸ sqT_mono r.sub (sqT_mono f.F e2.sq)⟩) l1 l2 (fun n H x y s1 s2 h1 h2 => ⟨us, ws, x, y, s1, s2, h1, h2⟩)
              (fun n H v H' s1 s2 ⟨T, x, y, e1, e2, e3, f1, f2⟩ => ⟨T, x, y, e1, e2, e3, f1 us s1, f2 ws s2⟩) (fun n H s1 s2 h => ⟨us, ws, s1, s2, h⟩)
  · exact w.elim
/-! the signs of a text -/
def signs (z : Str) : List D := z.cps.toList.map fun c => .str ⟨#[c]⟩
def itS (d : D) : M (List D) := match d with
  | .str z => .ret (signs z)
  | _ => .stuck
def iiS (i : IE) : II := fun Γ => (i Γ).bind itS
theorem di_str {tg : Expr} (h : DE L X i e) : DI L X (iiS i) tg e := fun W tk => by
  refine PI.imp (pi_str (h W tk)) fun σ H R ⟨Γ, g, r, w⟩ => RdI.go (T := DenT) r w fun v H1 d g1 r1 s t w => ?_
  cases d with
  | str z =>
    cases t
    refine ⟨z, rfl, w g1 H1 _ (Stp.refl r1) rfl ⟨fun n d Γ g' σ H e r f => ?_, fun Γ g' σ H r f => ?_⟩⟩
    · unfold signs at e
      rw [List.getElem?_map] at e
      obtain ⟨c, hc, rfl⟩ := Option.map_eq_some_iff.mp e
      rw [Array.getElem?_toList] at hc
      refine ⟨(Array.getElem?_eq_some_iff.mp hc).1, fun x H' ⟨e1, c', hc', ev⟩ => ?_⟩
      subst e1 ev
      rw [hc] at hc'
      cases hc'
      exact ⟨g', Stp.refl r, rfl, .str _⟩
    · show z.cps.size ≤ (signs z).length
      unfold signs
      rw [List.length_map, Array.length_toList]
      exact Nat.le_refl _
  | _ => exact w.elim
/-! while -/
def sWhile : Nat → IT → IS → IS
  | 0, _, _ => fun _ => .stuck
  | n + 1, c, s => fun Γ => (c Γ).bind fun t => if t = true then (s Γ).bind fun fl => (match fl with
    | .nx Γ' => sWhile n c s Γ'
    | .ct Γ' => sWhile n c s Γ'
    | .bk Γ' => .ret (.nx Γ')
    | .rt d => .ret (.rt d)) else .ret (.nx Γ)
theorem ds_while {c : IT} {s : IS} {ce : Expr} {body : List Stmt} (n : Nat) (hp : PassesOwn (model X.prog X.w) X.A X.env X.xe) (hc : DT L X c ce) (hb : DSs L X s body) : DS L X (sWhile n c s) (.While ce body [] pos) := fun W g0 H0 tk => by
  refine PS.imp (ps_while hp (hc W tk) (hb W g0 H0 tk)) fun Dn σ H ⟨Γ, g, r, w⟩ => ?_
  refine ⟨fun m σ H => ∃ Γ g2, RepS L g0 H0 Γ g2 σ H ∧ FLe g g2 ∧ (sWhile m c s Γ).wpB g2.bud (FlT L g0 H0 g Dn) (XS L W g0 H0), ⟨n, Γ, g, r, FLe.refl g, w⟩, fun m σ H ⟨Γ, g2, r2, f2, w2⟩ => ?_⟩
  cases m with
  | zero => exact w2.elim
  | succ m =>
    refine ⟨Γ, g2, r2.rep, M.wpB_mono (fun t b k g3 H3 s3 e3 => ?_) (fun _ _ x => x.xw r2.base) _ _ ((M.wpB_bind _ _).mp w2)⟩
    subst e3
    have r3 := r2.step s3
    have f3 := f2.trans s3.fle
    cases t with
    | true =>
      refine ⟨fun σ' H' => ∃ Γ g4, RepS L g0 H0 Γ g4 σ' H' ∧ FLe g g4 ∧ (sWhile m c s Γ).wpB g4.bud (FlT L g0 H0 g Dn) (XS L W g0 H0), fun σ' H' h => ⟨m, Nat.lt_succ_self m, h⟩, ?_⟩
      refine ⟨Γ, g3, r3, M.wpB_mono (fun fl b k => ?_) (fun _ _ x => x) _ _ ((M.wpB_bind _ _).mp (show ((s Γ).bind _).wpB g3.bud _ _ from k))⟩
      cases fl with
      | nx Γ5 => exact fun g5 σ5 H5 r5 f5 e5 => ⟨Γ5, g5, r5, f3.trans f5, by subst e5; exact k⟩
      | ct Γ5 => exact fun g5 σ5 H5 r5 f5 e5 => ⟨Γ5, g5, r5, f3.trans f5, by subst e5; exact k⟩
      | bk Γ5 => exact fun g5 σ5 H5 r5 f5 e5 => k g5 σ5 H5 r5 (f3.trans f5) e5
      | rt d => exact k
    | false => exact k g3 σ H3 r3 f3 rfl
end
end DL
/-! len(set(t)), t a tuple of texts. -/
namespace PySem.DLS
open PySem PySem.Spec PyProof.Rows
/-- the texts met, each once -/
def met : List Str → List Str := fun xs => xs.foldl (fun q x => if q.any (· == x) then q else q ++ [x]) []
theorem met_snoc (xs : List Str) (x : Str) : met (xs ++ [x]) = if (met xs).any (· == x) then met xs else met xs ++ [x] := by
  unfold met
  rw [List.foldl_append]
  rfl
theorem met_len : ∀ (n : Nat) (xs : List Str), xs.length = n → (met xs).length ≤ n := fun n => by
  induction n with
  | zero => intro xs h; rw [List.length_eq_zero_iff.mp h]; exact Nat.le_refl _
  | succ n ih =>
    intro xs h
    have h0 : xs ≠ [] := fun e => by rw [e] at h; cases h
    have h2 := ih xs.dropLast (by rw [List.length_dropLast, h]; rfl)
    rw [← List.dropLast_concat_getLast h0, met_snoc]
    split
    · omega
    · rw [List.length_append, List.length_singleton]; omega
section
variable {prog : Program} {w : World} {A : Around} {R : Result → Shared → Prop} {I : Addr} {fp wr : List Addr} {G : Array GenState → Array GenState → Prop} {n : Nat} {P : Nat → Value → Prop} {St : Nat → Shared → Prop}
theorem fill (W : WalksS prog w A.in1 I fp wr G n P St) (S : Addr) (hS : S ∉ fp) (xs : List Str) (hz : xs.length = n) (hb : n + 1 < scanBound) (hv : ∀ i v, P i v → ∃ t, v = .str (xs.getD i Str.empty) t) :
    ∀ (k i : Nat) (s : Shared), n - i = k → i ≤ n → St i s → s.heap.SetOf (PySem.strKind prog w) S (fun z => (met (xs.take i)).any (· == z)) (met (xs.take i)).length →
      (∀ s', Moved (S :: wr) G s s' → s'.heap.SetOf (PySem.strKind prog w) S (fun z => (met xs).any (· == z)) (met xs).length → R (.ok (.ret .none)) s') → codeAny (model prog w) A (.builtin "set.update.loop" ⟨[.ref S, .ref I], []⟩) R s := by
  have out : S ∉ wr := fun h => hS (W.sub _ h)
  have up : ∀ b ∈ wr, b ∈ S :: wr := fun b h => .tail _ h
  intro k
  induction k with
  | zero =>
    intro i s hk hi st so fin
    obtain rfl : i = n := by omega
    rw [List.take_of_length_le (Nat.le_of_eq hz)] at so
    refine codeAny_builtin PyProof.Rows.F.entry_set_update_loop ?_; rw [Around.under_plainId PyProof.Rows.F.plain_set_update_loop _]
    show wpAny _ A.in1 (pyNext (.ref I) >>= _) _ _ s
    refine wpAny_bind (W.done s _ _ st fun s' mv => wpAny_pure (fin s' (mv.mono up) ?_))
    obtain ⟨o, es, ep, t, ho, more⟩ := so
    exact ⟨o, es, ep, t, mv.heap S _ out ho, more⟩
  | succ k ih =>
    intro i s hk hi st so fin
    have lt : i < n := by omega
    refine codeAny_builtin PyProof.Rows.F.entry_set_update_loop ?_; rw [Around.under_plainId PyProof.Rows.F.plain_set_update_loop _]
    show wpAny _ A.in1 (pyNext (.ref I) >>= _) _ _ s
    refine wpAny_bind (W.item i s _ _ lt st fun v s' hP st' mv => ?_)
    obtain ⟨t, rfl⟩ := hv i v hP
    have so' : s'.heap.SetOf (PySem.strKind prog w) S (fun z => (met (xs.take i)).any (· == z)) (met (xs.take i)).length := let ⟨o, es, ep, tb, ho, more⟩ := so; ⟨o, es, ep, tb, mv.heap S _ out ho, more⟩
    show wpAny _ A.in1 (holding [Value.str (xs.getD i Str.empty) t] (setAdd S (.str (xs.getD i Str.empty) t)) >>= _) _ _ s'
    refine wpAny_bind (wpAny_holding ?_); unfold setAdd; refine wpAny_holding (wpAny_bind ((PySem.strKind prog w).pyHash (k := xs.getD i Str.empty) (strKind_is _ _ _ _) ?_))
    have hm : (met (xs.take i)).length ≤ i := met_len i _ (by rw [List.length_take]; omega)
    refine wpAny_setAddHashed_of (knd := PySem.strKind prog w) (s := { s' with toks := s'.toks + 1 }) (strKind_is _ _ _ _) rfl so' (by omega) fun h' sb so2 => ?_
    have tk : xs.take (i + 1) = xs.take i ++ [xs.getD i Str.empty] := by
      have hlt : i < xs.length := by omega
      rw [List.take_add_one, List.getD_eq_getElem?_getD, List.getElem?_eq_getElem hlt]; rfl
    have so3 : h'.SetOf (PySem.strKind prog w) S (fun z => (met (xs.take (i + 1))).any (· == z)) (met (xs.take (i + 1))).length := by
      refine SetOf_congr so2 (fun z => ?_) ?_
      · show ((met (xs.take i)).any (· == z) || decide (z = xs.getD i Str.empty)) = _
        rw [tk, met_snoc]
        split
        · rename_i q
          by_cases e : z = xs.getD i Str.empty
          · rw [e, q]; rfl
          · rw [decide_eq_false e, Bool.or_false]
        · rw [List.any_append]
          congr 1
          by_cases e : z = xs.getD i Str.empty
          · rw [e]; simp
          · rw [decide_eq_false e]; simpa using fun q => e q.symm
      · show (if (met (xs.take i)).any (· == xs.getD i Str.empty) = true then _ else _) = _
        rw [tk, met_snoc]
        split
        · rfl
        · rw [List.length_append]; rfl
    refine wpAny_pure ⟨plainId_quiet PyProof.Rows.F.plain_set_update_loop _, ih (i + 1) _ (by omega) lt (W.frame _ s' _ _ st' (Nat.le_succ _) fun b hb o e => by rw [sb.2 b (fun q : b = S => hS (q ▸ hb))]; exact e) so3 fun s'' mv2 so4 => ?_⟩
    exact fin s'' (Moved.trans W.gtrans ((mv.mono up).then_heap (Nat.le_succ _) fun b o hb e => by rw [sb.2 b (fun q : b = S => hb (by rw [q]; exact .head _))]; exact e) mv2) so4
end
section
variable {prog : Program} {w : World} {A : Around} {E : Value → Shared → Prop} {s : Shared}
abbrev emptySet (led : Bool) : Obj := { cls := .type "set", dict := none, data := .set #[] 0 (.fresh 0 0 led) }
theorem set_of_tuple {l : Addr} {items : Array Value} {xs : List Str} {Q : Value → Shared → Prop} (hh : A.handled = none) (hl : s.heap.IsTuple l items) (hi : StrsAre items.toList xs) (hb : xs.length + 1 < scanBound)
    (q : ∀ (h' : Heap) (tk : Nat), h'.SetOf (PySem.strKind prog w) s.heap.objs.size (fun z => (met xs).any (· == z)) (met xs).length → (∀ b o, b < s.heap.objs.size → s.heap.get? b = some o → h'.get? b = some o) → Q (.ref s.heap.objs.size) { s with heap := h', toks := tk }) :
    wpAny (model prog w) A (call (.type "set") [.ref l]) Q E s := by
  obtain ⟨c, tl, hmro⟩ := PySem.F.called_set.mro
  have made := PySem.F.called_set.made; have sub := PySem.F.called_set.sub
  refine wpAny_call (codeAny_of_tree ?_)
  show wpAny _ _ (callAny (.type "set") _) _ _ _
  refine wpAny_pure ⟨Code.quiet_builtin _ (by decide +kernel), codeAny_builtin PySem.F.entry_type_call ?_⟩
  rw [Around.under_plain (weight_type_call_type "set" [.ref l] []) rfl]
  have n1 := PySem.F.called_set.notType; have n2 := PySem.F.called_set.canCreate; have n3 := PySem.F.typeCall_set_1 (.ref l)
  repeat (any_goals (first | assumption | wp_step))
  refine codeAny_mono (code_set_new_1 (.ref l) (E := E) (Q₁ := fun ob s₁ => ∃ led : Bool, ob = .ref s.heap.objs.size ∧ s₁ = { s with heap := s.heap.push (emptySet led) }) fun led => ⟨led, rfl, rfl⟩) fun r s₁ hr => ?_
  cases r with
  | error e => exact hr
  | ok fl =>
    cases fl with
    | next => exact hr.elim
    | brk => exact hr.elim
    | cont => exact hr.elim
    | ret ob =>
      obtain ⟨led, rfl, rfl⟩ := hr
      have at_ : (s.heap.push (emptySet led)).get? s.heap.objs.size = some (emptySet led) := Heap.get?_push_size _ rfl
      have ty : Shared.TypeIs { s with heap := s.heap.push (emptySet led) } (.ref s.heap.objs.size) "set" := ⟨_, at_, rfl⟩
      have li := PySem.F.called_set.init.lookup; have bi := PySem.F.called_set.init.bind (.ref s.heap.objs.size)
      repeat (any_goals (first | assumption | wp_step))
      refine codeAny_mono (codeAny_call_builtin (R := wants (fun r s₂ => r = .none ∧ ∃ h' tk, s₂ = { s with heap := h', toks := tk } ∧ h'.SetOf (PySem.strKind prog w) s.heap.objs.size (fun z => (met xs).any (· == z)) (met xs).length ∧
        (∀ b o, b < s.heap.objs.size → s.heap.get? b = some o → h'.get? b = some o)) E) PySem.F.called_set.init.plain PySem.F.entry_set_init (check_set_init_1 ty ?_)) fun r₂ s₂ hr₂ => ?_
      · obtain ⟨⟨oc, od, odt, os⟩, hol, hcl, nl, hdl⟩ := hl
        simp only at hcl hdl; subst hcl hdl
        have hol' : (s.heap.push (emptySet led)).get? l = some { cls := .type "tuple", dict := od, data := .seq items nl, slots := os } := Heap.get?_push_of_some _ hol
        have e1 := PySem.F.sub_tuple_set; have e2 := PySem.F.sub_tuple_frozenset
        have e3 : (Value.type "tuple" == Value.type "dict") = false := by decide
        have tp : (s.heap.push (emptySet led)).IsTuple l items := ⟨_, hol', rfl, nl, rfl⟩
        unfold Builtin.«set.__init__» noKeywords Builtin.Frozenset.updateFrom
        generalize hPI : pyIter = PI
        wp_walk
        subst hPI
        refine wpAny_pyIter_tuple tp (wpAny_bind (wpAny_runValue ?_))
        have ll : l < s.heap.objs.size := Heap.lt_size hol
        have sz : (s.heap.push (emptySet led)).objs.size = s.heap.objs.size + 1 := Heap.size_push _ _
        have nI : l ≠ (s.heap.push (emptySet led)).objs.size := by rw [sz]; exact Nat.ne_of_lt (Nat.lt_succ_of_lt ll)
        have nS : s.heap.objs.size ∉ [(s.heap.push (emptySet led)).objs.size, l] := by rw [sz, List.mem_cons, List.mem_singleton]; exact fun z => z.elim (fun z => absurd z (Nat.ne_of_lt (Nat.lt_succ_self _))) (fun z => absurd z (Nat.ne_of_gt ll))
        have len : xs.length = items.size := by rw [← StrsAre.len_eq hi, Array.length_toList]
        refine fill ((Walks.tuple (A := A.in1.in1.in1) (by simp [hh]) _ l nI items).toS) s.heap.objs.size nS xs len (by omega) (fun i v hv => SS.strs_at hi i v (by rw [Array.getElem?_toList]; exact hv)) (items.size - 0) 0 _ (by omega) (Nat.zero_le _) ⟨⟨_, Heap.get?_push_size _ rfl, rfl, rfl⟩, tp.push _⟩ ?hA ?hB
        case hA => exact SetOf_congr ((setObjOf_fresh (knd := PySem.strKind prog w) led).setOf (Heap.get?_push_of_some _ at_) (by unfold scanBound; omega)) (fun _ => rfl) rfl
        case hB =>
          intro s' mv so
          obtain ⟨h', g', d', tk', os'⟩ := s'
          obtain rfl : g' = s.gens := mv.gens
          obtain rfl : d' = s.drawn := mv.drawn
          obtain rfl : os' = s.os := mv.os
          show wpAny _ _ _ _ _ _
          refine wpAny_pure (wpAny_pure ⟨rfl, h', tk', rfl, so, fun b o hb e => ?_⟩)
          exact mv.heap b o (by rw [sz, List.mem_cons, List.mem_singleton]; exact fun z => z.elim (fun z => absurd z (Nat.ne_of_lt hb)) (fun z => absurd z (Nat.ne_of_lt (Nat.lt_succ_of_lt hb)))) (Heap.get?_push_of_some _ (Heap.get?_push_of_some _ e))
      · cases r₂ with
        | error e => exact hr₂
        | ok f₂ =>
          cases f₂ with
          | ret r =>
            obtain ⟨rfl, h', tk, rfl, so, kp⟩ := hr₂
            repeat (any_goals (first | assumption | wp_step))
            exact q _ _ so kp
          | next => exact hr₂.elim
          | brk => exact hr₂.elim
          | cont => exact hr₂.elim
end
end PySem.DLS
/-! len(set(t)); three targets at once; fields of a class's instance. -/
namespace DL
open PySem PySem.Spec L2
section
variable {L : Lx} {X : Cx} {g g' : Gh} {H H' : Hp} {σ : L2.St} {Γ : Env} {W : WX} {pos p p2 q : Pos} {i j k : IE} {a b c e : Expr}
def tLenT (K : PySem.W.Frag) (ta : TE) : TE := fun σ H Q => ta σ H fun x H1 => ∃ l, ∃ xs : List Str, x = .ref l ∧ SqT K H1 l (xs.map V.str) ∧ xs.length + 1 < scanBound ∧ Q (.int (PySem.DLS.met xs).length) H1
theorem pe_lenT {ta : TE} (hc : X.calm = true) (hg : Gl X "len") (hm : X.mg "len" = none) (hg2 : Gl X "set") (hm2 : X.mg "set" = none) (ha : PE X a ta) (na : starEach [a] X.env = (false, eval a X.env) :: starEach [] X.env := by rfl) :
    PE X (.Call (.Name "len" p) [.Call (.Name "set" p2) [a] [] q] [] pos) (tLenT X.K ta) := by
  refine ⟨fun pins s σ H Q I h => PyProof.Rows.Call_ (ld_blt I hg hm PySem.boot_len (PyProof.Rows.callWith_builtin1 (PyProof.Rows.args_cons (PyProof.Rows.Call_ (ld_blt I hg2 hm2 PyProof.Rows.boot_set (PyProof.Rows.callWith_type1 (PyProof.Rows.args_cons (thn (ha.run pins s σ H _ I h) fun v s1 ⟨x, H1, I1, r1, l, xs, ex, hq, hl, w⟩ => PyProof.Rows.args_nil ?_) na) na rfl))) rfl) rfl rfl))⟩
  subst ex
  cases r1
  obtain ⟨its, r, pl, hz⟩ := I1.tuple hq
  refine PySem.DLS.set_of_tuple (I1.ok.hd hc) pl (by simpa using strsAre_of r) hl fun h' tk ⟨o, es, ep, t, ho, hex, hd, _, _, _, hf, hn⟩ kp => PyProof.Rows.args_nil ?_
  have I2 : Inv X pins σ H1 { s1 with heap := h', toks := tk } := I1.kept fun b o e => kp b o (Heap.lt_size e) e
  have hm : (PySem.DLS.met xs).length ≤ xs.length := PySem.DLS.met_len _ xs rfl
  exact PySem.call_len_set ho hex hd hf (by rw [hn]; unfold scanBound at hl; omega) ⟨.int (PySem.DLS.met xs).length, H1, I2.tok _, ⟨_, by rw [hn]⟩, w⟩
def strsD : List D → Option (List Str)
  | [] => some []
  | .str z :: r => (strsD r).map (z :: ·)
  | _ => none
theorem DenL.strs : ∀ {vs : List V} {ds : List D} {zs : List Str}, DenL L g vs ds → strsD ds = some zs → vs = zs.map V.str
  | _, _, zs, .nil, e => by cases e; rfl
  | _, _, zs, .cons (d := d) a l, e => by
    cases a with
    | str z =>
      unfold strsD at e
      cases q : strsD _ with
      | none => rw [q] at e; cases e
      | some cs =>
        rw [q] at e
        cases e
        rw [l.strs q]
        rfl
    | _ => cases e
def fLenT : D → Option D
  | .tup ds => (strsD ds).bind fun zs => if zs.length ≤ 1000 then some (.int (PySem.DLS.met zs).length) else none
  | _ => none
def iLenT (i : IE) : IE := fun Γ => (i Γ).bind fun d => match fLenT d with
  | some d => .ret d
  | none => .stuck
theorem de_lenT (hK : X.K = L.K) (hc : X.calm = true) (hg : Gl X "len") (hm : X.mg "len" = none) (hg2 : Gl X "set") (hm2 : X.mg "set" = none) (h : DE L X i a) (na : starEach [a] X.env = (false, eval a X.env) :: starEach [] X.env := by rfl) :
    DE L X (iLenT i) (.Call (.Name "len" p) [.Call (.Name "set" p2) [a] [] q] [] pos) := fun W tk => PE.imp (pe_lenT hc hg hm hg2 hm2 (h W tk) na) fun σ H Q ⟨Γ, g, rp, w⟩ => by
  refine Rd1.go rp w fun v H1 d g1 r1 s t w => ?_
  split at w
  · rename_i d' e
    unfold fLenT at e
    split at e
    · rename_i ds
      obtain ⟨zs, hz, e⟩ := Option.bind_eq_some_iff.mp e
      split at e
      · rename_i hl
        cases e
        cases t with
        | @tup a vs _ e1 l1 => exact ⟨a, zs, rfl, hK ▸ (l1.strs hz) ▸ sqT_mono r1.sub e1.sq, by unfold scanBound; omega, w _ g1 H1 s rfl (.int _)⟩
      · cases e
    · cases e
  · exact w.elim
/-- a, b, c = x, y, z -/
def sPar3 (n m l : Nat) (i j k : IE) : IS := fun Γ => (evs [i, j, k] Γ).bind fun ds => match ds with
  | [d, e, f] => .ret (.nx (((Γ.set n (some (.fz d))).set m (some (.fz e))).set l (some (.fz f))))
  | _ => .stuck
theorem ds_par3 {n m l : Nat} {x y z : Str} {px py pz pt : Pos} {kt k2 pt2} (hc : X.calm = true) (hN : X.N.Nodup) (hi : X.N[n]? = some x) (hj : X.N[m]? = some y) (hl : X.N[l]? = some z) (h1 : n ≠ m) (h2 : n ≠ l) (h3 : m ≠ l)
    (hx : X.env.scope.names.lookup x = some .local) (hy : X.env.scope.names.lookup y = some .local) (hz : X.env.scope.names.lookup z = some .local) (ha : DA L X [i, j, k] [a, b, c])
    (hw : swappedStores [.Tuple [.Name x px, .Name y py, .Name z pz] kt pt] (.Tuple [a, b, c] k2 pt2) X.env = pure (some [x, y, z]))
    (hs : swapsWithSole [.Tuple [.Name x px, .Name y py, .Name z pz] kt pt] (.Tuple [a, b, c] k2 pt2) pos.line X.env = pure false := by rfl) :
    DS L X (sPar3 n m l i j k) (.Assign [.Tuple [.Name x px, .Name y py, .Name z pz] kt pt] (.Tuple [a, b, c] k2 pt2) pos) := fun W g0 H0 tk => by
  refine PS.imp (ps_par3 hc hN hi hj hl h1 h2 h3 hx hy hz (ha W tk) hw hs) fun Dn σ H ⟨Γ, g, r, w⟩ => ?_
  refine ⟨Γ, g, r.rep, M.wpB_mono (fun ds b k vs g1 H1 s e t => ?_) (fun _ _ x => x.xw r.base) _ _ ((M.wpB_bind _ _).mp w)⟩
  subst e
  cases t with
  | nil => exact k.elim
  | cons t1 t =>
    cases t with
    | nil => exact k.elim
    | cons t2 t =>
      cases t with
      | nil => exact k.elim
      | cons t3 t =>
        cases t with
        | nil => exact ⟨_, _, _, rfl, k g1 _ H1 ((((r.step s).set t1).set t2).set t3) s.fle rfl⟩
        | cons _ _ => exact k.elim
end
end DL
/-! What a generator of derivations writes: operators on all kinds of data, constants of modules, walks over any sequence, repr. -/
namespace DL
open PySem PySem.Spec L2
section
variable {L : Lx} {X : Cx} {g g' : Gh} {H H' : Hp} {σ : L2.St} {Γ : Env} {W : WX} {pos p p2 q : Pos} {i j k : IE} {a b c e : Expr}
/-! repr of tuples that hold {} -/
mutual
def D.sw : D → PyData
  | .tup xs => .tuple (D.swL xs)
  | .dct _ _ => .dict []
  | .non => .none
  | .bl b => .bool b
  | .int i => .int i
  | .str s => .str s
  | .lst _ | .ins _ _ | .exc _ _ | .err _ _ | .ty _ | .clo _ | .rnd | .scr _ => .none
def D.swL : List D → List PyData
  | [] => []
  | x :: r => D.sw x :: D.swL r
end
mutual
def D.okw : D → Bool
  | .tup xs => D.okwL xs
  | .dct _ kvs => kvs.isEmpty
  | .non | .bl _ | .int _ | .str _ => true
  | .lst _ | .ins _ _ | .exc _ _ | .err _ _ | .ty _ | .clo _ | .rnd | .scr _ => false
def D.okwL : List D → Bool
  | [] => true
  | x :: r => D.okw x && D.okwL r
end
theorem zip_nil {α β : Type} {ks : List α} {ws : List β} {ds : List D} {f : α → D} (h1 : ks.length = ws.length) (h2 : ws.length = ds.length) (h3 : ((ks.map f).zip ds).isEmpty = true) : ks = [] ∧ ws = [] := by
  cases ks with
  | nil => exact ⟨rfl, List.eq_nil_of_length_eq_zero h1.symm⟩
  | cons k ks =>
    cases ds with
    | nil => rw [h2] at h1; simp at h1
    | cons d ds => simp at h3
mutual
theorem Den.readsW (hK : X.K = L.K) {pins : List (Addr × Obj)} {s : Shared} {σ2 : L2.St} (sub : ∀ a o, g.F a = some o → H a = some o) (I : Inv X pins σ2 H s) : ∀ {v : V} {d : D} {u : Value}, Den L g v d → d.okw = true → RelV v u → ∃ as, Reads s.heap u d.sw as ∧ sysModules ∉ as
  | _, _, u, .non, _, r => by cases (show u = Value.none from r); simp only [D.sw]; exact ⟨_, .none, by simp⟩
  | _, _, u, .bl b, _, r => by cases (show u = Value.bool b from r); simp only [D.sw]; exact ⟨_, .bool b, by simp⟩
  | _, _, u, .int i, _, r => by obtain ⟨t, rfl⟩ := (show ∃ t, u = Value.int i t from r); simp only [D.sw]; exact ⟨_, .int i t, by simp⟩
  | _, _, u, .str z, _, r => by obtain ⟨t, rfl⟩ := (show ∃ t, u = Value.str z t from r); simp only [D.sw]; exact ⟨_, .str z t, by simp⟩
  | _, _, u, .tup e l, h, r => by
    cases (show u = Value.ref _ from r)
    obtain ⟨its, rv, ⟨o, ho, hc, n, hd⟩, hz⟩ := I.tuple (hK ▸ sqT_mono sub e.sq)
    obtain ⟨as, ra, hs⟩ := DenL.readsW hK sub I l (by simpa only [D.okw] using h) rv
    simp only [D.sw]
    exact ⟨as, .tuple ho hc hd (by simpa using ra), hs⟩
  | _, _, u, .dK e1 e2 e3, h, r => by
    obtain ⟨rfl, rfl⟩ := zip_nil e2 e3.length (by simpa only [D.okw] using h)
    cases (show u = Value.ref _ from r)
    obtain ⟨_, hd, vs, r0, dd⟩ := dk_rd I.hok (.inl (sub _ _ e1))
    cases r0
    obtain ⟨o, es, ep, ho, hx, hdat, _, hp, _⟩ := dd
    obtain ⟨es⟩ := es
    cases hp
    simp only [D.sw]
    exact ⟨_, Reads.dict ho hx.1 hdat .nil .nil, by simpa using fun z => by rw [← z] at hd; simp at hd⟩
  | _, _, u, .dT e1 e2 e3, h, r => by
    obtain ⟨rfl, rfl⟩ := zip_nil e2 e3.length (by simpa only [D.okw] using h)
    cases (show u = Value.ref _ from r)
    obtain ⟨_, hd, xs, r0, o, es, ep, ho, hx, hdat, hp, _⟩ := dt_rd I.hok (.inl (sub _ _ e1))
    cases r0
    obtain ⟨es⟩ := es
    cases (show es = [] from hp)
    simp only [D.sw]
    exact ⟨_, Reads.dict ho hx.1 hdat .nil .nil, by simpa using fun z => by rw [← z] at hd; simp at hd⟩
  | _, _, _, .lst _ _, h, _ => by simp only [D.okw] at h; cases h
  | _, _, _, .ins _ _ _, h, _ => by simp only [D.okw] at h; cases h
  | _, _, _, .exc _ _ _ _, h, _ => by simp only [D.okw] at h; cases h
  | _, _, _, .err _ _, h, _ => by simp only [D.okw] at h; cases h
  | _, _, _, .ty _, h, _ => by simp only [D.okw] at h; cases h
  | _, _, _, .clo _, h, _ => by simp only [D.okw] at h; cases h
  | _, _, _, .rnd _, h, _ => by simp only [D.okw] at h; cases h
  | _, _, _, .scr _, h, _ => by simp only [D.okw] at h; cases h
theorem DenL.readsW (hK : X.K = L.K) {pins : List (Addr × Obj)} {s : Shared} {σ2 : L2.St} (sub : ∀ a o, g.F a = some o → H a = some o) (I : Inv X pins σ2 H s) : ∀ {vs : List V} {ds : List D} {us : List Value}, DenL L g vs ds → D.okwL ds = true → Vals vs us → ∃ as, ReadsAll s.heap us (D.swL ds) as ∧ sysModules ∉ as
  | _, _, us, .nil, _, r => by cases r; simp only [D.swL]; exact ⟨_, .nil, by simp⟩
  | _, _, us, .cons t l, h, r => by
    simp only [D.okwL, Bool.and_eq_true] at h
    cases r with
    | cons r1 r2 =>
      obtain ⟨as, h1, h2⟩ := Den.readsW hK sub I t h.1 r1
      obtain ⟨bs, h3, h4⟩ := DenL.readsW hK sub I l h.2 r2
      simp only [D.swL]
      exact ⟨_, .cons h1 h3, by rw [List.mem_append]; exact fun z => z.elim h2 h4⟩
end
def fReprW : List D → Option D
  | [d] => if d.okw = true ∧ d.sw.showable = true ∧ d.sw.depth ≤ 20 ∧ d.sw.shown.length ≤ sizeLine then some (.str d.sw.shown) else none
  | _ => none
theorem ca_reprW (hK : X.K = L.K) (hgd : X.A.guards = some []) (hu : X.A.units + 64 < cLine) : CaD L X DenT (.builtin "repr") fReprW := by
  intro pins st σ H xs us Q I r ⟨Γ, g, σ', ds, d, rp, vs, e, w⟩
  unfold fReprW at e
  split at e
  · rename_i d'
    split at e
    · rename_i hs
      cases e
      obtain ⟨h0, h1, h2, h3⟩ := hs
      obtain ⟨v, rfl, a⟩ := vs.one
      obtain ⟨u, rfl, rv⟩ := vals1 r
      have fin : ∀ (h' : Heap) (t : Tok) (tk : Nat), (∀ b o, st.heap.get? b = some o → h'.get? b = some o) → EP X pins σ Q (.str d'.sw.shown t) { st with heap := h', toks := tk } := fun h' t tk hk =>
        ⟨.str d'.sw.shown, H, I.kept (t' := tk) hk, ⟨t, rfl⟩, w _ g H (Stp.refl rp) rfl (.str _)⟩
      have main : ∀ (as : List Addr), Reads st.heap u d'.sw as → sysModules ∉ as → wpAny (model X.prog X.w) X.A (call (.builtin "repr") [u]) (EP X pins σ Q) X.xe st := fun as rd hsm => by
        have ref : ∀ q, u = .ref q → wpAny (model X.prog X.w) X.A (call (.builtin "repr") [u]) (EP X pins σ Q) X.xe st := fun q hq => by
          subst hq
          exact PySem.repr_of_reads' rd h1 (fun _ => hsm) hgd (by omega) (fun b o e => e) (fun h' t tk hk => fin h' t tk hk) h3
        revert ref fin h1 h2 h3
        generalize d'.sw = z at rd ⊢
        intro h1 h2 h3 fin ref
        cases rd with
        | none => exact PySem.P.repr_of_none (fin _ _ _ fun b o e => e)
        | bool b => exact PySem.P.repr_of_bool (fin _ _ _ fun b o e => e)
        | int i t => exact PySem.P.repr_of_int (of_decide_eq_true h1) (fin _ _ _ fun b o e => e)
        | str x t => exact PySem.P.repr_of_str (fin _ _ _ fun b o e => e) h3
        | list => exact ref _ rfl
        | tuple => exact ref _ rfl
        | dict => exact ref _ rfl
      rcases a with a | ⟨q, ws, es, rfl, rfl, _⟩ | ⟨q, t, kvs, rfl, rfl, hm, hd⟩
      · obtain ⟨as, rd, hsm⟩ := Den.readsW hK rp.sub I a h0 rv
        exact main as rd hsm
      · simp only [D.okw] at h0
        cases h0
      · rcases hd with ⟨ks, ws, es, e1, e2, e3, rfl, _⟩ | ⟨ks, ws, es, e1, e2, e3, rfl, _⟩
        · obtain ⟨rfl, rfl⟩ := zip_nil e2 e3.length (by simpa only [D.okw] using h0)
          cases (show u = Value.ref q from rv)
          obtain ⟨_, hd, vs, r0, dd⟩ := dk_rd I.hok (.inl e1)
          cases r0
          obtain ⟨o, es, ep, ho, hx, hdat, _, hp, _⟩ := dd
          obtain ⟨es⟩ := es
          cases hp
          exact main _ (Reads.dict ho hx.1 hdat .nil .nil) (by simpa using fun z => by rw [← z] at hd; simp at hd)
        · obtain ⟨rfl, rfl⟩ := zip_nil e2 e3.length (by simpa only [D.okw] using h0)
          cases (show u = Value.ref q from rv)
          obtain ⟨_, hd, xs, r0, o, es, ep, ho, hx, hdat, hp, _⟩ := dt_rd I.hok (.inl e1)
          cases r0
          obtain ⟨es⟩ := es
          cases (show es = [] from hp)
          exact main _ (Reads.dict ho hx.1 hdat .nil .nil) (by simpa using fun z => by rw [← z] at hd; simp at hd)
    · cases e
  · cases e
def fRp := orC fRepr fReprW
theorem ca_rp (hK : X.K = L.K) (hgd : X.A.guards = some []) (hu : X.A.units + 64 < cLine) : CaD L X DenT (.builtin "repr") fRp := (ca_repr hK hgd hu).or (ca_reprW hK hgd hu)
end
end DL
/-! Short words for the generated derivations. -/
namespace DL
open PySem PySem.Spec L2
section
variable {L : Lx} {X : Cx} {g g' : Gh} {H H' : Hp} {σ : L2.St} {Γ : Env} {W : WX} {pos p p2 q : Pos} {i j k : IE} {a b c e : Expr}
theorem dvar (n : Nat) {x : Str} (hN : X.N[n]? = some x := by rfl) (hv : Vis X.env.scope x := by first | exact Or.inl rfl | exact Or.inr (Or.inl rfl) | exact Or.inr (Or.inr rfl)) (hd : (x == ("__debug__" : Str)) = false := by decide)
    (hcd : (x == ("__classdict__" : Str)) = false := by decide) : DE L X (iVar n) (.Name x pos) := fun W tk => by
  refine PE.imp (pe_var hN hv hd hcd) fun σ H Q r => ?_
  obtain ⟨Γ, g, rp, w⟩ := r
  unfold iVar at w
  split at w
  · rename_i d e
    obtain ⟨x, e1, v, e2, h⟩ := rp.loc _ _ e
    subst e2
    exact ⟨v, e1, w v g H (Stp.refl rp) rfl h⟩
  · exact w.elim
theorem duse (n : Nat) {x : Str} (hN : X.N[n]? = some x := by rfl) (hv : Vis X.env.scope x := by first | exact Or.inl rfl | exact Or.inr (Or.inl rfl) | exact Or.inr (Or.inr rfl)) (hd : (x == ("__debug__" : Str)) = false := by decide)
    (hcd : (x == ("__classdict__" : Str)) = false := by decide) : DV L X (iUse n) (.Name x pos) := dv_use (pe_var hN hv hd hcd)
theorem dint {i j} : DE L X (iLit (.int i)) (.Constant (.int i) j pos) := de_c pe_int fun _ => .int i
theorem dstr {i : Str} {j} : DE L X (iLit (.str i)) (.Constant (.str i) j pos) := de_c pe_str fun _ => .str _
theorem dnon {j} : DE L X (iLit .non) (.Constant .none j pos) := de_c pe_non fun _ => .non
theorem dbool {b j} : DE L X (iLit (.bl b)) (.Constant (.bool b) j pos) := de_c pe_bl fun _ => .bl b
/-- a module's whole number -/
theorem dgint {x : Str} {n : Int} (hg : Gl X x) (h : ∃ t, X.mg x = some (.int n t)) (hd : (x == ("__debug__" : Str)) = false := by decide) : DE L X (iLit (.int n)) (.Name x pos) := by
  obtain ⟨t, h⟩ := h
  exact de_c (pe_glob (v := .int n) hg h ⟨t, rfl⟩ hd) fun _ => .int n
def fAdd := orD fAddI (orD fAddS (orD fAddL fAddT))
theorem od_add (hK : X.K = L.K) : OpD L X (binaryOp .Add) fAdd := od_addI.or (od_addS.or (od_addL.or (od_addT hK)))
def fMulT : D → D → Option D
  | .tup xs, .int n => if 2 ≤ n ∧ n ≤ 1000 ∧ xs.length ≤ 1000 ∧ xs.isEmpty = false then some (.tup (List.replicate n.toNat xs).flatten) else none
  | _, _ => none
theorem DenL.rep {vs : List V} {ds : List D} (l : DenL L g vs ds) : ∀ n : Nat, DenL L g (List.replicate n vs).flatten (List.replicate n ds).flatten
  | 0 => .nil
  | n + 1 => by
    rw [List.replicate_succ, List.replicate_succ, List.flatten_cons, List.flatten_cons]
    exact l.append (DenL.rep l n)
theorem od_mulT (hK : X.K = L.K) : OpD L X (binaryOp .Mult) fMulT := by
  intro pins st σ H x y v u Q I rx ry ⟨Γ, g, σ', dx, dy, d, rp, vx, vy, e, w⟩
  unfold fMulT at e
  split at e
  · rename_i xs n
    split at e
    · rename_i hc
      cases e
      obtain ⟨a, vs, rfl, h1, l1, _⟩ := vx.tup rp.sub
      cases vy.int
      have hl := l1.length
      refine op_repT pins st σ H _ _ v u Q I rx ry ⟨a, n, vs, rfl, rfl, hK ▸ h1, fun z => ?_, hc.1, hc.2.1, by omega, fun p np => ?_⟩
      · subst z
        cases l1
        have := hc.2.2.2
        simp at this
      · have s := stp_put (o := .tup (List.replicate n.toNat vs).flatten) rp np
        exact w _ _ _ s rfl (.tup (.inl put_F) ((l1.rep n.toNat).mono s.le s.mu))
    · cases e
  · cases e
def fMul := orD fMulI (orD fMulS fMulT)
theorem od_mul (hK : X.K = L.K) : OpD L X (binaryOp .Mult) fMul := od_mulI.or (od_mulS.or (od_mulT hK))
def fIx := orD fIxT (orD fIxL fIxS)
theorem ixd (hK : X.K = L.K) : IxD L X fIx := (ixd_tup hK).or (ixd_list.or ixd_str)
def fSl := orSl fSlT (orSl fSlL fSlS)
theorem sld (hK : X.K = L.K) : SlD L X DenT fSl := (sld_tup hK).or ((sld_list.frz).or sld_str)
def fInA := orD (fIn false) (fInS false)
def fNotIn := orD (fIn true) (fInS true)
theorem od_inA (hK : X.K = L.K) (hu : X.A.units + 65 < cLine) : OpD L X (compareOp .In) fInA := (od_in hK hu).or od_inS
theorem od_notInA (hK : X.K = L.K) (hu : X.A.units + 65 < cLine) : OpD L X (compareOp .NotIn) fNotIn := (od_notIn hK hu).or od_notInS
def fIs := orD (fIsN false) (fIsB false)
def fIsNot := orD (fIsN true) (fIsB true)
theorem od_is : OpD L X (compareOp .Is) fIs := od_isN.or od_isB
theorem od_isNot : OpD L X (compareOp .IsNot) fIsNot := od_notN.or od_notB
theorem od_ne0 (hK : X.K = L.K) (hu : X.A.units + 64 < cLine) : OpD L X (compareOp .NotEq) fNeD := od_neD hK hu
/-! a walk over a list, a tuple, a text -/
def iSeqA (K : PySem.W.Frag) (te : TE) : TI := fun σ H R => te σ H fun x H1 => (∃ a, x = .ref a ∧ (∃ xs, SqL K H1 a xs) ∧ R (Itl K a) H1) ∨ (∃ a, x = .ref a ∧ (∃ xs, SqT K H1 a xs) ∧ R (Itt K a) H1) ∨ ∃ z, x = .str z ∧ R (Its z) H1
theorem pi_seqA {tg : Expr} {te : TE} (he : PE X e te) : PI X tg e (iSeqA X.K te) := by
  refine ⟨fun pins s σ H R I h => thn (he.run pins s σ H _ I h) fun v s1 ⟨x, H1, I1, r1, q⟩ => ?_⟩
  have own : ∀ b ∈ [s1.heap.objs.size], FpOk X pins H1 b := fun b hb => by
    rw [List.mem_singleton.mp hb]
    exact I1.fpOk (Nat.le_refl _) (I1.hok.fresh (Nat.le_refl _))
  rcases q with ⟨a, ex, ⟨xs, hq⟩, q⟩ | ⟨a, ex, ⟨xs, hq⟩, q⟩ | ⟨z, ex, q⟩
  · subst ex
    cases r1
    obtain ⟨its, rv, p, hz⟩ := I1.list hq
    exact wpAny_pyIter_list p.isList ⟨s1.heap.objs.size, [s1.heap.objs.size], _, _, H1, rfl, I1.kept (t' := s1.toks) fun b o e => Heap.get?_push_of_some _ e, turn_list a _, ⟨_, Heap.get?_push_size _ rfl, rfl, rfl⟩, own, q⟩
  · subst ex
    cases r1
    obtain ⟨its, rv, p, hz⟩ := I1.tuple hq
    exact wpAny_pyIter_tuple (show s1.heap.IsTuple a its.toArray from p) ⟨s1.heap.objs.size, [s1.heap.objs.size], _, _, H1, rfl, I1.kept (t' := s1.toks) fun b o e => Heap.get?_push_of_some _ e, turn_tuple a _, ⟨_, Heap.get?_push_size _ rfl, rfl, rfl⟩, own, q⟩
  · subst ex
    obtain ⟨t, rfl⟩ := r1
    cases ha : z.cps.all (· < 128)
    · exact wpAny_pyIter_wide ha (pi_one (tk := s1.toks) I1 _ (turn_str _ z t "str_iterator" (.inr rfl)) ⟨_, Heap.get?_push_size _ rfl, rfl, rfl⟩ q)
    · exact wpAny_pyIter_ascii ha (pi_one (tk := s1.toks) I1 _ (turn_str _ z t "str_ascii_iterator" (.inl rfl)) ⟨_, Heap.get?_push_size _ rfl, rfl, rfl⟩ q)
def itA (d : D) : M (List D) := match d with
  | .lst ds => .ret ds
  | .tup ds => .ret ds
  | .str z => .ret (signs z)
  | _ => .stuck
def iiA (i : IE) : II := fun Γ => (i Γ).bind itA
theorem wk_str {z : Str} : Wk L (Its z) g (signs z) where
  step := fun n d Γ g' σ H e r f => by
    unfold signs at e
    rw [List.getElem?_map] at e
    obtain ⟨c, hc, rfl⟩ := Option.map_eq_some_iff.mp e
    rw [Array.getElem?_toList] at hc
    refine ⟨(Array.getElem?_eq_some_iff.mp hc).1, fun x H' ⟨e1, c', hc', ev⟩ => ?_⟩
    subst e1 ev
    rw [hc] at hc'
    cases hc'
    exact ⟨g', Stp.refl r, rfl, .str _⟩
  stop := fun Γ g' σ H r f => by
    show z.cps.size ≤ (signs z).length
    unfold signs
    rw [List.length_map, Array.length_toList]
    exact Nat.le_refl _
theorem di_any (hK : X.K = L.K) {tg : Expr} (h : DE L X i e) : DI L X (iiA i) tg e := fun W tk => by
  refine PI.imp (pi_seqA (h W tk)) fun σ H R ⟨Γ, g, r, w⟩ => RdI.go (T := DenT) r w fun v H1 d g1 r1 s t w => ?_
  cases d with
  | lst ds =>
    cases id t with
    | lst e l => exact .inl ⟨_, rfl, ⟨_, .inl (.inl (r1.sub _ _ e))⟩, w g1 H1 _ (Stp.refl r1) rfl (hK ▸ wk_list e l)⟩
  | tup ds =>
    cases id t with
    | tup e l => exact .inr (.inl ⟨_, rfl, ⟨_, hK ▸ sqT_mono r1.sub e.sq⟩, w g1 H1 _ (Stp.refl r1) rfl (hK ▸ wk_tup e.sq l)⟩)
  | str z =>
    cases t
    exact .inr (.inr ⟨z, rfl, w g1 H1 _ (Stp.refl r1) rfl wk_str⟩)
  | _ => exact w.elim

/-- a comprehension's test -/
theorem pts_of {ct : IT} {ifs : Expr} (h : DT L X ct ifs) : PTs X [ifs] (RdT L (fun _ _ _ _ => False) ct) := pts_one (h _ LamX.takes0)
end
end DL
/-! Words for the generated derivations, chains of three comparisons, a module's empty tuple. -/
namespace DL
open PySem PySem.Spec L2
theorem u65 {k : Nat} {A : Around} (hr : Room k A) : A.units + 65 < cLine := by have := hr.un; omega
theorem u66 {k : Nat} {A : Around} (hr : Room k A) : A.units + 66 < cLine := by have := hr.un; omega
theorem dep1 {k : Nat} {A : Around} (hr : Room k A) : A.depth + 1 < recursionLimit := by have := hr.dp; omega
theorem xfC_of {K : PySem.W.Frag} {C fI : Addr} {f qn : Str} {B n1 n2 : String} {bm : List Value} (T : PySem.DLX.ExT K C fI f qn B n1 n2 bm) : XfC K C := ⟨T.ga, T.gg, T.exC, T.hdC⟩
/-- which class is caught by which, by a table -/
def subOf (t : List (Nat × Nat × Bool)) (n k : Nat) : Option Bool := (t.find? fun e => e.1 == n && e.2.1 == k).map (·.2.2)
theorem sub_ok {L : Lx} {t : List (Nat × Nat × Bool)} (h : ∀ e ∈ t, PySem.W.exmOne L.K (.ref (L.cA e.1)) (.ref (L.cA e.2.1)) = some e.2.2) : ∀ n k b, subOf t n k = some b → PySem.W.exmOne L.K (.ref (L.cA n)) (.ref (L.cA k)) = some b := by
  intro n k b e
  unfold subOf at e
  obtain ⟨x, h1, h2⟩ := Option.map_eq_some_iff.mp e
  have h3 := List.find?_some h1
  simp only [Bool.and_eq_true, beq_iff_eq] at h3
  obtain ⟨rfl, rfl⟩ := h3
  rw [← h2]
  exact h x (List.mem_of_find?_eq_some h1)
section
variable {L : Lx} {X : Cx} {g g' : Gh} {H H' : Hp} {σ : L2.St} {Γ : Env} {W : WX} {pos p : Pos} {i j k l : IE} {a b c d : Expr}
theorem fg_none {P : Program} {w : World} {mg : Str → Option Value} {base : Heap} {n : Nat} {f : Addr} {fd : FuncData} {ps : List Str} : FG L P w mg base n f fd ps fun _ => .stuck :=
  ⟨fun A outer s H args us vs Q E hr hg e0 bt r hl ⟨Γ, g, σ, ds, rp, l, w⟩ => w.elim⟩
/-! a < b < c <= d -/
def tChain3 (r1 r2 r3 : R2) (ta tb tc td : TE) : TE := fun σ H Q => ta σ H fun x H1 => tb σ H1 fun y H2 => r1 x y H2 fun z H3 => ∃ k, z = .bl k ∧
  (if k = true then tc σ H3 fun u H4 => r2 y u H4 fun z H5 => ∃ k, z = .bl k ∧ (if k = true then td σ H5 fun v H6 => r3 u v H6 Q else Q (.bl false) H5) else Q (.bl false) H3)
theorem pe_chain3 {o1 o2 o3 : CmpOp} {r1 r2 r3 : R2} {ta tb tc td : TE} (h1 : OpR X (compareOp o1) r1) (h2 : OpR X (compareOp o2) r2) (h3 : OpR X (compareOp o3) r3) (ha : PE X a ta) (hb : PE X b tb) (hc : PE X c tc) (hd : PE X d td)
    (hm : lastMarks [o1, o2, o3] [b, c, d] = false := by with_unfolding_all rfl) : PE X (.Compare a [o1, o2, o3] [b, c, d] pos) (tChain3 r1 r2 r3 ta tb tc td) := by
  refine ⟨fun pins s σ H Q I h => ?_⟩
  refine PyProof.Rows.Compare_chain (thn (ha.run pins s σ H _ I h) fun v s1 ⟨x, H1, I1, q1, h⟩ => PyProof.Rows.chain_link (thn (hb.run pins s1 σ H1 _ I1 h) fun u s2 ⟨y, H2, I2, q2, h⟩ =>
    thn (h1 pins s2 σ H2 x y v u _ I2 q1 q2 h) fun e s3 ⟨z, H3, I3, q3, k, ez, h⟩ => ?_)) hm
  subst ez
  cases q3
  refine wpAny_truthy_bool ?_
  cases k with
  | false => exact iteF ⟨.bl false, H3, I3, rfl, h⟩
  | true =>
    refine iteT (PyProof.Rows.chain_link (thn (hc.run pins s3 σ H3 _ I3 h) fun w' s4 ⟨z', H4, I4, q4, h⟩ => thn (h2 pins s4 σ H4 y z' u w' _ I4 q2 q4 h) fun e s5 ⟨z, H5, I5, q5, k, ez, h⟩ => ?_))
    subst ez
    cases q5
    refine wpAny_truthy_bool ?_
    cases k with
    | false => exact iteF ⟨.bl false, H5, I5, rfl, h⟩
    | true => exact iteT (PyProof.Rows.chain_last (thn (hd.run pins s5 σ H5 _ I5 h) fun w2 s6 ⟨z2, H6, I6, q6, h⟩ => h3 pins s6 σ H6 z' z2 w' w2 Q I6 q4 q6 h))
def iChain3 (f1 f2 f3 : D → D → Option D) (i j k l : IE) : IE := fun Γ => (i Γ).bind fun x => (j Γ).bind fun y => match f1 x y with
  | some (.bl t) => if t = true then (k Γ).bind fun z => (match f2 y z with
    | some (.bl t) => if t = true then (l Γ).bind fun u => (match f3 z u with
      | some d => .ret d
      | none => .stuck) else .ret (.bl false)
    | _ => .stuck) else .ret (.bl false)
  | _ => .stuck
theorem rd_chain3 {f1 f2 f3 : D → D → Option D} {Q : VK} (h : Rd1 L DenT W (iChain3 f1 f2 f3 i j k l) σ H Q) : tChain3 (RdO L f1) (RdO L f2) (RdO L f3) (Rd1 L VwT W i) (Rd1 L VwT W j) (Rd1 L VwT W k) (Rd1 L VwT W l) σ H Q := by
  obtain ⟨Γ, g, rp, w⟩ := h
  refine Rd1.go rp w fun x H1 dx g1 r1 s1 t1 w => Rd1.go r1 w fun y H2 dy g2 r2 s2 t2 w => ?_
  split at w
  · rename_i t e
    refine ⟨Γ, g2, σ, dx, dy, .bl t, r2, t1.step s2, t2, e, fun v g3 H3 s3 eb t3 => ?_⟩
    cases t3
    refine ⟨t, rfl, ?_⟩
    cases t with
    | false => exact iteF (w _ g3 H3 (s1.trans (s2.trans s3)) eb (.bl _))
    | true =>
      rw [← eb] at w
      refine iteT (Rd1.go (r2.step s3) (M.wpB_mono (fun _ _ x => x) (fun _ _ x => x.of s3) _ _ w) fun z H4 dz g4 r4 s4 t4 w => ?_)
      split at w
      · rename_i t e2
        refine ⟨Γ, g4, σ, dy, dz, .bl t, r4, (t2.step s3).step s4, t4, e2, fun v g5 H5 s5 eb5 t5 => ?_⟩
        cases t5
        refine ⟨t, rfl, ?_⟩
        cases t with
        | false => exact iteF (w _ g5 H5 (s1.trans (s2.trans (s3.trans (s4.trans s5)))) eb5 (.bl _))
        | true =>
          rw [← eb5] at w
          refine iteT (Rd1.go (r4.step s5) (M.wpB_mono (fun _ _ x => x) (fun _ _ x => x.of s5) _ _ w) fun u H6 du g6 r6 s6 t6 w => ?_)
          split at w
          · rename_i d e3
            exact ⟨Γ, g6, σ, dz, du, d, r6, (t4.step s5).step s6, t6, e3, fun v g7 H7 s7 eb7 t7 => w v g7 H7 (s1.trans (s2.trans (s3.trans (s4.trans (s5.trans (s6.trans s7)))))) eb7 t7⟩
          · exact w.elim
      · exact w.elim
  · exact w.elim
theorem de_chain3 {o1 o2 o3 : CmpOp} {f1 f2 f3 : D → D → Option D} (h1 : OpD L X (compareOp o1) f1) (h2 : OpD L X (compareOp o2) f2) (h3 : OpD L X (compareOp o3) f3) (ha : DV L X i a) (hb : DV L X j b) (hc : DV L X k c) (hd : DV L X l d) (hm : lastMarks [o1, o2, o3] [b, c, d] = false := by with_unfolding_all rfl) :
    DE L X (iChain3 f1 f2 f3 i j k l) (.Compare a [o1, o2, o3] [b, c, d] pos) := fun W tk => PE.imp (pe_chain3 h1 h2 h3 (ha W tk) (hb W tk) (hc W tk) (hd W tk) hm) fun σ H Q h => rd_chain3 h
/-! a module's empty tuple -/
theorem de_gtup0 {x : Str} {a : Addr} (hg : Gl X x) (h : X.mg x = some (.ref a)) (hs : ∀ F, SqD L.K F a []) (hk : PySem.W.keepIn X.K (.ref a) = true) (hd : (x == ("__debug__" : Str)) = false := by decide) : DE L X (iLit (.tup [])) (.Name x pos) :=
  de_c (pe_glob (v := .ref a) hg h rfl hd) fun g => .tup (hs g.F) .nil
end
end DL
/-! Dicts that are looked at. -/
namespace DL
open PySem PySem.Spec L2
/-! keys as data -/
def kOf : D → Option Key
  | .int i => some (.inl i)
  | .str s => some (.inr s)
  | _ => none
def kOfL : List D → Option (List Key)
  | [] => some []
  | d :: r => match kOf d with
    | some k => (kOfL r).map (k :: ·)
    | none => none
theorem kOf_eq {d : D} {k : Key} (h : kOf d = some k) : d = keyD k := by
  cases d <;> simp only [kOf, Option.some.injEq, reduceCtorEq] at h <;> subst h <;> rfl
theorem kOfL_eq : ∀ {ds : List D} {ks : List Key}, kOfL ds = some ks → ds = ks.map keyD
  | [], ks, h => by cases h; rfl
  | d :: r, ks, h => by
    simp only [kOfL] at h
    split at h
    · rename_i k hk
      obtain ⟨l, hl, rfl⟩ := Option.map_eq_some_iff.mp h
      rw [List.map_cons, ← kOf_eq hk, ← kOfL_eq hl]
    · cases h
def kEq1 : D → D → Bool
  | .int i, .int j => decide (i = j)
  | .str a, .str b => decide (a = b)
  | _, _ => false
def kEqL : List D → List D → Bool
  | [], [] => true
  | x :: r, y :: t => kEq1 x y && kEqL r t
  | _, _ => false
def kEq : D → D → Bool
  | .tup xs, .tup ys => kEqL xs ys
  | x, y => kEq1 x y
theorem kEq1_key (a b : Key) : kEq1 (keyD a) (keyD b) = decide (a = b) := by
  cases a <;> cases b <;> simp [kEq1, keyD]
theorem kEq_key (a b : Key) : kEq (keyD a) (keyD b) = decide (a = b) := by
  rw [← kEq1_key]
  cases a <;> cases b <;> rfl
theorem kEqL_key : ∀ a b : List Key, kEqL (a.map keyD) (b.map keyD) = decide (a = b)
  | [], [] => rfl
  | [], _ :: _ => rfl
  | _ :: _, [] => rfl
  | x :: r, y :: t => by
    show (kEq1 (keyD x) (keyD y) && kEqL (r.map keyD) (t.map keyD)) = _
    rw [kEq1_key, kEqL_key r t, ← Bool.decide_and]
    exact decide_eq_decide.mpr (by simp)
theorem kEq_tup (a b : List Key) : kEq (.tup (a.map keyD)) (.tup (b.map keyD)) = decide (a = b) := kEqL_key a b
def valD (kvs : List (D × D)) (y : D) : Option D := (kvs.find? fun kv => kEq kv.1 y).map (·.2)
/-- what may be asked of a dict -/
def keyOk : Bool → D → Bool
  | false, y => (kOf y).isSome
  | true, .tup ds => match kOfL ds with
    | some ks => ks.any fun k => k.isRight
    | none => false
  | true, _ => false
section
variable {L : Lx} {X : Cx} {g g' : Gh} {H H' : Hp} {σ : L2.St} {Γ : Env} {W : WX} {pos p : Pos} {i j k : IE} {a b c : Expr}
/-- what is told of a look-up -/
def RelD (L : Lx) (g : Gh) (o : Option V) (r : Option D) : Prop := (∃ v d, o = some v ∧ r = some d ∧ Den L g v d) ∨ (o = none ∧ r = none)
theorem val_den {κ : Type} [DecidableEq κ] {f : κ → D} (hf : ∀ a b, kEq (f a) (f b) = decide (a = b)) (k : κ) : ∀ {ks : List κ} {vs : List V} {ds : List D}, ks.length = vs.length → DenL L g vs ds →
    RelD L g (valV (ks.zip vs) k) (valD ((ks.map f).zip ds) (f k)) := by
  intro ks
  induction ks with
  | nil => intro vs ds _ _; exact .inr ⟨by simp [valV], by simp [valD]⟩
  | cons x ks ih =>
    intro vs ds h l
    cases l with
    | nil => simp at h
    | @cons v vs d ds t l =>
      have ih := ih (vs := vs) (ds := ds) (by simpa using h) l
      show RelD L g (valV ((x, v) :: ks.zip vs) k) (valD ((f x, d) :: (ks.map f).zip ds) (f k))
      by_cases e : x = k
      · refine .inl ⟨v, d, valV_pos e, ?_, t⟩
        unfold valD
        rw [List.find?_cons_of_pos (by show kEq (f x) (f k) = true; rw [hf]; exact decide_eq_true e)]
        rfl
      · have e2 : valD ((f x, d) :: (ks.map f).zip ds) (f k) = valD ((ks.map f).zip ds) (f k) := by
          unfold valD
          rw [List.find?_cons_of_neg (by show ¬ kEq (f x) (f k) = true; rw [hf]; simpa using e)]
        rw [valV_neg e, e2]
        exact ih
/-- no text stands in a tuple of the text's top -/
def noKS (K : PySem.W.Frag) : Bool := K.all fun p => match p.2.cls, p.2.data with
  | .type "tuple", .seq its _ => its.toList.all fun v => match v with
    | .str _ _ => false
    | _ => true
  | _, _ => true
theorem mem_of_lookup {α β : Type} [BEq α] [LawfulBEq α] {a : α} {b : β} : ∀ {l : List (α × β)}, l.lookup a = some b → (a, b) ∈ l
  | [], h => by simp at h
  | (x, y) :: r, h => by
    rw [List.lookup_cons] at h
    split at h
    · rename_i e
      cases h
      rw [eq_of_beq e]
      exact List.mem_cons_self
    · exact List.mem_cons_of_mem _ (mem_of_lookup h)
theorem vals_str {ks : List Key} : ∀ {us : List Value}, Vals (ks.map kV) us → ks.any (fun k => k.isRight) = true → ∃ x t, Value.str x t ∈ us := by
  induction ks with
  | nil => intro us _ h; simp at h
  | cons k ks ih =>
    intro us r h
    cases r with
    | cons rv rr =>
      rw [List.any_cons, Bool.or_eq_true] at h
      rcases h with h | h
      · cases k with
        | inl i => simp at h
        | inr x =>
          obtain ⟨t, rfl⟩ := rv
          exact ⟨x, t, List.mem_cons_self⟩
      · obtain ⟨x, t, m⟩ := ih rr h
        exact ⟨x, t, List.mem_cons_of_mem _ m⟩
theorem SqD.own {K : PySem.W.Frag} {F : Hp} {a : Addr} {ks : List Key} (hk : noKS K = true) (h : SqD K F a (ks.map kV)) (hs : ks.any (fun k => k.isRight) = true) : F a = some (.tup (ks.map kV)) := by
  rcases h with h | ⟨o, its, n, h1, h2, h3, _, h5⟩
  · exact h
  · obtain ⟨x, t, m⟩ := vals_str h5 hs
    have z := List.all_eq_true.mp hk _ (mem_of_lookup h1)
    simp only [h2, h3] at z
    exact absurd (List.all_eq_true.mp z _ m) (by simp)
theorem den_keys : ∀ {ks : List Key} {vs : List V}, DenL L g vs (ks.map keyD) → vs = ks.map kV
  | [], _, .nil => rfl
  | .inl i :: ks, _, .cons t l => by cases t; rw [den_keys l]; rfl
  | .inr s :: ks, _, .cons t l => by cases t; rw [den_keys l]; rfl
theorem Vw.dct {x : V} {t : Bool} {kvs : List (D × D)} (sub : ∀ a o, g.F a = some o → H a = some o) (h : Vw L g H x (.dct t kvs)) : ∃ a, x = .ref a ∧ DctAt L g H a t kvs := by
  rcases h with h | ⟨_, _, _, _, e, _⟩ | ⟨q, t', kvs', rfl, e, _, hd⟩
  · generalize hz : D.dct t kvs = d at h
    cases h with
    | dK e1 e2 e3 =>
      obtain ⟨rfl, rfl⟩ := D.dct.inj hz
      exact ⟨_, rfl, .inl ⟨_, _, _, sub _ _ e1, e2, e3, rfl, rfl⟩⟩
    | dT e1 e2 e3 =>
      obtain ⟨rfl, rfl⟩ := D.dct.inj hz
      exact ⟨_, rfl, .inr ⟨_, _, _, sub _ _ e1, e2, e3, rfl, rfl⟩⟩
    | _ => cases hz
  · cases e
  · cases e
    exact ⟨q, rfl, hd⟩
/-- the key y in the dict at a -/
theorem key_at {ad : Addr} {y : V} {dy : D} {t : Bool} {kvs : List (D × D)} (hk : noKS L.K = true) (sub : ∀ a o, g.F a = some o → H a = some o) (hd : DctAt L g H ad t kvs) (vy : Vw L g H y dy) (ok : keyOk t dy = true) :
    ∃ o, DGet H ad y o ∧ RelD L g o (valD kvs dy) := by
  rcases hd with ⟨ks, vs, ds, h1, h2, h3, rfl, rfl⟩ | ⟨ks, vs, ds, h1, h2, h3, rfl, rfl⟩
  · obtain ⟨k, e⟩ := Option.isSome_iff_exists.mp (show (kOf dy).isSome = true from ok)
    have ed := kOf_eq e
    subst ed
    have ey : y = kV k := by
      cases k with
      | inl i => exact vy.int
      | inr s => exact vy.str
    subst ey
    exact ⟨_, DGet.k h1, val_den kEq_key k h2 h3⟩
  · cases dy with
    | tup es =>
      simp only [keyOk] at ok
      split at ok
      · rename_i k e
        have ed := kOfL_eq e
        subst ed
        obtain ⟨b, us, ey, es⟩ : ∃ b us, y = .ref b ∧ SqD L.K H b us ∧ DenL L g us (k.map keyD) := by
          rcases vy with h | ⟨_, _, _, _, e, _⟩ | ⟨_, _, _, _, e, _⟩
          · cases h with
            | tup e l => exact ⟨_, _, rfl, e.mono sub, l⟩
          · cases e
          · cases e
        subst ey
        have eu := den_keys es.2
        subst eu
        exact ⟨_, DGet.t h1 (es.1.own hk ok), val_den (f := fun k => D.tup (k.map keyD)) kEq_tup k h2 h3⟩
      · cases ok
    | _ => cases ok
/-! d[k] -/
theorem ix_dict (hu : X.A.units + 1 < cLine) : IxR X (fun x y H Q => ∃ a v, x = .ref a ∧ DGet H a y (some v) ∧ Q v H) := by
  intro value slice pins s σ H x y v u Q I rx ry ⟨a, z, ex, gt, q⟩ hs
  subst ex
  obtain rfl : v = Value.ref a := rx
  have hT := dict_typeIs I gt
  unfold PyProof.Rows.subscriptTail
  refine wpAny_bind ?_
  rw [getitemInPython_of_ne hT.not_modules]
  refine wpAny_bind (wpAny_specialOf hT PySem.F.slot_dict_getitem.lookup ?_)
  have fin : wpAny (model X.prog X.w) X.A (subscripted slice false (.ref a) u) (fun r s₃ => wpAny (model X.prog X.w) X.A (letTemporaryGo value (.ref a) r >>= fun _ => pure r) (EP X pins σ Q) X.xe s₃) X.xe s := by
    rw [hs]
    exact wpAny_operating (wpAny_mono (d_getItem (Q := EP X pins σ Q) hu I gt ry fun w' s' I' rw' => ⟨z, H, I', rw', q⟩) (fun r s₃ h₃ => wpAny_bind (wpAny_letTemporaryGo (wpAny_pure h₃))) fun _ _ x => x)
  first
    | exact wpAny_pure (wpAny_bind fin)
    | exact wpAny_bind (wpAny_pure (wpAny_bind fin))
    | exact wpAny_bind fin
def fIxK : D → D → Option D
  | .dct t kvs, y => if keyOk t y then valD kvs y else none
  | _, _ => none
theorem ixd_dict (hk : noKS L.K = true) (hu : X.A.units + 1 < cLine) : IxD L X fIxK := by
  intro va sl pins st σ H x y v u Q I rx ry ⟨Γ, g, σ', dx, dy, d, rp, vx, vy, e, w⟩ hs
  unfold fIxK at e
  split at e
  · split at e
    · rename_i ok
      obtain ⟨ad, rfl, hd⟩ := vx.dct rp.sub
      obtain ⟨o, hg, r⟩ := key_at hk rp.sub hd vy ok
      rcases r with ⟨z, d', rfl, e2, t⟩ | ⟨_, e2⟩
      · rw [e] at e2
        cases e2
        exact ix_dict hu va sl pins st σ H _ y v u Q I rx ry ⟨ad, z, rfl, hg, w _ g H (Stp.refl rp) rfl t⟩ hs
      · rw [e] at e2
        cases e2
    · cases e
  · cases e
/-! k in d -/
def fInK (neg : Bool) : D → D → Option D
  | y, .dct t kvs => if keyOk t y then some (.bl (if neg then !(valD kvs y).isSome else (valD kvs y).isSome)) else none
  | _, _ => none
theorem RelD.some {o : Option V} {r : Option D} (h : RelD L g o r) : o.isSome = r.isSome := by
  rcases h with ⟨_, _, rfl, rfl, _⟩ | ⟨rfl, rfl⟩ <;> rfl
theorem od_inK (hk : noKS L.K = true) (hu : X.A.units + 1 < cLine) : OpD L X (compareOp .In) (fInK false) := by
  intro pins st σ H x y v u Q I rx ry ⟨Γ, g, σ', dx, dy, d, rp, vx, vy, e, w⟩
  unfold fInK at e
  split at e
  · split at e
    · rename_i ok
      cases e
      obtain ⟨ad, rfl, hd⟩ := vy.dct rp.sub
      obtain ⟨o, hg, r⟩ := key_at hk rp.sub hd vx ok
      obtain rfl : u = Value.ref ad := ry
      exact d_in hu I hg rx fun s3 I3 => ⟨.bl o.isSome, H, I3, rfl, w _ g H (Stp.refl rp) rfl (by rw [r.some]; exact .bl _)⟩
    · cases e
  · cases e
theorem od_notInK (hk : noKS L.K = true) (hu : X.A.units + 1 < cLine) : OpD L X (compareOp .NotIn) (fInK true) := by
  intro pins st σ H x y v u Q I rx ry ⟨Γ, g, σ', dx, dy, d, rp, vx, vy, e, w⟩
  unfold fInK at e
  split at e
  · split at e
    · rename_i ok
      cases e
      obtain ⟨ad, rfl, hd⟩ := vy.dct rp.sub
      obtain ⟨o, hg, r⟩ := key_at hk rp.sub hd vx ok
      obtain rfl : u = Value.ref ad := ry
      exact d_notIn hu I hg rx fun s3 I3 => ⟨.bl (!o.isSome), H, I3, rfl, w _ g H (Stp.refl rp) rfl (by rw [r.some]; exact .bl _)⟩
    · cases e
  · cases e
/-! d.get(k, x) -/
def iGet (i j k : IE) : IE := fun Γ => (i Γ).bind fun x => match x with
  | .dct t kvs => (j Γ).bind fun y => (k Γ).bind fun z => if keyOk t y then .ret ((valD kvs y).getD z) else .stuck
  | _ => .stuck
theorem de_get {apos : Pos} (hk : noKS L.K = true) (hu : X.A.units + 1 < cLine) (ha : DV L X i a) (hb : DE L X j b) (hc : DE L X k c) (m : M2 X a "get" apos b c pos) : DE L X (iGet i j k) (.Call (.Attribute a "get" apos) [b, c] [] pos) := fun W tk => by
  refine PE.imp (pe_dget2 hu (ha W tk) (hb W tk) (hc W tk) m) fun σ H Q ⟨Γ, g, r, w⟩ => Rd1.go r w fun x H1 dx g1 r1 s1 t1 w => ?_
  cases dx with
  | dct t kvs =>
    obtain ⟨ad, rfl, hd⟩ := Vw.dct r1.sub t1
    have isd : IsD H1 ad := by
      rcases hd with ⟨_, _, _, h1, _⟩ | ⟨_, _, _, h1, _⟩
      · exact .inl ⟨_, .inl h1⟩
      · exact .inr ⟨_, .inl h1⟩
    refine ⟨ad, rfl, isd, Rd1.go r1 w fun y H2 dy g2 r2 s2 t2 w => Rd1.go r2 w fun z H3 dz g3 r3 s3 t3 w => ?_⟩
    split at w
    · rename_i ok
      obtain ⟨ad', e', hd3⟩ := Vw.dct r3.sub ((t1.step s2).step s3)
      cases e'
      obtain ⟨o, hg, rl⟩ := key_at hk r3.sub hd3 (.inl (t2.mono s3.le s3.mu)) ok
      refine ⟨o, hg, w _ g3 H3 (s1.trans (s2.trans s3)) rfl ?_⟩
      rcases rl with ⟨v, d, rfl, e, t⟩ | ⟨rfl, e⟩
      · rw [e]; exact t
      · rw [e]; exact t3
    · exact w.elim
  | _ => exact w.elim
end
end DL
/-! Dicts of one's own, changed in place. -/
namespace DL
open PySem PySem.Spec L2
section
variable {L : Lx} {X : Cx} {g0 g g' : Gh} {H0 H H' : Hp} {σ σ' : L2.St} {Γ Γ' : Env} {W : WX} {pos : Pos}
/-- a dict's object, whatever its keys are -/
def IsDO : HO → Prop
  | .dK _ => True
  | .dT _ => True
  | _ => False
theorem stp_updD {gs : Gh} {Hs : Hp} {p : Addr} {o o' : HO} (s : Stp L gs Hs g H) (n : Hs p = none) (h1 : H p = some o) (ho : IsDO o) (h3 : g.F p = none) (h4 : ¬ InM g.mu H p) : Stp L gs Hs g (upd H p o') := by
  have im : ∀ a, InM g.mu (upd H p o') a → InM g.mu H a := fun a ⟨m, e, h⟩ => by
    refine ⟨m, e, ?_⟩
    rcases h with h | ⟨kvs, k, e4, hm⟩
    · exact .inl h
    · have q : m ≠ p := fun z => h4 ⟨m, e, .inl z.symm⟩
      rw [upd_ne q] at e4
      exact .inr ⟨kvs, k, e4, hm⟩
  have ne : ∀ a, Hs a ≠ none → a ≠ p := fun a h z => h (by rw [z]; exact n)
  refine ⟨s.le, s.mu, fun a o e => ?_, fun a o e nt nm => ?_, fun a h => ?_, fun a o e i => s.nm a o e (im a i), ⟨s.rnd.1, fun m e => ?_⟩, s.bud, ⟨fun q hq => ?_, fun ea en ed eu he => ?_⟩⟩
  · have q : a ≠ p := fun z => by rw [z, h3] at e; cases e
    rw [upd_ne q]; exact s.sub a o e
  · obtain ⟨e1, m1⟩ := s.keep a o e nt nm
    rw [upd_ne (ne a (by rw [e]; simp))]
    exact ⟨e1, fun i => m1 (im a i)⟩
  · rw [upd_ne (ne a h)]; exact s.nf a h
  · obtain ⟨c, l, cs, ls, at_, e1, e2, e3, r⟩ := s.rnd.2 m e
    have q : ∀ a, InM g.mu H a → a ≠ p := fun a i z => h4 (z ▸ i)
    have em : upd H p o' m = H m := upd_ne (q m ⟨m, e, .inl rfl⟩)
    have ec : upd H p o' c = H c := upd_ne (q c ⟨m, e, .inr ⟨_, Sum.inr "cells", e1, by simp⟩⟩)
    have el : upd H p o' l = H l := upd_ne (q l ⟨m, e, .inr ⟨_, Sum.inr "left", e1, by simp⟩⟩)
    exact ⟨c, l, cs, ls, at_, em.trans e1, ec.trans e2, el.trans e3, r⟩
  · obtain ⟨ps, e1, e2, e3⟩ := s.tab.1 q hq
    have n1 : q.1 ≠ p := fun z => by rw [z, h1] at e1; cases e1; exact ho
    refine ⟨ps, by rw [upd_ne n1]; exact e1, e2, fun pos cv hc => ?_⟩
    obtain ⟨c, z1, z2⟩ := e3 pos cv hc
    have n2 : c ≠ p := fun z => by rw [z, h1] at z2; unfold LamX.CodeO at z2; cases z2; exact ho
    exact ⟨c, z1, by rw [upd_ne n2]; exact z2⟩
  · obtain ⟨f, e1, e2⟩ := s.tab.2 ea en ed eu he
    have n1 : ed ≠ p := fun z => by rw [z, h1] at e2; cases e2; exact ho
    exact ⟨f, e1, by rw [upd_ne n1]; exact e2⟩
theorem inM_updD {mu : Option Addr} {p : Addr} {o : HO} {a : Addr} (n : ¬ InM mu H p) (h : InM mu (upd H p o) a) : InM mu H a := by
  obtain ⟨m, e, h⟩ := h
  refine ⟨m, e, ?_⟩
  rcases h with h | ⟨kvs, k, e4, hm⟩
  · exact .inl h
  · have q : m ≠ p := fun z => n ⟨m, e, .inl z.symm⟩
    rw [upd_ne q] at e4
    exact .inr ⟨kvs, k, e4, hm⟩
theorem RepS.updD {n : Nat} {p : Addr} {t : Bool} {ds ds' : List (D × D)} {o o' : HO} (r : RepS L g0 H0 Γ g σ H) (en : Γ[n]? = some (some (.od t ds))) (es : σ[n]? = some (some (.ref p))) (h1 : H p = some o) (ho : IsDO o) (h3 : g.F p = none) (h4 : ¬ InM g.mu H p)
    (l : DctAt L g (L2.upd H p o') p t ds') : RepS L g0 H0 (Γ.set n (some (.od t ds'))) g σ (L2.upd H p o') := by
  have n0 : H0 p = none := r.new n _ p en rfl es
  have hl : n < Γ.length := (List.getElem?_eq_some_iff.mp en).1
  have s := stp_updD (o' := o') r.base n0 h1 ho h3 h4
  have at_ : ∀ (i : Nat) (b : B), (Γ.set n (some (.od t ds')))[i]? = some (some b) → (i = n ∧ b = .od t ds') ∨ (i ≠ n ∧ Γ[i]? = some (some b)) := fun i b e => by
    by_cases h : i = n
    · subst h
      rw [List.getElem?_set_self hl] at e
      cases e
      exact .inl ⟨rfl, rfl⟩
    · rw [List.getElem?_set_ne (Ne.symm h)] at e
      exact .inr ⟨h, e⟩
  refine ⟨⟨s.sub, s.rnd, s.tab, fun i b e => ?_, fun i j b c q e1 e2 o1 o2 s1 s2 => ?_, s.nm, by rw [List.length_set]; exact r.rep.len⟩, s, fun i b q e o sq => ?_⟩
  · rcases at_ i b e with ⟨rfl, rfl⟩ | ⟨hi, e⟩
    · exact ⟨_, es, p, rfl, h3, fun z => h4 (inM_updD h4 z), l⟩
    · obtain ⟨x, ex, hb⟩ := r.rep.loc i b e
      refine ⟨x, ex, ?_⟩
      cases b with
      | fz d => exact hb
      | ol es' =>
        obtain ⟨q, ws, rfl, a1, a2, a3, a4⟩ := hb
        have nq : q ≠ p := fun z => hi (r.rep.dis i n _ _ p e en rfl rfl (z ▸ ex) es)
        exact ⟨q, ws, rfl, by rw [upd_ne nq]; exact a1, a2, a3, fun z => a4 (inM_updD h4 z)⟩
      | od t kvs =>
        obtain ⟨q, rfl, a1, a2, a3⟩ := hb
        have nq : q ≠ p := fun z => hi (r.rep.dis i n _ _ p e en rfl rfl (z ▸ ex) es)
        exact ⟨q, rfl, a1, fun z => a2 (inM_updD h4 z), a3.step (upd_ne nq) (fun _ _ e => e) fun _ e => e⟩
      | os m fs =>
        obtain ⟨q, dx, ws, rfl, sq, a1, a2, a3, a4⟩ := hb
        have nq : q ≠ p := fun z => hi (r.rep.dis i n _ _ p e en rfl rfl (z ▸ ex) es)
        exact ⟨q, dx, ws, rfl, sq, by rw [upd_ne nq]; exact a1, a2, a3, fun z => a4 (inM_updD h4 z)⟩
  · have f : ∀ (i : Nat) (b : B), (Γ.set n (some (.od t ds')))[i]? = some (some b) → b.own = true → ∃ b', Γ[i]? = some (some b') ∧ b'.own = true := fun i b e o => by
      rcases at_ i b e with ⟨rfl, rfl⟩ | ⟨_, e⟩
      · exact ⟨_, en, rfl⟩
      · exact ⟨b, e, o⟩
    obtain ⟨b', e1', o1'⟩ := f i b e1 o1
    obtain ⟨c', e2', o2'⟩ := f j c e2 o2
    exact r.rep.dis i j b' c' q e1' e2' o1' o2' s1 s2
  · rcases at_ i b e with ⟨rfl, rfl⟩ | ⟨_, e⟩
    · rw [es] at sq
      cases sq
      exact n0
    · exact r.new i b q e o sq
/-- a new dict of one's own -/
def FrTD : TT1 := fun L H₀ g H v d => ∃ p t kvs, v = .ref p ∧ d = .dct t kvs ∧ DctAt L g H p t kvs ∧ g.F p = none ∧ ¬ InM g.mu H p ∧ H₀ p = none
def DFD (L : Lx) (X : Cx) (i : IE) (e : Expr) : Prop := ∀ W, Takes X W → PE X e (Rd1 L FrTD W i)
/-- a slot is given a new dict of one's own -/
theorem RepS.setOwnD {n : Nat} {v : V} {t : Bool} {ds : List (D × D)} {g1 : Gh} {H1 : Hp} (r0 : RepS L g0 H0 Γ g σ H) (s : Stp L g H g1 H1) (h : FrTD L H g1 H1 v (.dct t ds)) : RepS L g0 H0 (Γ.set n (some (.od t ds))) g1 (σ.set n (some v)) H1 := by
  obtain ⟨p, t', ds', rfl, e, h1, h3, h4, h5⟩ := h
  cases e
  have r := r0.step s
  have at_ : ∀ (i : Nat) (b : B), (Γ.set n (some (.od t ds)))[i]? = some (some b) → (i = n ∧ b = .od t ds ∧ (σ.set n (some (.ref p)))[i]? = some (some (.ref p))) ∨ (i ≠ n ∧ Γ[i]? = some (some b) ∧ (σ.set n (some (.ref p)))[i]? = σ[i]?) := fun i b e => by
    by_cases h : i = n
    · subst h
      by_cases hl : i < Γ.length
      · rw [List.getElem?_set_self hl] at e
        cases e
        exact .inl ⟨rfl, rfl, List.getElem?_set_self (by rw [← r.rep.len]; exact hl)⟩
      · rw [List.getElem?_eq_none (by simpa using hl)] at e; cases e
    · rw [List.getElem?_set_ne (Ne.symm h)] at e
      exact .inr ⟨h, e, List.getElem?_set_ne (Ne.symm h)⟩
  have old : ∀ (i : Nat) (b : B) (q : Addr), Γ[i]? = some (some b) → b.own = true → σ[i]? = some (some (.ref q)) → q ≠ p := fun i b q e o sq z => by
    subst z
    obtain ⟨x, ex, hb⟩ := r0.rep.loc i b e
    rw [sq] at ex
    cases ex
    cases b with
    | fz d => cases o
    | ol es' => obtain ⟨q, ws, e1, a1, _⟩ := hb; cases e1; rw [h5] at a1; cases a1
    | od t kvs => obtain ⟨q, e1, _, _, a3⟩ := hb; cases e1; rcases a3 with ⟨_, _, _, a, _⟩ | ⟨_, _, _, a, _⟩ <;> rw [h5] at a <;> cases a
    | os m fs => obtain ⟨q, dx, ws, e1, _, a1, _⟩ := hb; cases e1; rw [h5] at a1; cases a1
  refine ⟨⟨r.rep.sub, r.rep.rnd, r.rep.tab, fun i b e => ?_, fun i j b c q e1 e2 o1 o2 s1 s2 => ?_, r.rep.nF, by rw [List.length_set, List.length_set]; exact r.rep.len⟩, r.base, fun i b q e o sq => ?_⟩
  · rcases at_ i b e with ⟨rfl, rfl, t⟩ | ⟨_, e, t⟩
    · exact ⟨_, t, p, rfl, h3, h4, h1⟩
    · rw [t]; exact r.rep.loc i b e
  · rcases at_ i b e1 with ⟨i1, b1, t1⟩ | ⟨n1, f1, t1⟩
    · rcases at_ j c e2 with ⟨j1, c1, t2⟩ | ⟨n2, f2, t2⟩
      · exact i1.trans j1.symm
      · rw [t1] at s1
        cases s1
        rw [t2] at s2
        exact absurd rfl (old j c p f2 o2 s2)
    · rw [t1] at s1
      rcases at_ j c e2 with ⟨j1, c1, t2⟩ | ⟨n2, f2, t2⟩
      · rw [t2] at s2
        cases s2
        exact absurd rfl (old i b p f1 o1 s1)
      · rw [t2] at s2
        exact r.rep.dis i j b c q f1 f2 o1 o2 s1 s2
  · rcases at_ i b e with ⟨rfl, rfl, t⟩ | ⟨_, e, t⟩
    · rw [t] at sq
      cases sq
      exact none_back r0.base h5
    · exact r.new i b q e o (t ▸ sq)
variable {e a b : Expr} {i j : IE}
/-- x = a new dict -/
def sOwnD (n : Nat) (i : IE) : IS := fun Γ => (i Γ).bind fun d => match d with
  | .dct t ds => .ret (.nx (Γ.set n (some (.od t ds))))
  | _ => .stuck
theorem ds_ownD {n : Nat} {x : Str} {pos' : Pos} (hN : X.N.Nodup) (hi : X.N[n]? = some x) (hx : Loc X.env.scope x) (h : DFD L X i e) (hs : swapsWith e (some (.Name x pos')) pos.line X.env = pure false := by rfl)
    (hf : X.fn x = true ∨ X.env.scope.names.lookup x = some .local := by first | exact .inl rfl | exact .inr rfl) : DS L X (sOwnD n i) (.Assign [.Name x pos'] e pos) := fun W g0 H0 tk => by
  refine PS.imp (ps_set hN hi hx (h W tk) hs hf) fun Dn σ H ⟨Γ, g, r, w⟩ => Rd1.goS r w fun v H1 d g1 r1 s t w => ?_
  cases d with
  | dct t ds => exact w g1 _ H1 (r.setOwnD s t) s.fle rfl
  | _ => exact w.elim
/-- {}, its keys numbers and texts, or tuples -/
theorem dfd_newK : DFD L X (iLit (.dct false [])) (.Dict [] [] pos) := fun W tk => PE.imp pe_dnewK fun σ H Q ⟨Γ, g, rp, w⟩ => fun p n => by
  have s := stp_new (o := .dK []) rp n false
  exact w (.ref p) _ _ s rfl ⟨p, false, [], rfl, rfl, .inl ⟨[], [], [], upd_same, rfl, .nil, rfl, rfl⟩, nF_of rp n, fun i => (InM.there rp.rnd.ok (i.new n rp.rnd.ok)) n, n⟩
theorem dfd_newT : DFD L X (iLit (.dct true [])) (.Dict [] [] pos) := fun W tk => PE.imp pe_dnewT fun σ H Q ⟨Γ, g, rp, w⟩ => fun p n => by
  have s := stp_new (o := .dT []) rp n false
  exact w (.ref p) _ _ s rfl ⟨p, true, [], rfl, rfl, .inr ⟨[], [], [], upd_same, rfl, .nil, rfl, rfl⟩, nF_of rp n, fun i => (InM.there rp.rnd.ok (i.new n rp.rnd.ok)) n, n⟩
end
end DL
/-! d[k] = v on a dict of one's own. -/
namespace DL
open PySem PySem.Spec L2
def putD (kvs : List (D × D)) (y d : D) : List (D × D) :=
  if (kvs.any fun kv => kEq kv.1 y) = true then kvs.map (fun kv => if kEq kv.1 y = true then (kv.1, d) else kv) else kvs ++ [(y, d)]
section
variable {L : Lx} {X : Cx} {g0 g g' : Gh} {H0 H H' : Hp} {σ σ' : L2.St} {Γ Γ' : Env} {W : WX} {pos : Pos}
theorem any_key {κ : Type} [DecidableEq κ] {f : κ → D} (hf : ∀ a b, kEq (f a) (f b) = decide (a = b)) (k : κ) : ∀ {ks : List κ} {vs : List V} {ds : List D}, ks.length = vs.length → vs.length = ds.length →
    ((ks.zip vs).any fun kv => decide (kv.1 = k)) = ((ks.map f).zip ds).any fun kv => kEq kv.1 (f k) := by
  intro ks
  induction ks with
  | nil => intro vs ds _ _; simp
  | cons x ks ih =>
    intro vs ds h1 h2
    cases vs with
    | nil => simp at h1
    | cons v vs =>
      cases ds with
      | nil => simp at h2
      | cons d ds =>
        have ih := ih (vs := vs) (ds := ds) (by simpa using h1) (by simpa using h2)
        show (decide (x = k) || (ks.zip vs).any fun kv => decide (kv.1 = k)) = (kEq (f x) (f k) || ((ks.map f).zip ds).any fun kv => kEq kv.1 (f k))
        rw [ih, hf]
theorem map_key {κ : Type} [DecidableEq κ] {f : κ → D} (hf : ∀ a b, kEq (f a) (f b) = decide (a = b)) (k : κ) {v : V} {d : D} (t : Den L g v d) : ∀ {ks : List κ} {vs : List V} {ds : List D}, ks.length = vs.length → DenL L g vs ds →
    ∃ vs' ds', (ks.zip vs).map (fun kv => if kv.1 = k then (kv.1, v) else kv) = ks.zip vs' ∧ ks.length = vs'.length ∧ DenL L g vs' ds' ∧ ((ks.map f).zip ds).map (fun kv => if kEq kv.1 (f k) = true then (kv.1, d) else kv) = (ks.map f).zip ds' := by
  intro ks
  induction ks with
  | nil =>
    intro vs ds h l
    cases l with
    | nil => exact ⟨[], [], rfl, rfl, .nil, rfl⟩
    | cons _ _ => simp at h
  | cons x ks ih =>
    intro vs ds h l
    cases l with
    | nil => simp at h
    | @cons u vs e ds tu l =>
      obtain ⟨vs', ds', e1, e2, e3, e4⟩ := ih (vs := vs) (ds := ds) (by simpa using h) l
      by_cases q : x = k
      · refine ⟨v :: vs', d :: ds', ?_, by simp [e2], .cons t e3, ?_⟩
        · show (if x = k then (x, v) else (x, u)) :: (ks.zip vs).map (fun kv => if kv.1 = k then (kv.1, v) else kv) = (x, v) :: ks.zip vs'
          rw [if_pos q, e1]
        · show (if kEq (f x) (f k) = true then (f x, d) else (f x, e)) :: ((ks.map f).zip ds).map (fun kv => if kEq kv.1 (f k) = true then (kv.1, d) else kv) = (f x, d) :: (ks.map f).zip ds'
          rw [if_pos (by rw [hf]; exact decide_eq_true q), e4]
      · refine ⟨u :: vs', e :: ds', ?_, by simp [e2], .cons tu e3, ?_⟩
        · show (if x = k then (x, v) else (x, u)) :: (ks.zip vs).map (fun kv => if kv.1 = k then (kv.1, v) else kv) = (x, u) :: ks.zip vs'
          rw [if_neg q, e1]
        · show (if kEq (f x) (f k) = true then (f x, d) else (f x, e)) :: ((ks.map f).zip ds).map (fun kv => if kEq kv.1 (f k) = true then (kv.1, d) else kv) = (f x, e) :: (ks.map f).zip ds'
          rw [if_neg (by rw [hf]; simpa using q), e4]
theorem put_den {κ : Type} [DecidableEq κ] {f : κ → D} (hf : ∀ a b, kEq (f a) (f b) = decide (a = b)) (k : κ) {v : V} {d : D} (t : Den L g v d) {ks : List κ} {vs : List V} {ds : List D} (h : ks.length = vs.length) (l : DenL L g vs ds) :
    ∃ (ks' : List κ) (vs' : List V) (ds' : List D), putK (ks.zip vs) k v = ks'.zip vs' ∧ ks'.length = vs'.length ∧ DenL L g vs' ds' ∧ putD ((ks.map f).zip ds) (f k) d = (ks'.map f).zip ds' := by
  have a := any_key hf k h l.length
  by_cases q : ((ks.zip vs).any fun kv => decide (kv.1 = k)) = true
  · obtain ⟨vs', ds', e1, e2, e3, e4⟩ := map_key hf k t h l
    refine ⟨ks, vs', ds', ?_, e2, e3, ?_⟩
    · unfold putK; rw [if_pos q, e1]
    · unfold putD; rw [if_pos (a ▸ q), e4]
  · refine ⟨ks ++ [k], vs ++ [v], ds ++ [d], ?_, by simp [h], l.append (.cons t .nil), ?_⟩
    · unfold putK; rw [if_neg q, List.zip_append h]; rfl
    · unfold putD
      rw [if_neg (a ▸ q), List.map_append, List.zip_append (by rw [List.length_map, h, l.length])]
      rfl
theorem DctAt.isDO {p : Addr} {t : Bool} {kvs : List (D × D)} (h : DctAt L g H p t kvs) : ∃ o, H p = some o ∧ IsDO o := by
  rcases h with ⟨_, _, _, h1, _⟩ | ⟨_, _, _, h1, _⟩
  · exact ⟨_, h1, trivial⟩
  · exact ⟨_, h1, trivial⟩
theorem DctAt.size {p : Addr} {t : Bool} {kvs : List (D × D)} (h : DctAt L g H p t kvs) {n : Nat} (hn : kvs.length < n) : (∀ kvs', H p = some (.dK kvs') → kvs'.length < n) ∧ ∀ kvs', H p = some (.dT kvs') → kvs'.length < n := by
  rcases h with ⟨ks, vs, ds, h1, h2, h3, rfl, _⟩ | ⟨ks, vs, ds, h1, h2, h3, rfl, _⟩
  · refine ⟨fun kvs' e => ?_, fun kvs' e => (by rw [h1] at e; cases e)⟩
    rw [h1] at e; cases e
    have := h3.length
    simp only [List.length_zip, List.length_map] at hn ⊢
    omega
  · refine ⟨fun kvs' e => (by rw [h1] at e; cases e), fun kvs' e => ?_⟩
    rw [h1] at e; cases e
    have := h3.length
    simp only [List.length_zip, List.length_map] at hn ⊢
    omega
/-- the key y of the dict at p gets v -/
theorem put_at {p : Addr} {y v : V} {dy d : D} {t : Bool} {kvs : List (D × D)} (hk : noKS L.K = true) (sub : ∀ a o, g.F a = some o → H a = some o) (hd : DctAt L g H p t kvs) (vy : Den L g y dy) (tv : Den L g v d) (ok : keyOk t dy = true) (hn : kvs.length < sizeLine) :
    ∃ o, DPut H p y v (L2.upd H p o) ∧ DctAt L g (L2.upd H p o) p t (putD kvs dy d) := by
  have sz := hd.size hn
  rcases hd with ⟨ks, vs, ds, h1, h2, h3, rfl, rfl⟩ | ⟨ks, vs, ds, h1, h2, h3, rfl, rfl⟩
  · obtain ⟨k, e⟩ := Option.isSome_iff_exists.mp (show (kOf dy).isSome = true from ok)
    have ed := kOf_eq e
    subst ed
    have ey : y = kV k := by
      cases k with
      | inl i => exact Vw.int (.inl vy : Vw L g H y (.int i))
      | inr s => exact Vw.str (.inl vy : Vw L g H y (.str s))
    subst ey
    obtain ⟨ks', vs', ds', e1, e2, e3, e4⟩ := put_den kEq_key k tv h2 h3
    exact ⟨_, DPut.k h1 (sz.1 _ h1), .inl ⟨ks', vs', ds', by rw [upd_same, e1], e2, e3, e4, rfl⟩⟩
  · cases dy with
    | tup es =>
      simp only [keyOk] at ok
      split at ok
      · rename_i k e
        have ed := kOfL_eq e
        subst ed
        cases vy with
        | tup eb el =>
          have eu := den_keys el
          subst eu
          obtain ⟨ks', vs', ds', e1, e2, e3, e4⟩ := put_den (f := fun k => D.tup (k.map keyD)) kEq_tup k tv h2 h3
          exact ⟨_, DPut.t h1 ((eb.mono sub).own hk ok) (sz.2 _ h1), .inr ⟨ks', vs', ds', by rw [upd_same, e1], e2, e3, e4, rfl⟩⟩
      · cases ok
    | _ => cases ok
variable {e a b : Expr} {i j : IE}
/-- x[k] = v, x a dict of one's own -/
def sPut (n : Nat) (i j : IE) : IS := fun Γ => match Γ[n]? with
  | some (some (.od t kvs)) => (j Γ).bind fun d => (i Γ).bind fun y => if keyOk t y = true ∧ kvs.length < sizeLine then .ret (.nx (Γ.set n (some (.od t (putD kvs y d))))) else .stuck
  | _ => .stuck
theorem ds_put {n : Nat} {x : Str} {p1 p2 : Pos} (hk : noKS L.K = true) (hu : X.A.units + 1 < cLine) (hx : PE X (.Name x p1) (tVar n)) (hi : DE L X i a) (hv : DE L X j b)
    (hs : swapsWith b (some (.Subscript (.Name x p1) a p2)) pos.line X.env = pure false := by rfl) : DS L X (sPut n i j) (.Assign [.Subscript (.Name x p1) a p2] b pos) := fun W g0 H0 tk => by
  refine PS.imp (ps_dput hu hx (hi W tk) (hv W tk) hs) fun Dn σ H ⟨Γ, g, r, w⟩ => ?_
  unfold sPut at w
  split at w
  · rename_i t kvs en
    refine Rd1.goS r w fun v H1 d g1 r1 s1 t1 w => ?_
    obtain ⟨xv, es, p, e2, h1, h2, h3⟩ := r1.rep.loc _ _ en
    subst e2
    refine ⟨.ref p, es, Rd1.goS r1 w fun y H2 dy g2 r2 s2 t2 w => ?_⟩
    split at w
    · rename_i ok
      obtain ⟨xv, es', p', e2, f1, f2, f3⟩ := r2.rep.loc _ _ en
      rw [es] at es'
      cases es'
      cases e2
      obtain ⟨o, hp, hd'⟩ := put_at hk r2.rep.sub f3 t2 (t1.mono s2.le s2.mu) ok.1 ok.2
      obtain ⟨o1, ho1, ho2⟩ := f3.isDO
      exact ⟨p, _, rfl, hp, w g2 σ _ (r2.updD en es ho1 ho2 f1 f2 hd') (s1.trans s2).fle rfl⟩
    · exact w.elim
  · exact w.elim
end
end DL
/-! A module's tuple of texts. -/
namespace DL
open PySem PySem.Spec L2
section
variable {L : Lx} {X : Cx} {pos : Pos}
theorem denL_strs {g : Gh} : ∀ ss : List Str, DenL L g (ss.map V.str) (ss.map D.str)
  | [] => .nil
  | s :: r => .cons (.str s) (denL_strs r)
/-- a tuple of texts that the top has written -/
def GtS (K : PySem.W.Frag) (o : Option Value) (ss : List Str) : Prop := ∃ a, o = some (.ref a) ∧ ∀ F, SqD K F a (ss.map V.str)
theorem de_gtupS {x : Str} {ss : List Str} (hg : Gl X x) (h : GtS L.K (X.mg x) ss) (hd : (x == ("__debug__" : Str)) = false := by decide) : DE L X (iLit (.tup (ss.map D.str))) (.Name x pos) := by
  obtain ⟨a, e, hs⟩ := h
  exact de_c (pe_glob (v := .ref a) hg e rfl hd) fun g => .tup (hs g.F) (denL_strs ss)
end
/-- it stands so in what the top has written -/
def strsOf : List Value → List Str → Bool
  | [], [] => true
  | .str x _ :: r, y :: t => decide (x = y) && strsOf r t
  | _, _ => false
theorem strsOf_ok : ∀ {us : List Value} {ss : List Str}, strsOf us ss = true → Vals (ss.map V.str) us
  | [], [], _ => .nil
  | .str x t :: r, y :: z, h => by
    unfold strsOf at h
    obtain ⟨h1, h2⟩ := Bool.and_eq_true_iff.mp h
    exact .cons ⟨t, by rw [of_decide_eq_true h1]⟩ (strsOf_ok h2)
def gtB (K : PySem.W.Frag) (a : Addr) (ss : List Str) : Bool := match K.lookup a with
  | some ⟨.type "tuple", _, .seq its _, _⟩ => decide (its.size ≤ sizeLine) && strsOf its.toList ss
  | _ => false
theorem gtB_ok {K : PySem.W.Frag} {a : Addr} {ss : List Str} (h : gtB K a ss = true) {o : Option Value} (e : o = some (.ref a)) : GtS K o ss := by
  unfold gtB at h
  split at h
  · rename_i d its n x hl
    obtain ⟨h1, h2⟩ := Bool.and_eq_true_iff.mp h
    exact ⟨a, e, fun F => .inr ⟨_, its, n, hl, rfl, rfl, of_decide_eq_true h1, strsOf_ok h2⟩⟩
  · cases h
end DL
/-! Runs told step by step: what the words of a run do on data that are not fixed. -/
namespace DL
open PySem PySem.Spec L2
theorem M.bind_ite {α β : Type} {c : Prop} [Decidable c] (a b : M α) (f : α → M β) : (if c then a else b).bind f = if c then a.bind f else b.bind f := by split <;> rfl
theorem M.ret_bind {α β : Type} (a : α) (f : α → M β) : (M.ret a).bind f = f a := rfl
theorem M.stuck_bind {α β : Type} (f : α → M β) : (M.stuck : M α).bind f = .stuck := rfl
theorem M.exc_bind {α β : Type} (x : Ex) (f : α → M β) : (M.exc x : M α).bind f = .exc x := rfl
theorem M.choose_bind {α β : Type} (n : Nat) (k : Nat → M α) (f : α → M β) : (M.choose n k).bind f = .choose n fun i => (k i).bind f := rfl
theorem M.ret_noX {α : Type} (a : α) : (M.ret a).noX = .ret a := rfl
end DL
namespace DL
open PySem PySem.Spec L2
/-! comparisons -/
theorem fEq_int (i j : Int) : fEq (.int i) (.int j) = some (.bl (decide (i = j))) := by
  show some (D.bl (i == j)) = _
  exact congrArg (fun b => some (D.bl b)) (by by_cases h : i = j <;> simp [h])
theorem fEq_str (x y : Str) : fEq (.str x) (.str y) = some (.bl (decide (x = y))) := by
  show some (D.bl (x == y)) = _
  exact congrArg (fun b => some (D.bl b)) (by by_cases h : x = y <;> simp [h])
theorem fLe_int (i j : Int) : fLe (.int i) (.int j) = some (.bl (decide (i ≤ j))) := rfl
theorem fLt_int (i j : Int) : fLt (.int i) (.int j) = some (.bl (decide (i < j))) := rfl
theorem fGe_int (i j : Int) : fGe (.int i) (.int j) = some (.bl (decide (j ≤ i))) := rfl
theorem fGt_int (i j : Int) : fGt (.int i) (.int j) = some (.bl (decide (j < i))) := rfl
/-- x < y of texts -/
abbrev sLt (x y : Str) : Bool := decide (x.cps.toList < y.cps.toList)
theorem dLt_str (x y : Str) : dLt (.str x) (.str y) = sLt x y := by
  unfold dLt
  exact PySem.W.dataLt_str x y
theorem fLt_str (x y : Str) : fLt (.str x) (.str y) = some (.bl (sLt x y)) := by
  rw [← dLt_str]; rfl
theorem fLe_str (x y : Str) : fLe (.str x) (.str y) = some (.bl (!sLt y x)) := by
  rw [← dLt_str]; rfl
theorem fAdd_int (i j : Int) : fAdd (.int i) (.int j) = some (.int (i + j)) := rfl
theorem fSubI_int (i j : Int) : fSubI (.int i) (.int j) = some (.int (i - j)) := rfl
theorem fLen_tup (ds : List D) : fLen [.tup ds] = some (.int ds.length) := rfl
theorem fLen_lst (ds : List D) : fLen [.lst ds] = some (.int ds.length) := rfl
/-! comprehensions -/
theorem lcRun_pure {t : IG} {c : IT} {i : IE} {own : List Nat} {Γ : Env} {p : D → Bool} {e : D → D} : ∀ (ds acc : List D), (∀ d ∈ ds, ∃ Γ1, t d (wipeE Γ own) = .ret Γ1 ∧ c Γ1 = .ret (p d) ∧ (p d = true → i Γ1 = .ret (e d))) → acc.length + ds.length ≤ sizeLine →
    lcRun t c i own Γ acc ds = .ret (acc ++ (ds.filter p).map e)
  | [], acc, _, _ => by simp [lcRun]
  | d :: r, acc, h, hl => by
    obtain ⟨Γ1, e1, e2, e3⟩ := h d List.mem_cons_self
    rw [List.length_cons] at hl
    unfold lcRun
    rw [e1, M.ret_bind, e2, M.ret_bind]
    by_cases q : p d = true
    · rw [if_pos q, e3 q, M.ret_bind, if_pos (by omega), lcRun_pure r _ (fun d hd => h d (List.mem_cons_of_mem _ hd)) (by rw [List.length_append, List.length_singleton]; omega), List.filter_cons_of_pos q, List.map_cons, List.append_assoc]
      rfl
    · rw [if_neg q, lcRun_pure r _ (fun d hd => h d (List.mem_cons_of_mem _ hd)) (by omega), List.filter_cons_of_neg q]
theorem lc_pure {t : IG} {it : II} {c : IT} {i : IE} {own : List Nat} {Γ : Env} {ds : List D} {p : D → Bool} {e : D → D} (hi : it Γ = .ret ds) (h : ∀ d ∈ ds, ∃ Γ1, t d (wipeE Γ own) = .ret Γ1 ∧ c Γ1 = .ret (p d) ∧ (p d = true → i Γ1 = .ret (e d))) (hl : ds.length ≤ sizeLine) :
    iLc t it c i own Γ = .ret (.lst ((ds.filter p).map e)) := by
  unfold iLc
  rw [hi, M.ret_bind, lcRun_pure ds [] h (by simpa using hl)]
  rfl
/-- with no test -/
theorem lc_all {t : IG} {it : II} {i : IE} {own : List Nat} {Γ : Env} {ds : List D} {e : D → D} (hi : it Γ = .ret ds) (h : ∀ d ∈ ds, ∃ Γ1, t d (wipeE Γ own) = .ret Γ1 ∧ i Γ1 = .ret (e d)) (hl : ds.length ≤ sizeLine) :
    iLc t it cYes i own Γ = .ret (.lst (ds.map e)) := by
  rw [lc_pure (c := cYes) (p := fun _ => true) (e := e) hi (fun d hd => let ⟨Γ1, e1, e2⟩ := h d hd; ⟨Γ1, e1, rfl, fun _ => e2⟩) hl, List.filter_eq_self.mpr fun _ _ => rfl]
theorem bools_map (f : D → Bool) : ∀ ds : List D, boolsD (ds.map fun d => .bl (f d)) = some (ds.map f)
  | [] => rfl
  | d :: r => by
    show (boolsD (r.map fun d => .bl (f d))).map (f d :: ·) = _
    rw [bools_map f r]
    rfl
theorem fAll_map (f : D → Bool) (ds : List D) : fAll [.lst (ds.map fun d => .bl (f d))] = some (.bl (ds.all f)) := by
  show (boolsD _).map _ = _
  rw [bools_map]
  simp only [Option.map_some, Option.some.injEq, D.bl.injEq]
  rw [List.all_map]
  rfl
end DL
/-! Runs with draws: what they yield, and how many draws they take. Texts by their signs. -/
namespace DL
open PySem PySem.Spec L2
/-- at most k draws, no error, and P of what is yielded -/
def Yl {α : Type} (m : M α) (k : Nat) (P : α → Prop) : Prop := ∀ b, k ≤ b → b ≤ lim → m.wpB b (fun a c => c ≤ b ∧ b ≤ c + k ∧ P a) (fun _ _ => False)
section
variable {α β : Type} {m : M α} {k l : Nat} {P : α → Prop} {Q : β → Prop} {f : α → M β}
theorem Yl.ret {a : α} (h : P a) : Yl (.ret a) 0 P := fun b _ _ => ⟨Nat.le_refl _, Nat.le_refl _, h⟩
theorem Yl.bind (h : Yl m k P) (h2 : ∀ a, P a → Yl (f a) l Q) : Yl (m.bind f) (k + l) Q := fun b hb hl => by
  refine (M.wpB_bind _ _).mpr (M.wpB_mono (fun a c ⟨c1, c2, pa⟩ => ?_) (fun _ _ x => x) _ _ (h b (by omega) hl))
  exact M.wpB_mono (fun a' c' ⟨d1, d2, pa'⟩ => ⟨by omega, by omega, pa'⟩) (fun _ _ x => x) _ _ (h2 a pa c (by omega) (by omega))
theorem Yl.choose {n : Nat} {f : Nat → M α} (h : ∀ i, i < n → Yl (f i) k P) : Yl (.choose n f) (k + 1) P := fun b hb hl => by
  cases b with
  | zero => omega
  | succ b => exact fun i hi => M.wpB_mono (fun a c ⟨c1, c2, pa⟩ => ⟨by omega, by omega, pa⟩) (fun _ _ x => x) _ _ (h i hi b (by omega) (by omega))
theorem Yl.mono {k' : Nat} {P' : α → Prop} (h : Yl m k P) (hk : k ≤ k') (hP : ∀ a, P a → P' a) : Yl m k' P' := fun b hb hl =>
  M.wpB_mono (fun a c ⟨c1, c2, pa⟩ => ⟨c1, by omega, hP a pa⟩) (fun _ _ x => x) _ _ (h b (by omega) hl)
theorem Yl.noX (h : Yl m k P) : Yl m.noX k P := fun b hb hl => by
  have go : ∀ (m : M α) (b : Nat) {R : α → Nat → Prop}, m.wpB b R (fun _ _ => False) → m.noX.wpB b R (fun _ _ => False) := by
    intro m
    induction m with
    | ret a => exact fun _ _ h => h
    | exc x => exact fun _ _ h => h.elim
    | stuck => exact fun _ _ h => h
    | choose n k ih =>
      intro b R h
      cases b with
      | zero => exact h
      | succ b => exact fun i hi => ih i b (h i hi)
    | begun k ih => exact fun b R h => ⟨h.1, ih _ h.2⟩
  exact go _ _ (h b hb hl)
end
/-- a loop with a word that holds on -/
theorem Yl.loop {t : IG} {s : IS} {k : Nat} (ds : List D) (I : Nat → Env → Prop) (h : ∀ j d Γ, ds[j]? = some d → I j Γ → Yl ((t d Γ).bind s) k fun fl => ∃ Γ', fl = .nx Γ' ∧ I (j + 1) Γ') {Γ : Env} (h0 : I 0 Γ) :
    Yl (loop t s ds Γ) (k * ds.length) fun fl => ∃ Γ', fl = .nx Γ' ∧ I ds.length Γ' := by
  have go : ∀ (r : List D) (j : Nat) (Γ : Env), ds.drop j = r → j ≤ ds.length → I j Γ → Yl (DL.loop t s r Γ) (k * r.length) fun fl => ∃ Γ', fl = .nx Γ' ∧ I ds.length Γ' := by
    intro r
    induction r with
    | nil =>
      intro j Γ e hj hI
      have : j = ds.length := by
        have := congrArg List.length e
        rw [List.length_drop] at this
        simp at this
        omega
      subst this
      exact Yl.ret ⟨Γ, rfl, hI⟩
    | cons d r ih =>
      intro j Γ e hj hI
      have hlt : j < ds.length := by
        have := congrArg List.length e
        rw [List.length_drop, List.length_cons] at this
        omega
      have ed : ds[j]? = some d := by
        rw [← List.head?_drop, e]; rfl
      have er : ds.drop (j + 1) = r := by
        rw [← List.tail_drop, e]; rfl
      have e2 : DL.loop t s (d :: r) Γ = ((t d Γ).bind s).bind fun fl => match fl with
        | .nx Γ2 => DL.loop t s r Γ2
        | .ct Γ2 => DL.loop t s r Γ2
        | .bk Γ2 => .ret (.nx Γ2)
        | .rt d => .ret (.rt d) := by
        have assoc : ∀ (m : M Env) (g : Fl → M Fl), m.bind (fun Γ1 => (s Γ1).bind g) = (m.bind s).bind g := by
          intro m g
          induction m with
          | ret a => rfl
          | exc x => rfl
          | stuck => rfl
          | choose n k ih => simp only [M.bind]; congr; funext i; exact ih i
          | begun k ih => simp only [M.bind]; rw [ih]
        show (t d Γ).bind (fun Γ1 => (s Γ1).bind _) = _
        rw [assoc]
        try congr
      rw [e2, List.length_cons, Nat.mul_succ, Nat.add_comm]
      refine (h j d Γ ed hI).bind fun fl hfl => ?_
      obtain ⟨Γ', rfl, hI'⟩ := hfl
      exact ih (j + 1) Γ' er (by omega) hI'
  exact go ds 0 Γ rfl (Nat.zero_le _) h0
/-! ### texts by their signs -/
def S (l : List Nat) : Str := ⟨l.toArray⟩
theorem S_list (l : List Nat) : (S l).cps.toList = l := rfl
theorem S_length (l : List Nat) : (S l).length = l.length := by show l.toArray.size = _; simp
theorem S_inj {l m : List Nat} (h : S l = S m) : l = m := by
  have := congrArg (fun z => z.cps.toList) h
  exact this
theorem S_eq {l m : List Nat} : S l = S m ↔ l = m := ⟨S_inj, fun h => by rw [h]⟩
theorem S_add (l m : List Nat) : (S l ++ S m : Str) = S (l ++ m) := by
  show (⟨l.toArray ++ m.toArray⟩ : Str) = _
  unfold S
  congr 1
  simp
theorem fAdd_S (l m : List Nat) (h : l.length + m.length ≤ sizeLine) : fAdd (.str (S l)) (.str (S m)) = some (.str (S (l ++ m))) := by
  have e : fAddS (.str (S l)) (.str (S m)) = some (.str (S (l ++ m))) := by
    show (if (S l).length + (S m).length ≤ sizeLine then some (D.str (S l ++ S m)) else none) = _
    rw [S_length, S_length, if_pos h, S_add]
  show (match fAddS (.str (S l)) (.str (S m)) with | some d => some d | none => _) = _
  rw [e]
theorem fLen_S (l : List Nat) (h : l.length ≤ sizeLine) : fLen [.str (S l)] = some (.int l.length) := by
  show (if (S l).length ≤ sizeLine then some (D.int (S l).length) else none) = _
  rw [S_length, if_pos h]
theorem atI_nat {α : Type} (l : List α) {i : Nat} (h : i < l.length) : atI l (i : Int) = some l[i] := by
  unfold atI ixN
  rw [if_pos (by omega), if_pos (by omega)]
  simp [h]
theorem fIx_S (l : List Nat) {i : Nat} (h : i < l.length) (hl : l.length ≤ sizeLine) : fIx (.str (S l)) (.int i) = some (.str (S [l[i]])) := by
  show (if (S l).length ≤ sizeLine then (atI (S l).cps.toList (i : Int)).map fun c => D.str ⟨#[c]⟩ else none) = _
  rw [S_length, if_pos hl, S_list, atI_nat l h]
  rfl
theorem fIx_lst (ds : List D) {i : Nat} (h : i < ds.length) : fIx (.lst ds) (.int i) = some ds[i] := by
  have e : fIxL (.lst ds) (.int i) = some ds[i] := atI_nat ds h
  show (match fIxL (.lst ds) (.int i) with | some d => some d | none => _) = _
  rw [e]
theorem fIx_tup (ds : List D) {i : Nat} (h : i < ds.length) : fIx (.tup ds) (.int i) = some ds[i] := by
  have e : fIxT (.tup ds) (.int i) = some ds[i] := atI_nat ds h
  show (match fIxT (.tup ds) (.int i) with | some d => some d | none => _) = _
  rw [e]
theorem fSl_take (l : List Nat) (k : Nat) (hl : l.length ≤ sizeLine) : fSl (.str (S l)) none (some (k : Int)) = some (.str (S (l.take k))) := by
  have e : fSlS (.str (S l)) none (some (k : Int)) = some (.str (S (l.take k))) := by
    show (if (S l).length ≤ sizeLine then some (D.str (cutS (S l) none (some (k : Int)))) else none) = _
    rw [S_length, if_pos hl]
    unfold cutS
    rw [S_length, S_list, HT.sIx_nat, HT.sIx_none, Nat.sub_zero, List.drop_zero]
    congr 2
    unfold S
    congr 2
    by_cases h : k ≤ l.length
    · rw [Nat.min_eq_left h]
    · rw [Nat.min_eq_right (by omega), List.take_of_length_le (by omega), List.take_of_length_le (by omega)]
  exact e
theorem fSl_drop (l : List Nat) (k : Nat) (hl : l.length ≤ sizeLine) : fSl (.str (S l)) (some (k : Int)) none = some (.str (S (l.drop k))) := by
  have e : fSlS (.str (S l)) (some (k : Int)) none = some (.str (S (l.drop k))) := by
    show (if (S l).length ≤ sizeLine then some (D.str (cutS (S l) (some (k : Int)) none)) else none) = _
    rw [S_length, if_pos hl]
    unfold cutS
    rw [S_length, S_list, HT.sIx_nat, HT.sIx_none]
    congr 2
    unfold S
    congr 2
    by_cases h : k ≤ l.length
    · rw [Nat.min_eq_left h]
      exact List.take_of_length_le (by simp)
    · rw [Nat.min_eq_right (by omega), List.drop_of_length_le (Nat.le_refl _), List.drop_of_length_le (by omega), List.take_nil]
  exact e
def abc : List Nat := (List.range 26).map (97 + ·)
theorem abc_eq : Str.ofString "abcdefghijklmnopqrstuvwxyz" = S abc := by decide +kernel
theorem abc_len : abc.length = 26 := by decide
theorem abc_at {i : Nat} (h : i < abc.length) : abc[i] = 97 + i := by
  simp [abc]
theorem empty_eq : Str.ofString "" = S [] := by decide +kernel
/-- small letters -/
def Low (l : List Nat) : Prop := ∀ c ∈ l, 97 ≤ c ∧ c ≤ 122
end DL
/-! Runs with draws, word by word. -/
namespace DL
open PySem PySem.Spec L2
section
variable {α : Type} {m : M α} {k l : Nat} {P : α → Prop}
theorem Yl.of_eq {a : α} (e : m = .ret a) (h : P a) : Yl m 0 P := e ▸ Yl.ret h
theorem Yl.seq {s t : IS} {Γ : DL.Env} {I : DL.Env → Prop} {P : Fl → Prop} (h : Yl (s Γ) k fun fl => ∃ Γ', fl = .nx Γ' ∧ I Γ') (h2 : ∀ Γ', I Γ' → Yl (t Γ') l P) : Yl (DL.sSeq s t Γ) (k + l) P := by
  unfold DL.sSeq
  refine h.bind fun fl hfl => ?_
  obtain ⟨Γ', rfl, hI⟩ := hfl
  exact h2 Γ' hI
theorem Yl.fn {n : Nat} {body : IS} {ds : List D} {P : D → Prop} (h : Yl (body (env0 n ds)) k fun fl => ∃ d, fl = .rt d ∧ P d) : Yl (runFn n body ds) k P := by
  unfold runFn
  refine (Yl.bind (l := 0) h fun fl hfl => ?_).mono (Nat.le_refl _) fun _ x => x
  obtain ⟨d, rfl, hd⟩ := hfl
  exact Yl.ret hd
theorem Yl.for_ {t : IG} {it : II} {s : IS} {Γ : DL.Env} {kk : Nat} (I : Nat → DL.Env → Prop) (hi : Yl (it Γ) l fun r => ∃ n, r = rngD 0 n ∧ n ≤ kk) (h0 : I 0 Γ)
    (h : ∀ j Γ, j < kk → I j Γ → Yl ((t (.int (j : Nat)) Γ).bind s) k fun fl => ∃ Γ', fl = .nx Γ' ∧ I (j + 1) Γ') :
    Yl (DL.sFor t it s Γ) (l + k * kk) fun fl => ∃ Γ', fl = .nx Γ' ∧ ∃ n, n ≤ kk ∧ I n Γ' := by
  unfold DL.sFor
  refine hi.bind fun r hr => ?_
  obtain ⟨n, rfl, hn⟩ := hr
  have hl : (rngD 0 n).length = n := by unfold rngD; simp
  refine (Yl.loop (rngD 0 n) I (fun j d Γ e hI => ?_) h0).mono (by rw [hl]; exact Nat.mul_le_mul_left _ hn) fun fl hf => ?_
  · have hj : j < n := by
      have := (List.getElem?_eq_some_iff.mp e).1
      rw [hl] at this
      exact this
    have ed : d = .int (j : Nat) := by
      unfold rngD at e
      rw [List.getElem?_map, List.getElem?_range hj] at e
      simpa using e.symm
    subst ed
    exact h j Γ (by omega) hI
  · obtain ⟨Γ', e, hI⟩ := hf
    exact ⟨Γ', e, n, hn, by rw [hl] at hI; exact hI⟩
end
theorem rOk_nat : ∀ n : Fin 21, rOk ((n.1 : Nat) : Int) = true := by decide +kernel
theorem rOk_lt {n : Nat} (h : n < 21) : rOk (n : Int) = true := rOk_nat ⟨n, h⟩
def itR (ds : List D) : M (List D) := match ds with
  | [.int j] => if rOk j = true then .ret (rngD 0 j.toNat) else .stuck
  | _ => .stuck
theorem itR_int (j : Int) : itR [.int j] = if rOk j = true then .ret (rngD 0 j.toNat) else .stuck := by
  unfold itR
  simp only
theorem itR_ok (j : Int) (h : rOk j = true) : itR [.int j] = .ret (rngD 0 j.toNat) := by
  rw [itR_int, if_pos h]
theorem itR_nat {n : Nat} (h : n < 21) : itR [.int n] = .ret (rngD 0 n) := by
  rw [itR_ok _ (rOk_lt h), Int.toNat_natCast]
theorem iiR1_eq (i : IE) (Γ : DL.Env) : iiR1 i Γ = (evs [i] Γ).bind itR := rfl
theorem evs_one {i : IE} {Γ : DL.Env} {d : D} (h : i Γ = .ret d) : evs [i] Γ = .ret [d] := by
  unfold evs
  rw [h]
  rfl
theorem rng_eq {n : Nat} (h : n < 21) {i : IE} {Γ : DL.Env} (hi : i Γ = .ret (.int n)) : iiR1 i Γ = .ret (rngD 0 n) := by
  rw [iiR1_eq, evs_one hi, M.ret_bind, itR_nat h]
theorem M.bind_assoc {α β γ : Type} (m : M α) (f : α → M β) (g : β → M γ) : (m.bind f).bind g = m.bind fun a => (f a).bind g := by
  induction m with
  | ret a => rfl
  | exc x => rfl
  | stuck => rfl
  | choose n k ih => simp only [M.bind]; congr; funext i; exact ih i
  | begun k ih => simp only [M.bind]; rw [ih]
theorem evs_bind (i : IE) (Γ : DL.Env) : evs [i] Γ = (i Γ).bind fun d => .ret [d] := by
  unfold evs
  rfl
theorem Yl.rng {n : Nat} (h : n < 21) {i : IE} {Γ : DL.Env} {k : Nat} (hi : Yl (i Γ) k fun d => ∃ j : Nat, j ≤ n ∧ d = .int j) : Yl (iiR1 i Γ) k fun r => ∃ j, r = rngD 0 j ∧ j ≤ n := by
  rw [iiR1_eq, evs_bind, M.bind_assoc]
  refine (Yl.bind (l := 0) hi fun d hd => ?_).mono (Nat.le_refl _) fun _ x => x
  obtain ⟨j, hj, rfl⟩ := hd
  rw [M.ret_bind, itR_nat (by omega)]
  exact Yl.ret ⟨j, rfl, hj⟩
theorem Yl.evs_cons {i : IE} {is : List IE} {Γ : DL.Env} {k l : Nat} {P : D → Prop} {Q : List D → Prop} (h : Yl (i Γ) k P) (h2 : Yl (evs is Γ) l Q) : Yl (evs (i :: is) Γ) (k + l) fun ds => ∃ d r, ds = d :: r ∧ P d ∧ Q r := by
  unfold evs
  refine (Yl.bind (k := k) (l := l) h fun d hd => ?_)
  refine (Yl.bind (l := 0) h2 fun r hr => ?_)
  exact Yl.ret ⟨d, r, rfl, hd, hr⟩
theorem Yl.evs_nil {Γ : DL.Env} : Yl (evs [] Γ) 0 fun ds => ds = [] := Yl.ret rfl
theorem fMul_one (c : Nat) : fMul (.str (S [c])) (.int 8) = some (.str (S (List.replicate 8 c))) := rfl
theorem nodup_range {α : Type} {n : Nat} {g : Nat → α} (h : ∀ i j, i < j → j < n → g i ≠ g j) : ((List.range n).map g).Nodup := by
  rw [List.Nodup, List.pairwise_map]
  refine List.Pairwise.imp_of_mem (fun {a b} ha hb hab => ?_) List.pairwise_lt_range
  exact h a b hab (List.mem_range.mp hb)
/-- a comprehension over range(n) -/
theorem lc_rng {i : IE} {n : Nat} {Γ : DL.Env} {e : Nat → D} (hn : n < 21) {it : IE} (hit : it Γ = .ret (.int n)) {t : IG} {own : List Nat} (h : ∀ k, k < n → ∃ Γ1, t (.int (k : Nat)) (wipeE Γ own) = .ret Γ1 ∧ i Γ1 = .ret (e k)) :
    iLc t (iiR1 it) cYes i own Γ = .ret (.lst ((List.range n).map e)) := by
  have key : ∀ d ∈ rngD 0 n, ∃ k, k < n ∧ d = .int (k : Nat) := fun d hd => by
    unfold rngD at hd
    obtain ⟨k, hk, rfl⟩ := List.mem_map.mp hd
    exact ⟨k, List.mem_range.mp hk, by simp⟩
  rw [lc_all (ds := rngD 0 n) (e := fun d => match d with | .int k => e k.toNat | _ => .non) (rng_eq hn hit) (fun d hd => ?_) (by unfold rngD; rw [List.length_map, List.length_range, sizeLine_eq]; omega)]
  · unfold rngD
    rw [List.map_map]
    congr 2
    refine List.map_congr_left fun k _ => ?_
    simp
  · obtain ⟨k, hk, rfl⟩ := key d hd
    obtain ⟨Γ1, e1, e2⟩ := h k hk
    exact ⟨Γ1, e1, by rw [e2]; simp⟩
end DL
namespace Lw
open PySem PySem.Spec L2 DL
def topS (i : Nat) : Stmt := PySem.Challenge.pw_handedvotes_k05_whole_courses.main.body.getD i (.Pass ⟨0, 0, 0, 0⟩)
def clsS (i j : Nat) : Stmt := match topS i with
  | .ClassDef (body := body) .. => body.getD j (.Pass ⟨0, 0, 0, 0⟩)
  | _ => .Pass ⟨0, 0, 0, 0⟩
def tabB : List (String × TyK × Bool) := [("NoneType", .inl "bool", false), ("NoneType", .inl "int", false), ("NoneType", .inl "str", false), ("NoneType", .inl "tuple", false), ("bool", .inl "bool", true), ("bool", .inl "int", true), ("bool", .inl "str", false), ("bool", .inl "tuple", false), ("int", .inl "bool", false), ("int", .inl "int", true), ("int", .inl "str", false), ("int", .inl "tuple", false), ("str", .inl "bool", false), ("str", .inl "int", false), ("str", .inl "str", true), ("str", .inl "tuple", false), ("tuple", .inl "bool", false), ("tuple", .inl "int", false), ("tuple", .inl "str", false), ("tuple", .inl "tuple", true), ("list", .inl "bool", false), ("list", .inl "int", false), ("list", .inl "str", false), ("list", .inl "tuple", false), ("dict", .inl "bool", false), ("dict", .inl "int", false), ("dict", .inl "str", false), ("dict", .inl "tuple", false), ("NoneType", .inr 4, false), ("bool", .inr 4, false), ("int", .inr 4, false), ("str", .inr 4, false), ("tuple", .inr 4, false), ("list", .inr 4, false), ("dict", .inr 4, false)]
def tabI : List (Nat × TyK × Bool) := [(4, .inl "bool", false), (4, .inl "int", false), (4, .inl "str", false), (4, .inl "tuple", false), (4, .inr 4, true)]
def fIsI := fIsi (isTab tabB [] tabI)
def subT : List (Nat × Nat × Bool) := [(1, 1, true), (1, 2, false), (1, 3, false), (2, 1, false), (2, 2, true), (2, 3, false), (3, 1, false), (3, 2, false), (3, 3, true)]
def subX := subOf subT
def fields4 : List Str := ["names", "seats", "quota", "over", "hand", "order"]
def at_names : Nat → Option Nat := fun n => if n = 4 then some 0 else  none
def at_seats : Nat → Option Nat := fun n => if n = 4 then some 1 else  none
/-- what the text's top has written -/
structure Md (L : Lx) (mg : Str → Option Value) (f : Nat → Addr) (fd : Nat → FuncData) (fI : Nat → Addr) : Prop where
  F__law_begun : Fun L.K "_law_begun" "_law_begun" (topS 33) (f 0) (fd 0)
  g__law_begun : mg "_law_begun" = some (.ref (f 0))
  k__law_begun : PySem.W.keepIn L.K (.ref (f 0)) = true
  b__law_begun : Binds L.K (fd 0) ["script"] []
  F__law_next : Fun L.K "_law_next" "_law_next" (topS 34) (f 1) (fd 1)
  g__law_next : mg "_law_next" = some (.ref (f 1))
  k__law_next : PySem.W.keepIn L.K (.ref (f 1)) = true
  b__law_next : Binds L.K (fd 1) ["m", "many"] []
  F__law_names : Fun L.K "_law_names" "_law_names" (topS 35) (f 2) (fd 2)
  g__law_names : mg "_law_names" = some (.ref (f 2))
  k__law_names : PySem.W.keepIn L.K (.ref (f 2)) = true
  b__law_names : Binds L.K (fd 2) ["m", "many"] []
  F__law_many : Fun L.K "_law_many" "_law_many" (topS 38) (f 3) (fd 3)
  g__law_many : mg "_law_many" = some (.ref (f 3))
  k__law_many : PySem.W.keepIn L.K (.ref (f 3)) = true
  b__law_many : Binds L.K (fd 3) ["m", "most"] []
  F__law_order : Fun L.K "_law_order" "_law_order" (topS 41) (f 4) (fd 4)
  g__law_order : mg "_law_order" = some (.ref (f 4))
  k__law_order : PySem.W.keepIn L.K (.ref (f 4)) = true
  b__law_order : Binds L.K (fd 4) ["m", "many"] []
  F__law_rule : Fun L.K "_law_rule" "_law_rule" (topS 42) (f 5) (fd 5)
  g__law_rule : mg "_law_rule" = some (.ref (f 5))
  k__law_rule : PySem.W.keepIn L.K (.ref (f 5)) = true
  b__law_rule : Binds L.K (fd 5) ["m", "many"] []
  F__is_word : Fun L.K "_is_word" "_is_word" (topS 19) (f 6) (fd 6)
  g__is_word : mg "_is_word" = some (.ref (f 6))
  k__is_word : PySem.W.keepIn L.K (.ref (f 6)) = true
  b__is_word : Binds L.K (fd 6) ["thing"] []
  F_is_ascending : Fun L.K "is_ascending" "is_ascending" (topS 11) (f 7) (fd 7)
  g_is_ascending : mg "is_ascending" = some (.ref (f 7))
  k_is_ascending : PySem.W.keepIn L.K (.ref (f 7)) = true
  b_is_ascending : Binds L.K (fd 7) ["things"] []
  F_are_names : Fun L.K "are_names" "are_names" (topS 17) (f 8) (fd 8)
  g_are_names : mg "are_names" = some (.ref (f 8))
  k_are_names : PySem.W.keepIn L.K (.ref (f 8)) = true
  b_are_names : Binds L.K (fd 8) ["thing"] []
  F_need_names : Fun L.K "need_names" "need_names" (topS 16) (f 9) (fd 9)
  g_need_names : mg "need_names" = some (.ref (f 9))
  k_need_names : PySem.W.keepIn L.K (.ref (f 9)) = true
  b_need_names : Binds L.K (fd 9) ["thing"] []
  F_is_integer : Fun L.K "is_integer" "is_integer" (topS 7) (f 10) (fd 10)
  g_is_integer : mg "is_integer" = some (.ref (f 10))
  k_is_integer : PySem.W.keepIn L.K (.ref (f 10)) = true
  b_is_integer : Binds L.K (fd 10) ["thing"] []
  F_is_within : Fun L.K "is_within" "is_within" (topS 8) (f 11) (fd 11)
  g_is_within : mg "is_within" = some (.ref (f 11))
  k_is_within : PySem.W.keepIn L.K (.ref (f 11)) = true
  b_is_within : Binds L.K (fd 11) ["thing", "low", "high"] []
  F_is_pair : Fun L.K "is_pair" "is_pair" (topS 9) (f 12) (fd 12)
  g_is_pair : mg "is_pair" = some (.ref (f 12))
  k_is_pair : PySem.W.keepIn L.K (.ref (f 12)) = true
  b_is_pair : Binds L.K (fd 12) ["thing"] []
  F_is_integer_pair : Fun L.K "is_integer_pair" "is_integer_pair" (topS 10) (f 13) (fd 13)
  g_is_integer_pair : mg "is_integer_pair" = some (.ref (f 13))
  k_is_integer_pair : PySem.W.keepIn L.K (.ref (f 13)) = true
  b_is_integer_pair : Binds L.K (fd 13) ["thing"] []
  F_is_paper : Fun L.K "is_paper" "is_paper" (topS 18) (f 14) (fd 14)
  g_is_paper : mg "is_paper" = some (.ref (f 14))
  k_is_paper : PySem.W.keepIn L.K (.ref (f 14)) = true
  b_is_paper : Binds L.K (fd 14) ["names", "thing"] []
  F_is_field : Fun L.K "is_field" "is_field" (topS 24) (f 15) (fd 15)
  g_is_field : mg "is_field" = some (.ref (f 15))
  k_is_field : PySem.W.keepIn L.K (.ref (f 15)) = true
  b_is_field : Binds L.K (fd 15) ["names", "place", "thing"] []
  F_Rule___init__ : Fun L.K "__init__" "Rule.__init__" (clsS 23 0) (f 16) (fd 16)
  b_Rule___init__ : Binds L.K (fd 16) ["self", "names", "seats", "quota", "over", "hand", "order"] []
  F__law_made : Fun L.K "_law_made" "_law_made" (topS 49) (f 17) (fd 17)
  g__law_made : mg "_law_made" = some (.ref (f 17))
  k__law_made : PySem.W.keepIn L.K (.ref (f 17)) = true
  b__law_made : Binds L.K (fd 17) ["fields"] []
  F__law_courses : Fun L.K "_law_courses" "_law_courses" (topS 48) (f 18) (fd 18)
  g__law_courses : mg "_law_courses" = some (.ref (f 18))
  k__law_courses : PySem.W.keepIn L.K (.ref (f 18)) = true
  b__law_courses : Binds L.K (fd 18) ["going", "seats"] []
  F_has_ended : Fun L.K "has_ended" "has_ended" (topS 28) (f 19) (fd 19)
  g_has_ended : mg "has_ended" = some (.ref (f 19))
  k_has_ended : PySem.W.keepIn L.K (.ref (f 19)) = true
  b_has_ended : Binds L.K (fd 19) ["going", "seats"] []
  F_without_name : Fun L.K "without_name" "without_name" (topS 29) (f 20) (fd 20)
  g_without_name : mg "without_name" = some (.ref (f 20))
  k_without_name : PySem.W.keepIn L.K (.ref (f 20)) = true
  b_without_name : Binds L.K (fd 20) ["going", "name"] []
  F__courses_from : Fun L.K "_courses_from" "_courses_from" (topS 30) (f 21) (fd 21)
  g__courses_from : mg "_courses_from" = some (.ref (f 21))
  k__courses_from : PySem.W.keepIn L.K (.ref (f 21)) = true
  b__courses_from : Binds L.K (fd 21) ["going", "seats"] []
  F_all_courses : Fun L.K "all_courses" "all_courses" (topS 25) (f 22) (fd 22)
  g_all_courses : mg "all_courses" = some (.ref (f 22))
  k_all_courses : PySem.W.keepIn L.K (.ref (f 22)) = true
  b_all_courses : Binds L.K (fd 22) ["rule"] []
  F__is_step : Fun L.K "_is_step" "_is_step" (topS 31) (f 23) (fd 23)
  g__is_step : mg "_is_step" = some (.ref (f 23))
  k__is_step : PySem.W.keepIn L.K (.ref (f 23)) = true
  b__is_step : Binds L.K (fd 23) ["going", "thing"] []
  F_is_course : Fun L.K "is_course" "is_course" (topS 26) (f 24) (fd 24)
  g_is_course : mg "is_course" = some (.ref (f 24))
  k_is_course : PySem.W.keepIn L.K (.ref (f 24)) = true
  b_is_course : Binds L.K (fd 24) ["rule", "thing"] []
  F_winners_of : Fun L.K "winners_of" "winners_of" (topS 27) (f 25) (fd 25)
  g_winners_of : mg "winners_of" = some (.ref (f 25))
  k_winners_of : PySem.W.keepIn L.K (.ref (f 25)) = true
  b_winners_of : Binds L.K (fd 25) ["rule", "course"] []
  F__law_winners : Fun L.K "_law_winners" "_law_winners" (topS 46) (f 26) (fd 26)
  g__law_winners : mg "_law_winners" = some (.ref (f 26))
  k__law_winners : PySem.W.keepIn L.K (.ref (f 26)) = true
  b__law_winners : Binds L.K (fd 26) ["rule", "path"] []
  F__law_odd : Fun L.K "_law_odd" "_law_odd" (topS 36) (f 27) (fd 27)
  g__law_odd : mg "_law_odd" = some (.ref (f 27))
  k__law_odd : PySem.W.keepIn L.K (.ref (f 27)) = true
  b__law_odd : Binds L.K (fd 27) ["m"] []
  F__law_bent : Fun L.K "_law_bent" "_law_bent" (topS 37) (f 28) (fd 28)
  g__law_bent : mg "_law_bent" = some (.ref (f 28))
  k__law_bent : PySem.W.keepIn L.K (.ref (f 28)) = true
  b__law_bent : Binds L.K (fd 28) ["m", "thing"] []
  F__law_told : Fun L.K "_law_told" "_law_told" (topS 50) (f 29) (fd 29)
  g__law_told : mg "_law_told" = some (.ref (f 29))
  k__law_told : PySem.W.keepIn L.K (.ref (f 29)) = true
  b__law_told : Binds L.K (fd 29) ["rule", "thing"] []
  F_law : Fun L.K "law" "law" (topS 51) (f 30) (fd 30)
  b_law : Binds L.K (fd 30) ["script"] []
  n_all : mg "all" = none
  n_bool : mg "bool" = none
  n_int : mg "int" = none
  n_isinstance : mg "isinstance" = none
  n_len : mg "len" = none
  n_list : mg "list" = none
  n_min : mg "min" = none
  n_range : mg "range" = none
  n_repr : mg "repr" = none
  n_set : mg "set" = none
  n_sorted : mg "sorted" = none
  n_str : mg "str" = none
  n_tuple : mg "tuple" = none
  n_zip : mg "zip" = none
  i_MOST_NAMES : ∃ t, mg "MOST_NAMES" = some (.int 4 t)
  i__FEWEST_NAMES : ∃ t, mg "_FEWEST_NAMES" = some (.int 2 t)
  i__MOST_LETTERS : ∃ t, mg "_MOST_LETTERS" = some (.int 8 t)
  i__MOST_PARTS : ∃ t, mg "_MOST_PARTS" = some (.int 100 t)
  t_FIELDS : GtS L.K (mg "FIELDS") ["seats", "quota", "over", "hand", "order"]
  c1 : mg "BadNames" = some (.ref (L.cA 1))
  h1 : L.cF 1 = [("value" : Str)]
  x1 : PySem.DLX.ExT L.K (L.cA 1) (fI 1) "value" "BadNames.__init__" "ValueError" "ValueError.__new__" "ValueError.__init__" [.type "ValueError", .type "Exception", .type "BaseException", .type "object"]
  c2 : mg "BadRule" = some (.ref (L.cA 2))
  h2 : L.cF 2 = [("place" : Str)]
  x2 : PySem.DLX.ExT L.K (L.cA 2) (fI 2) "place" "BadRule.__init__" "ValueError" "ValueError.__new__" "ValueError.__init__" [.type "ValueError", .type "Exception", .type "BaseException", .type "object"]
  c3 : mg "BadCourse" = some (.ref (L.cA 3))
  h3 : L.cF 3 = [("value" : Str)]
  x3 : PySem.DLX.ExT L.K (L.cA 3) (fI 3) "value" "BadCourse.__init__" "ValueError" "ValueError.__new__" "ValueError.__init__" [.type "ValueError", .type "Exception", .type "BaseException", .type "object"]
  c4 : mg "Rule" = some (.ref (L.cA 4))
  h4 : L.cF 4 = fields4
  cl4 : Cls L.K (L.cA 4)
  na4 : ∀ x ∈ fields4, NoAttr L.K (L.cA 4) x
  mk4 : Mk L.K (L.cA 4) (f 16)
  kc4 : PySem.W.keepIn L.K (.ref (L.cA 4)) = true
  f_names : ∀ n j, at_names n = some j → (L.cF n).Nodup ∧ (L.cF n)[j]? = some "names" ∧ Cls L.K (L.cA n) ∧ NoAttr L.K (L.cA n) "names"
  f_seats : ∀ n j, at_seats n = some j → (L.cF n).Nodup ∧ (L.cF n)[j]? = some "seats" ∧ Cls L.K (L.cA n) ∧ NoAttr L.K (L.cA n) "seats"
  tab : TabOk L tabB [] tabI
  sb : ∀ e ∈ subT, PySem.W.exmOne L.K (.ref (L.cA e.1)) (.ref (L.cA e.2.1)) = some e.2.2
  er : L.er = none
variable {L : Lx} {mg : Str → Option Value} {f : Nat → Addr} {fd : Nat → FuncData} {fI : Nat → Addr}
theorem Md.ms (M : Md L mg f fd fI) (a : Addr) : Md (L.ms a) mg f fd fI := ⟨M.F__law_begun, M.g__law_begun, M.k__law_begun, M.b__law_begun, M.F__law_next, M.g__law_next, M.k__law_next, M.b__law_next, M.F__law_names, M.g__law_names, M.k__law_names, M.b__law_names, M.F__law_many, M.g__law_many, M.k__law_many, M.b__law_many, M.F__law_order, M.g__law_order, M.k__law_order, M.b__law_order, M.F__law_rule, M.g__law_rule, M.k__law_rule, M.b__law_rule, M.F__is_word, M.g__is_word, M.k__is_word, M.b__is_word, M.F_is_ascending, M.g_is_ascending, M.k_is_ascending, M.b_is_ascending, M.F_are_names, M.g_are_names, M.k_are_names, M.b_are_names, M.F_need_names, M.g_need_names, M.k_need_names, M.b_need_names, M.F_is_integer, M.g_is_integer, M.k_is_integer, M.b_is_integer, M.F_is_within, M.g_is_within, M.k_is_within, M.b_is_within, M.F_is_pair, M.g_is_pair, M.k_is_pair, M.b_is_pair, M.F_is_integer_pair, M.g_is_integer_pair, M.k_is_integer_pair, M.b_is_integer_pair, M.F_is_paper, M.g_is_paper, M.k_is_paper, M.b_is_paper, M.F_is_field, M.g_is_field, M.k_is_field, M.b_is_field, M.F_Rule___init__, M.b_Rule___init__, M.F__law_made, M.g__law_made, M.k__law_made, M.b__law_made, M.F__law_courses, M.g__law_courses, M.k__law_courses, M.b__law_courses, M.F_has_ended, M.g_has_ended, M.k_has_ended, M.b_has_ended, M.F_without_name, M.g_without_name, M.k_without_name, M.b_without_name, M.F__courses_from, M.g__courses_from, M.k__courses_from, M.b__courses_from, M.F_all_courses, M.g_all_courses, M.k_all_courses, M.b_all_courses, M.F__is_step, M.g__is_step, M.k__is_step, M.b__is_step, M.F_is_course, M.g_is_course, M.k_is_course, M.b_is_course, M.F_winners_of, M.g_winners_of, M.k_winners_of, M.b_winners_of, M.F__law_winners, M.g__law_winners, M.k__law_winners, M.b__law_winners, M.F__law_odd, M.g__law_odd, M.k__law_odd, M.b__law_odd, M.F__law_bent, M.g__law_bent, M.k__law_bent, M.b__law_bent, M.F__law_told, M.g__law_told, M.k__law_told, M.b__law_told, M.F_law, M.b_law, M.n_all, M.n_bool, M.n_int, M.n_isinstance, M.n_len, M.n_list, M.n_min, M.n_range, M.n_repr, M.n_set, M.n_sorted, M.n_str, M.n_tuple, M.n_zip, M.i_MOST_NAMES, M.i__FEWEST_NAMES, M.i__MOST_LETTERS, M.i__MOST_PARTS, M.t_FIELDS, M.c1, M.h1, M.x1, M.c2, M.h2, M.x2, M.c3, M.h3, M.x3, M.c4, M.h4, M.cl4, M.na4, M.mk4, M.kc4, M.f_names, M.f_seats, ⟨M.tab.b, M.tab.e, M.tab.i⟩, M.sb, M.er⟩
end Lw
namespace Lw
open PySem PySem.Spec L2 DL
section
abbrev s25 : Stmt := topS 33
theorem sc25 : FnScope ["script", "cell"] ["script"] (defScope s25) := ⟨rfl, rfl, rfl, by decide +kernel, rfl, by decide +kernel, by decide +kernel⟩
instance : DecidablePred bitsOk := fun z => by unfold bitsOk; infer_instance
def mBegun : List D → M D
  | [.scr ns] => if ns.length ≤ 63 ∧ ∀ z ∈ ns, bitsOk z then .begun (.ret .rnd) else .stuck
  | _ => .stuck
theorem iteP {b : Bool} {A B : Prop} (h : b = true) (a : A) : if b = true then A else B := by rw [if_pos h]; exact a
theorem iteN {b : Bool} {A B : Prop} (h : b = false) (a : B) : if b = true then A else B := by rw [h]; simpa using a
theorem merge3 (x y z : V) : mergeK [] [(Sum.inr "cells", x), (Sum.inr "left", y), (Sum.inr "at", z)] = ([(Sum.inr "cells", x), (Sum.inr "left", y), (Sum.inr "at", z)] : List (Key × V)) := by
  have n1 : ¬ ((("cells" : Str)) = "left") := by decide +kernel
  have n2 : ¬ ((("cells" : Str)) = "at") := by decide +kernel
  have n3 : ¬ ((("left" : Str)) = "at") := by decide +kernel
  simp [mergeK, putK, n1, n2, n3]
variable {L : Lx} {P : Program} {w : World} {mg : Str → Option Value} {base : Heap}
theorem f25 {f : Addr} {fd : FuncData} (F : Fun L.K "_law_begun" "_law_begun" s25 f fd) (nlist : mg "list" = none) : FG L P w mg base 2 f fd ["script"] mBegun := by
  refine fg_raw F sc25 fun cdv A outer s H E vs Q hr sp hl => ?_
  obtain ⟨Γ, g, σ, ds, rp, l, wp⟩ := sp
  unfold mBegun at wp
  split at wp
  · rename_i ns
    split at wp
    · rename_i hn
      obtain ⟨a, rfl, hq⟩ : ∃ a, vs = [.ref a] ∧ SqL L.K g.F a (ns.map V.int) := by
        cases l with
        | cons h l =>
          cases h with
          | scr e =>
            cases l
            exact ⟨_, rfl, e⟩
      have hu := hu_of hr
      refine ⟨_, pss_one (ps_ret (pe_disp (pps_cons pe_str (pe_callTy call_list_of (by rfl) nlist (by decide +kernel) (pa_cons (pv 0) pa_nil))
        (pps_cons pe_str (pe_lc (own := [("cell", 1)]) rfl sc25.nd (pi_list (pv 0)) (show BlkOk ["script", "cell"] (defScope s25) _ _ from ⟨rfl, by decide +kernel, by decide +kernel, by decide +kernel, by decide +kernel⟩)
          (fun s H C cl fp => pg_name (i := 1) sc25.nd rfl (.inl rfl)) (fun s H C cl fp => pts_one (pt_cmpR op_ge (pv 1) (pe_op op_pow pe_int pe_int) (nomark _))) (fun s H C cl fp => pv 1))
        (pps_cons pe_str pe_int pps_nil))) rfl rfl (by simp) (by decide))), ?_⟩
      have up : ∀ {H1 : Hp} {x : Addr} {o u : HO}, H1 x = none → ∀ y, H1 y = some u → upd H1 x o y = some u := fun n y e => upd_keep n e
      have memo : g.mu = none := by
        cases q : g.mu with
        | none => rfl
        | some m =>
          obtain ⟨c, l, cs, ls, at_, _, _, _, _, _, _, _, _, h0, h1⟩ := rp.rnd.2 m q
          have := wp.1
          omega
      have fin : ∀ (p c D : Addr) (H2 : Hp), (∀ y o, H y = some o → H2 y = some o) → H p = none → H c = none → H D = none → c ≠ D → H2 p = some (.dK [(Sum.inr "cells", .ref c), (Sum.inr "left", .ref D), (Sum.inr "at", .int 0)]) →
          H2 c = some (.lst (ns.map V.int)) → H2 D = some (.lst ((ns.filter fun z => decide (10 ^ 18 ≤ z)).map V.int)) → Q (.ref p) H2 := fun p c D H2 kp np nc nD ncd e1 e2 e3 => by
        have inm : ∀ y o, H y = some o → ¬ InM (some p) H2 y := fun y o e ⟨m, em, h⟩ => by
          cases em
          rcases h with h | ⟨kvs, k, e', h⟩
          · rw [h, np] at e; cases e
          · rw [e1] at e'
            cases e'
            simp only [List.mem_cons, Prod.mk.injEq, V.ref.injEq, List.not_mem_nil, or_false] at h
            rcases h with ⟨_, h⟩ | ⟨_, h⟩ | ⟨_, h⟩
            · rw [h, nc] at e; cases e
            · rw [h, nD] at e; cases e
            · cases h
        have fl : ∀ z ∈ ns.filter (fun z => decide (10 ^ 18 ≤ z)), bitsOk z ∧ 0 ≤ z := fun z hz => by
          have := List.mem_filter.mp hz
          refine ⟨hn.2 z this.1, ?_⟩
          have h := of_decide_eq_true this.2
          omega
        refine wp.2 (.ref p) { F := g.F, mu := some p, bud := lim } H2 ⟨fun _ _ e => e, fun m e => (by rw [memo] at e; cases e), fun y o e => kp y o (rp.sub y o e), fun y o e _ _ => ⟨kp y o e, inm y o e⟩, fun y h => ⟨?_, fun e => e⟩, fun y o e => inm y o (rp.sub y o e), ⟨fun e => (by cases e), fun m e => ?_⟩, ?_, ⟨fun q hq => ?_, fun ea en ed eu he => ?_⟩⟩ rfl (.rnd rfl)
        · cases e : H y with
          | none => exact absurd e h
          | some o => rw [kp y o e]; simp
        · cases e
          exact ⟨c, D, ns, _, 0, e1, e2, e3, ncd, hn.1, Nat.le_trans (List.length_filter_le _ _) hn.1, hn.2, fl, by decide, by simp⟩
        · show lim ≤ g.bud
          rw [wp.1]; omega
        · obtain ⟨ps, a1, a2, a3⟩ := rp.tab.1 q hq
          exact ⟨ps, kp _ _ a1, a2, fun pos cv hc => let ⟨c', z1, z2⟩ := a3 pos cv hc; ⟨c', z1, kp _ _ z2⟩⟩
        · obtain ⟨f, a1, a2⟩ := rp.tab.2 ea en ed eu he
          exact ⟨f, a1, kp _ _ a2⟩
      intro p np
      have q0 := sqL_mono (K := L.K) (fun y o e => up (o := .dK []) np y (rp.sub y o e)) hq
      refine ⟨_, rfl, a, _, rfl, .inl q0, fun c nc => ?_⟩
      have q1 := sqL_mono (K := L.K) (fun y o e => up (o := .lst (ns.map V.int)) nc y e) q0
      refine ⟨_, rfl, a, rfl, ⟨_, q1⟩, fun D nD => ?_⟩
      refine ⟨fun j m Hj => j ≤ ns.length ∧ m = ns.length - j ∧ Hj D = some (.lst (((ns.take j).filter fun z => decide (10 ^ 18 ≤ z)).map V.int)) ∧ ∀ y o, upd (upd H p (.dK [])) c (.lst (ns.map V.int)) y = some o → Hj y = some o, ⟨_, Nat.zero_le _, rfl, upd_same, fun y o e => up nD y e⟩, ?_⟩
      rintro j m Hj ⟨hj, rfl, eD, kp⟩
      have qj := sqL_mono (K := L.K) kp q1
      by_cases hlt : j < ns.length
      · refine .inr ⟨⟨_, _, qj, by rw [List.getElem?_map, List.getElem?_eq_getElem hlt]; rfl⟩, fun Hn => Hn D = some (.lst (((ns.take (j + 1)).filter fun z => decide (10 ^ 18 ≤ z)).map V.int)) ∧ ∀ y o, upd (upd H p (.dK [])) c (.lst (ns.map V.int)) y = some o → Hn y = some o, fun H' h => ⟨_, by omega, hlt, rfl, h⟩, fun x H' h => ?_⟩
        obtain ⟨rfl, hx⟩ := h
        have ex := hx _ qj
        rw [List.getElem?_map, List.getElem?_eq_getElem hlt] at ex
        cases ex
        have et : ns.take (j + 1) = ns.take j ++ [ns[j]] := List.take_succ_eq_append_getElem hlt
        refine ⟨rfl, _, rfl, _, _, rfl, rfl, ⟨by decide, by decide, by decide⟩, _, _, rfl, rfl, _, rfl, ?_⟩
        by_cases hz : (10 : Int) ^ 18 ≤ ns[j]
        · have et2 : (ns.take (j + 1)).filter (fun z => decide (10 ^ 18 ≤ z)) = (ns.take j).filter (fun z => decide (10 ^ 18 ≤ z)) ++ [ns[j]] := by
            rw [et, List.filter_append, List.filter_cons_of_pos (by exact decide_eq_true hz), List.filter_nil]
          refine iteP (decide_eq_true hz) ⟨_, rfl, _, eD, ?_, ?_, fun y o e => ?_⟩
          · rw [List.length_map]
            exact Nat.lt_of_le_of_lt (List.length_filter_le _ _) (Nat.lt_of_le_of_lt (List.length_take_le _ _) (Nat.lt_of_le_of_lt (Nat.le_trans hj hn.1) (by decide)))
          · rw [et2, List.map_append, upd_same]; rfl
          · have : y ≠ D := fun z => by rw [z, nD] at e; cases e
            rw [upd_ne this]; exact kp y o e
        · have et2 : (ns.take (j + 1)).filter (fun z => decide (10 ^ 18 ≤ z)) = (ns.take j).filter (fun z => decide (10 ^ 18 ≤ z)) := by
            rw [et, List.filter_append, List.filter_cons_of_neg (by rw [decide_eq_false hz]; decide), List.filter_nil, List.append_nil]
          refine iteN (decide_eq_false hz) ⟨?_, kp⟩
          rw [et2]; exact eD
      · have e : j = ns.length := by omega
        subst e
        rw [List.take_length] at eD
        refine .inl ⟨⟨_, qj, by simp⟩, ?_⟩
        have npc : c ≠ p := fun z => by rw [z, upd_same] at nc; cases nc
        have nDc : c ≠ D := fun z => by rw [z, upd_same] at nD; cases nD
        have nDp : D ≠ p := fun z => by rw [z, upd_ne npc.symm, upd_same] at nD; cases nD
        have ncH : H c = none := by rw [upd_ne npc] at nc; exact nc
        have nDH : H D = none := by rw [upd_ne nDc.symm, upd_ne nDp] at nD; exact nD
        have ep := kp p (.dK []) (by rw [upd_ne npc.symm, upd_same])
        refine ⟨ep, [(Sum.inr "cells", .ref c), (Sum.inr "left", .ref D), (Sum.inr "at", .int 0)], rfl, by show 3 ≤ 15; decide, ?_⟩
        rw [merge3]
        refine fin p c D _ (fun y o e => ?_) np ncH nDH nDc upd_same ?_ ?_
        · have n1 : y ≠ p := fun z => by rw [z, np] at e; cases e
          have n2 : y ≠ c := fun z => by rw [z, ncH] at e; cases e
          rw [upd_ne n1]
          exact kp y o (by rw [upd_ne n2, upd_ne n1]; exact e)
        · rw [upd_ne npc]; exact kp c _ upd_same
        · rw [upd_ne nDp]; exact eD
    · exact wp.elim
  · exact wp.elim
end
section
abbrev s26 : Stmt := topS 34
theorem sc26 : FnScope ["m", "many", "rest", "at", "bits", "cell", "blend"] ["m", "many"] (defScope s26) := ⟨rfl, rfl, rfl, by decide +kernel, rfl, by decide +kernel, by decide +kernel⟩
def mNext : List D → M D
  | [.rnd, .int n] => if 0 < n ∧ n < 2 ^ 60 then .choose n.toNat fun i => .ret (.int (i : Nat)) else .stuck
  | _ => .stuck
theorem iteT' {α : Type} [DecidableEq α] {x y : α} {A B : Prop} (h : ¬ x = y) (a : A) : if (!decide (x = y)) = true then A else B := by
  rw [decide_eq_false h]
  exact iteT a
theorem iteF' {α : Type} [DecidableEq α] {x y : α} {A B : Prop} (h : x = y) (a : B) : if (!decide (x = y)) = true then A else B := by
  rw [decide_eq_true h]
  exact iteF a
theorem iteFz {z : Int} {A B : Prop} (h : ¬ z = 0) (a : B) : if decide (V.int z = V.int 0) = true then A else B := by
  rw [decide_eq_false (fun e => h (V.int.inj e))]
  exact iteF a
variable {L : Lx} {P : Program} {w : World} {mg : Str → Option Value} {base : Heap}
theorem f26 {f : Addr} {fd : FuncData} (F : Fun L.K "_law_next" "_law_next" s26 f fd) (nlen : mg "len" = none) (nint : mg "int" = none) : FG L P w mg base 2 f fd ["m", "many"] mNext := by
  refine fg_raw F sc26 fun cdv A outer s H E vs Q hr sp hl => ?_
  obtain ⟨Γ, g, σ, ds, rp, l, wp⟩ := sp
  unfold mNext at wp
  split at wp
  · rename_i n
    split at wp
    · rename_i hn
      obtain ⟨am, rfl, hm⟩ : ∃ am, vs = [.ref am, .int n] ∧ g.mu = some am := by
        cases l with
        | cons a l =>
          cases a with
          | rnd e =>
            cases l with
            | cons b l =>
              cases b
              cases l
              exact ⟨_, rfl, e⟩
      obtain ⟨c, ll, cs, ls, at0, e1, e2, e3, ncl, hcs, hls, bcs, bls, hat, hbud⟩ := rp.rnd.2 am hm
      have hu := hu_of hr
      obtain ⟨b, eb⟩ : ∃ b, g.bud = b + 1 := by
        cases q : g.bud with
        | zero => rw [q] at wp; exact wp.elim
        | succ b => exact ⟨b, rfl⟩
      rw [eb] at wp
      have hu64 : (A.deeper (PyProof.Rows.envOfC "_law_next" (defScope s26) s.heap.objs.size f cdv)).units + 64 < cLine := hr.units
      refine ⟨_, pss_cons (ps_while (passes_of rfl) (PW.pt (pw_and (pt_cmpR (op_neD hu64) (pe_dget hu (pv 0) pe_str (fun _ _ => rfl)) (pe_lst pa_nil) (nomark _)) (pw_and1 (pt_cmpR op_eq (pe_ix ix_list (pe_dget hu (pv 0) pe_str (fun _ _ => rfl)) pe_int (fun _ _ => rfl)) pe_int (nomark _)))))
          (pss_one (ps_dput hu (pv 0) pe_str (pe_slice sl_list (pe_dget hu (pv 0) pe_str (fun _ _ => rfl)) (po_some pe_int) po_none) rfl)))
        (pss_cons (ps_if (pt_cmpR (op_neD hu64) (pe_dget hu (pv 0) pe_str (fun _ _ => rfl)) (pe_lst pa_nil) (nomark _))
            (pss_cons (ps_set (i := 2) sc26.nd rfl (.inl rfl) (pe_ix ix_list (pe_dget hu (pv 0) pe_str (fun _ _ => rfl)) pe_int (fun _ _ => rfl)))
            (pss_cons (ps_asg (pe_op op_fdivW (pv 2) (pv 1)) (pg_sub (pe_dget hu (pv 0) pe_str (fun _ _ => rfl)) pe_int set_list))
            (pss_one (ps_ret (pe_op op_mod (pe_callTy call_int1 (by rfl) nint (by decide +kernel) (pa_cons (pv 2) pa_nil)) (pv 1)))))) pss_nil)
        (pss_cons (ps_par (i := 3) (j := 4) rfl sc26.nd rfl rfl (by decide) rfl rfl (pa_cons (pe_op op_add (pe_dget hu (pv 0) pe_str (fun _ _ => rfl)) pe_int) (pa_cons (pe_dget hu (pv 0) pe_str (fun _ _ => rfl)) pa_nil)) (by rfl))
        (pss_cons (ps_dput hu (pv 0) pe_str (pv 3) rfl)
        (pss_cons (ps_set (i := 5) sc26.nd rfl (.inl rfl) (pe_ifExp (pt_cmpR (op_neD hu64) (pv 4) (pe_lst pa_nil) (nomark _))
            (pe_callTy call_int1 (by rfl) nint (by decide +kernel) (pa_cons (pe_ix ix_list (pv 4) (pe_op op_mod (pe_callTy call_int1 (by rfl) nint (by decide +kernel) (pa_cons (pe_op op_add (pe_op op_mulW (pv 3) (pv 3)) (pe_op op_fdivW (pv 3) pe_int)) pa_nil)) (pe_callB call_len (by rfl) nlen (by decide +kernel) (pa_cons (pv 4) pa_nil))) (fun _ _ => rfl)) pa_nil)) pe_int))
        (pss_cons (ps_set (i := 6) sc26.nd rfl (.inl rfl) (pe_op op_mod (pe_callTy call_int1 (by rfl) nint (by decide +kernel) (pa_cons (pe_op op_add (pe_op op_add (pe_op op_mul (pv 5) pe_int) (pe_op op_mulW (pv 3) pe_int)) (pe_op op_mulW (pe_op op_mulW pe_int (pv 3)) (pv 3))) pa_nil)) pe_int))
        (pss_one (ps_ret (pe_op op_mod (pe_callTy call_int1 (by rfl) nint (by decide +kernel) (pa_cons (pe_op op_fdivW (pe_op op_mod (pe_callTy call_int1 (by rfl) nint (by decide +kernel) (pa_cons (pe_op op_add (pe_op op_mulW (pv 6) pe_int) (pe_op op_mulW pe_int (pv 3))) pa_nil)) pe_int) pe_int) pa_nil)) (pv 1)))))))))
        , ?_⟩
      have m0 : MS am c ll cs H ll ls at0 H := ⟨e1, e2, e3, ncl, ⟨_, e3⟩, .inl rfl, fun a o e _ _ => e⟩
      have fin : ∀ (l' : Addr) (ls' : List Int) (at_ r : Int) (H1 : Hp), MS am c ll cs H l' ls' at_ H1 → ls'.length ≤ 63 → (∀ z ∈ ls', bitsOk z ∧ 0 ≤ z) → (0 ≤ at_ ∧ at_.toNat + b ≤ lim) → 0 ≤ r → r < n → Q (.int r) H1 := fun l' ls' at_ r H1 s h1 h2 h3 h4 h5 => by
        have ok : MOk b H1 am := ⟨c, l', cs, ls', at_, s.atM, s.atC, s.atL, s.ncl, hcs, h1, bcs, h2, h3.1, h3.2⟩
        have q := wp r.toNat (by omega) (.int r) { g with bud := b } H1 (s.stp rp hm e1 e2 e3 ok (by omega)) rfl
        rw [show ((r.toNat : Nat) : Int) = r by omega] at q
        exact q (.int r)
      refine ⟨fun k σ1 H1 => σ1 = L2.start ["m", "many", "rest", "at", "bits", "cell", "blend"] [V.ref am, V.int n] ∧ ∃ l' ls', k = ls'.length ∧ MS am c ll cs H l' ls' at0 H1 ∧ ls'.length ≤ 63 ∧ ∀ z ∈ ls', bitsOk z ∧ 0 ≤ z, ⟨ls.length, rfl, ll, ls, rfl, m0, hls, bls⟩, ?_⟩
      rintro k σ1 H1 ⟨rfl, l1, ls1, rfl, s1, z1, b1⟩
      refine rd_l s1 rfl ⟨by decide, fun p1 n1 => ne_nil s1.atL n1 ⟨_, rfl, ?_⟩⟩
      have s2 : MS am c ll cs H l1 ls1 at0 (upd H1 p1 (.lst [])) := s1.lay n1
      have n64 : n.natAbs.log2 < 9000 := Nat.lt_trans (Nat.log2_lt (by omega) |>.mpr (show n.natAbs < 2 ^ 60 by omega)) (by decide)
      cases ls1 with
      | nil =>
        refine iteF (rd_l s2 rfl ⟨by decide, fun p2 n2 => ne_nil s2.atL n2 ⟨_, rfl, iteF ?_⟩⟩)
        have s3 := s2.lay (o := .lst []) n2
        refine rd_a s3 rfl ⟨_, _, rfl, rfl, rd_c s3 rfl ⟨_, _, rfl, ?_⟩⟩
        refine ⟨_, rfl, _, rfl, am, _, rfl, DPut.k (k := Sum.inr "at") s3.atM (by show 3 < sizeLine; decide), ?_⟩
        have s4 := s3.setAt (at0 + 1)
        have ha : 0 ≤ at0 + 1 := by omega
        have hb : (at0 + 1).toNat + b ≤ lim := by omega
        have hbits := lim_abs ha (show (at0 + 1).toNat ≤ lim + 1 by omega)
        have big : ∀ (cell : Int) (H2 : Hp), bitsOk cell → MS am c ll cs H l1 [] (at0 + 1) H2 → CMul cell 40692 ∧ CMulW (at0 + 1) 65539 ∧ CMulW 7001 (at0 + 1) ∧ CMulW (7001 * (at0 + 1)) (at0 + 1) ∧ CMulW ((cell * 40692 + (at0 + 1) * 65539 + 7001 * (at0 + 1) * (at0 + 1)) % 2147483399) 48271 ∧ CMulW 1013 (at0 + 1) := fun cell H2 _ _ => by
          have e1 : (7001 : Int).natAbs < 2 ^ 13 := by decide
          have m1 := wide_lt e1 hbits
          have r0 := Int.emod_nonneg (cell * 40692 + (at0 + 1) * 65539 + 7001 * (at0 + 1) * (at0 + 1)) (show (2147483399 : Int) ≠ 0 by decide)
          have r1 := Int.emod_lt_of_pos (cell * 40692 + (at0 + 1) * 65539 + 7001 * (at0 + 1) * (at0 + 1)) (show (0 : Int) < 2147483399 by decide)
          have r2 : ((cell * 40692 + (at0 + 1) * 65539 + 7001 * (at0 + 1) * (at0 + 1)) % 2147483399).natAbs < 2 ^ 32 := by
            have : (2 : Nat) ^ 32 = 4294967296 := by decide
            omega
          exact ⟨.inr ⟨by decide, by decide⟩, wide_mul hbits (show (65539 : Int).natAbs < 2 ^ 17 by decide) (by decide) (by decide) (by decide), wide_mul e1 hbits (by decide) (by decide) (by decide), wide_mul m1 hbits (by decide) (by decide) (by decide),
            wide_mul r2 (show (48271 : Int).natAbs < 2 ^ 16 by decide) (by decide) (by decide) (by decide), wide_mul (show (1013 : Int).natAbs < 2 ^ 10 by decide) hbits (by decide) (by decide) (by decide)⟩
        refine ⟨_, rfl, by decide, fun p3 n3 => ne_nil s4.atC n3 ⟨_, rfl, ?_⟩⟩
        have s5 := s4.lay (o := .lst []) n3
        have wsq : CMulW (at0 + 1) (at0 + 1) := wide_mul hbits hbits (by decide) (by decide) (by decide)
        by_cases hcs0 : cs = []
        · refine iteF' hcs0 ?_
          obtain ⟨q1, q2, q3, q4, q5, q6⟩ := big 5 _ (Nat.lt_of_lt_of_le (show (5 : Int).natAbs < 2 ^ 3 by decide) (Nat.pow_le_pow_right (by decide) (by decide))) s5
          refine ⟨_, rfl, _, _, rfl, rfl, q1, _, rfl, _, _, rfl, rfl, q2, _, _, rfl, rfl, _, rfl, _, _, rfl, rfl, q3, _, rfl, _, _, rfl, rfl, q4, _, _, rfl, rfl, .inl ⟨_, rfl, _, _, rfl, rfl, (by show (0 : Int) < 2147483399; decide), ?_⟩⟩
          refine ⟨_, rfl, _, _, rfl, rfl, q5, _, rfl, _, _, rfl, rfl, q6, _, _, rfl, rfl, .inl ⟨_, rfl, _, _, rfl, rfl, (by show (0 : Int) < 2147483647; decide), _, _, rfl, rfl, ⟨by decide, by decide⟩, .inl ⟨_, rfl, _, rfl, _, _, rfl, rfl, hn.1, ?_⟩⟩⟩
          exact fin l1 [] (at0 + 1) _ _ s5 (by decide) (by intro z hz; cases hz) ⟨ha, hb⟩ (Int.emod_nonneg _ (by omega)) (Int.emod_lt_of_pos _ hn.1)
        · refine iteT' hcs0 ?_
          have lpos : 0 < (cs.length : Int) := by
            have : cs.length ≠ 0 := fun z => hcs0 (List.eq_nil_of_length_eq_zero z)
            omega
          have i0 := Int.emod_nonneg ((at0 + 1) * (at0 + 1) + (at0 + 1) / 2) (show (cs.length : Int) ≠ 0 by omega)
          have i1 := Int.emod_lt_of_pos ((at0 + 1) * (at0 + 1) + (at0 + 1) / 2) lpos
          obtain ⟨z, hz, ez⟩ := at_ints (zs := cs) i0 i1
          obtain ⟨q1, q2, q3, q4, q5, q6⟩ := big z _ (bcs z hz) s5
          refine ⟨_, rfl, _, rfl, _, rfl, _, _, rfl, rfl, wsq, _, rfl, _, _, rfl, rfl, ⟨by decide, by decide⟩, _, _, rfl, rfl, .inl ⟨_, rfl, _, rfl, _, cs.length, rfl, .inl ⟨_, SqL.of s5.atC, by simp⟩, _, _, rfl, rfl, lpos, c, _, _, .int z, rfl, rfl, SqL.of s5.atC, ez, .inl ⟨_, rfl, ?_⟩⟩⟩
          refine ⟨_, rfl, _, _, rfl, rfl, q1, _, rfl, _, _, rfl, rfl, q2, _, _, rfl, rfl, _, rfl, _, _, rfl, rfl, q3, _, rfl, _, _, rfl, rfl, q4, _, _, rfl, rfl, .inl ⟨_, rfl, _, _, rfl, rfl, (by show (0 : Int) < 2147483399; decide), ?_⟩⟩
          refine ⟨_, rfl, _, _, rfl, rfl, q5, _, rfl, _, _, rfl, rfl, q6, _, _, rfl, rfl, .inl ⟨_, rfl, _, _, rfl, rfl, (by show (0 : Int) < 2147483647; decide), _, _, rfl, rfl, ⟨by decide, by decide⟩, .inl ⟨_, rfl, _, rfl, _, _, rfl, rfl, hn.1, ?_⟩⟩⟩
          exact fin l1 [] (at0 + 1) _ _ s5 (by decide) (by intro z hz; cases hz) ⟨ha, hb⟩ (Int.emod_nonneg _ (by omega)) (Int.emod_lt_of_pos _ hn.1)
      | cons z ls1 =>
        have bz := b1 z List.mem_cons_self
        refine iteT (rd_l s2 rfl ⟨l1, _, 0, .int z, rfl, rfl, SqL.of s2.atL, atI_nat (j := 0) rfl, by rfl, _, rfl, ?_⟩)
        by_cases hz : z = 0
        · subst hz
          refine iteT ⟨_, fun σ' H' h => h, ?_⟩
          refine rd_l s2 rfl ⟨1, rfl, l1, _, rfl, SqL.of s2.atL, fun p n2 => ⟨_, rfl, am, _, rfl, DPut.k (k := Sum.inr "left") (upd_keep n2 s2.atM) (by show 3 < sizeLine; decide), ls1.length, Nat.lt_succ_self _, rfl, p, ls1, rfl, ?_, Nat.le_of_succ_le z1, fun z hz => b1 z (List.mem_cons_of_mem _ hz)⟩⟩
          have s3 := s2.lay (o := .lst (cutV ((0 :: ls1).map V.int) (some 1) none)) n2
          have ec : cutV ((0 :: ls1).map V.int) (some 1) none = ls1.map V.int := by
            simp [cutV, HT.sIx, List.take_of_length_le]
          refine s3.setLeft (p := p) (zs := ls1) (by rw [upd_same, ec]) ?_ fun e => ?_
          · cases q : H p with
            | none => rfl
            | some o =>
              have h1 : p ≠ am := fun e => by rw [e, s2.atM] at n2; cases n2
              have h2 : p ≠ ll := fun e => by obtain ⟨zs, e'⟩ := s2.old; rw [e, e'] at n2; cases n2
              rw [s2.keep p o q h1 h2] at n2; cases n2
          · rw [← e, s2.atC] at n2; cases n2
        · refine iteFz hz (rd_l s2 rfl ⟨by decide, fun p2 n2 => ne_nil s2.atL n2 ⟨_, rfl, iteT ?_⟩⟩)
          have s3 := s2.lay (o := .lst []) n2
          refine rd_l s3 rfl ⟨l1, _, 0, .int z, rfl, rfl, SqL.of s3.atL, atI_nat (j := 0) rfl, ?_⟩
          refine ⟨_, rfl, _, rfl, _, _, rfl, rfl, ⟨hn.1, n64⟩, rd_l s3 rfl ⟨l1, _, 0, 0, rfl, rfl, s3.atL, (by unfold ixN; rw [if_pos (by decide), if_pos (by simp only [List.length_map, List.length_cons]; omega)]; rfl), ?_⟩⟩
          have s4 := s3.setItem (zs := (z / n) :: ls1)
          refine ⟨_, rfl, .inl ⟨_, rfl, _, rfl, _, _, rfl, rfl, hn.1, ?_⟩⟩
          have dz : 0 ≤ z / n := Int.ediv_nonneg bz.2 (by omega)
          have dl : z / n ≤ z := Int.ediv_le_self _ bz.2
          exact fin l1 ((z / n) :: ls1) at0 _ _ s4 z1 (fun y hy => by
            rcases List.mem_cons.mp hy with e | hy
            · subst e; exact ⟨wide_le dz dl bz.1, dz⟩
            · exact b1 y (List.mem_cons_of_mem _ hy)) ⟨hat, by omega⟩ (Int.emod_nonneg _ (by omega)) (Int.emod_lt_of_pos _ hn.1)
    · exact wp.elim
  · exact wp.elim
end
end Lw
namespace Lw
open PySem PySem.Spec L2 DL
variable {L : Lx} {P : Program} {w : World} {mg : Str → Option Value} {base : Heap} {f : Nat → Addr} {fd : Nat → FuncData} {fI : Nat → Addr}
theorem g__law_begun (M : Md L mg f fd fI) : FG L P w mg base 2 (f 0) (fd 0) ["script"] mBegun := f25 M.F__law_begun M.n_list
abbrev m__law_begun := mBegun
theorem g__law_next (M : Md L mg f fd fI) : FG L P w mg base 2 (f 1) (fd 1) ["m", "many"] mNext := f26 M.F__law_next M.n_len M.n_int
abbrev m__law_next := mNext
abbrev N__law_names : List Str := ["m", "many", "letters", "stem", "k", "at", "first", "by", "word"]
abbrev s__law_names : Stmt := (topS 35)
theorem sc__law_names : FnScope N__law_names ["m", "many"] (defScope s__law_names) := ⟨rfl, rfl, rfl, by decide +kernel, rfl, by decide +kernel, by decide +kernel⟩
def b__law_names : IS := (sSeq (sAsg (gT [(gN 2), (gN 3)]) (iTup [(iLit (.str (PySem.Str.ofString "abcdefghijklmnopqrstuvwxyz"))), (iLit (.str (PySem.Str.ofString "")))]))
  (sSeq (sFor (gN 4) (iiR1 (iCall (m__law_next) [(iVar 0), (iLit (.int 8))])) (sSet 3 (iOp fAdd (iVar 3) (iOp fIx (iVar 2) (iCall (m__law_next) [(iVar 0), (iLit (.int 26))])))))
  (sSeq (sAsg (gT [(gN 5), (gN 6), (gN 7)]) (iTup [(iCall (m__law_next) [(iVar 0), (iOp fAdd (iBi fLen [(iVar 3)]) (iLit (.int 1)))]), (iCall (m__law_next) [(iVar 0), (iLit (.int 26))]), (iOp fIx (iLst [(iLit (.int 1)), (iLit (.int 3)), (iLit (.int 5)), (iLit (.int 7)), (iLit (.int 9)), (iLit (.int 11))]) (iCall (m__law_next) [(iVar 0), (iLit (.int 6))]))]))
  (sSeq (sSet 8 (iSl fSl (iOp fAdd (iVar 3) (iOp fMul (iOp fIx (iVar 2) (iVar 6)) (iLit (.int 8)))) oNone (oSome (iLit (.int 8)))))
  (sSeq (sIf (andB (asB (iOp fGt (iVar 7) (iLit (.int 5)))) (asB (iOp fLt (iVar 1) (iLit (.int 9))))) (sRet (iLc (gN 4) (iiR1 (iVar 1)) cYes (iIf (asB (iOp fGt (iVar 7) (iLit (.int 7)))) (iSl fSl (iVar 8) (oSome (iVar 4)) oNone) (iSl fSl (iVar 8) oNone (oSome (iOp fSubI (iOp fAdd (iVar 4) (iLit (.int 9))) (iVar 1))))) [4])) sPass)
  (sRet (iLc (gN 4) (iiR1 (iVar 1)) cYes (iOp fAdd (iOp fAdd (iSl fSl (iVar 3) oNone (oSome (iVar 5))) (iOp fIx (iVar 2) (iOp fModI (iBi fInt [(iOp fAdd (iVar 6) (iOp fMul (iVar 7) (iVar 4)))]) (iLit (.int 26))))) (iSl fSl (iVar 3) (oSome (iVar 5)) oNone)) [4])))))))
theorem d__law_names (M : Md L mg f fd fI) {f' : Addr} {cdv : Value} {A : Around} {outer : List PySem.Env} {s : Shared} {H : Hp} {E : XK} (hr : Room (2) (A.deeper (PyProof.Rows.envOfC "_law_names" (defScope s__law_names) s.heap.objs.size f' cdv))) (hg : A.guards = some []) :
    DSs L (cxOf (L2.CX P w) P w L.K mg base N__law_names "_law_names" (defScope s__law_names) f' cdv A outer s H E) (b__law_names) (defBody s__law_names) := by
  have hu : (A.deeper (PyProof.Rows.envOfC "_law_names" (defScope s__law_names) s.heap.objs.size f' cdv)).units + 64 < cLine := hr.units
  exact (dss_cons (ds_asg (de_tup (da_cons dstr (da_cons dstr da_nil))) (dg_tup rfl rfl (dgs_cons (dg_name (n := 2) sc__law_names.nd rfl (Or.inr rfl)) (dgs_cons (dg_name (n := 3) sc__law_names.nd rfl (Or.inr rfl)) dgs_nil))))
  (dss_cons (ds_for (passes_of rfl) rfl (di_range1 (by rfl) M.n_range (da_cons (de_call (g__law_next M) rfl (hr.mono (by omega)) hg (by rfl) M.g__law_next M.k__law_next M.b__law_next rfl (da_cons (dvar 0) (da_cons dint da_nil))) da_nil)) (dg_name (n := 4) sc__law_names.nd rfl (Or.inl rfl)) (dss_one (ds_set (n := 3) sc__law_names.nd rfl (Or.inr rfl) (de_bin (od_add rfl) (dvar 3).dv (de_ix (ixd rfl) (dvar 2).dv (de_call (g__law_next M) rfl (hr.mono (by omega)) hg (by rfl) M.g__law_next M.k__law_next M.b__law_next rfl (da_cons (dvar 0) (da_cons dint da_nil))).dv).dv))))
  (dss_cons (ds_asg (de_tup (da_cons (de_call (g__law_next M) rfl (hr.mono (by omega)) hg (by rfl) M.g__law_next M.k__law_next M.b__law_next rfl (da_cons (dvar 0) (da_cons (de_bin (od_add rfl) (de_bi (ca_len rfl) (by rfl) M.n_len (by decide +kernel) (dav_cons (dvar 3).dv dav_nil)).dv dint.dv) da_nil))) (da_cons (de_call (g__law_next M) rfl (hr.mono (by omega)) hg (by rfl) M.g__law_next M.k__law_next M.b__law_next rfl (da_cons (dvar 0) (da_cons dint da_nil))) (da_cons (de_ix (ixd rfl) (df_lst (da_cons dint (da_cons dint (da_cons dint (da_cons dint (da_cons dint (da_cons dint da_nil))))))).de.dv (de_call (g__law_next M) rfl (hr.mono (by omega)) hg (by rfl) M.g__law_next M.k__law_next M.b__law_next rfl (da_cons (dvar 0) (da_cons dint da_nil))).dv) da_nil)))) (dg_tup rfl rfl (dgs_cons (dg_name (n := 5) sc__law_names.nd rfl (Or.inr rfl)) (dgs_cons (dg_name (n := 6) sc__law_names.nd rfl (Or.inr rfl)) (dgs_cons (dg_name (n := 7) sc__law_names.nd rfl (Or.inr rfl)) dgs_nil)))))
  (dss_cons (ds_set (n := 8) sc__law_names.nd rfl (Or.inr rfl) (de_sl (sld rfl) (de_bin (od_add rfl) (dvar 3).dv (de_bin (od_mul rfl) (de_ix (ixd rfl) (dvar 2).dv (dvar 6).dv).dv dint.dv).dv).dv do_none (do_some dint)))
  (dss_cons (ds_if (DW.dt (dw_and (dt_cmp (od_gt rfl hu) (dvar 7).dv dint.dv (nomark _)) (dw_and1 (dt_cmp (od_lt rfl hu) (dvar 1).dv dint.dv (nomark _))))) (dss_one (ds_ret (df_lc (own := [("k", 4)]) rfl sc__law_names.nd (di_range1 (by rfl) M.n_range (da_cons (dvar 1) da_nil)) (show BlkOk N__law_names (defScope s__law_names) _ [("k", 4)] from ⟨rfl, by decide +kernel, by decide +kernel, by decide +kernel, by decide +kernel⟩) (fun s H C cl fp => (pg_name (i := 4) sc__law_names.nd rfl (by first | exact .inl rfl | exact .inr rfl))) (gk_name (by decide)) (fun s H C cl fp => pts_nil) tk_yes (fun s H C cl fp => (de_if (dt_cmp (od_gt rfl hu) (dvar 7).dv dint.dv (nomark _)) (de_sl (sld rfl) (dvar 8).dv (do_some (dvar 4)) do_none) (de_sl (sld rfl) (dvar 8).dv do_none (do_some (de_bin od_subI (de_bin (od_add rfl) (dvar 4).dv dint.dv).dv (dvar 1).dv)))))).de)) dss_nil)
  (dss_one (ds_ret (df_lc (own := [("k", 4)]) rfl sc__law_names.nd (di_range1 (by rfl) M.n_range (da_cons (dvar 1) da_nil)) (show BlkOk N__law_names (defScope s__law_names) _ [("k", 4)] from ⟨rfl, by decide +kernel, by decide +kernel, by decide +kernel, by decide +kernel⟩) (fun s H C cl fp => (pg_name (i := 4) sc__law_names.nd rfl (by first | exact .inl rfl | exact .inr rfl))) (gk_name (by decide)) (fun s H C cl fp => pts_nil) tk_yes (fun s H C cl fp => (de_bin (od_add rfl) (de_bin (od_add rfl) (de_sl (sld rfl) (dvar 3).dv do_none (do_some (dvar 5))).dv (de_ix (ixd rfl) (dvar 2).dv (de_bin od_modI (de_ty ca_int (by rfl) M.n_int (by decide +kernel) (dav_cons (de_bin (od_add rfl) (dvar 6).dv (de_bin (od_mul rfl) (dvar 7).dv (dvar 4).dv).dv).dv dav_nil)).dv dint.dv).dv).dv).dv (de_sl (sld rfl) (dvar 3).dv (do_some (dvar 5)) do_none).dv))).de)))))))
def m__law_names : List D → M D := runFn 9 b__law_names
theorem g__law_names (M : Md L mg f fd fI) : FG L P w mg base 3 (f 2) (fd 2) ["m", "many"] m__law_names := fg_of (N := N__law_names) M.F__law_names sc__law_names fun cdv A outer s H E hr hg => d__law_names M hr hg
abbrev N__law_many : List Str := ["m", "most"]
abbrev s__law_many : Stmt := (topS 38)
theorem sc__law_many : FnScope N__law_many ["m", "most"] (defScope s__law_many) := ⟨rfl, rfl, rfl, by decide +kernel, rfl, by decide +kernel, by decide +kernel⟩
def b__law_many : IS := (sRet (iBi fTuple [(iBi fSorted [(iCall (m__law_names) [(iVar 0), (iOp fAdd (iLit (.int 2)) (iCall (m__law_next) [(iVar 0), (iOp fSubI (iVar 1) (iLit (.int 1)))]))])])]))
theorem d__law_many (M : Md L mg f fd fI) {f' : Addr} {cdv : Value} {A : Around} {outer : List PySem.Env} {s : Shared} {H : Hp} {E : XK} (hr : Room (3) (A.deeper (PyProof.Rows.envOfC "_law_many" (defScope s__law_many) s.heap.objs.size f' cdv))) (hg : A.guards = some []) :
    DSs L (cxOf (L2.CX P w) P w L.K mg base N__law_many "_law_many" (defScope s__law_many) f' cdv A outer s H E) (b__law_many) (defBody s__law_many) := by
  have hu : (A.deeper (PyProof.Rows.envOfC "_law_many" (defScope s__law_many) s.heap.objs.size f' cdv)).units + 64 < cLine := hr.units
  exact (dss_one (ds_ret (de_ty (ca_tuple rfl) (by rfl) M.n_tuple (by decide +kernel) (dav_cons (df_bi (ca_sorted rfl (u66 hr)) (by rfl) M.n_sorted (by decide +kernel) (dav_cons (de_call (g__law_names M) rfl (hr.mono (by omega)) hg (by rfl) M.g__law_names M.k__law_names M.b__law_names rfl (da_cons (dvar 0) (da_cons (de_bin (od_add rfl) dint.dv (de_call (g__law_next M) rfl (hr.mono (by omega)) hg (by rfl) M.g__law_next M.k__law_next M.b__law_next rfl (da_cons (dvar 0) (da_cons (de_bin od_subI (dvar 1).dv dint.dv) da_nil))).dv) da_nil))).dv dav_nil)).de.dv dav_nil))))
def m__law_many : List D → M D := runFn 2 b__law_many
theorem g__law_many (M : Md L mg f fd fI) : FG L P w mg base 4 (f 3) (fd 3) ["m", "most"] m__law_many := fg_of (N := N__law_many) M.F__law_many sc__law_many fun cdv A outer s H E hr hg => d__law_many M hr hg
abbrev N__law_order : List Str := ["m", "many", "left", "found", "at"]
abbrev s__law_order : Stmt := (topS 41)
theorem sc__law_order : FnScope N__law_order ["m", "many"] (defScope s__law_order) := ⟨rfl, rfl, rfl, by decide +kernel, rfl, by decide +kernel, by decide +kernel⟩
def b__law_order : IS := (sSeq (sPar 2 3 (iBi fList [(iVar 1)]) (iTup []))
  (sSeq (sWhile 200 (asB (iOp fNeD (iVar 2) (iLst []))) (sSeq (sSet 4 (iCall (m__law_next) [(iVar 0), (iBi fLen [(iVar 2)])]))
  (sPar 3 2 (iOp fAdd (iVar 3) (iTup [(iOp fIx (iVar 2) (iVar 4))])) (iOp fAdd (iSl fSl (iVar 2) oNone (oSome (iVar 4))) (iSl fSl (iVar 2) (oSome (iOp fAdd (iVar 4) (iLit (.int 1)))) oNone)))))
  (sRet (iVar 3))))
theorem d__law_order (M : Md L mg f fd fI) {f' : Addr} {cdv : Value} {A : Around} {outer : List PySem.Env} {s : Shared} {H : Hp} {E : XK} (hr : Room (2) (A.deeper (PyProof.Rows.envOfC "_law_order" (defScope s__law_order) s.heap.objs.size f' cdv))) (hg : A.guards = some []) :
    DSs L (cxOf (L2.CX P w) P w L.K mg base N__law_order "_law_order" (defScope s__law_order) f' cdv A outer s H E) (b__law_order) (defBody s__law_order) := by
  have hu : (A.deeper (PyProof.Rows.envOfC "_law_order" (defScope s__law_order) s.heap.objs.size f' cdv)).units + 64 < cLine := hr.units
  exact (dss_cons (ds_par (n := 2) (m := 3) rfl sc__law_order.nd rfl rfl (by decide) rfl rfl (da_cons (df_ty (ca_list rfl) (by rfl) M.n_list (by decide +kernel) (dav_cons (dvar 1).dv dav_nil)).de (da_cons (de_tup da_nil) da_nil)) (by rfl))
  (dss_cons (ds_while 200 (passes_of rfl) (dt_cmp (od_ne0 rfl hu) (dvar 2).dv (df_lst da_nil).de.dv (nomark _)) (dss_cons (ds_set (n := 4) sc__law_order.nd rfl (Or.inl rfl) (de_call (g__law_next M) rfl (hr.mono (by omega)) hg (by rfl) M.g__law_next M.k__law_next M.b__law_next rfl (da_cons (dvar 0) (da_cons (de_bi (ca_len rfl) (by rfl) M.n_len (by decide +kernel) (dav_cons (dvar 2).dv dav_nil)) da_nil))))
  (dss_one (ds_par (n := 3) (m := 2) rfl sc__law_order.nd rfl rfl (by decide) rfl rfl (da_cons (de_bin (od_add rfl) (dvar 3).dv (de_tup (da_cons (de_ix (ixd rfl) (dvar 2).dv (dvar 4).dv) da_nil)).dv) (da_cons (de_bin (od_add rfl) (de_sl (sld rfl) (dvar 2).dv do_none (do_some (dvar 4))).dv (de_sl (sld rfl) (dvar 2).dv (do_some (de_bin (od_add rfl) (dvar 4).dv dint.dv)) do_none).dv) da_nil)) (by rfl)))))
  (dss_one (ds_ret (dvar 3)))))
def m__law_order : List D → M D := runFn 5 b__law_order
theorem g__law_order (M : Md L mg f fd fI) : FG L P w mg base 3 (f 4) (fd 4) ["m", "many"] m__law_order := fg_of (N := N__law_order) M.F__law_order sc__law_order fun cdv A outer s H E hr hg => d__law_order M hr hg
abbrev N__law_rule : List Str := ["m", "many", "seats", "quota", "hand"]
abbrev s__law_rule : Stmt := (topS 42)
theorem sc__law_rule : FnScope N__law_rule ["m", "many"] (defScope s__law_rule) := ⟨rfl, rfl, rfl, by decide +kernel, rfl, by decide +kernel, by decide +kernel⟩
def b__law_rule : IS := (sSeq (sSet 2 (iOp fAdd (iLit (.int 1)) (iCall (m__law_next) [(iVar 0), (iOp fSubI (iBi fLen [(iVar 1)]) (iLit (.int 1)))])))
  (sSeq (sSet 3 (iOp fIx (iLst [(iTup [(iLit (.int 1)), (iLit (.int 2))]), (iTup [(iLit (.int 1)), (iLit (.int 3))]), (iTup [(iLit (.int 1)), (iOp fAdd (iVar 2) (iLit (.int 1)))]), (iTup [(iLit (.int 2)), (iLit (.int 5))]), (iTup [(iLit (.int 1)), (iLit (.int 100))]), (iTup [(iLit (.int 3)), (iLit (.int 4))]), (iTup [(iLit (.int 99)), (iLit (.int 100))])]) (iCall (m__law_next) [(iVar 0), (iLit (.int 7))])))
  (sSeq (sSet 4 (iOp fIx (iLst [(iTup [(iLit (.int 0)), (iLit (.int 1))]), (iTup [(iLit (.int 1)), (iLit (.int 1))]), (iTup [(iLit (.int 1)), (iLit (.int 2))]), (iTup [(iLit (.int 1)), (iLit (.int 3))]), (iTup [(iLit (.int 2)), (iLit (.int 3))]), (iTup [(iLit (.int 0)), (iLit (.int 7))]), (iTup [(iLit (.int 99)), (iLit (.int 100))])]) (iCall (m__law_next) [(iVar 0), (iLit (.int 7))])))
  (sRet (iTup [(iVar 1), (iVar 2), (iVar 3), (iOp fEq (iCall (m__law_next) [(iVar 0), (iLit (.int 2))]) (iLit (.int 0))), (iVar 4), (iCall (m__law_order) [(iVar 0), (iVar 1)])])))))
theorem d__law_rule (M : Md L mg f fd fI) {f' : Addr} {cdv : Value} {A : Around} {outer : List PySem.Env} {s : Shared} {H : Hp} {E : XK} (hr : Room (3) (A.deeper (PyProof.Rows.envOfC "_law_rule" (defScope s__law_rule) s.heap.objs.size f' cdv))) (hg : A.guards = some []) :
    DSs L (cxOf (L2.CX P w) P w L.K mg base N__law_rule "_law_rule" (defScope s__law_rule) f' cdv A outer s H E) (b__law_rule) (defBody s__law_rule) := by
  have hu : (A.deeper (PyProof.Rows.envOfC "_law_rule" (defScope s__law_rule) s.heap.objs.size f' cdv)).units + 64 < cLine := hr.units
  exact (dss_cons (ds_set (n := 2) sc__law_rule.nd rfl (Or.inl rfl) (de_bin (od_add rfl) dint.dv (de_call (g__law_next M) rfl (hr.mono (by omega)) hg (by rfl) M.g__law_next M.k__law_next M.b__law_next rfl (da_cons (dvar 0) (da_cons (de_bin od_subI (de_bi (ca_len rfl) (by rfl) M.n_len (by decide +kernel) (dav_cons (dvar 1).dv dav_nil)).dv dint.dv) da_nil))).dv))
  (dss_cons (ds_set (n := 3) sc__law_rule.nd rfl (Or.inl rfl) (de_ix (ixd rfl) (df_lst (da_cons (de_tup (da_cons dint (da_cons dint da_nil))) (da_cons (de_tup (da_cons dint (da_cons dint da_nil))) (da_cons (de_tup (da_cons dint (da_cons (de_bin (od_add rfl) (dvar 2).dv dint.dv) da_nil))) (da_cons (de_tup (da_cons dint (da_cons dint da_nil))) (da_cons (de_tup (da_cons dint (da_cons dint da_nil))) (da_cons (de_tup (da_cons dint (da_cons dint da_nil))) (da_cons (de_tup (da_cons dint (da_cons dint da_nil))) da_nil)))))))).de.dv (de_call (g__law_next M) rfl (hr.mono (by omega)) hg (by rfl) M.g__law_next M.k__law_next M.b__law_next rfl (da_cons (dvar 0) (da_cons dint da_nil))).dv))
  (dss_cons (ds_set (n := 4) sc__law_rule.nd rfl (Or.inl rfl) (de_ix (ixd rfl) (df_lst (da_cons (de_tup (da_cons dint (da_cons dint da_nil))) (da_cons (de_tup (da_cons dint (da_cons dint da_nil))) (da_cons (de_tup (da_cons dint (da_cons dint da_nil))) (da_cons (de_tup (da_cons dint (da_cons dint da_nil))) (da_cons (de_tup (da_cons dint (da_cons dint da_nil))) (da_cons (de_tup (da_cons dint (da_cons dint da_nil))) (da_cons (de_tup (da_cons dint (da_cons dint da_nil))) da_nil)))))))).de.dv (de_call (g__law_next M) rfl (hr.mono (by omega)) hg (by rfl) M.g__law_next M.k__law_next M.b__law_next rfl (da_cons (dvar 0) (da_cons dint da_nil))).dv))
  (dss_one (ds_ret (de_tup (da_cons (dvar 1) (da_cons (dvar 2) (da_cons (dvar 3) (da_cons (de_cmp (od_eq rfl hu) (de_call (g__law_next M) rfl (hr.mono (by omega)) hg (by rfl) M.g__law_next M.k__law_next M.b__law_next rfl (da_cons (dvar 0) (da_cons dint da_nil))).dv dint.dv (nomark _)) (da_cons (dvar 4) (da_cons (de_call (g__law_order M) rfl (hr.mono (by omega)) hg (by rfl) M.g__law_order M.k__law_order M.b__law_order rfl (da_cons (dvar 0) (da_cons (dvar 1) da_nil))) da_nil))))))))))))
def m__law_rule : List D → M D := runFn 5 b__law_rule
theorem g__law_rule (M : Md L mg f fd fI) : FG L P w mg base 4 (f 5) (fd 5) ["m", "many"] m__law_rule := fg_of (N := N__law_rule) M.F__law_rule sc__law_rule fun cdv A outer s H E hr hg => d__law_rule M hr hg
end Lw
namespace Lw
open PySem PySem.Spec L2 DL
variable {L : Lx} {P : Program} {w : World} {mg : Str → Option Value} {base : Heap} {f : Nat → Addr} {fd : Nat → FuncData} {fI : Nat → Addr}
abbrev N__is_word : List Str := ["thing", "letter"]
abbrev s__is_word : Stmt := (topS 19)
theorem sc__is_word : FnScope N__is_word ["thing"] (defScope s__is_word) := ⟨rfl, rfl, rfl, by decide +kernel, rfl, by decide +kernel, by decide +kernel⟩
def b__is_word : IS := (sSeq (sIf (orB (notB (asB (iBi fIsI [(iVar 0), (iLit (.ty "str"))]))) (notB (asB (iChain fLe fLe (iLit (.int 1)) (iBi fLen [(iVar 0)]) (iLit (.int 8)))))) (sRet (iLit (.bl false))) sPass)
  (sRet (iBi fAll [(iLc (gN 1) (iiA (iVar 0)) cYes (iChain fLe fLe (iLit (.str (PySem.Str.ofString "a"))) (iVar 1) (iLit (.str (PySem.Str.ofString "z")))) [1])])))
theorem d__is_word (M : Md L mg f fd fI) {f' : Addr} {cdv : Value} {A : Around} {outer : List PySem.Env} {s : Shared} {H : Hp} {E : XK} (hr : Room (0) (A.deeper (PyProof.Rows.envOfC "_is_word" (defScope s__is_word) s.heap.objs.size f' cdv))) (hg : A.guards = some []) :
    DSs L (cxOf (L2.CX P w) P w L.K mg base N__is_word "_is_word" (defScope s__is_word) f' cdv A outer s H E) (b__is_word) (defBody s__is_word) := by
  have hu : (A.deeper (PyProof.Rows.envOfC "_is_word" (defScope s__is_word) s.heap.objs.size f' cdv)).units + 64 < cLine := hr.units
  exact (dss_cons (ds_if (DW.dt (dw_or (dt_not (dt_val (de_bi (ca_isi M.tab rfl) (by rfl) M.n_isinstance (by decide +kernel) (dav_cons (dvar 0).dv (dav_cons (de_type (t := "str") (by rfl) M.n_str (by decide +kernel)).dv dav_nil))))) (dw_or1 (dt_not (dt_chain (od_le rfl hu) (od_le rfl hu) dint.dv (de_bi (ca_len rfl) (by rfl) M.n_len (by decide +kernel) (dav_cons (dvar 0).dv dav_nil)).dv (dgint (by rfl) M.i__MOST_LETTERS).dv))))) (dss_one (ds_ret dbool)) dss_nil)
  (dss_one (ds_ret (de_bi (ca_all rfl) (by rfl) M.n_all (by decide +kernel) (dav_cons (df_lc (own := [("letter", 1)]) rfl sc__is_word.nd (di_any rfl (dvar 0)) (show BlkOk N__is_word (defScope s__is_word) _ [("letter", 1)] from ⟨rfl, by decide +kernel, by decide +kernel, by decide +kernel, by decide +kernel⟩) (fun s H C cl fp => (pg_name (i := 1) sc__is_word.nd rfl (by first | exact .inl rfl | exact .inr rfl))) (gk_name (by decide)) (fun s H C cl fp => pts_nil) tk_yes (fun s H C cl fp => (de_chain (od_le rfl hu) (od_le rfl hu) dstr.dv (dvar 1).dv dstr.dv))).de.dv dav_nil)))))
def m__is_word : List D → M D := runFn 2 b__is_word
theorem g__is_word (M : Md L mg f fd fI) : FG L P w mg base 1 (f 6) (fd 6) ["thing"] m__is_word := fg_of (N := N__is_word) M.F__is_word sc__is_word fun cdv A outer s H E hr hg => d__is_word M hr hg
abbrev N_is_ascending : List Str := ["things", "low", "high"]
abbrev s_is_ascending : Stmt := (topS 11)
theorem sc_is_ascending : FnScope N_is_ascending ["things"] (defScope s_is_ascending) := ⟨rfl, rfl, rfl, by decide +kernel, rfl, by decide +kernel, by decide +kernel⟩
def b_is_ascending : IS := (sRet (iBi fAll [(iLc (gT [gN 1, gN 2]) (iiZ (iVar 0) (iSl fSl (iVar 0) (oSome (iLit (.int 1))) oNone)) cYes (iOp fLt (iVar 1) (iVar 2)) [1, 2])]))
theorem d_is_ascending (M : Md L mg f fd fI) {f' : Addr} {cdv : Value} {A : Around} {outer : List PySem.Env} {s : Shared} {H : Hp} {E : XK} (hr : Room (0) (A.deeper (PyProof.Rows.envOfC "is_ascending" (defScope s_is_ascending) s.heap.objs.size f' cdv))) (hg : A.guards = some []) :
    DSs L (cxOf (L2.CX P w) P w L.K mg base N_is_ascending "is_ascending" (defScope s_is_ascending) f' cdv A outer s H E) (b_is_ascending) (defBody s_is_ascending) := by
  have hu : (A.deeper (PyProof.Rows.envOfC "is_ascending" (defScope s_is_ascending) s.heap.objs.size f' cdv)).units + 64 < cLine := hr.units
  exact (dss_one (ds_ret (de_bi (ca_all rfl) (by rfl) M.n_all (by decide +kernel) (dav_cons (df_lc (own := [("low", 1), ("high", 2)]) rfl sc_is_ascending.nd (di_zip rfl (by rfl) M.n_zip (da_cons (dvar 0) (da_cons (de_sl (sld rfl) (dvar 0).dv (do_some dint) do_none) da_nil))) (show BlkOk N_is_ascending (defScope s_is_ascending) _ [("low", 1), ("high", 2)] from ⟨rfl, by decide +kernel, by decide +kernel, by decide +kernel, by decide +kernel⟩) (fun s H C cl fp => (pg_tup rfl (pgs_cons (pg_name (i := 1) sc_is_ascending.nd rfl (by first | exact .inl rfl | exact .inr rfl)) (pgs_cons (pg_name (i := 2) sc_is_ascending.nd rfl (by first | exact .inl rfl | exact .inr rfl)) pgs_nil)))) (gk_tup (ns := [1, 2]) (by decide)) (fun s H C cl fp => pts_nil) tk_yes (fun s H C cl fp => (de_cmp (od_lt rfl hu) (dvar 1).dv (dvar 2).dv (nomark _)))).de.dv dav_nil))))
def m_is_ascending : List D → M D := runFn 3 b_is_ascending
theorem g_is_ascending (M : Md L mg f fd fI) : FG L P w mg base 1 (f 7) (fd 7) ["things"] m_is_ascending := fg_of (N := N_is_ascending) M.F_is_ascending sc_is_ascending fun cdv A outer s H E hr hg => d_is_ascending M hr hg
abbrev N_are_names : List Str := ["thing", "name"]
abbrev s_are_names : Stmt := (topS 17)
theorem sc_are_names : FnScope N_are_names ["thing"] (defScope s_are_names) := ⟨rfl, rfl, rfl, by decide +kernel, rfl, by decide +kernel, by decide +kernel⟩
def b_are_names : IS := (sSeq (sIf (orB (notB (asB (iBi fIsI [(iVar 0), (iLit (.ty "tuple"))]))) (notB (asB (iChain fLe fLe (iLit (.int 2)) (iBi fLen [(iVar 0)]) (iLit (.int 4)))))) (sRet (iLit (.bl false))) sPass)
  (sRet (iAnd (iBi fAll [(iLc (gN 1) (iiA (iVar 0)) cYes (iCall (m__is_word) [(iVar 1)]) [1])]) (iCall (m_is_ascending) [(iVar 0)]))))
theorem d_are_names (M : Md L mg f fd fI) {f' : Addr} {cdv : Value} {A : Around} {outer : List PySem.Env} {s : Shared} {H : Hp} {E : XK} (hr : Room (1) (A.deeper (PyProof.Rows.envOfC "are_names" (defScope s_are_names) s.heap.objs.size f' cdv))) (hg : A.guards = some []) :
    DSs L (cxOf (L2.CX P w) P w L.K mg base N_are_names "are_names" (defScope s_are_names) f' cdv A outer s H E) (b_are_names) (defBody s_are_names) := by
  have hu : (A.deeper (PyProof.Rows.envOfC "are_names" (defScope s_are_names) s.heap.objs.size f' cdv)).units + 64 < cLine := hr.units
  exact (dss_cons (ds_if (DW.dt (dw_or (dt_not (dt_val (de_bi (ca_isi M.tab rfl) (by rfl) M.n_isinstance (by decide +kernel) (dav_cons (dvar 0).dv (dav_cons (de_type (t := "tuple") (by rfl) M.n_tuple (by decide +kernel)).dv dav_nil))))) (dw_or1 (dt_not (dt_chain (od_le rfl hu) (od_le rfl hu) (dgint (by rfl) M.i__FEWEST_NAMES).dv (de_bi (ca_len rfl) (by rfl) M.n_len (by decide +kernel) (dav_cons (dvar 0).dv dav_nil)).dv (dgint (by rfl) M.i_MOST_NAMES).dv))))) (dss_one (ds_ret dbool)) dss_nil)
  (dss_one (ds_ret (de_and (de_bi (ca_all rfl) (by rfl) M.n_all (by decide +kernel) (dav_cons (df_lc (own := [("name", 1)]) rfl sc_are_names.nd (di_any rfl (dvar 0)) (show BlkOk N_are_names (defScope s_are_names) _ [("name", 1)] from ⟨rfl, by decide +kernel, by decide +kernel, by decide +kernel, by decide +kernel⟩) (fun s H C cl fp => (pg_name (i := 1) sc_are_names.nd rfl (by first | exact .inl rfl | exact .inr rfl))) (gk_name (by decide)) (fun s H C cl fp => pts_nil) tk_yes (fun s H C cl fp => (de_call (g__is_word M) rfl (hr.mono (by omega)) hg (by rfl) M.g__is_word M.k__is_word M.b__is_word rfl (da_cons (dvar 1) da_nil)))).de.dv dav_nil)) (de_one (de_call (g_is_ascending M) rfl (hr.mono (by omega)) hg (by rfl) M.g_is_ascending M.k_is_ascending M.b_is_ascending rfl (da_cons (dvar 0) da_nil)))))))
def m_are_names : List D → M D := runFn 2 b_are_names
theorem g_are_names (M : Md L mg f fd fI) : FG L P w mg base 2 (f 8) (fd 8) ["thing"] m_are_names := fg_of (N := N_are_names) M.F_are_names sc_are_names fun cdv A outer s H E hr hg => d_are_names M hr hg
abbrev N_need_names : List Str := ["thing"]
abbrev s_need_names : Stmt := (topS 16)
theorem sc_need_names : FnScope N_need_names ["thing"] (defScope s_need_names) := ⟨rfl, rfl, rfl, by decide +kernel, rfl, by decide +kernel, by decide +kernel⟩
def b_need_names : IS := (sSeq (sIf (notB (asB (iCall (m_are_names) [(iVar 0)]))) (sRaise 1 (iVar 0)) sPass)
  (sRet (iVar 0)))
theorem d_need_names (M : Md L mg f fd fI) {f' : Addr} {cdv : Value} {A : Around} {outer : List PySem.Env} {s : Shared} {H : Hp} {E : XK} (hr : Room (2) (A.deeper (PyProof.Rows.envOfC "need_names" (defScope s_need_names) s.heap.objs.size f' cdv))) (hg : A.guards = some []) :
    DSs L (cxOf (L2.CX P w) P w L.K mg base N_need_names "need_names" (defScope s_need_names) f' cdv A outer s H E) (b_need_names) (defBody s_need_names) := by
  have hu : (A.deeper (PyProof.Rows.envOfC "need_names" (defScope s_need_names) s.heap.objs.size f' cdv)).units + 64 < cLine := hr.units
  exact (dss_cons (ds_if (dt_not (dt_val (de_call (g_are_names M) rfl (hr.mono (by omega)) hg (by rfl) M.g_are_names M.k_are_names M.b_are_names rfl (da_cons (dvar 0) da_nil)))) (dss_one (ds_raise rfl M.x1 rfl M.h1 (dep1 hr) (by rfl) M.c1 (dvar 0))) dss_nil)
  (dss_one (ds_ret (dvar 0))))
def m_need_names : List D → M D := runFn 1 b_need_names
theorem g_need_names (M : Md L mg f fd fI) : FG L P w mg base 3 (f 9) (fd 9) ["thing"] m_need_names := fg_of (N := N_need_names) M.F_need_names sc_need_names fun cdv A outer s H E hr hg => d_need_names M hr hg
abbrev N_is_integer : List Str := ["thing"]
abbrev s_is_integer : Stmt := (topS 7)
theorem sc_is_integer : FnScope N_is_integer ["thing"] (defScope s_is_integer) := ⟨rfl, rfl, rfl, by decide +kernel, rfl, by decide +kernel, by decide +kernel⟩
def b_is_integer : IS := (sRet (iAnd (iBi fIsI [(iVar 0), (iLit (.ty "int"))]) (iNot (iBi fIsI [(iVar 0), (iLit (.ty "bool"))]))))
theorem d_is_integer (M : Md L mg f fd fI) {f' : Addr} {cdv : Value} {A : Around} {outer : List PySem.Env} {s : Shared} {H : Hp} {E : XK} (hr : Room (0) (A.deeper (PyProof.Rows.envOfC "is_integer" (defScope s_is_integer) s.heap.objs.size f' cdv))) (hg : A.guards = some []) :
    DSs L (cxOf (L2.CX P w) P w L.K mg base N_is_integer "is_integer" (defScope s_is_integer) f' cdv A outer s H E) (b_is_integer) (defBody s_is_integer) := by
  have hu : (A.deeper (PyProof.Rows.envOfC "is_integer" (defScope s_is_integer) s.heap.objs.size f' cdv)).units + 64 < cLine := hr.units
  exact (dss_one (ds_ret (de_and (de_bi (ca_isi M.tab rfl) (by rfl) M.n_isinstance (by decide +kernel) (dav_cons (dvar 0).dv (dav_cons (de_type (t := "int") (by rfl) M.n_int (by decide +kernel)).dv dav_nil))) (de_one (de_not (de_bi (ca_isi M.tab rfl) (by rfl) M.n_isinstance (by decide +kernel) (dav_cons (dvar 0).dv (dav_cons (de_type (t := "bool") (by rfl) M.n_bool (by decide +kernel)).dv dav_nil))))))))
def m_is_integer : List D → M D := runFn 1 b_is_integer
theorem g_is_integer (M : Md L mg f fd fI) : FG L P w mg base 1 (f 10) (fd 10) ["thing"] m_is_integer := fg_of (N := N_is_integer) M.F_is_integer sc_is_integer fun cdv A outer s H E hr hg => d_is_integer M hr hg
abbrev N_is_within : List Str := ["thing", "low", "high"]
abbrev s_is_within : Stmt := (topS 8)
theorem sc_is_within : FnScope N_is_within ["thing", "low", "high"] (defScope s_is_within) := ⟨rfl, rfl, rfl, by decide +kernel, rfl, by decide +kernel, by decide +kernel⟩
def b_is_within : IS := (sRet (iAnd (iCall (m_is_integer) [(iVar 0)]) (iChain fLe fLe (iVar 1) (iVar 0) (iVar 2))))
theorem d_is_within (M : Md L mg f fd fI) {f' : Addr} {cdv : Value} {A : Around} {outer : List PySem.Env} {s : Shared} {H : Hp} {E : XK} (hr : Room (1) (A.deeper (PyProof.Rows.envOfC "is_within" (defScope s_is_within) s.heap.objs.size f' cdv))) (hg : A.guards = some []) :
    DSs L (cxOf (L2.CX P w) P w L.K mg base N_is_within "is_within" (defScope s_is_within) f' cdv A outer s H E) (b_is_within) (defBody s_is_within) := by
  have hu : (A.deeper (PyProof.Rows.envOfC "is_within" (defScope s_is_within) s.heap.objs.size f' cdv)).units + 64 < cLine := hr.units
  exact (dss_one (ds_ret (de_and (de_call (g_is_integer M) rfl (hr.mono (by omega)) hg (by rfl) M.g_is_integer M.k_is_integer M.b_is_integer rfl (da_cons (dvar 0) da_nil)) (de_one (de_chain (od_le rfl hu) (od_le rfl hu) (dvar 1).dv (dvar 0).dv (dvar 2).dv)))))
def m_is_within : List D → M D := runFn 3 b_is_within
theorem g_is_within (M : Md L mg f fd fI) : FG L P w mg base 2 (f 11) (fd 11) ["thing", "low", "high"] m_is_within := fg_of (N := N_is_within) M.F_is_within sc_is_within fun cdv A outer s H E hr hg => d_is_within M hr hg
end Lw
namespace Lw
open PySem PySem.Spec L2 DL
variable {L : Lx} {P : Program} {w : World} {mg : Str → Option Value} {base : Heap} {f : Nat → Addr} {fd : Nat → FuncData} {fI : Nat → Addr}
abbrev N_is_pair : List Str := ["thing"]
abbrev s_is_pair : Stmt := (topS 9)
theorem sc_is_pair : FnScope N_is_pair ["thing"] (defScope s_is_pair) := ⟨rfl, rfl, rfl, by decide +kernel, rfl, by decide +kernel, by decide +kernel⟩
def b_is_pair : IS := (sRet (iAnd (iBi fIsI [(iVar 0), (iLit (.ty "tuple"))]) (iOp fEq (iBi fLen [(iVar 0)]) (iLit (.int 2)))))
theorem d_is_pair (M : Md L mg f fd fI) {f' : Addr} {cdv : Value} {A : Around} {outer : List PySem.Env} {s : Shared} {H : Hp} {E : XK} (hr : Room (0) (A.deeper (PyProof.Rows.envOfC "is_pair" (defScope s_is_pair) s.heap.objs.size f' cdv))) (hg : A.guards = some []) :
    DSs L (cxOf (L2.CX P w) P w L.K mg base N_is_pair "is_pair" (defScope s_is_pair) f' cdv A outer s H E) (b_is_pair) (defBody s_is_pair) := by
  have hu : (A.deeper (PyProof.Rows.envOfC "is_pair" (defScope s_is_pair) s.heap.objs.size f' cdv)).units + 64 < cLine := hr.units
  exact (dss_one (ds_ret (de_and (de_bi (ca_isi M.tab rfl) (by rfl) M.n_isinstance (by decide +kernel) (dav_cons (dvar 0).dv (dav_cons (de_type (t := "tuple") (by rfl) M.n_tuple (by decide +kernel)).dv dav_nil))) (de_one (de_cmp (od_eq rfl hu) (de_bi (ca_len rfl) (by rfl) M.n_len (by decide +kernel) (dav_cons (dvar 0).dv dav_nil)).dv dint.dv (nomark _))))))
def m_is_pair : List D → M D := runFn 1 b_is_pair
theorem g_is_pair (M : Md L mg f fd fI) : FG L P w mg base 1 (f 12) (fd 12) ["thing"] m_is_pair := fg_of (N := N_is_pair) M.F_is_pair sc_is_pair fun cdv A outer s H E hr hg => d_is_pair M hr hg
abbrev N_is_integer_pair : List Str := ["thing"]
abbrev s_is_integer_pair : Stmt := (topS 10)
theorem sc_is_integer_pair : FnScope N_is_integer_pair ["thing"] (defScope s_is_integer_pair) := ⟨rfl, rfl, rfl, by decide +kernel, rfl, by decide +kernel, by decide +kernel⟩
def b_is_integer_pair : IS := (sRet (iAnd (iCall (m_is_pair) [(iVar 0)]) (iAnd (iCall (m_is_integer) [(iOp fIx (iVar 0) (iLit (.int 0)))]) (iCall (m_is_integer) [(iOp fIx (iVar 0) (iLit (.int 1)))]))))
theorem d_is_integer_pair (M : Md L mg f fd fI) {f' : Addr} {cdv : Value} {A : Around} {outer : List PySem.Env} {s : Shared} {H : Hp} {E : XK} (hr : Room (1) (A.deeper (PyProof.Rows.envOfC "is_integer_pair" (defScope s_is_integer_pair) s.heap.objs.size f' cdv))) (hg : A.guards = some []) :
    DSs L (cxOf (L2.CX P w) P w L.K mg base N_is_integer_pair "is_integer_pair" (defScope s_is_integer_pair) f' cdv A outer s H E) (b_is_integer_pair) (defBody s_is_integer_pair) := by
  have hu : (A.deeper (PyProof.Rows.envOfC "is_integer_pair" (defScope s_is_integer_pair) s.heap.objs.size f' cdv)).units + 64 < cLine := hr.units
  exact (dss_one (ds_ret (de_and (de_call (g_is_pair M) rfl (hr.mono (by omega)) hg (by rfl) M.g_is_pair M.k_is_pair M.b_is_pair rfl (da_cons (dvar 0) da_nil)) (de_and (de_call (g_is_integer M) rfl (hr.mono (by omega)) hg (by rfl) M.g_is_integer M.k_is_integer M.b_is_integer rfl (da_cons (de_ix (ixd rfl) (dvar 0).dv dint.dv) da_nil)) (de_one (de_call (g_is_integer M) rfl (hr.mono (by omega)) hg (by rfl) M.g_is_integer M.k_is_integer M.b_is_integer rfl (da_cons (de_ix (ixd rfl) (dvar 0).dv dint.dv) da_nil)))))))
def m_is_integer_pair : List D → M D := runFn 1 b_is_integer_pair
theorem g_is_integer_pair (M : Md L mg f fd fI) : FG L P w mg base 2 (f 13) (fd 13) ["thing"] m_is_integer_pair := fg_of (N := N_is_integer_pair) M.F_is_integer_pair sc_is_integer_pair fun cdv A outer s H E hr hg => d_is_integer_pair M hr hg
abbrev N_is_paper : List Str := ["names", "thing", "name"]
abbrev s_is_paper : Stmt := (topS 18)
theorem sc_is_paper : FnScope N_is_paper ["names", "thing"] (defScope s_is_paper) := ⟨rfl, rfl, rfl, by decide +kernel, rfl, by decide +kernel, by decide +kernel⟩
def b_is_paper : IS := (sSeq (sIf (orB (notB (asB (iBi fIsI [(iVar 1), (iLit (.ty "tuple"))]))) (notB (asB (iChain fLe fLe (iLit (.int 1)) (iBi fLen [(iVar 1)]) (iBi fLen [(iVar 0)]))))) (sRet (iLit (.bl false))) sPass)
  (sSeq (sIf (notB (asB (iBi fAll [(iLc (gN 2) (iiA (iVar 1)) cYes (iAnd (iBi fIsI [(iVar 2), (iLit (.ty "str"))]) (iOp fInA (iVar 2) (iVar 0))) [2])]))) (sRet (iLit (.bl false))) sPass)
  (sRet (iOp fEq (iLenT (iVar 1)) (iBi fLen [(iVar 1)])))))
theorem d_is_paper (M : Md L mg f fd fI) {f' : Addr} {cdv : Value} {A : Around} {outer : List PySem.Env} {s : Shared} {H : Hp} {E : XK} (hr : Room (0) (A.deeper (PyProof.Rows.envOfC "is_paper" (defScope s_is_paper) s.heap.objs.size f' cdv))) (hg : A.guards = some []) :
    DSs L (cxOf (L2.CX P w) P w L.K mg base N_is_paper "is_paper" (defScope s_is_paper) f' cdv A outer s H E) (b_is_paper) (defBody s_is_paper) := by
  have hu : (A.deeper (PyProof.Rows.envOfC "is_paper" (defScope s_is_paper) s.heap.objs.size f' cdv)).units + 64 < cLine := hr.units
  exact (dss_cons (ds_if (DW.dt (dw_or (dt_not (dt_val (de_bi (ca_isi M.tab rfl) (by rfl) M.n_isinstance (by decide +kernel) (dav_cons (dvar 1).dv (dav_cons (de_type (t := "tuple") (by rfl) M.n_tuple (by decide +kernel)).dv dav_nil))))) (dw_or1 (dt_not (dt_chain (od_le rfl hu) (od_le rfl hu) dint.dv (de_bi (ca_len rfl) (by rfl) M.n_len (by decide +kernel) (dav_cons (dvar 1).dv dav_nil)).dv (de_bi (ca_len rfl) (by rfl) M.n_len (by decide +kernel) (dav_cons (dvar 0).dv dav_nil)).dv))))) (dss_one (ds_ret dbool)) dss_nil)
  (dss_cons (ds_if (dt_not (dt_val (de_bi (ca_all rfl) (by rfl) M.n_all (by decide +kernel) (dav_cons (df_lc (own := [("name", 2)]) rfl sc_is_paper.nd (di_any rfl (dvar 1)) (show BlkOk N_is_paper (defScope s_is_paper) _ [("name", 2)] from ⟨rfl, by decide +kernel, by decide +kernel, by decide +kernel, by decide +kernel⟩) (fun s H C cl fp => (pg_name (i := 2) sc_is_paper.nd rfl (by first | exact .inl rfl | exact .inr rfl))) (gk_name (by decide)) (fun s H C cl fp => pts_nil) tk_yes (fun s H C cl fp => (de_and (de_bi (ca_isi M.tab rfl) (by rfl) M.n_isinstance (by decide +kernel) (dav_cons (dvar 2).dv (dav_cons (de_type (t := "str") (by rfl) M.n_str (by decide +kernel)).dv dav_nil))) (de_one (de_cmp (od_inA rfl (u65 hr)) (dvar 2).dv (dvar 0).dv (by with_unfolding_all rfl)))))).de.dv dav_nil)))) (dss_one (ds_ret dbool)) dss_nil)
  (dss_one (ds_ret (de_cmp (od_eq rfl hu) (de_lenT rfl rfl (by rfl) M.n_len (by rfl) M.n_set (dvar 1)).dv (de_bi (ca_len rfl) (by rfl) M.n_len (by decide +kernel) (dav_cons (dvar 1).dv dav_nil)).dv (nomark _))))))
def m_is_paper : List D → M D := runFn 3 b_is_paper
theorem g_is_paper (M : Md L mg f fd fI) : FG L P w mg base 1 (f 14) (fd 14) ["names", "thing"] m_is_paper := fg_of (N := N_is_paper) M.F_is_paper sc_is_paper fun cdv A outer s H E hr hg => d_is_paper M hr hg
abbrev N_is_field : List Str := ["names", "place", "thing"]
abbrev s_is_field : Stmt := (topS 24)
theorem sc_is_field : FnScope N_is_field ["names", "place", "thing"] (defScope s_is_field) := ⟨rfl, rfl, rfl, by decide +kernel, rfl, by decide +kernel, by decide +kernel⟩
def b_is_field : IS := (sSeq (sIf (asB (iOp fEq (iVar 1) (iLit (.str (PySem.Str.ofString "seats"))))) (sRet (iCall (m_is_within) [(iVar 2), (iLit (.int 1)), (iOp fSubI (iBi fLen [(iVar 0)]) (iLit (.int 1)))])) sPass)
  (sSeq (sIf (asB (iOp fEq (iVar 1) (iLit (.str (PySem.Str.ofString "quota"))))) (sRet (iAnd (iCall (m_is_integer_pair) [(iVar 2)]) (iChain3 fLt fLt fLe (iLit (.int 0)) (iOp fIx (iVar 2) (iLit (.int 0))) (iOp fIx (iVar 2) (iLit (.int 1))) (iLit (.int 100))))) sPass)
  (sSeq (sIf (asB (iOp fEq (iVar 1) (iLit (.str (PySem.Str.ofString "over"))))) (sRet (iOr (iOp fIs (iVar 2) (iLit (.bl true))) (iOp fIs (iVar 2) (iLit (.bl false))))) sPass)
  (sSeq (sIf (asB (iOp fEq (iVar 1) (iLit (.str (PySem.Str.ofString "hand"))))) (sRet (iAnd (iCall (m_is_integer_pair) [(iVar 2)]) (iAnd (iChain fLe fLe (iLit (.int 0)) (iOp fIx (iVar 2) (iLit (.int 0))) (iOp fIx (iVar 2) (iLit (.int 1)))) (iChain fLe fLe (iLit (.int 1)) (iOp fIx (iVar 2) (iLit (.int 1))) (iLit (.int 100)))))) sPass)
  (sRet (iAnd (iCall (m_is_paper) [(iVar 0), (iVar 2)]) (iOp fEq (iBi fLen [(iVar 2)]) (iBi fLen [(iVar 0)]))))))))
theorem d_is_field (M : Md L mg f fd fI) {f' : Addr} {cdv : Value} {A : Around} {outer : List PySem.Env} {s : Shared} {H : Hp} {E : XK} (hr : Room (2) (A.deeper (PyProof.Rows.envOfC "is_field" (defScope s_is_field) s.heap.objs.size f' cdv))) (hg : A.guards = some []) :
    DSs L (cxOf (L2.CX P w) P w L.K mg base N_is_field "is_field" (defScope s_is_field) f' cdv A outer s H E) (b_is_field) (defBody s_is_field) := by
  have hu : (A.deeper (PyProof.Rows.envOfC "is_field" (defScope s_is_field) s.heap.objs.size f' cdv)).units + 64 < cLine := hr.units
  exact (dss_cons (ds_if (dt_cmp (od_eq rfl hu) (dvar 1).dv dstr.dv (nomark _)) (dss_one (ds_ret (de_call (g_is_within M) rfl (hr.mono (by omega)) hg (by rfl) M.g_is_within M.k_is_within M.b_is_within rfl (da_cons (dvar 2) (da_cons dint (da_cons (de_bin od_subI (de_bi (ca_len rfl) (by rfl) M.n_len (by decide +kernel) (dav_cons (dvar 0).dv dav_nil)).dv dint.dv) da_nil)))))) dss_nil)
  (dss_cons (ds_if (dt_cmp (od_eq rfl hu) (dvar 1).dv dstr.dv (nomark _)) (dss_one (ds_ret (de_and (de_call (g_is_integer_pair M) rfl (hr.mono (by omega)) hg (by rfl) M.g_is_integer_pair M.k_is_integer_pair M.b_is_integer_pair rfl (da_cons (dvar 2) da_nil)) (de_one (de_chain3 (od_lt rfl hu) (od_lt rfl hu) (od_le rfl hu) dint.dv (de_ix (ixd rfl) (dvar 2).dv dint.dv).dv (de_ix (ixd rfl) (dvar 2).dv dint.dv).dv (dgint (by rfl) M.i__MOST_PARTS).dv))))) dss_nil)
  (dss_cons (ds_if (dt_cmp (od_eq rfl hu) (dvar 1).dv dstr.dv (nomark _)) (dss_one (ds_ret (de_or (de_cmp od_is (dvar 2).dv dbool.dv (nomark _)) (de_one (de_cmp od_is (dvar 2).dv dbool.dv (nomark _)))))) dss_nil)
  (dss_cons (ds_if (dt_cmp (od_eq rfl hu) (dvar 1).dv dstr.dv (nomark _)) (dss_one (ds_ret (de_and (de_call (g_is_integer_pair M) rfl (hr.mono (by omega)) hg (by rfl) M.g_is_integer_pair M.k_is_integer_pair M.b_is_integer_pair rfl (da_cons (dvar 2) da_nil)) (de_and (de_chain (od_le rfl hu) (od_le rfl hu) dint.dv (de_ix (ixd rfl) (dvar 2).dv dint.dv).dv (de_ix (ixd rfl) (dvar 2).dv dint.dv).dv) (de_one (de_chain (od_le rfl hu) (od_le rfl hu) dint.dv (de_ix (ixd rfl) (dvar 2).dv dint.dv).dv (dgint (by rfl) M.i__MOST_PARTS).dv)))))) dss_nil)
  (dss_one (ds_ret (de_and (de_call (g_is_paper M) rfl (hr.mono (by omega)) hg (by rfl) M.g_is_paper M.k_is_paper M.b_is_paper rfl (da_cons (dvar 0) (da_cons (dvar 2) da_nil))) (de_one (de_cmp (od_eq rfl hu) (de_bi (ca_len rfl) (by rfl) M.n_len (by decide +kernel) (dav_cons (dvar 2).dv dav_nil)).dv (de_bi (ca_len rfl) (by rfl) M.n_len (by decide +kernel) (dav_cons (dvar 0).dv dav_nil)).dv (nomark _))))))))))
def m_is_field : List D → M D := runFn 3 b_is_field
theorem g_is_field (M : Md L mg f fd fI) : FG L P w mg base 3 (f 15) (fd 15) ["names", "place", "thing"] m_is_field := fg_of (N := N_is_field) M.F_is_field sc_is_field fun cdv A outer s H E hr hg => d_is_field M hr hg
abbrev N_Rule___init__ : List Str := ["self", "names", "seats", "quota", "over", "hand", "order", "place", "thing"]
abbrev s_Rule___init__ : Stmt := (clsS 23 0)
theorem sc_Rule___init__ : FnScope N_Rule___init__ ["self", "names", "seats", "quota", "over", "hand", "order"] (defScope s_Rule___init__) := ⟨rfl, rfl, rfl, by decide +kernel, rfl, by decide +kernel, by decide +kernel⟩
def b_Rule___init__ : IS := (sSeq (sExpr (iCall (m_need_names) [(iVar 1)]))
  (sSeq (sFor (gT [(gN 7), (gN 8)]) (iiZ (iLit (.tup [.str (PySem.Str.ofString "seats"), .str (PySem.Str.ofString "quota"), .str (PySem.Str.ofString "over"), .str (PySem.Str.ofString "hand"), .str (PySem.Str.ofString "order")])) (iTup [(iVar 2), (iVar 3), (iVar 4), (iVar 5), (iVar 6)])) (sIf (notB (asB (iCall (m_is_field) [(iVar 1), (iVar 7), (iVar 8)]))) (sRaise 2 (iVar 7)) sPass))
  (sSeq (sSelf (fun c => decide (c = 4)) 0 "names" (iVar 1))
  (sSeq (sSelf (fun c => decide (c = 4)) 0 "seats" (iVar 2))
  (sSeq (sSelf (fun c => decide (c = 4)) 0 "quota" (iVar 3))
  (sSeq (sSelf (fun c => decide (c = 4)) 0 "over" (iVar 4))
  (sSeq (sSelf (fun c => decide (c = 4)) 0 "hand" (iVar 5))
  (sSelf (fun c => decide (c = 4)) 0 "order" (iVar 6)))))))))
theorem d_Rule___init__ (M0 : Md L mg f fd fI) (a : Addr) {f' : Addr} {cdv : Value} {A : Around} {outer : List PySem.Env} {s : Shared} {H : Hp} {E : XK} (hr : Room (3) (A.deeper (PyProof.Rows.envOfC "Rule.__init__" (defScope s_Rule___init__) s.heap.objs.size f' cdv))) (hg : A.guards = some []) :
    DSs (L.ms a) (cxOf (L2.CX P w) P w L.K mg base N_Rule___init__ "Rule.__init__" (defScope s_Rule___init__) f' cdv A outer s H E) b_Rule___init__ (defBody s_Rule___init__) := by
  have M := M0.ms a
  have hu : (A.deeper (PyProof.Rows.envOfC "Rule.__init__" (defScope s_Rule___init__) s.heap.objs.size f' cdv)).units + 64 < cLine := hr.units
  exact (dss_cons (ds_expr (de_call (g_need_names M) rfl (hr.mono (by omega)) hg (by rfl) M.g_need_names M.k_need_names M.b_need_names rfl (da_cons (dvar 1) da_nil)).dv)
  (dss_cons (ds_for (passes_of rfl) rfl (di_zip rfl (by rfl) M.n_zip (da_cons (de_gtupS (ss := [("seats" : Str), ("quota" : Str), ("over" : Str), ("hand" : Str), ("order" : Str)]) (by rfl) M.t_FIELDS) (da_cons (de_tup (da_cons (dvar 2) (da_cons (dvar 3) (da_cons (dvar 4) (da_cons (dvar 5) (da_cons (dvar 6) da_nil)))))) da_nil))) (dg_tup rfl rfl (dgs_cons (dg_name (n := 7) sc_Rule___init__.nd rfl (Or.inl rfl)) (dgs_cons (dg_name (n := 8) sc_Rule___init__.nd rfl (Or.inl rfl)) dgs_nil))) (dss_one (ds_if (dt_not (dt_val (de_call (g_is_field M) rfl (hr.mono (by omega)) hg (by rfl) M.g_is_field M.k_is_field M.b_is_field rfl (da_cons (dvar 1) (da_cons (dvar 7) (da_cons (dvar 8) da_nil)))))) (dss_one (ds_raise rfl M.x2 rfl M.h2 (dep1 hr) (by rfl) M.c2 (dvar 7))) dss_nil)))
  (dss_cons (ds_self (ok := fun c => decide (c = 4)) rfl (fun c hc => by obtain rfl := of_decide_eq_true hc; exact ⟨M.cl4, M.na4 _ (by decide)⟩) (pv 0) (dvar 1))
  (dss_cons (ds_self (ok := fun c => decide (c = 4)) rfl (fun c hc => by obtain rfl := of_decide_eq_true hc; exact ⟨M.cl4, M.na4 _ (by decide)⟩) (pv 0) (dvar 2))
  (dss_cons (ds_self (ok := fun c => decide (c = 4)) rfl (fun c hc => by obtain rfl := of_decide_eq_true hc; exact ⟨M.cl4, M.na4 _ (by decide)⟩) (pv 0) (dvar 3))
  (dss_cons (ds_self (ok := fun c => decide (c = 4)) rfl (fun c hc => by obtain rfl := of_decide_eq_true hc; exact ⟨M.cl4, M.na4 _ (by decide)⟩) (pv 0) (dvar 4))
  (dss_cons (ds_self (ok := fun c => decide (c = 4)) rfl (fun c hc => by obtain rfl := of_decide_eq_true hc; exact ⟨M.cl4, M.na4 _ (by decide)⟩) (pv 0) (dvar 5))
  (dss_one (ds_self (ok := fun c => decide (c = 4)) rfl (fun c hc => by obtain rfl := of_decide_eq_true hc; exact ⟨M.cl4, M.na4 _ (by decide)⟩) (pv 0) (dvar 6))))))))))
def m_Rule___init__ : List D → M (List (Str × D)) := runIn 9 b_Rule___init__ 4
theorem g_Rule___init__ (M : Md L mg f fd fI) : FGI L P w mg base 4 (f 16) (fd 16) ["self", "names", "seats", "quota", "over", "hand", "order"] 4 m_Rule___init__ := fgi_of (N := N_Rule___init__) M.F_Rule___init__ sc_Rule___init__ fun a cdv A outer s H E hr hg => d_Rule___init__ M a hr hg
abbrev N__law_made : List Str := ["fields"]
abbrev s__law_made : Stmt := (topS 49)
theorem sc__law_made : FnScope N__law_made ["fields"] (defScope s__law_made) := ⟨rfl, rfl, rfl, by decide +kernel, rfl, by decide +kernel, by decide +kernel⟩
def b__law_made : IS := (sRet (iCal (mInit 4 fields4 m_Rule___init__) [(iOp fIx (iVar 0) (iLit (.int 0))), (iOp fIx (iVar 0) (iLit (.int 1))), (iOp fIx (iVar 0) (iLit (.int 2))), (iOp fIx (iVar 0) (iLit (.int 3))), (iOp fIx (iVar 0) (iLit (.int 4))), (iOp fIx (iVar 0) (iLit (.int 5)))]))
theorem d__law_made (M : Md L mg f fd fI) {f' : Addr} {cdv : Value} {A : Around} {outer : List PySem.Env} {s : Shared} {H : Hp} {E : XK} (hr : Room (5) (A.deeper (PyProof.Rows.envOfC "_law_made" (defScope s__law_made) s.heap.objs.size f' cdv))) (hg : A.guards = some []) :
    DSs L (cxOf (L2.CX P w) P w L.K mg base N__law_made "_law_made" (defScope s__law_made) f' cdv A outer s H E) (b__law_made) (defBody s__law_made) := by
  have hu : (A.deeper (PyProof.Rows.envOfC "_law_made" (defScope s__law_made) s.heap.objs.size f' cdv)).units + 64 < cLine := hr.units
  exact (dss_one (ds_ret (de_cal (M.h4 ▸ cal_cls (c := 4) (n := 6) M.mk4 (g_Rule___init__ M) rfl rfl (hr.mono (by omega)) hg M.b_Rule___init__ rfl) M.kc4 (by rfl) M.c4 (da_cons (de_ix (ixd rfl) (dvar 0).dv dint.dv) (da_cons (de_ix (ixd rfl) (dvar 0).dv dint.dv) (da_cons (de_ix (ixd rfl) (dvar 0).dv dint.dv) (da_cons (de_ix (ixd rfl) (dvar 0).dv dint.dv) (da_cons (de_ix (ixd rfl) (dvar 0).dv dint.dv) (da_cons (de_ix (ixd rfl) (dvar 0).dv dint.dv) da_nil)))))))))
def m__law_made : List D → M D := runFn 1 b__law_made
theorem g__law_made (M : Md L mg f fd fI) : FG L P w mg base 6 (f 17) (fd 17) ["fields"] m__law_made := fg_of (N := N__law_made) M.F__law_made sc__law_made fun cdv A outer s H E hr hg => d__law_made M hr hg
end Lw
namespace Lw
open PySem PySem.Spec L2 DL
variable {L : Lx} {P : Program} {w : World} {mg : Str → Option Value} {base : Heap} {f : Nat → Addr} {fd : Nat → FuncData} {fI : Nat → Addr}
abbrev N__law_courses : List Str := ["going", "seats", "found", "word", "gone", "name", "rest", "one", "path"]
abbrev s__law_courses : Stmt := (topS 48)
theorem sc__law_courses : FnScope N__law_courses ["going", "seats"] (defScope s__law_courses) := ⟨rfl, rfl, rfl, by decide +kernel, rfl, by decide +kernel, by decide +kernel⟩
def b__law_courses (rec : List D → M D) : IS := (sSeq (sIf (orB (asB (iOp fEq (iVar 1) (iLit (.int 0)))) (asB (iOp fLe (iBi fLen [(iVar 0)]) (iVar 1)))) (sRet (iLst [(iTup [])])) sPass)
  (sSeq (sSet 2 (iLst []))
  (sSeq (sFor (gT [(gN 3), (gN 4)]) (iiA (iTup [(iTup [(iLit (.str (PySem.Str.ofString "in"))), (iLit (.int 1))]), (iTup [(iLit (.str (PySem.Str.ofString "out"))), (iLit (.int 0))])])) (sFor (gN 5) (iiA (iVar 0)) (sSeq (sSet 6 (iBi fTuple [(iLc (gN 7) (iiA (iVar 0)) (asB (iOp fNeD (iVar 7) (iVar 5))) (iVar 7) [7])]))
  (sSet 2 (iOp fAdd (iVar 2) (iLc (gN 8) (iiA (iCall (rec) [(iVar 6), (iOp fSubI (iVar 1) (iVar 4))])) cYes (iOp fAdd (iTup [(iTup [(iVar 3), (iVar 5)])]) (iVar 8)) [8]))))))
  (sRet (iVar 2)))))
theorem d__law_courses (M : Md L mg f fd fI) {f' : Addr} {cdv : Value} {A : Around} {outer : List PySem.Env} {s : Shared} {H : Hp} {E : XK} {n : Nat} (hr : Room (0 + n) (A.deeper (PyProof.Rows.envOfC "_law_courses" (defScope s__law_courses) s.heap.objs.size f' cdv))) (hg : A.guards = some []) {rec : List D → DL.M D} (F : FG L P w mg base (0 + n) (f 18) (fd 18) ["going", "seats"] rec) :
    DSs L (cxOf (L2.CX P w) P w L.K mg base N__law_courses "_law_courses" (defScope s__law_courses) f' cdv A outer s H E) (b__law_courses rec) (defBody s__law_courses) := by
  have hrec := hr
  have hu : (A.deeper (PyProof.Rows.envOfC "_law_courses" (defScope s__law_courses) s.heap.objs.size f' cdv)).units + 64 < cLine := hr.units
  exact (dss_cons (ds_if (DW.dt (dw_or (dt_cmp (od_eq rfl hu) (dvar 1).dv dint.dv (nomark _)) (dw_or1 (dt_cmp (od_le rfl hu) (de_bi (ca_len rfl) (by rfl) M.n_len (by decide +kernel) (dav_cons (dvar 0).dv dav_nil)).dv (dvar 1).dv (nomark _))))) (dss_one (ds_ret (df_lst (da_cons (de_tup da_nil) da_nil)).de)) dss_nil)
  (dss_cons (ds_set (n := 2) sc__law_courses.nd rfl (Or.inl rfl) (df_lst da_nil).de)
  (dss_cons (ds_for (passes_of rfl) rfl (di_any rfl (de_tup (da_cons (de_tup (da_cons dstr (da_cons dint da_nil))) (da_cons (de_tup (da_cons dstr (da_cons dint da_nil))) da_nil)))) (dg_tup rfl rfl (dgs_cons (dg_name (n := 3) sc__law_courses.nd rfl (Or.inr rfl)) (dgs_cons (dg_name (n := 4) sc__law_courses.nd rfl (Or.inl rfl)) dgs_nil))) (dss_one (ds_for (passes_of rfl) rfl (di_any rfl (dvar 0)) (dg_name (n := 5) sc__law_courses.nd rfl (Or.inr rfl)) (dss_cons (ds_set (n := 6) sc__law_courses.nd rfl (Or.inl rfl) (de_ty (ca_tuple rfl) (by rfl) M.n_tuple (by decide +kernel) (dav_cons (df_lc (own := [("one", 7)]) rfl sc__law_courses.nd (di_any rfl (dvar 0)) (show BlkOk N__law_courses (defScope s__law_courses) _ [("one", 7)] from ⟨rfl, by decide +kernel, by decide +kernel, by decide +kernel, by decide +kernel⟩) (fun s H C cl fp => (pg_name (i := 7) sc__law_courses.nd rfl (by first | exact .inl rfl | exact .inr rfl))) (gk_name (by decide)) (fun s H C cl fp => (pts_of (dt_cmp (od_ne0 rfl hu) (dvar 7).dv (dvar 5).dv (nomark _)))) tk_one (fun s H C cl fp => (dvar 7))).de.dv dav_nil)))
  (dss_one (ds_set (n := 2) sc__law_courses.nd rfl (Or.inl rfl) (de_bin (od_add rfl) (dvar 2).dv (df_lc (own := [("path", 8)]) rfl sc__law_courses.nd (di_any rfl (de_call F rfl hrec hg (by rfl) M.g__law_courses M.k__law_courses M.b__law_courses rfl (da_cons (dvar 6) (da_cons (de_bin od_subI (dvar 1).dv (dvar 4).dv) da_nil)))) (show BlkOk N__law_courses (defScope s__law_courses) _ [("path", 8)] from ⟨rfl, by decide +kernel, by decide +kernel, by decide +kernel, by decide +kernel⟩) (fun s H C cl fp => (pg_name (i := 8) sc__law_courses.nd rfl (by first | exact .inl rfl | exact .inr rfl))) (gk_name (by decide)) (fun s H C cl fp => pts_nil) tk_yes (fun s H C cl fp => (de_bin (od_add rfl) (de_tup (da_cons (de_tup (da_cons (dvar 3) (da_cons (dvar 5) da_nil))) da_nil)).dv (dvar 8).dv))).de.dv)))))))
  (dss_one (ds_ret (dvar 2))))))
def m__law_courses : Nat → List D → M D
  | 0 => fun _ => .stuck
  | n + 1 => runFn 9 (b__law_courses (m__law_courses n))
theorem g__law_courses (M : Md L mg f fd fI) : ∀ n : Nat, FG L P w mg base (0 + n) (f 18) (fd 18) ["going", "seats"] (m__law_courses n)
  | 0 => fg_none
  | n + 1 => fg_of (N := N__law_courses) M.F__law_courses sc__law_courses fun cdv A outer s H E hr hg => d__law_courses M hr hg (g__law_courses M n)
abbrev N_has_ended : List Str := ["going", "seats"]
abbrev s_has_ended : Stmt := (topS 28)
theorem sc_has_ended : FnScope N_has_ended ["going", "seats"] (defScope s_has_ended) := ⟨rfl, rfl, rfl, by decide +kernel, rfl, by decide +kernel, by decide +kernel⟩
def b_has_ended : IS := (sRet (iOr (iOp fEq (iVar 1) (iLit (.int 0))) (iOp fLe (iBi fLen [(iVar 0)]) (iVar 1))))
theorem d_has_ended (M : Md L mg f fd fI) {f' : Addr} {cdv : Value} {A : Around} {outer : List PySem.Env} {s : Shared} {H : Hp} {E : XK} (hr : Room (0) (A.deeper (PyProof.Rows.envOfC "has_ended" (defScope s_has_ended) s.heap.objs.size f' cdv))) (hg : A.guards = some []) :
    DSs L (cxOf (L2.CX P w) P w L.K mg base N_has_ended "has_ended" (defScope s_has_ended) f' cdv A outer s H E) (b_has_ended) (defBody s_has_ended) := by
  have hu : (A.deeper (PyProof.Rows.envOfC "has_ended" (defScope s_has_ended) s.heap.objs.size f' cdv)).units + 64 < cLine := hr.units
  exact (dss_one (ds_ret (de_or (de_cmp (od_eq rfl hu) (dvar 1).dv dint.dv (nomark _)) (de_one (de_cmp (od_le rfl hu) (de_bi (ca_len rfl) (by rfl) M.n_len (by decide +kernel) (dav_cons (dvar 0).dv dav_nil)).dv (dvar 1).dv (nomark _))))))
def m_has_ended : List D → M D := runFn 2 b_has_ended
theorem g_has_ended (M : Md L mg f fd fI) : FG L P w mg base 1 (f 19) (fd 19) ["going", "seats"] m_has_ended := fg_of (N := N_has_ended) M.F_has_ended sc_has_ended fun cdv A outer s H E hr hg => d_has_ended M hr hg
abbrev N_without_name : List Str := ["going", "name", "other"]
abbrev s_without_name : Stmt := (topS 29)
theorem sc_without_name : FnScope N_without_name ["going", "name"] (defScope s_without_name) := ⟨rfl, rfl, rfl, by decide +kernel, rfl, by decide +kernel, by decide +kernel⟩
def b_without_name : IS := (sRet (iBi fTuple [(iLc (gN 2) (iiA (iVar 0)) (asB (iOp fNeD (iVar 2) (iVar 1))) (iVar 2) [2])]))
theorem d_without_name (M : Md L mg f fd fI) {f' : Addr} {cdv : Value} {A : Around} {outer : List PySem.Env} {s : Shared} {H : Hp} {E : XK} (hr : Room (0) (A.deeper (PyProof.Rows.envOfC "without_name" (defScope s_without_name) s.heap.objs.size f' cdv))) (hg : A.guards = some []) :
    DSs L (cxOf (L2.CX P w) P w L.K mg base N_without_name "without_name" (defScope s_without_name) f' cdv A outer s H E) (b_without_name) (defBody s_without_name) := by
  have hu : (A.deeper (PyProof.Rows.envOfC "without_name" (defScope s_without_name) s.heap.objs.size f' cdv)).units + 64 < cLine := hr.units
  exact (dss_one (ds_ret (de_ty (ca_tuple rfl) (by rfl) M.n_tuple (by decide +kernel) (dav_cons (df_lc (own := [("other", 2)]) rfl sc_without_name.nd (di_any rfl (dvar 0)) (show BlkOk N_without_name (defScope s_without_name) _ [("other", 2)] from ⟨rfl, by decide +kernel, by decide +kernel, by decide +kernel, by decide +kernel⟩) (fun s H C cl fp => (pg_name (i := 2) sc_without_name.nd rfl (by first | exact .inl rfl | exact .inr rfl))) (gk_name (by decide)) (fun s H C cl fp => (pts_of (dt_cmp (od_ne0 rfl hu) (dvar 2).dv (dvar 1).dv (nomark _)))) tk_one (fun s H C cl fp => (dvar 2))).de.dv dav_nil))))
def m_without_name : List D → M D := runFn 3 b_without_name
theorem g_without_name (M : Md L mg f fd fI) : FG L P w mg base 1 (f 20) (fd 20) ["going", "name"] m_without_name := fg_of (N := N_without_name) M.F_without_name sc_without_name fun cdv A outer s H E hr hg => d_without_name M hr hg
abbrev N__courses_from : List Str := ["going", "seats", "courses", "word", "left", "name", "ways", "way"]
abbrev s__courses_from : Stmt := (topS 30)
theorem sc__courses_from : FnScope N__courses_from ["going", "seats"] (defScope s__courses_from) := ⟨rfl, rfl, rfl, by decide +kernel, rfl, by decide +kernel, by decide +kernel⟩
def b__courses_from (rec : List D → M D) : IS := (sSeq (sIf (asB (iCall (m_has_ended) [(iVar 0), (iVar 1)])) (sRet (iLst [(iTup [])])) sPass)
  (sSeq (sOwn 2 (iLst []))
  (sSeq (sFor (gT [(gN 3), (gN 4)]) (iiA (iTup [(iTup [(iLit (.str (PySem.Str.ofString "in"))), (iOp fSubI (iVar 1) (iLit (.int 1)))]), (iTup [(iLit (.str (PySem.Str.ofString "out"))), (iVar 1)])])) (sFor (gN 5) (iiA (iVar 0)) (sSeq (sSet 6 (iCall (rec) [(iCall (m_without_name) [(iVar 0), (iVar 5)]), (iVar 4)]))
  (sExt 2 (iLc (gN 7) (iiA (iVar 6)) cYes (iOp fAdd (iTup [(iTup [(iVar 3), (iVar 5)])]) (iVar 7)) [7])))))
  (sRetOwn 2))))
theorem d__courses_from (M : Md L mg f fd fI) {f' : Addr} {cdv : Value} {A : Around} {outer : List PySem.Env} {s : Shared} {H : Hp} {E : XK} {n : Nat} (hr : Room (1 + n) (A.deeper (PyProof.Rows.envOfC "_courses_from" (defScope s__courses_from) s.heap.objs.size f' cdv))) (hg : A.guards = some []) {rec : List D → DL.M D} (F : FG L P w mg base (1 + n) (f 21) (fd 21) ["going", "seats"] rec) :
    DSs L (cxOf (L2.CX P w) P w L.K mg base N__courses_from "_courses_from" (defScope s__courses_from) f' cdv A outer s H E) (b__courses_from rec) (defBody s__courses_from) := by
  have hrec := hr
  have hu : (A.deeper (PyProof.Rows.envOfC "_courses_from" (defScope s__courses_from) s.heap.objs.size f' cdv)).units + 64 < cLine := hr.units
  exact (dss_cons (ds_if (dt_val (de_call (g_has_ended M) rfl (hr.mono (by omega)) hg (by rfl) M.g_has_ended M.k_has_ended M.b_has_ended rfl (da_cons (dvar 0) (da_cons (dvar 1) da_nil)))) (dss_one (ds_ret (df_lst (da_cons (de_tup da_nil) da_nil)).de)) dss_nil)
  (dss_cons (ds_own (n := 2) sc__courses_from.nd rfl (Or.inl rfl) (df_lst da_nil))
  (dss_cons (ds_for (passes_of rfl) rfl (di_any rfl (de_tup (da_cons (de_tup (da_cons dstr (da_cons (de_bin od_subI (dvar 1).dv dint.dv) da_nil))) (da_cons (de_tup (da_cons dstr (da_cons (dvar 1) da_nil))) da_nil)))) (dg_tup rfl rfl (dgs_cons (dg_name (n := 3) sc__courses_from.nd rfl (Or.inr rfl)) (dgs_cons (dg_name (n := 4) sc__courses_from.nd rfl (Or.inl rfl)) dgs_nil))) (dss_one (ds_for (passes_of rfl) rfl (di_any rfl (dvar 0)) (dg_name (n := 5) sc__courses_from.nd rfl (Or.inr rfl)) (dss_cons (ds_set (n := 6) sc__courses_from.nd rfl (Or.inl rfl) (de_call F rfl hrec hg (by rfl) M.g__courses_from M.k__courses_from M.b__courses_from rfl (da_cons (de_call (g_without_name M) rfl (hr.mono (by omega)) hg (by rfl) M.g_without_name M.k_without_name M.b_without_name rfl (da_cons (dvar 0) (da_cons (dvar 5) da_nil))) (da_cons (dvar 4) da_nil))))
  (dss_one (ds_ext (n := 2) (fun W tk => pe_bm PySem.F.plainAttrs_list PySem.F.slot_list_extend PySem.F.type_list_extend mt_extend (pv 2) (pa_cons ((df_lc (own := [("way", 7)]) rfl sc__courses_from.nd (di_any rfl (dvar 6)) (show BlkOk N__courses_from (defScope s__courses_from) _ [("way", 7)] from ⟨rfl, by decide +kernel, by decide +kernel, by decide +kernel, by decide +kernel⟩) (fun s H C cl fp => (pg_name (i := 7) sc__courses_from.nd rfl (by first | exact .inl rfl | exact .inr rfl))) (gk_name (by decide)) (fun s H C cl fp => pts_nil) tk_yes (fun s H C cl fp => (de_bin (od_add rfl) (de_tup (da_cons (de_tup (da_cons (dvar 3) (da_cons (dvar 5) da_nil))) da_nil)).dv (dvar 7).dv))).de W tk) pa_nil))))))))
  (dss_one (ds_retOwn (pv 2))))))
def m__courses_from : Nat → List D → M D
  | 0 => fun _ => .stuck
  | n + 1 => runFn 8 (b__courses_from (m__courses_from n))
theorem g__courses_from (M : Md L mg f fd fI) : ∀ n : Nat, FG L P w mg base (1 + n) (f 21) (fd 21) ["going", "seats"] (m__courses_from n)
  | 0 => fg_none
  | n + 1 => fg_of (N := N__courses_from) M.F__courses_from sc__courses_from fun cdv A outer s H E hr hg => d__courses_from M hr hg (g__courses_from M n)
abbrev N_all_courses : List Str := ["rule"]
abbrev s_all_courses : Stmt := (topS 25)
theorem sc_all_courses : FnScope N_all_courses ["rule"] (defScope s_all_courses) := ⟨rfl, rfl, rfl, by decide +kernel, rfl, by decide +kernel, by decide +kernel⟩
def b_all_courses : IS := (sRet (iBi fTuple [(iCall (m__courses_from 6) [(iFld at_names (iVar 0)), (iFld at_seats (iVar 0))])]))
theorem d_all_courses (M : Md L mg f fd fI) {f' : Addr} {cdv : Value} {A : Around} {outer : List PySem.Env} {s : Shared} {H : Hp} {E : XK} (hr : Room (8) (A.deeper (PyProof.Rows.envOfC "all_courses" (defScope s_all_courses) s.heap.objs.size f' cdv))) (hg : A.guards = some []) :
    DSs L (cxOf (L2.CX P w) P w L.K mg base N_all_courses "all_courses" (defScope s_all_courses) f' cdv A outer s H E) (b_all_courses) (defBody s_all_courses) := by
  have hu : (A.deeper (PyProof.Rows.envOfC "all_courses" (defScope s_all_courses) s.heap.objs.size f' cdv)).units + 64 < cLine := hr.units
  exact (dss_one (ds_ret (de_ty (ca_tuple rfl) (by rfl) M.n_tuple (by decide +kernel) (dav_cons (de_call (g__courses_from M 6) rfl (hr.mono (by omega)) hg (by rfl) M.g__courses_from M.k__courses_from M.b__courses_from rfl (da_cons (de_fld (at_ := at_names) (dvar 0) rfl M.f_names) (da_cons (de_fld (at_ := at_seats) (dvar 0) rfl M.f_seats) da_nil))).dv dav_nil))))
def m_all_courses : List D → M D := runFn 1 b_all_courses
theorem g_all_courses (M : Md L mg f fd fI) : FG L P w mg base 9 (f 22) (fd 22) ["rule"] m_all_courses := fg_of (N := N_all_courses) M.F_all_courses sc_all_courses fun cdv A outer s H E hr hg => d_all_courses M hr hg
abbrev N__is_step : List Str := ["going", "thing"]
abbrev s__is_step : Stmt := (topS 31)
theorem sc__is_step : FnScope N__is_step ["going", "thing"] (defScope s__is_step) := ⟨rfl, rfl, rfl, by decide +kernel, rfl, by decide +kernel, by decide +kernel⟩
def b__is_step : IS := (sSeq (sIf (orB (notB (asB (iCall (m_is_pair) [(iVar 1)]))) (orB (notB (asB (iBi fIsI [(iOp fIx (iVar 1) (iLit (.int 0))), (iLit (.ty "str"))]))) (notB (asB (iBi fIsI [(iOp fIx (iVar 1) (iLit (.int 1))), (iLit (.ty "str"))]))))) (sRet (iLit (.bl false))) sPass)
  (sRet (iAnd (iOp fInA (iOp fIx (iVar 1) (iLit (.int 0))) (iTup [(iLit (.str (PySem.Str.ofString "in"))), (iLit (.str (PySem.Str.ofString "out")))])) (iOp fInA (iOp fIx (iVar 1) (iLit (.int 1))) (iVar 0)))))
theorem d__is_step (M : Md L mg f fd fI) {f' : Addr} {cdv : Value} {A : Around} {outer : List PySem.Env} {s : Shared} {H : Hp} {E : XK} (hr : Room (1) (A.deeper (PyProof.Rows.envOfC "_is_step" (defScope s__is_step) s.heap.objs.size f' cdv))) (hg : A.guards = some []) :
    DSs L (cxOf (L2.CX P w) P w L.K mg base N__is_step "_is_step" (defScope s__is_step) f' cdv A outer s H E) (b__is_step) (defBody s__is_step) := by
  have hu : (A.deeper (PyProof.Rows.envOfC "_is_step" (defScope s__is_step) s.heap.objs.size f' cdv)).units + 64 < cLine := hr.units
  exact (dss_cons (ds_if (DW.dt (dw_or (dt_not (dt_val (de_call (g_is_pair M) rfl (hr.mono (by omega)) hg (by rfl) M.g_is_pair M.k_is_pair M.b_is_pair rfl (da_cons (dvar 1) da_nil)))) (dw_or (dt_not (dt_val (de_bi (ca_isi M.tab rfl) (by rfl) M.n_isinstance (by decide +kernel) (dav_cons (de_ix (ixd rfl) (dvar 1).dv dint.dv).dv (dav_cons (de_type (t := "str") (by rfl) M.n_str (by decide +kernel)).dv dav_nil))))) (dw_or1 (dt_not (dt_val (de_bi (ca_isi M.tab rfl) (by rfl) M.n_isinstance (by decide +kernel) (dav_cons (de_ix (ixd rfl) (dvar 1).dv dint.dv).dv (dav_cons (de_type (t := "str") (by rfl) M.n_str (by decide +kernel)).dv dav_nil))))))))) (dss_one (ds_ret dbool)) dss_nil)
  (dss_one (ds_ret (de_and (de_cmp (od_inA rfl (u65 hr)) (de_ix (ixd rfl) (dvar 1).dv dint.dv).dv (de_tup (da_cons dstr (da_cons dstr da_nil))).dv (by with_unfolding_all rfl)) (de_one (de_cmp (od_inA rfl (u65 hr)) (de_ix (ixd rfl) (dvar 1).dv dint.dv).dv (dvar 0).dv (by with_unfolding_all rfl)))))))
def m__is_step : List D → M D := runFn 2 b__is_step
theorem g__is_step (M : Md L mg f fd fI) : FG L P w mg base 2 (f 23) (fd 23) ["going", "thing"] m__is_step := fg_of (N := N__is_step) M.F__is_step sc__is_step fun cdv A outer s H E hr hg => d__is_step M hr hg
end Lw
namespace Lw
open PySem PySem.Spec L2 DL
variable {L : Lx} {P : Program} {w : World} {mg : Str → Option Value} {base : Heap} {f : Nat → Addr} {fd : Nat → FuncData} {fI : Nat → Addr}
abbrev N_is_course : List Str := ["rule", "thing", "going", "seats", "step"]
abbrev s_is_course : Stmt := (topS 26)
theorem sc_is_course : FnScope N_is_course ["rule", "thing"] (defScope s_is_course) := ⟨rfl, rfl, rfl, by decide +kernel, rfl, by decide +kernel, by decide +kernel⟩
def b_is_course : IS := (sSeq (sIf (notB (asB (iBi fIsI [(iVar 1), (iLit (.ty "tuple"))]))) (sRet (iLit (.bl false))) sPass)
  (sSeq (sSet 2 (iFld at_names (iVar 0)))
  (sSeq (sSet 3 (iFld at_seats (iVar 0)))
  (sSeq (sFor (gN 4) (iiA (iVar 1)) (sSeq (sIf (orB (asB (iCall (m_has_ended) [(iVar 2), (iVar 3)])) (notB (asB (iCall (m__is_step) [(iVar 2), (iVar 4)])))) (sRet (iLit (.bl false))) sPass)
  (sSeq (sSet 2 (iCall (m_without_name) [(iVar 2), (iOp fIx (iVar 4) (iLit (.int 1)))]))
  (sIf (asB (iOp fEq (iOp fIx (iVar 4) (iLit (.int 0))) (iLit (.str (PySem.Str.ofString "in"))))) (sSet 3 (iOp fSubI (iVar 3) (iLit (.int 1)))) sPass))))
  (sRet (iCall (m_has_ended) [(iVar 2), (iVar 3)]))))))
theorem d_is_course (M : Md L mg f fd fI) {f' : Addr} {cdv : Value} {A : Around} {outer : List PySem.Env} {s : Shared} {H : Hp} {E : XK} (hr : Room (2) (A.deeper (PyProof.Rows.envOfC "is_course" (defScope s_is_course) s.heap.objs.size f' cdv))) (hg : A.guards = some []) :
    DSs L (cxOf (L2.CX P w) P w L.K mg base N_is_course "is_course" (defScope s_is_course) f' cdv A outer s H E) (b_is_course) (defBody s_is_course) := by
  have hu : (A.deeper (PyProof.Rows.envOfC "is_course" (defScope s_is_course) s.heap.objs.size f' cdv)).units + 64 < cLine := hr.units
  exact (dss_cons (ds_if (dt_not (dt_val (de_bi (ca_isi M.tab rfl) (by rfl) M.n_isinstance (by decide +kernel) (dav_cons (dvar 1).dv (dav_cons (de_type (t := "tuple") (by rfl) M.n_tuple (by decide +kernel)).dv dav_nil))))) (dss_one (ds_ret dbool)) dss_nil)
  (dss_cons (ds_set (n := 2) sc_is_course.nd rfl (Or.inl rfl) (de_fld (at_ := at_names) (dvar 0) rfl M.f_names))
  (dss_cons (ds_set (n := 3) sc_is_course.nd rfl (Or.inl rfl) (de_fld (at_ := at_seats) (dvar 0) rfl M.f_seats))
  (dss_cons (ds_for (passes_of rfl) rfl (di_any rfl (dvar 1)) (dg_name (n := 4) sc_is_course.nd rfl (Or.inl rfl)) (dss_cons (ds_if (DW.dt (dw_or (dt_val (de_call (g_has_ended M) rfl (hr.mono (by omega)) hg (by rfl) M.g_has_ended M.k_has_ended M.b_has_ended rfl (da_cons (dvar 2) (da_cons (dvar 3) da_nil)))) (dw_or1 (dt_not (dt_val (de_call (g__is_step M) rfl (hr.mono (by omega)) hg (by rfl) M.g__is_step M.k__is_step M.b__is_step rfl (da_cons (dvar 2) (da_cons (dvar 4) da_nil)))))))) (dss_one (ds_ret dbool)) dss_nil)
  (dss_cons (ds_set (n := 2) sc_is_course.nd rfl (Or.inl rfl) (de_call (g_without_name M) rfl (hr.mono (by omega)) hg (by rfl) M.g_without_name M.k_without_name M.b_without_name rfl (da_cons (dvar 2) (da_cons (de_ix (ixd rfl) (dvar 4).dv dint.dv) da_nil))))
  (dss_one (ds_if (dt_cmp (od_eq rfl hu) (de_ix (ixd rfl) (dvar 4).dv dint.dv).dv dstr.dv (nomark _)) (dss_one (ds_set (n := 3) sc_is_course.nd rfl (Or.inl rfl) (de_bin od_subI (dvar 3).dv dint.dv))) dss_nil)))))
  (dss_one (ds_ret (de_call (g_has_ended M) rfl (hr.mono (by omega)) hg (by rfl) M.g_has_ended M.k_has_ended M.b_has_ended rfl (da_cons (dvar 2) (da_cons (dvar 3) da_nil)))))))))
def m_is_course : List D → M D := runFn 5 b_is_course
theorem g_is_course (M : Md L mg f fd fI) : FG L P w mg base 3 (f 24) (fd 24) ["rule", "thing"] m_is_course := fg_of (N := N_is_course) M.F_is_course sc_is_course fun cdv A outer s H E hr hg => d_is_course M hr hg
abbrev N_winners_of : List Str := ["rule", "course", "lot", "stepped", "word", "name"]
abbrev s_winners_of : Stmt := (topS 27)
theorem sc_winners_of : FnScope N_winners_of ["rule", "course"] (defScope s_winners_of) := ⟨rfl, rfl, rfl, by decide +kernel, rfl, by decide +kernel, by decide +kernel⟩
def b_winners_of : IS := (sSeq (sIf (notB (asB (iCall (m_is_course) [(iVar 0), (iVar 1)]))) (sRaise 3 (iVar 1)) sPass)
  (sSeq (sSet 2 (iLc (gT [gN 4, gN 5]) (iiA (iVar 1)) (asB (iOp fEq (iVar 4) (iLit (.str (PySem.Str.ofString "in"))))) (iVar 5) [4, 5]))
  (sSeq (sIf (asB (iOp fLt (iBi fLen [(iVar 2)]) (iFld at_seats (iVar 0)))) (sSeq (sSet 3 (iLc (gT [gN 4, gN 5]) (iiA (iVar 1)) cYes (iVar 5) [4, 5]))
  (sSet 2 (iOp fAdd (iVar 2) (iLc (gN 5) (iiA (iFld at_names (iVar 0))) (asB (iOp fNotIn (iVar 5) (iVar 3))) (iVar 5) [5])))) sPass)
  (sRet (iBi fTuple [(iBi fSorted [(iVar 2)])])))))
theorem d_winners_of (M : Md L mg f fd fI) {f' : Addr} {cdv : Value} {A : Around} {outer : List PySem.Env} {s : Shared} {H : Hp} {E : XK} (hr : Room (3) (A.deeper (PyProof.Rows.envOfC "winners_of" (defScope s_winners_of) s.heap.objs.size f' cdv))) (hg : A.guards = some []) :
    DSs L (cxOf (L2.CX P w) P w L.K mg base N_winners_of "winners_of" (defScope s_winners_of) f' cdv A outer s H E) (b_winners_of) (defBody s_winners_of) := by
  have hu : (A.deeper (PyProof.Rows.envOfC "winners_of" (defScope s_winners_of) s.heap.objs.size f' cdv)).units + 64 < cLine := hr.units
  exact (dss_cons (ds_if (dt_not (dt_val (de_call (g_is_course M) rfl (hr.mono (by omega)) hg (by rfl) M.g_is_course M.k_is_course M.b_is_course rfl (da_cons (dvar 0) (da_cons (dvar 1) da_nil))))) (dss_one (ds_raise rfl M.x3 rfl M.h3 (dep1 hr) (by rfl) M.c3 (dvar 1))) dss_nil)
  (dss_cons (ds_setLc (n := 2) (own := [("word", 4), ("name", 5)]) rfl sc_winners_of.nd rfl rfl (sw_true rfl rfl rfl (by decide +kernel)) (di_any rfl (dvar 1)) (show BlkOk N_winners_of (defScope s_winners_of) _ [("word", 4), ("name", 5)] from ⟨rfl, by decide +kernel, by decide +kernel, by decide +kernel, by decide +kernel⟩) (fun s H C cl fp => (pg_tup rfl (pgs_cons (pg_name (i := 4) sc_winners_of.nd rfl (by first | exact .inl rfl | exact .inr rfl)) (pgs_cons (pg_name (i := 5) sc_winners_of.nd rfl (by first | exact .inl rfl | exact .inr rfl)) pgs_nil)))) (gk_tup (ns := [4, 5]) (by decide)) (fun s H C cl fp => (pts_of (dt_cmp (od_eq rfl hu) (dvar 4).dv dstr.dv (nomark _)))) tk_one (fun s H C cl fp => (dvar 5)))
  (dss_cons (ds_if (dt_cmp (od_lt rfl hu) (de_bi (ca_len rfl) (by rfl) M.n_len (by decide +kernel) (dav_cons (dvar 2).dv dav_nil)).dv (de_fld (at_ := at_seats) (dvar 0) rfl M.f_seats).dv (nomark _)) (dss_cons (ds_set (n := 3) sc_winners_of.nd rfl (Or.inr rfl) (df_lc (own := [("word", 4), ("name", 5)]) rfl sc_winners_of.nd (di_any rfl (dvar 1)) (show BlkOk N_winners_of (defScope s_winners_of) _ [("word", 4), ("name", 5)] from ⟨rfl, by decide +kernel, by decide +kernel, by decide +kernel, by decide +kernel⟩) (fun s H C cl fp => (pg_tup rfl (pgs_cons (pg_name (i := 4) sc_winners_of.nd rfl (by first | exact .inl rfl | exact .inr rfl)) (pgs_cons (pg_name (i := 5) sc_winners_of.nd rfl (by first | exact .inl rfl | exact .inr rfl)) pgs_nil)))) (gk_tup (ns := [4, 5]) (by decide)) (fun s H C cl fp => pts_nil) tk_yes (fun s H C cl fp => (dvar 5))).de)
  (dss_one (ds_set (n := 2) sc_winners_of.nd rfl (Or.inl rfl) (de_bin (od_add rfl) (dvar 2).dv (df_lc (own := [("name", 5)]) rfl sc_winners_of.nd (di_any rfl (de_fld (at_ := at_names) (dvar 0) rfl M.f_names)) (show BlkOk N_winners_of (defScope s_winners_of) _ [("name", 5)] from ⟨rfl, by decide +kernel, by decide +kernel, by decide +kernel, by decide +kernel⟩) (fun s H C cl fp => (pg_name (i := 5) sc_winners_of.nd rfl (by first | exact .inl rfl | exact .inr rfl))) (gk_name (by decide)) (fun s H C cl fp => (pts_of (dt_cmp (od_notInA rfl (u65 hr)) (dvar 5).dv (dvar 3).dv (by with_unfolding_all rfl)))) tk_one (fun s H C cl fp => (dvar 5))).de.dv)))) dss_nil)
  (dss_one (ds_ret (de_ty (ca_tuple rfl) (by rfl) M.n_tuple (by decide +kernel) (dav_cons (df_bi (ca_sorted rfl (u66 hr)) (by rfl) M.n_sorted (by decide +kernel) (dav_cons (dvar 2).dv dav_nil)).de.dv dav_nil)))))))
def m_winners_of : List D → M D := runFn 6 b_winners_of
theorem g_winners_of (M : Md L mg f fd fI) : FG L P w mg base 4 (f 25) (fd 25) ["rule", "course"] m_winners_of := fg_of (N := N_winners_of) M.F_winners_of sc_winners_of fun cdv A outer s H E hr hg => d_winners_of M hr hg
abbrev N__law_winners : List Str := ["rule", "path", "ins", "stepped", "word", "name"]
abbrev s__law_winners : Stmt := (topS 46)
theorem sc__law_winners : FnScope N__law_winners ["rule", "path"] (defScope s__law_winners) := ⟨rfl, rfl, rfl, by decide +kernel, rfl, by decide +kernel, by decide +kernel⟩
def b__law_winners : IS := (sSeq (sSet 2 (iLc (gT [gN 4, gN 5]) (iiA (iVar 1)) (asB (iOp fEq (iVar 4) (iLit (.str (PySem.Str.ofString "in"))))) (iVar 5) [4, 5]))
  (sSeq (sSet 3 (iLc (gT [gN 4, gN 5]) (iiA (iVar 1)) cYes (iVar 5) [4, 5]))
  (sRet (iBi fTuple [(iBi fSorted [(iOp fAdd (iVar 2) (iLc (gN 5) (iiA (iOp fIx (iVar 0) (iLit (.int 0)))) (andB (asB (iOp fNotIn (iVar 5) (iVar 3))) (asB (iOp fLt (iBi fLen [(iVar 2)]) (iOp fIx (iVar 0) (iLit (.int 1)))))) (iVar 5) [5]))])]))))
theorem d__law_winners (M : Md L mg f fd fI) {f' : Addr} {cdv : Value} {A : Around} {outer : List PySem.Env} {s : Shared} {H : Hp} {E : XK} (hr : Room (0) (A.deeper (PyProof.Rows.envOfC "_law_winners" (defScope s__law_winners) s.heap.objs.size f' cdv))) (hg : A.guards = some []) :
    DSs L (cxOf (L2.CX P w) P w L.K mg base N__law_winners "_law_winners" (defScope s__law_winners) f' cdv A outer s H E) (b__law_winners) (defBody s__law_winners) := by
  have hu : (A.deeper (PyProof.Rows.envOfC "_law_winners" (defScope s__law_winners) s.heap.objs.size f' cdv)).units + 64 < cLine := hr.units
  exact (dss_cons (ds_set (n := 2) sc__law_winners.nd rfl (Or.inr rfl) (df_lc (own := [("word", 4), ("name", 5)]) rfl sc__law_winners.nd (di_any rfl (dvar 1)) (show BlkOk N__law_winners (defScope s__law_winners) _ [("word", 4), ("name", 5)] from ⟨rfl, by decide +kernel, by decide +kernel, by decide +kernel, by decide +kernel⟩) (fun s H C cl fp => (pg_tup rfl (pgs_cons (pg_name (i := 4) sc__law_winners.nd rfl (by first | exact .inl rfl | exact .inr rfl)) (pgs_cons (pg_name (i := 5) sc__law_winners.nd rfl (by first | exact .inl rfl | exact .inr rfl)) pgs_nil)))) (gk_tup (ns := [4, 5]) (by decide)) (fun s H C cl fp => (pts_of (dt_cmp (od_eq rfl hu) (dvar 4).dv dstr.dv (nomark _)))) tk_one (fun s H C cl fp => (dvar 5))).de)
  (dss_cons (ds_set (n := 3) sc__law_winners.nd rfl (Or.inr rfl) (df_lc (own := [("word", 4), ("name", 5)]) rfl sc__law_winners.nd (di_any rfl (dvar 1)) (show BlkOk N__law_winners (defScope s__law_winners) _ [("word", 4), ("name", 5)] from ⟨rfl, by decide +kernel, by decide +kernel, by decide +kernel, by decide +kernel⟩) (fun s H C cl fp => (pg_tup rfl (pgs_cons (pg_name (i := 4) sc__law_winners.nd rfl (by first | exact .inl rfl | exact .inr rfl)) (pgs_cons (pg_name (i := 5) sc__law_winners.nd rfl (by first | exact .inl rfl | exact .inr rfl)) pgs_nil)))) (gk_tup (ns := [4, 5]) (by decide)) (fun s H C cl fp => pts_nil) tk_yes (fun s H C cl fp => (dvar 5))).de)
  (dss_one (ds_ret (de_ty (ca_tuple rfl) (by rfl) M.n_tuple (by decide +kernel) (dav_cons (df_bi (ca_sorted rfl (u66 hr)) (by rfl) M.n_sorted (by decide +kernel) (dav_cons (de_bin (od_add rfl) (dvar 2).dv (df_lc (own := [("name", 5)]) rfl sc__law_winners.nd (di_any rfl (de_ix (ixd rfl) (dvar 0).dv dint.dv)) (show BlkOk N__law_winners (defScope s__law_winners) _ [("name", 5)] from ⟨rfl, by decide +kernel, by decide +kernel, by decide +kernel, by decide +kernel⟩) (fun s H C cl fp => (pg_name (i := 5) sc__law_winners.nd rfl (by first | exact .inl rfl | exact .inr rfl))) (gk_name (by decide)) (fun s H C cl fp => (pts_of (DW.dt (dw_and (dt_cmp (od_notInA rfl (u65 hr)) (dvar 5).dv (dvar 3).dv (by with_unfolding_all rfl)) (dw_and1 (dt_cmp (od_lt rfl hu) (de_bi (ca_len rfl) (by rfl) M.n_len (by decide +kernel) (dav_cons (dvar 2).dv dav_nil)).dv (de_ix (ixd rfl) (dvar 0).dv dint.dv).dv (nomark _))))))) tk_one (fun s H C cl fp => (dvar 5))).de.dv).dv dav_nil)).de.dv dav_nil))))))
def m__law_winners : List D → M D := runFn 6 b__law_winners
theorem g__law_winners (M : Md L mg f fd fI) : FG L P w mg base 1 (f 26) (fd 26) ["rule", "path"] m__law_winners := fg_of (N := N__law_winners) M.F__law_winners sc__law_winners fun cdv A outer s H E hr hg => d__law_winners M hr hg
abbrev N__law_odd : List Str := ["m", "some"]
abbrev s__law_odd : Stmt := (topS 36)
theorem sc__law_odd : FnScope N__law_odd ["m"] (defScope s__law_odd) := ⟨rfl, rfl, rfl, by decide +kernel, rfl, by decide +kernel, by decide +kernel⟩
def b__law_odd : IS := (sSeq (sSet 1 (iLst [(iLit .non), (iLit (.int 0)), (iLit (.int 1)), (iLit (.int 2)), (iLit (.int 3)), (iNeg (iLit (.int 1))), (iLit (.int 101)), (iNeg (iLit (.int 10))), (iLit (.bl true)), (iLit (.bl false)), (iLit (.str (PySem.Str.ofString ""))), (iLit (.str (PySem.Str.ofString "a"))), (iLit (.str (PySem.Str.ofString "abcdefghi"))), (iLit (.str (PySem.Str.ofString "A"))), (iLit (.str (PySem.Str.ofString "in"))), (iLit (.str (PySem.Str.ofString "out"))), (iTup []), (iTup [(iTup [])]), (iTup [(iLit (.str (PySem.Str.ofString "a"))), (iLit (.int 0))])]))
  (sSeq (sSet 1 (iOp fAdd (iVar 1) (iLst [(iLst []), (iLit (.dct false [])), (iOp fPowI (iLit (.int 10)) (iLit (.int 30))), (iTup [(iLit (.str (PySem.Str.ofString "halves")))]), (iTup [(iLit (.str (PySem.Str.ofString "in"))), (iLit (.str (PySem.Str.ofString "a")))]), (iLit (.str (PySem.Str.ofString "a1"))), (iTup [(iLit .non)]), (iTup [(iLit (.int 0))]), (iTup [(iLit (.str (PySem.Str.ofString "a")))]), (iTup [(iLit (.str (PySem.Str.ofString "b"))), (iLit (.str (PySem.Str.ofString "a")))])])))
  (sRet (iOp fIx (iVar 1) (iCall (m__law_next) [(iVar 0), (iLit (.int 29))])))))
theorem d__law_odd (M : Md L mg f fd fI) {f' : Addr} {cdv : Value} {A : Around} {outer : List PySem.Env} {s : Shared} {H : Hp} {E : XK} (hr : Room (2) (A.deeper (PyProof.Rows.envOfC "_law_odd" (defScope s__law_odd) s.heap.objs.size f' cdv))) (hg : A.guards = some []) :
    DSs L (cxOf (L2.CX P w) P w L.K mg base N__law_odd "_law_odd" (defScope s__law_odd) f' cdv A outer s H E) (b__law_odd) (defBody s__law_odd) := by
  have hu : (A.deeper (PyProof.Rows.envOfC "_law_odd" (defScope s__law_odd) s.heap.objs.size f' cdv)).units + 64 < cLine := hr.units
  exact (dss_cons (ds_set (n := 1) sc__law_odd.nd rfl (Or.inl rfl) (df_lst (da_cons dnon (da_cons dint (da_cons dint (da_cons dint (da_cons dint (da_cons (de_neg dint) (da_cons dint (da_cons (de_neg dint) (da_cons dbool (da_cons dbool (da_cons dstr (da_cons dstr (da_cons dstr (da_cons dstr (da_cons dstr (da_cons dstr (da_cons (de_tup da_nil) (da_cons (de_tup (da_cons (de_tup da_nil) da_nil)) (da_cons (de_tup (da_cons dstr (da_cons dint da_nil))) da_nil)))))))))))))))))))).de)
  (dss_cons (ds_set (n := 1) sc__law_odd.nd rfl (Or.inl rfl) (de_bin (od_add rfl) (dvar 1).dv (df_lst (da_cons (df_lst da_nil).de (da_cons de_dnew (da_cons (de_bin od_powI dint.dv dint.dv) (da_cons (de_tup (da_cons dstr da_nil)) (da_cons (de_tup (da_cons dstr (da_cons dstr da_nil))) (da_cons dstr (da_cons (de_tup (da_cons dnon da_nil)) (da_cons (de_tup (da_cons dint da_nil)) (da_cons (de_tup (da_cons dstr da_nil)) (da_cons (de_tup (da_cons dstr (da_cons dstr da_nil))) da_nil))))))))))).de.dv))
  (dss_one (ds_ret (de_ix (ixd rfl) (dvar 1).dv (de_call (g__law_next M) rfl (hr.mono (by omega)) hg (by rfl) M.g__law_next M.k__law_next M.b__law_next rfl (da_cons (dvar 0) (da_cons dint da_nil))).dv)))))
def m__law_odd : List D → M D := runFn 2 b__law_odd
theorem g__law_odd (M : Md L mg f fd fI) : FG L P w mg base 3 (f 27) (fd 27) ["m"] m__law_odd := fg_of (N := N__law_odd) M.F__law_odd sc__law_odd fun cdv A outer s H E hr hg => d__law_odd M hr hg
abbrev N__law_bent : List Str := ["m", "thing", "at", "pick"]
abbrev s__law_bent : Stmt := (topS 37)
theorem sc__law_bent : FnScope N__law_bent ["m", "thing"] (defScope s__law_bent) := ⟨rfl, rfl, rfl, by decide +kernel, rfl, by decide +kernel, by decide +kernel⟩
def b__law_bent (rec : List D → M D) : IS := (sSeq (sIf (andB (asB (iBi fIsI [(iVar 1), (iLit (.ty "str"))])) (asB (iOp fEq (iCall (m__law_next) [(iVar 0), (iLit (.int 2))]) (iLit (.int 0))))) (sRet (iOp fIx (iLst [(iOp fAdd (iVar 1) (iLit (.str (PySem.Str.ofString "b")))), (iSl fSl (iVar 1) (oSome (iLit (.int 1))) oNone), (iOp fAdd (iVar 1) (iLit (.str (PySem.Str.ofString "A")))), (iOp fAdd (iVar 1) (iLit (.str (PySem.Str.ofString " ")))), (iOp fMul (iVar 1) (iLit (.int 2))), (iOp fAdd (iVar 1) (iLit (.str (PySem.Str.ofString "1"))))]) (iCall (m__law_next) [(iVar 0), (iLit (.int 6))]))) sPass)
  (sSeq (sIf (andB (asB (iBi fIsI [(iVar 1), (iLit (.ty "int"))])) (andB (notB (asB (iBi fIsI [(iVar 1), (iLit (.ty "bool"))]))) (asB (iOp fEq (iCall (m__law_next) [(iVar 0), (iLit (.int 2))]) (iLit (.int 0)))))) (sRet (iOp fAdd (iVar 1) (iOp fIx (iLst [(iLit (.int 1)), (iNeg (iLit (.int 1))), (iLit (.int 2)), (iNeg (iLit (.int 2))), (iLit (.int 10)), (iNeg (iLit (.int 10)))]) (iCall (m__law_next) [(iVar 0), (iLit (.int 6))])))) sPass)
  (sSeq (sIf (orB (notB (asB (iBi fIsI [(iVar 1), (iLit (.ty "tuple"))]))) (orB (asB (iOp fEq (iVar 1) (iTup []))) (asB (iOp fEq (iCall (m__law_next) [(iVar 0), (iLit (.int 6))]) (iLit (.int 0)))))) (sRet (iCall (m__law_odd) [(iVar 0)])) sPass)
  (sSeq (sPar 2 3 (iCall (m__law_next) [(iVar 0), (iBi fLen [(iVar 1)])]) (iCall (m__law_next) [(iVar 0), (iLit (.int 11))]))
  (sSeq (sIf (asB (iOp fEq (iVar 3) (iLit (.int 0)))) (sRet (iOp fAdd (iSl fSl (iVar 1) oNone (oSome (iVar 2))) (iSl fSl (iVar 1) (oSome (iOp fAdd (iVar 2) (iLit (.int 1)))) oNone))) sPass)
  (sSeq (sIf (asB (iOp fEq (iVar 3) (iLit (.int 1)))) (sRet (iOp fAdd (iVar 1) (iSl fSl (iVar 1) (oSome (iVar 2)) (oSome (iOp fAdd (iVar 2) (iLit (.int 1))))))) sPass)
  (sSeq (sIf (asB (iOp fEq (iVar 3) (iLit (.int 2)))) (sRet (iBi fList [(iVar 1)])) sPass)
  (sSeq (sIf (asB (iOp fEq (iVar 3) (iLit (.int 3)))) (sRet (iOp fAdd (iOp fAdd (iSl fSl (iVar 1) oNone (oSome (iVar 2))) (iTup [(iCall (m__law_odd) [(iVar 0)])])) (iSl fSl (iVar 1) (oSome (iVar 2)) oNone))) sPass)
  (sSeq (sIf (asB (iOp fEq (iVar 3) (iLit (.int 4)))) (sRet (iRev (iVar 1))) sPass)
  (sRet (iOp fAdd (iOp fAdd (iSl fSl (iVar 1) oNone (oSome (iVar 2))) (iTup [(iCall (rec) [(iVar 0), (iOp fIx (iVar 1) (iVar 2))])])) (iSl fSl (iVar 1) (oSome (iOp fAdd (iVar 2) (iLit (.int 1)))) oNone))))))))))))
theorem d__law_bent (M : Md L mg f fd fI) {f' : Addr} {cdv : Value} {A : Around} {outer : List PySem.Env} {s : Shared} {H : Hp} {E : XK} {n : Nat} (hr : Room (3 + n) (A.deeper (PyProof.Rows.envOfC "_law_bent" (defScope s__law_bent) s.heap.objs.size f' cdv))) (hg : A.guards = some []) {rec : List D → DL.M D} (F : FG L P w mg base (3 + n) (f 28) (fd 28) ["m", "thing"] rec) :
    DSs L (cxOf (L2.CX P w) P w L.K mg base N__law_bent "_law_bent" (defScope s__law_bent) f' cdv A outer s H E) (b__law_bent rec) (defBody s__law_bent) := by
  have hrec := hr
  have hu : (A.deeper (PyProof.Rows.envOfC "_law_bent" (defScope s__law_bent) s.heap.objs.size f' cdv)).units + 64 < cLine := hr.units
  exact (dss_cons (ds_if (DW.dt (dw_and (dt_val (de_bi (ca_isi M.tab rfl) (by rfl) M.n_isinstance (by decide +kernel) (dav_cons (dvar 1).dv (dav_cons (de_type (t := "str") (by rfl) M.n_str (by decide +kernel)).dv dav_nil)))) (dw_and1 (dt_cmp (od_eq rfl hu) (de_call (g__law_next M) rfl (hr.mono (by omega)) hg (by rfl) M.g__law_next M.k__law_next M.b__law_next rfl (da_cons (dvar 0) (da_cons dint da_nil))).dv dint.dv (nomark _))))) (dss_one (ds_ret (de_ix (ixd rfl) (df_lst (da_cons (de_bin (od_add rfl) (dvar 1).dv dstr.dv) (da_cons (de_sl (sld rfl) (dvar 1).dv (do_some dint) do_none) (da_cons (de_bin (od_add rfl) (dvar 1).dv dstr.dv) (da_cons (de_bin (od_add rfl) (dvar 1).dv dstr.dv) (da_cons (de_bin (od_mul rfl) (dvar 1).dv dint.dv) (da_cons (de_bin (od_add rfl) (dvar 1).dv dstr.dv) da_nil))))))).de.dv (de_call (g__law_next M) rfl (hr.mono (by omega)) hg (by rfl) M.g__law_next M.k__law_next M.b__law_next rfl (da_cons (dvar 0) (da_cons dint da_nil))).dv))) dss_nil)
  (dss_cons (ds_if (DW.dt (dw_and (dt_val (de_bi (ca_isi M.tab rfl) (by rfl) M.n_isinstance (by decide +kernel) (dav_cons (dvar 1).dv (dav_cons (de_type (t := "int") (by rfl) M.n_int (by decide +kernel)).dv dav_nil)))) (dw_and (dt_not (dt_val (de_bi (ca_isi M.tab rfl) (by rfl) M.n_isinstance (by decide +kernel) (dav_cons (dvar 1).dv (dav_cons (de_type (t := "bool") (by rfl) M.n_bool (by decide +kernel)).dv dav_nil))))) (dw_and1 (dt_cmp (od_eq rfl hu) (de_call (g__law_next M) rfl (hr.mono (by omega)) hg (by rfl) M.g__law_next M.k__law_next M.b__law_next rfl (da_cons (dvar 0) (da_cons dint da_nil))).dv dint.dv (nomark _)))))) (dss_one (ds_ret (de_bin (od_add rfl) (dvar 1).dv (de_ix (ixd rfl) (df_lst (da_cons dint (da_cons (de_neg dint) (da_cons dint (da_cons (de_neg dint) (da_cons dint (da_cons (de_neg dint) da_nil))))))).de.dv (de_call (g__law_next M) rfl (hr.mono (by omega)) hg (by rfl) M.g__law_next M.k__law_next M.b__law_next rfl (da_cons (dvar 0) (da_cons dint da_nil))).dv).dv))) dss_nil)
  (dss_cons (ds_if (DW.dt (dw_or (dt_not (dt_val (de_bi (ca_isi M.tab rfl) (by rfl) M.n_isinstance (by decide +kernel) (dav_cons (dvar 1).dv (dav_cons (de_type (t := "tuple") (by rfl) M.n_tuple (by decide +kernel)).dv dav_nil))))) (dw_or (dt_cmp (od_eq rfl hu) (dvar 1).dv (de_tup da_nil).dv (nomark _)) (dw_or1 (dt_cmp (od_eq rfl hu) (de_call (g__law_next M) rfl (hr.mono (by omega)) hg (by rfl) M.g__law_next M.k__law_next M.b__law_next rfl (da_cons (dvar 0) (da_cons dint da_nil))).dv dint.dv (nomark _)))))) (dss_one (ds_ret (de_call (g__law_odd M) rfl (hr.mono (by omega)) hg (by rfl) M.g__law_odd M.k__law_odd M.b__law_odd rfl (da_cons (dvar 0) da_nil)))) dss_nil)
  (dss_cons (ds_par (n := 2) (m := 3) rfl sc__law_bent.nd rfl rfl (by decide) rfl rfl (da_cons (de_call (g__law_next M) rfl (hr.mono (by omega)) hg (by rfl) M.g__law_next M.k__law_next M.b__law_next rfl (da_cons (dvar 0) (da_cons (de_bi (ca_len rfl) (by rfl) M.n_len (by decide +kernel) (dav_cons (dvar 1).dv dav_nil)) da_nil))) (da_cons (de_call (g__law_next M) rfl (hr.mono (by omega)) hg (by rfl) M.g__law_next M.k__law_next M.b__law_next rfl (da_cons (dvar 0) (da_cons dint da_nil))) da_nil)) (by rfl))
  (dss_cons (ds_if (dt_cmp (od_eq rfl hu) (dvar 3).dv dint.dv (nomark _)) (dss_one (ds_ret (de_bin (od_add rfl) (de_sl (sld rfl) (dvar 1).dv do_none (do_some (dvar 2))).dv (de_sl (sld rfl) (dvar 1).dv (do_some (de_bin (od_add rfl) (dvar 2).dv dint.dv)) do_none).dv))) dss_nil)
  (dss_cons (ds_if (dt_cmp (od_eq rfl hu) (dvar 3).dv dint.dv (nomark _)) (dss_one (ds_ret (de_bin (od_add rfl) (dvar 1).dv (de_sl (sld rfl) (dvar 1).dv (do_some (dvar 2)) (do_some (de_bin (od_add rfl) (dvar 2).dv dint.dv))).dv))) dss_nil)
  (dss_cons (ds_if (dt_cmp (od_eq rfl hu) (dvar 3).dv dint.dv (nomark _)) (dss_one (ds_ret (df_ty (ca_list rfl) (by rfl) M.n_list (by decide +kernel) (dav_cons (dvar 1).dv dav_nil)).de)) dss_nil)
  (dss_cons (ds_if (dt_cmp (od_eq rfl hu) (dvar 3).dv dint.dv (nomark _)) (dss_one (ds_ret (de_bin (od_add rfl) (de_bin (od_add rfl) (de_sl (sld rfl) (dvar 1).dv do_none (do_some (dvar 2))).dv (de_tup (da_cons (de_call (g__law_odd M) rfl (hr.mono (by omega)) hg (by rfl) M.g__law_odd M.k__law_odd M.b__law_odd rfl (da_cons (dvar 0) da_nil)) da_nil)).dv).dv (de_sl (sld rfl) (dvar 1).dv (do_some (dvar 2)) do_none).dv))) dss_nil)
  (dss_cons (ds_if (dt_cmp (od_eq rfl hu) (dvar 3).dv dint.dv (nomark _)) (dss_one (ds_ret (de_rev rfl (dvar 1).dv))) dss_nil)
  (dss_one (ds_ret (de_bin (od_add rfl) (de_bin (od_add rfl) (de_sl (sld rfl) (dvar 1).dv do_none (do_some (dvar 2))).dv (de_tup (da_cons (de_call F rfl hrec hg (by rfl) M.g__law_bent M.k__law_bent M.b__law_bent rfl (da_cons (dvar 0) (da_cons (de_ix (ixd rfl) (dvar 1).dv (dvar 2).dv) da_nil))) da_nil)).dv).dv (de_sl (sld rfl) (dvar 1).dv (do_some (de_bin (od_add rfl) (dvar 2).dv dint.dv)) do_none).dv))))))))))))
def m__law_bent : Nat → List D → M D
  | 0 => fun _ => .stuck
  | n + 1 => runFn 4 (b__law_bent (m__law_bent n))
theorem g__law_bent (M : Md L mg f fd fI) : ∀ n : Nat, FG L P w mg base (3 + n) (f 28) (fd 28) ["m", "thing"] (m__law_bent n)
  | 0 => fg_none
  | n + 1 => fg_of (N := N__law_bent) M.F__law_bent sc__law_bent fun cdv A outer s H E hr hg => d__law_bent M hr hg (g__law_bent M n)
abbrev N__law_told : List Str := ["rule", "thing", "e"]
abbrev s__law_told : Stmt := (topS 50)
theorem sc__law_told : FnScope N__law_told ["rule", "thing"] (defScope s__law_told) := ⟨rfl, rfl, rfl, by decide +kernel, rfl, by decide +kernel, by decide +kernel⟩
def b__law_told : IS := (sTryRet subX (iLst [(iCall (m_winners_of) [(iVar 0), (iVar 1)])]) [(3, some 2, (iBi fRp [(iErr (fun c => decide (c = 3)) 2)]))])
theorem d__law_told (M : Md L mg f fd fI) {f' : Addr} {cdv : Value} {A : Around} {outer : List PySem.Env} {s : Shared} {H : Hp} {E : XK} (hr : Room (4) (A.deeper (PyProof.Rows.envOfC "_law_told" (defScope s__law_told) s.heap.objs.size f' cdv))) (hg : A.guards = some []) :
    DSs L (cxOf (L2.CX P w) P w L.K mg base N__law_told "_law_told" (defScope s__law_told) f' cdv A outer s H E) (b__law_told) (defBody s__law_told) := by
  have hu : (A.deeper (PyProof.Rows.envOfC "_law_told" (defScope s__law_told) s.heap.objs.size f' cdv)).units + 64 < cLine := hr.units
  exact (dss_one (ds_tryRet (sub := subX) (cl := [(3, some 2, (iBi fRp [(iErr (fun c => decide (c = 3)) 2)]))]) rfl M.er rfl rfl sc__law_told.nd (sub_ok M.sb) (fun pn xe pa => (df_lst (da_cons (de_call (g_winners_of M) rfl (hr.mono (by omega)) hg (by rfl) M.g_winners_of M.k_winners_of M.b_winners_of rfl (da_cons (dvar 0) (da_cons (dvar 1) da_nil))) da_nil)).de) (hd_as (k := 3) (j := 2) (i := (iBi fRp [(iErr (fun c => decide (c = 3)) 2)])) ⟨by rfl, by decide, .inl M.c3⟩ rfl rfl (fun a oe cls d pn hz hf n dd u hc hd => (de_bi (ca_rp rfl hg hu) (by rfl) M.n_repr (by decide +kernel) (dav_cons (de_err (ok := fun c => decide (c = 3)) hz hf hc hd rfl (fun c hc => by obtain rfl := of_decide_eq_true hc; exact ⟨M.h3, xfC_of M.x3, M.x3.noN⟩) (pv 2)).dv dav_nil))) hd_nil)))
def m__law_told : List D → M D := runFn 3 b__law_told
theorem g__law_told (M : Md L mg f fd fI) : FG L P w mg base 5 (f 29) (fd 29) ["rule", "thing"] m__law_told := fg_of (N := N__law_told) M.F__law_told sc__law_told fun cdv A outer s H E hr hg => d__law_told M hr hg
end Lw
namespace Lw
open PySem PySem.Spec L2 DL
variable {L : Lx} {P : Program} {w : World} {mg : Str → Option Value} {base : Heap} {f : Nat → Addr} {fd : Nat → FuncData} {fI : Nat → Addr}
abbrev N_law : List Str := ["script", "m", "turn", "many", "fields", "rule", "every", "size", "names", "some", "k", "one", "thing", "due", "name"]
abbrev s_law : Stmt := (topS 51)
theorem sc_law : FnScope N_law ["script"] (defScope s_law) := ⟨rfl, rfl, rfl, by decide +kernel, rfl, by decide +kernel, by decide +kernel⟩
def b_law : IS := (sSeq (sSet 1 (iCall (m__law_begun) [(iVar 0)]))
  (sSeq (sFor (gN 2) (iiR1 (iOp fAdd (iLit (.int 3)) (iBi fMin2 [(iBi fLen [(iVar 0)]), (iLit (.int 8))]))) (sSeq (sSet 3 (iCall (m__law_many) [(iVar 1), (iLit (.int 4))]))
  (sSeq (sSet 4 (iCall (m__law_rule) [(iVar 1), (iVar 3)]))
  (sSeq (sAsg (gT [(gN 5), (gN 6)]) (iTup [(iCall (m__law_made) [(iVar 4)]), (iCall (m__law_courses 6) [(iVar 3), (iOp fIx (iVar 4) (iLit (.int 1)))])]))
  (sSeq (sSet 7 (iOp fIx (iOp fIx (iLst [(iLst [(iLit (.int 4))]), (iLst [(iLit (.int 15)), (iLit (.int 15))]), (iLst [(iLit (.int 64)), (iLit (.int 120)), (iLit (.int 64))])]) (iOp fSubI (iBi fLen [(iVar 3)]) (iLit (.int 2)))) (iOp fSubI (iOp fIx (iVar 4) (iLit (.int 1))) (iLit (.int 1)))))
  (sSeq (sIf (orB (asB (iOp fNeD (iCall (m_all_courses) [(iVar 5)]) (iBi fTuple [(iVar 6)]))) (asB (iOp fNeD (iBi fLen [(iVar 6)]) (iVar 7)))) (sRet (iLit (.bl false))) sPass)
  (sSeq (sIf (asB (iOp fNeD (iLc (gN 11) (iiA (iVar 6)) cYes (iCall (m_winners_of) [(iVar 5), (iVar 11)]) [11]) (iLc (gN 11) (iiA (iVar 6)) cYes (iCall (m__law_winners) [(iVar 4), (iVar 11)]) [11]))) (sRet (iLit (.bl false))) sPass)
  (sSeq (sSet 8 (iLc (gN 11) (iiA (iVar 6)) cYes (iBi fRp [(iVar 11)]) [11]))
  (sSeq (sSet 9 (iLst [(iTup []), (iLit .non), (iLit (.int 5)), (iLit (.str (PySem.Str.ofString "in"))), (iCall (m__law_odd) [(iVar 1)]), (iBi fTuple [(iLc (gN 14) (iiA (iVar 3)) cYes (iTup [(iLit (.str (PySem.Str.ofString "in"))), (iVar 14)]) [14])]), (iOp fMul (iTup [(iTup [(iLit (.str (PySem.Str.ofString "out"))), (iOp fIx (iVar 3) (iLit (.int 0)))])]) (iLit (.int 2)))]))
  (sSeq (sFor (gN 10) (iiR1 (iLit (.int 8))) (sSeq (sSet 11 (iOp fIx (iVar 6) (iCall (m__law_next) [(iVar 1), (iBi fLen [(iVar 6)])])))
  (sSet 9 (iOp fAdd (iVar 9) (iLst [(iVar 11), (iCall (m__law_bent 6) [(iVar 1), (iVar 11)]), (iSl fSl (iVar 11) oNone (oSome (iNeg (iLit (.int 1))))), (iOp fAdd (iVar 11) (iTup [(iTup [(iLit (.str (PySem.Str.ofString "out"))), (iOp fIx (iVar 3) (iLit (.int 0)))])])), (iBi fList [(iVar 11)]), (iRev (iVar 11))])))))
  (sFor (gN 12) (iiA (iVar 9)) (sSeq (sSet 13 (iIf (asB (iOp fInA (iBi fRp [(iVar 12)]) (iVar 8))) (iLst [(iCall (m__law_winners) [(iVar 4), (iVar 12)])]) (iBi fRp [(iVar 12)])))
  (sIf (asB (iOp fNeD (iBi fRp [(iCall (m__law_told) [(iVar 5), (iVar 12)])]) (iBi fRp [(iVar 13)]))) (sRet (iLit (.bl false))) sPass)))))))))))))
  (sRet (iLit (.bl true)))))
theorem d_law (M : Md L mg f fd fI) {f' : Addr} {cdv : Value} {A : Around} {outer : List PySem.Env} {s : Shared} {H : Hp} {E : XK} (hr : Room (10) (A.deeper (PyProof.Rows.envOfC "law" (defScope s_law) s.heap.objs.size f' cdv))) (hg : A.guards = some []) :
    DSs L (cxOf (L2.CX P w) P w L.K mg base N_law "law" (defScope s_law) f' cdv A outer s H E) (b_law) (defBody s_law) := by
  have hu : (A.deeper (PyProof.Rows.envOfC "law" (defScope s_law) s.heap.objs.size f' cdv)).units + 64 < cLine := hr.units
  exact (dss_cons (ds_set (n := 1) sc_law.nd rfl (Or.inl rfl) (de_call (g__law_begun M) rfl (hr.mono (by omega)) hg (by rfl) M.g__law_begun M.k__law_begun M.b__law_begun rfl (da_cons (dvar 0) da_nil)))
  (dss_cons (ds_for (passes_of rfl) rfl (di_range1 (by rfl) M.n_range (da_cons (de_bin (od_add rfl) dint.dv (de_bi (ca_min2 rfl) (by rfl) M.n_min (by decide +kernel) (dav_cons (de_bi (ca_len rfl) (by rfl) M.n_len (by decide +kernel) (dav_cons (dvar 0).dv dav_nil)).dv (dav_cons dint.dv dav_nil))).dv) da_nil)) (dg_name (n := 2) sc_law.nd rfl (Or.inl rfl)) (dss_cons (ds_set (n := 3) sc_law.nd rfl (Or.inl rfl) (de_call (g__law_many M) rfl (hr.mono (by omega)) hg (by rfl) M.g__law_many M.k__law_many M.b__law_many rfl (da_cons (dvar 1) (da_cons dint da_nil))))
  (dss_cons (ds_set (n := 4) sc_law.nd rfl (Or.inr rfl) (de_call (g__law_rule M) rfl (hr.mono (by omega)) hg (by rfl) M.g__law_rule M.k__law_rule M.b__law_rule rfl (da_cons (dvar 1) (da_cons (dvar 3) da_nil))))
  (dss_cons (ds_asg (de_tup (da_cons (de_call (g__law_made M) rfl (hr.mono (by omega)) hg (by rfl) M.g__law_made M.k__law_made M.b__law_made rfl (da_cons (dvar 4) da_nil)) (da_cons (de_call (g__law_courses M 6) rfl (hr.mono (by omega)) hg (by rfl) M.g__law_courses M.k__law_courses M.b__law_courses rfl (da_cons (dvar 3) (da_cons (de_ix (ixd rfl) (dvar 4).dv dint.dv) da_nil))) da_nil))) (dg_tup rfl rfl (dgs_cons (dg_name (n := 5) sc_law.nd rfl (Or.inr rfl)) (dgs_cons (dg_name (n := 6) sc_law.nd rfl (Or.inl rfl)) dgs_nil))))
  (dss_cons (ds_set (n := 7) sc_law.nd rfl (Or.inl rfl) (de_ix (ixd rfl) (de_ix (ixd rfl) (df_lst (da_cons (df_lst (da_cons dint da_nil)).de (da_cons (df_lst (da_cons dint (da_cons dint da_nil))).de (da_cons (df_lst (da_cons dint (da_cons dint (da_cons dint da_nil)))).de da_nil)))).de.dv (de_bin od_subI (de_bi (ca_len rfl) (by rfl) M.n_len (by decide +kernel) (dav_cons (dvar 3).dv dav_nil)).dv dint.dv).dv).dv (de_bin od_subI (de_ix (ixd rfl) (dvar 4).dv dint.dv).dv dint.dv).dv))
  (dss_cons (ds_if (DW.dt (dw_or (dt_cmp (od_ne0 rfl hu) (de_call (g_all_courses M) rfl (hr.mono (by omega)) hg (by rfl) M.g_all_courses M.k_all_courses M.b_all_courses rfl (da_cons (dvar 5) da_nil)).dv (de_ty (ca_tuple rfl) (by rfl) M.n_tuple (by decide +kernel) (dav_cons (dvar 6).dv dav_nil)).dv (nomark _)) (dw_or1 (dt_cmp (od_ne0 rfl hu) (de_bi (ca_len rfl) (by rfl) M.n_len (by decide +kernel) (dav_cons (dvar 6).dv dav_nil)).dv (dvar 7).dv (nomark _))))) (dss_one (ds_ret dbool)) dss_nil)
  (dss_cons (ds_if (dt_cmp (od_ne0 rfl hu) (df_lc (own := [("one", 11)]) rfl sc_law.nd (di_any rfl (dvar 6)) (show BlkOk N_law (defScope s_law) _ [("one", 11)] from ⟨rfl, by decide +kernel, by decide +kernel, by decide +kernel, by decide +kernel⟩) (fun s H C cl fp => (pg_name (i := 11) sc_law.nd rfl (by first | exact .inl rfl | exact .inr rfl))) (gk_name (by decide)) (fun s H C cl fp => pts_nil) tk_yes (fun s H C cl fp => (de_call (g_winners_of M) rfl (hr.mono (by omega)) hg (by rfl) M.g_winners_of M.k_winners_of M.b_winners_of rfl (da_cons (dvar 5) (da_cons (dvar 11) da_nil))))).de.dv (df_lc (own := [("one", 11)]) rfl sc_law.nd (di_any rfl (dvar 6)) (show BlkOk N_law (defScope s_law) _ [("one", 11)] from ⟨rfl, by decide +kernel, by decide +kernel, by decide +kernel, by decide +kernel⟩) (fun s H C cl fp => (pg_name (i := 11) sc_law.nd rfl (by first | exact .inl rfl | exact .inr rfl))) (gk_name (by decide)) (fun s H C cl fp => pts_nil) tk_yes (fun s H C cl fp => (de_call (g__law_winners M) rfl (hr.mono (by omega)) hg (by rfl) M.g__law_winners M.k__law_winners M.b__law_winners rfl (da_cons (dvar 4) (da_cons (dvar 11) da_nil))))).de.dv (nomark _)) (dss_one (ds_ret dbool)) dss_nil)
  (dss_cons (ds_setLc (n := 8) (own := [("one", 11)]) rfl sc_law.nd rfl rfl (sw_true rfl rfl rfl (by decide +kernel)) (di_any rfl (dvar 6)) (show BlkOk N_law (defScope s_law) _ [("one", 11)] from ⟨rfl, by decide +kernel, by decide +kernel, by decide +kernel, by decide +kernel⟩) (fun s H C cl fp => (pg_name (i := 11) sc_law.nd rfl (by first | exact .inl rfl | exact .inr rfl))) (gk_name (by decide)) (fun s H C cl fp => pts_nil) tk_yes (fun s H C cl fp => (de_bi (ca_rp rfl hg hu) (by rfl) M.n_repr (by decide +kernel) (dav_cons (dvar 11).dv dav_nil))))
  (dss_cons (ds_set (n := 9) sc_law.nd rfl (Or.inl rfl) (df_lst (da_cons (de_tup da_nil) (da_cons dnon (da_cons dint (da_cons dstr (da_cons (de_call (g__law_odd M) rfl (hr.mono (by omega)) hg (by rfl) M.g__law_odd M.k__law_odd M.b__law_odd rfl (da_cons (dvar 1) da_nil)) (da_cons (de_ty (ca_tuple rfl) (by rfl) M.n_tuple (by decide +kernel) (dav_cons (df_lc (own := [("name", 14)]) rfl sc_law.nd (di_any rfl (dvar 3)) (show BlkOk N_law (defScope s_law) _ [("name", 14)] from ⟨rfl, by decide +kernel, by decide +kernel, by decide +kernel, by decide +kernel⟩) (fun s H C cl fp => (pg_name (i := 14) sc_law.nd rfl (by first | exact .inl rfl | exact .inr rfl))) (gk_name (by decide)) (fun s H C cl fp => pts_nil) tk_yes (fun s H C cl fp => (de_tup (da_cons dstr (da_cons (dvar 14) da_nil))))).de.dv dav_nil)) (da_cons (de_bin (od_mul rfl) (de_tup (da_cons (de_tup (da_cons dstr (da_cons (de_ix (ixd rfl) (dvar 3).dv dint.dv) da_nil))) da_nil)).dv dint.dv) da_nil)))))))).de)
  (dss_cons (ds_for (passes_of rfl) rfl (di_range1 (by rfl) M.n_range (da_cons dint da_nil)) (dg_name (n := 10) sc_law.nd rfl (Or.inl rfl)) (dss_cons (ds_set (n := 11) sc_law.nd rfl (Or.inl rfl) (de_ix (ixd rfl) (dvar 6).dv (de_call (g__law_next M) rfl (hr.mono (by omega)) hg (by rfl) M.g__law_next M.k__law_next M.b__law_next rfl (da_cons (dvar 1) (da_cons (de_bi (ca_len rfl) (by rfl) M.n_len (by decide +kernel) (dav_cons (dvar 6).dv dav_nil)) da_nil))).dv))
  (dss_one (ds_set (n := 9) sc_law.nd rfl (Or.inl rfl) (de_bin (od_add rfl) (dvar 9).dv (df_lst (da_cons (dvar 11) (da_cons (de_call (g__law_bent M 6) rfl (hr.mono (by omega)) hg (by rfl) M.g__law_bent M.k__law_bent M.b__law_bent rfl (da_cons (dvar 1) (da_cons (dvar 11) da_nil))) (da_cons (de_sl (sld rfl) (dvar 11).dv do_none (do_some (de_neg dint))) (da_cons (de_bin (od_add rfl) (dvar 11).dv (de_tup (da_cons (de_tup (da_cons dstr (da_cons (de_ix (ixd rfl) (dvar 3).dv dint.dv) da_nil))) da_nil)).dv) (da_cons (df_ty (ca_list rfl) (by rfl) M.n_list (by decide +kernel) (dav_cons (dvar 11).dv dav_nil)).de (da_cons (de_rev rfl (dvar 11).dv) da_nil))))))).de.dv)))))
  (dss_one (ds_for (passes_of rfl) rfl (di_any rfl (dvar 9)) (dg_name (n := 12) sc_law.nd rfl (Or.inl rfl)) (dss_cons (ds_set (n := 13) sc_law.nd rfl (Or.inl rfl) (de_if (dt_cmp (od_inA rfl (u65 hr)) (de_bi (ca_rp rfl hg hu) (by rfl) M.n_repr (by decide +kernel) (dav_cons (dvar 12).dv dav_nil)).dv (dvar 8).dv (by with_unfolding_all rfl)) (df_lst (da_cons (de_call (g__law_winners M) rfl (hr.mono (by omega)) hg (by rfl) M.g__law_winners M.k__law_winners M.b__law_winners rfl (da_cons (dvar 4) (da_cons (dvar 12) da_nil))) da_nil)).de (de_bi (ca_rp rfl hg hu) (by rfl) M.n_repr (by decide +kernel) (dav_cons (dvar 12).dv dav_nil))))
  (dss_one (ds_if (dt_cmp (od_ne0 rfl hu) (de_bi (ca_rp rfl hg hu) (by rfl) M.n_repr (by decide +kernel) (dav_cons (de_call (g__law_told M) rfl (hr.mono (by omega)) hg (by rfl) M.g__law_told M.k__law_told M.b__law_told rfl (da_cons (dvar 5) (da_cons (dvar 12) da_nil))).dv dav_nil)).dv (de_bi (ca_rp rfl hg hu) (by rfl) M.n_repr (by decide +kernel) (dav_cons (dvar 13).dv dav_nil)).dv (nomark _)) (dss_one (ds_ret dbool)) dss_nil)))))))))))))))
  (dss_one (ds_ret dbool))))
def m_law : List D → M D := runFn 15 b_law
theorem g_law (M : Md L mg f fd fI) : FG L P w mg base 11 (f 30) (fd 30) ["script"] m_law := fg_of (N := N_law) M.F_law sc_law fun cdv A outer s H E hr hg => d_law M hr hg
end Lw
namespace Lw
open PySem PySem.Spec L2 DL
/-! ### forms -/
def isP : D → Bool
  | .non | .bl _ | .int _ | .str _ | .tup _ | .lst _ | .dct _ _ => true
  | _ => false
def isI : D → Bool
  | .int _ => true
  | _ => false
def isTu : D → Bool
  | .tup _ => true
  | _ => false
def isSt : D → Bool
  | .str _ => true
  | _ => false
theorem isi_tup {x : D} (h : isP x = true) : fIsI [x, .ty "tuple"] = some (.bl (isTu x)) := by
  cases x <;> first | rfl | (simp [isP] at h)
theorem isi_str {x : D} (h : isP x = true) : fIsI [x, .ty "str"] = some (.bl (isSt x)) := by
  cases x <;> first | rfl | (simp [isP] at h)
theorem is_integer_eq {x : D} (h : isP x = true) : m_is_integer [x] = .ret (.bl (isI x)) := by
  cases x <;> first | rfl | (simp [isP] at h)
theorem is_within_eq (i a b : Int) : m_is_within [.int i, .int a, .int b] = .ret (.bl (decide (a ≤ i) && decide (i ≤ b))) := by
  unfold m_is_within b_is_within
  simp only [DL.runFn, DL.sRet, DL.sSet, DL.sSeq, DL.sIf, DL.sPass, DL.sRaise, DL.iAnd, DL.iOr, DL.iNot, DL.iIf, DL.asB, DL.notB, DL.andB, DL.orB, DL.iCall, DL.iBi, DL.iOp, DL.iChain, DL.iChain3, DL.iVar, DL.iUse, DL.iLit, DL.iTup, DL.iLst, DL.evs, DL.env0, DL.oNone, DL.oSome, DL.iSl, DL.M.ret_bind, DL.M.bind_ite, DL.M.stuck_bind, DL.M.exc_bind, DL.M.choose_bind, DL.M.ret_noX, List.map_cons, List.map_nil, List.length_cons, List.length_nil, List.cons_append, List.nil_append, List.getElem?_cons_zero, List.getElem?_cons_succ, Nat.reduceAdd, Nat.reduceSub, List.reduceReplicate, List.append_nil, List.replicate_zero, Bool.false_eq_true, if_false, if_true, List.set_cons_zero, List.set_cons_succ, Bool.not_true, Bool.not_false]
  rw [is_integer_eq rfl]
  simp only [M.ret_bind, isI, if_true, fLe_int]
  cases decide (a ≤ i) <;> rfl
theorem is_pair_tup (ds : List D) : m_is_pair [.tup ds] = .ret (.bl (decide (ds.length = 2))) := by
  unfold m_is_pair b_is_pair
  simp only [DL.runFn, DL.sRet, DL.sSet, DL.sSeq, DL.sIf, DL.sPass, DL.sRaise, DL.iAnd, DL.iOr, DL.iNot, DL.iIf, DL.asB, DL.notB, DL.andB, DL.orB, DL.iCall, DL.iBi, DL.iOp, DL.iChain, DL.iChain3, DL.iVar, DL.iUse, DL.iLit, DL.iTup, DL.iLst, DL.evs, DL.env0, DL.oNone, DL.oSome, DL.iSl, DL.M.ret_bind, DL.M.bind_ite, DL.M.stuck_bind, DL.M.exc_bind, DL.M.choose_bind, DL.M.ret_noX, List.map_cons, List.map_nil, List.length_cons, List.length_nil, List.cons_append, List.nil_append, List.getElem?_cons_zero, List.getElem?_cons_succ, Nat.reduceAdd, Nat.reduceSub, List.reduceReplicate, List.append_nil, List.replicate_zero, Bool.false_eq_true, if_false, if_true, List.set_cons_zero, List.set_cons_succ, Bool.not_true, Bool.not_false]
  rw [isi_tup rfl]
  simp only [isTu, M.ret_bind, if_true, fLen_tup, fEq_int]
  congr 3
  exact propext ⟨fun h => by omega, fun h => by omega⟩
theorem is_pair_no {x : D} (h : isP x = true) (n : isTu x = false) : m_is_pair [x] = .ret (.bl false) := by
  unfold m_is_pair b_is_pair
  simp only [DL.runFn, DL.sRet, DL.sSet, DL.sSeq, DL.sIf, DL.sPass, DL.sRaise, DL.iAnd, DL.iOr, DL.iNot, DL.iIf, DL.asB, DL.notB, DL.andB, DL.orB, DL.iCall, DL.iBi, DL.iOp, DL.iChain, DL.iChain3, DL.iVar, DL.iUse, DL.iLit, DL.iTup, DL.iLst, DL.evs, DL.env0, DL.oNone, DL.oSome, DL.iSl, DL.M.ret_bind, DL.M.bind_ite, DL.M.stuck_bind, DL.M.exc_bind, DL.M.choose_bind, DL.M.ret_noX, List.map_cons, List.map_nil, List.length_cons, List.length_nil, List.cons_append, List.nil_append, List.getElem?_cons_zero, List.getElem?_cons_succ, Nat.reduceAdd, Nat.reduceSub, List.reduceReplicate, List.append_nil, List.replicate_zero, Bool.false_eq_true, if_false, if_true, List.set_cons_zero, List.set_cons_succ, Bool.not_true, Bool.not_false]
  rw [isi_tup h, n]
  rfl
theorem is_integer_pair_eq (i j : Int) : m_is_integer_pair [.tup [.int i, .int j]] = .ret (.bl true) := rfl
/-! ### names -/
def WordOk (z : Str) : Prop := 1 ≤ z.cps.size ∧ z.cps.size ≤ 8 ∧ ∀ c ∈ z.cps.toList, 97 ≤ c ∧ c ≤ 122
def letterB (d : D) : Bool := match d with
  | .str y => !sLt y (Str.ofString "a") && !sLt (Str.ofString "z") y
  | _ => false
theorem letter_ok {c : Nat} (h : 97 ≤ c ∧ c ≤ 122) : letterB (.str ⟨#[c]⟩) = true := by
  have e1 : (Str.ofString "a").cps.toList = [97] := by decide +kernel
  have e2 : (Str.ofString "z").cps.toList = [122] := by decide +kernel
  simp only [letterB, sLt, e1, e2, Bool.and_eq_true, Bool.not_eq_true', decide_eq_false_iff_not]
  constructor
  · intro l
    have : c < 97 := by simpa [List.cons_lt_cons_iff] using l
    omega
  · intro l
    have : 122 < c := by simpa [List.cons_lt_cons_iff] using l
    omega
theorem is_word_eq {z : Str} (h : WordOk z) : m__is_word [.str z] = .ret (.bl true) := by
  unfold m__is_word b__is_word
  have e1 : fLen [.str z] = some (.int z.cps.size) := by
    show (if z.length ≤ sizeLine then some (D.int z.length) else none) = _
    rw [if_pos (by show z.cps.size ≤ sizeLine; rw [sizeLine_eq]; have := h.2.1; omega)]
    rfl
  simp only [DL.runFn, DL.sRet, DL.sSet, DL.sSeq, DL.sIf, DL.sPass, DL.sRaise, DL.iAnd, DL.iOr, DL.iNot, DL.iIf, DL.asB, DL.notB, DL.andB, DL.orB, DL.iCall, DL.iBi, DL.iOp, DL.iChain, DL.iChain3, DL.iVar, DL.iUse, DL.iLit, DL.iTup, DL.iLst, DL.evs, DL.env0, DL.oNone, DL.oSome, DL.iSl, DL.M.ret_bind, DL.M.bind_ite, DL.M.stuck_bind, DL.M.exc_bind, DL.M.choose_bind, DL.M.ret_noX, List.map_cons, List.map_nil, List.length_cons, List.length_nil, List.cons_append, List.nil_append, List.getElem?_cons_zero, List.getElem?_cons_succ, Nat.reduceAdd, Nat.reduceSub, List.reduceReplicate, List.append_nil, List.replicate_zero, Bool.false_eq_true, if_false, if_true, List.set_cons_zero, List.set_cons_succ, Bool.not_true, Bool.not_false]
  rw [isi_str rfl, e1]
  simp only [isSt, M.ret_bind, fLe_int, Bool.not_true, Bool.false_eq_true, if_false]
  rw [decide_eq_true (show (1 : Int) ≤ (z.cps.size : Int) by have := h.1; omega), decide_eq_true (show ((z.cps.size : Nat) : Int) ≤ 8 by have := h.2.1; omega)]
  simp only [if_true, M.ret_bind, Bool.not_true, Bool.false_eq_true, if_false]
  rw [lc_all (ds := signs z) (e := fun d => .bl (letterB d)) rfl ?_ ?_]
  · rw [M.ret_bind]
    simp only [M.ret_bind]
    rw [fAll_map]
    have : (signs z).all letterB = true := by
      rw [List.all_eq_true]
      intro d hd
      unfold signs at hd
      obtain ⟨c, hc, rfl⟩ := List.mem_map.mp hd
      exact letter_ok (h.2.2 c hc)
    rw [this]
    rfl
  · intro d hd
    unfold signs at hd
    obtain ⟨c, hc, rfl⟩ := List.mem_map.mp hd
    refine ⟨_, rfl, ?_⟩
    simp only [wipeE]
    simp only [DL.runFn, DL.sRet, DL.sSet, DL.sSeq, DL.sIf, DL.sPass, DL.sRaise, DL.iAnd, DL.iOr, DL.iNot, DL.iIf, DL.asB, DL.notB, DL.andB, DL.orB, DL.iCall, DL.iBi, DL.iOp, DL.iChain, DL.iChain3, DL.iVar, DL.iUse, DL.iLit, DL.iTup, DL.iLst, DL.evs, DL.env0, DL.oNone, DL.oSome, DL.iSl, DL.M.ret_bind, DL.M.bind_ite, DL.M.stuck_bind, DL.M.exc_bind, DL.M.choose_bind, DL.M.ret_noX, List.map_cons, List.map_nil, List.length_cons, List.length_nil, List.cons_append, List.nil_append, List.getElem?_cons_zero, List.getElem?_cons_succ, Nat.reduceAdd, Nat.reduceSub, List.reduceReplicate, List.append_nil, List.replicate_zero, Bool.false_eq_true, if_false, if_true, List.set_cons_zero, List.set_cons_succ, Bool.not_true, Bool.not_false]
    rw [fLe_str, fLe_str]
    simp only [letterB]
    cases sLt ⟨#[c]⟩ (Str.ofString "a") <;> rfl
  · show (signs z).length ≤ sizeLine
    unfold signs
    rw [List.length_map, Array.length_toList, sizeLine_eq]
    have := h.2.1
    omega
/-- ascending -/
def ascB : List D → Bool
  | x :: y :: r => (match dLt x y with | b => b) && ascB (y :: r)
  | _ => true
def ltB (d : D) : Bool := match d with
  | .tup [.str x, .str y] => sLt x y
  | _ => false
theorem slice1 (ds : List D) : fSl (.tup ds) (some 1) none = some (.tup (ds.drop 1)) := by
  show some (D.tup (cutD ds (some 1) none)) = _
  unfold cutD
  have e1 : HT.sIx ds.length 0 (some 1) = min 1 ds.length := HT.sIx_nat ds.length 0 1
  rw [e1, show HT.sIx ds.length ds.length none = ds.length from rfl]
  congr 2
  cases ds with
  | nil => rfl
  | cons d r =>
    have : min 1 (d :: r).length = 1 := by simp
    rw [this, List.drop_succ_cons, List.drop_zero]
    exact List.take_of_length_le (by simp)
theorem is_ascending_eq (zs : List Str) (hl : zs.length ≤ 4) : m_is_ascending [.tup (zs.map D.str)] = .ret (.bl ((zipD (zs.map D.str) ((zs.map D.str).drop 1)).all ltB)) := by
  unfold m_is_ascending b_is_ascending
  simp only [DL.runFn, DL.sRet, DL.sSet, DL.sSeq, DL.sIf, DL.sPass, DL.sRaise, DL.iAnd, DL.iOr, DL.iNot, DL.iIf, DL.asB, DL.notB, DL.andB, DL.orB, DL.iCall, DL.iBi, DL.iOp, DL.iChain, DL.iChain3, DL.iVar, DL.iUse, DL.iLit, DL.iTup, DL.iLst, DL.evs, DL.env0, DL.oNone, DL.oSome, DL.iSl, DL.M.ret_bind, DL.M.bind_ite, DL.M.stuck_bind, DL.M.exc_bind, DL.M.choose_bind, DL.M.ret_noX, List.map_cons, List.map_nil, List.length_cons, List.length_nil, List.cons_append, List.nil_append, List.getElem?_cons_zero, List.getElem?_cons_succ, Nat.reduceAdd, Nat.reduceSub, List.reduceReplicate, List.append_nil, List.replicate_zero, Bool.false_eq_true, if_false, if_true, List.set_cons_zero, List.set_cons_succ, Bool.not_true, Bool.not_false]
  rw [lc_all (ds := zipD (zs.map D.str) ((zs.map D.str).drop 1)) (e := fun d => .bl (ltB d)) ?_ ?_ ?_]
  · rw [M.ret_bind]
    simp only [M.ret_bind]
    rw [fAll_map]
    rfl
  · unfold iiZ
    simp only [DL.runFn, DL.sRet, DL.sSet, DL.sSeq, DL.sIf, DL.sPass, DL.sRaise, DL.iAnd, DL.iOr, DL.iNot, DL.iIf, DL.asB, DL.notB, DL.andB, DL.orB, DL.iCall, DL.iBi, DL.iOp, DL.iChain, DL.iChain3, DL.iVar, DL.iUse, DL.iLit, DL.iTup, DL.iLst, DL.evs, DL.env0, DL.oNone, DL.oSome, DL.iSl, DL.M.ret_bind, DL.M.bind_ite, DL.M.stuck_bind, DL.M.exc_bind, DL.M.choose_bind, DL.M.ret_noX, List.map_cons, List.map_nil, List.length_cons, List.length_nil, List.cons_append, List.nil_append, List.getElem?_cons_zero, List.getElem?_cons_succ, Nat.reduceAdd, Nat.reduceSub, List.reduceReplicate, List.append_nil, List.replicate_zero, Bool.false_eq_true, if_false, if_true, List.set_cons_zero, List.set_cons_succ, Bool.not_true, Bool.not_false]
    rw [slice1]
    rfl
  · intro d hd
    obtain ⟨n, hn⟩ := List.mem_iff_getElem?.mp hd
    obtain ⟨x, y, hx, hy, rfl⟩ := zipD_at hn
    rw [List.getElem?_map] at hx
    obtain ⟨a, _, rfl⟩ := Option.map_eq_some_iff.mp hx
    rw [List.getElem?_drop, List.getElem?_map] at hy
    obtain ⟨b, _, rfl⟩ := Option.map_eq_some_iff.mp hy
    refine ⟨_, rfl, ?_⟩
    simp only [wipeE, gN, gTs]
    simp only [DL.runFn, DL.sRet, DL.sSet, DL.sSeq, DL.sIf, DL.sPass, DL.sRaise, DL.iAnd, DL.iOr, DL.iNot, DL.iIf, DL.asB, DL.notB, DL.andB, DL.orB, DL.iCall, DL.iBi, DL.iOp, DL.iChain, DL.iChain3, DL.iVar, DL.iUse, DL.iLit, DL.iTup, DL.iLst, DL.evs, DL.env0, DL.oNone, DL.oSome, DL.iSl, DL.M.ret_bind, DL.M.bind_ite, DL.M.stuck_bind, DL.M.exc_bind, DL.M.choose_bind, DL.M.ret_noX, List.map_cons, List.map_nil, List.length_cons, List.length_nil, List.cons_append, List.nil_append, List.getElem?_cons_zero, List.getElem?_cons_succ, Nat.reduceAdd, Nat.reduceSub, List.reduceReplicate, List.append_nil, List.replicate_zero, Bool.false_eq_true, if_false, if_true, List.set_cons_zero, List.set_cons_succ, Bool.not_true, Bool.not_false]
    rw [fLt_str]
    rfl
  · have : (zipD (zs.map D.str) ((zs.map D.str).drop 1)).length ≤ (zs.map D.str).length := by
      generalize zs.map D.str = l
      generalize l.drop 1 = m
      induction l generalizing m with
      | nil => simp [zipD]
      | cons x l ih =>
        cases m with
        | nil => simp [zipD]
        | cons y m => simpa [zipD] using ih m
    rw [List.length_map] at this
    rw [sizeLine_eq]
    omega
/-- names as they should be -/
structure NamesOk (zs : List Str) : Prop where
  two : 2 ≤ zs.length
  four : zs.length ≤ 4
  word : ∀ z ∈ zs, WordOk z
  asc : zs.Pairwise fun x y => sLt x y = true
theorem asc_zip : ∀ {zs : List Str}, (zs.Pairwise fun x y => sLt x y = true) → (zipD (zs.map D.str) ((zs.map D.str).drop 1)).all ltB = true
  | [], _ => rfl
  | [x], _ => rfl
  | x :: y :: r, h => by
    have h2 := asc_zip (zs := y :: r) (List.Pairwise.of_cons h)
    have e : zipD ((x :: y :: r).map D.str) (((x :: y :: r).map D.str).drop 1) = .tup [.str x, .str y] :: zipD ((y :: r).map D.str) (((y :: r).map D.str).drop 1) := by simp [zipD]
    rw [e, List.all_cons, h2, Bool.and_true]
    exact (List.pairwise_cons.mp h).1 y List.mem_cons_self
theorem are_names_eq {zs : List Str} (h : NamesOk zs) : m_are_names [.tup (zs.map D.str)] = .ret (.bl true) := by
  unfold m_are_names b_are_names
  simp only [DL.runFn, DL.sRet, DL.sSet, DL.sSeq, DL.sIf, DL.sPass, DL.sRaise, DL.iAnd, DL.iOr, DL.iNot, DL.iIf, DL.asB, DL.notB, DL.andB, DL.orB, DL.iCall, DL.iBi, DL.iOp, DL.iChain, DL.iChain3, DL.iVar, DL.iUse, DL.iLit, DL.iTup, DL.iLst, DL.evs, DL.env0, DL.oNone, DL.oSome, DL.iSl, DL.M.ret_bind, DL.M.bind_ite, DL.M.stuck_bind, DL.M.exc_bind, DL.M.choose_bind, DL.M.ret_noX, List.map_cons, List.map_nil, List.length_cons, List.length_nil, List.cons_append, List.nil_append, List.getElem?_cons_zero, List.getElem?_cons_succ, Nat.reduceAdd, Nat.reduceSub, List.reduceReplicate, List.append_nil, List.replicate_zero, Bool.false_eq_true, if_false, if_true, List.set_cons_zero, List.set_cons_succ, Bool.not_true, Bool.not_false]
  rw [isi_tup rfl]
  simp only [isTu, M.ret_bind, fLen_tup, fLe_int, Bool.not_true, Bool.false_eq_true, if_false, List.length_map]
  rw [decide_eq_true (show (2 : Int) ≤ (zs.length : Int) by have := h.two; omega), decide_eq_true (show (zs.length : Int) ≤ 4 by have := h.four; omega)]
  simp only [if_true, M.ret_bind, Bool.not_true, Bool.false_eq_true, if_false]
  rw [lc_all (ds := zs.map D.str) (e := fun _ => .bl true) rfl ?_ ?_]
  · rw [M.ret_bind]
    simp only [M.ret_bind]
    rw [fAll_map (fun _ => true)]
    have : (zs.map D.str).all (fun _ => true) = true := by simp
    rw [this]
    simp only [DL.runFn, DL.sRet, DL.sSet, DL.sSeq, DL.sIf, DL.sPass, DL.sRaise, DL.iAnd, DL.iOr, DL.iNot, DL.iIf, DL.asB, DL.notB, DL.andB, DL.orB, DL.iCall, DL.iBi, DL.iOp, DL.iChain, DL.iChain3, DL.iVar, DL.iUse, DL.iLit, DL.iTup, DL.iLst, DL.evs, DL.env0, DL.oNone, DL.oSome, DL.iSl, DL.M.ret_bind, DL.M.bind_ite, DL.M.stuck_bind, DL.M.exc_bind, DL.M.choose_bind, DL.M.ret_noX, List.map_cons, List.map_nil, List.length_cons, List.length_nil, List.cons_append, List.nil_append, List.getElem?_cons_zero, List.getElem?_cons_succ, Nat.reduceAdd, Nat.reduceSub, List.reduceReplicate, List.append_nil, List.replicate_zero, Bool.false_eq_true, if_false, if_true, List.set_cons_zero, List.set_cons_succ, Bool.not_true, Bool.not_false]
    rw [is_ascending_eq zs h.four, asc_zip h.asc]
    rfl
  · intro d hd
    obtain ⟨z, hz, rfl⟩ := List.mem_map.mp hd
    refine ⟨_, rfl, ?_⟩
    simp only [wipeE]
    simp only [DL.runFn, DL.sRet, DL.sSet, DL.sSeq, DL.sIf, DL.sPass, DL.sRaise, DL.iAnd, DL.iOr, DL.iNot, DL.iIf, DL.asB, DL.notB, DL.andB, DL.orB, DL.iCall, DL.iBi, DL.iOp, DL.iChain, DL.iChain3, DL.iVar, DL.iUse, DL.iLit, DL.iTup, DL.iLst, DL.evs, DL.env0, DL.oNone, DL.oSome, DL.iSl, DL.M.ret_bind, DL.M.bind_ite, DL.M.stuck_bind, DL.M.exc_bind, DL.M.choose_bind, DL.M.ret_noX, List.map_cons, List.map_nil, List.length_cons, List.length_nil, List.cons_append, List.nil_append, List.getElem?_cons_zero, List.getElem?_cons_succ, Nat.reduceAdd, Nat.reduceSub, List.reduceReplicate, List.append_nil, List.replicate_zero, Bool.false_eq_true, if_false, if_true, List.set_cons_zero, List.set_cons_succ, Bool.not_true, Bool.not_false]
    exact is_word_eq (h.word z hz)
  · rw [List.length_map, sizeLine_eq]
    have := h.four
    omega
theorem need_names_eq {zs : List Str} (h : NamesOk zs) : m_need_names [.tup (zs.map D.str)] = .ret (.tup (zs.map D.str)) := by
  unfold m_need_names b_need_names
  simp only [DL.runFn, DL.sRet, DL.sSet, DL.sSeq, DL.sIf, DL.sPass, DL.sRaise, DL.iAnd, DL.iOr, DL.iNot, DL.iIf, DL.asB, DL.notB, DL.andB, DL.orB, DL.iCall, DL.iBi, DL.iOp, DL.iChain, DL.iChain3, DL.iVar, DL.iUse, DL.iLit, DL.iTup, DL.iLst, DL.evs, DL.env0, DL.oNone, DL.oSome, DL.iSl, DL.M.ret_bind, DL.M.bind_ite, DL.M.stuck_bind, DL.M.exc_bind, DL.M.choose_bind, DL.M.ret_noX, List.map_cons, List.map_nil, List.length_cons, List.length_nil, List.cons_append, List.nil_append, List.getElem?_cons_zero, List.getElem?_cons_succ, Nat.reduceAdd, Nat.reduceSub, List.reduceReplicate, List.append_nil, List.replicate_zero, Bool.false_eq_true, if_false, if_true, List.set_cons_zero, List.set_cons_succ, Bool.not_true, Bool.not_false]
  rw [are_names_eq h]
  rfl
end Lw
namespace Lw
open PySem PySem.Spec L2 DL
theorem Yl_next {n : Nat} (h : 0 < n) (h2 : n ≤ 1000) : Yl (m__law_next [.rnd, .int n]) 1 fun d => ∃ i : Nat, i < n ∧ d = .int i := by
  have e : m__law_next [.rnd, .int n] = .choose n fun i => .ret (D.int (i : Nat)) := by
    show (if 0 < (n : Int) ∧ (n : Int) < 2 ^ 60 then M.choose (n : Int).toNat fun i => .ret (D.int (i : Nat)) else .stuck) = _
    rw [if_pos ⟨by omega, by omega⟩]
    rfl
  rw [e]
  exact Yl.choose fun i hi => Yl.ret ⟨i, hi, rfl⟩
/-- a draw among so many, n written -/
theorem Yl_nextL {Γ : DL.Env} {n : Nat} (h : 0 < n) (h2 : n ≤ 1000) {j : IE} (hm : Γ[0]? = some (some (.fz .rnd))) (hj : j Γ = .ret (.int n)) : Yl (iCall m__law_next [iVar 0, j] Γ) 1 fun d => ∃ i : Nat, i < n ∧ d = .int i := by
  have e : iCall m__law_next [iVar 0, j] Γ = m__law_next [.rnd, .int n] := by
    unfold iCall evs evs evs iVar
    rw [hm]
    simp only [M.ret_bind]
    rw [hj]
    rfl
  rw [e]
  exact Yl_next h h2
/-- the frame of _law_names -/
abbrev envN (n : Nat) (l : List Nat) (k a f b w : Option B) : DL.Env := [some (.fz .rnd), some (.fz (.int n)), some (.fz (.str (S abc))), some (.fz (.str (S l))), k, a, f, b, w]
def lnStem : IS := DL.sFor (DL.gN 4) (iiR1 (iCall m__law_next [iVar 0, iLit (.int 8)])) (DL.sSet 3 (iOp fAdd (iVar 3) (iOp fIx (iVar 2) (iCall m__law_next [iVar 0, iLit (.int 26)]))))
theorem stem_ok (n : Nat) : Yl (lnStem (envN n [] none none none none none)) 8 fun fl => ∃ Γ', fl = .nx Γ' ∧ ∃ l k, Γ' = envN n l k none none none none ∧ Low l ∧ l.length ≤ 7 := by
  unfold lnStem
  refine (Yl.for_ (l := 1) (k := 1) (kk := 7) (fun j Γ => ∃ l k, Γ = envN n l k none none none none ∧ Low l ∧ l.length = j) (Yl.rng (by decide) ((Yl_nextL (n := 8) (by decide) (by decide) rfl rfl).mono (Nat.le_refl _) fun d ⟨i, hi, e⟩ => ⟨i, by omega, e⟩)) ⟨[], none, rfl, fun c hc => (by simp at hc), rfl⟩ ?_).mono (by decide) ?_
  · rintro j Γ hj ⟨l, k, rfl, hl, hn⟩
    have hs : l.length + 1 ≤ sizeLine := by rw [sizeLine_eq]; omega
    show Yl ((DL.sSet 3 (iOp fAdd (iVar 3) (iOp fIx (iVar 2) (iCall m__law_next [iVar 0, iLit (.int 26)])))) (envN n l (some (.fz (.int (j : Nat)))) none none none none)) 1 _
    unfold DL.sSet iOp
    refine (Yl.bind (k := 1) (l := 0) (P := fun d => ∃ m, d = .str (S m) ∧ Low m ∧ m.length = j + 1) ?_ ?_)
    · show Yl (((iCall m__law_next [iVar 0, iLit (.int 26)] (envN n l (some (.fz (.int (j : Nat)))) none none none none)).bind fun y => match fIx (.str (S abc)) y with
        | some d => .ret d
        | none => .stuck).bind fun y => match fAdd (.str (S l)) y with
        | some d => .ret d
        | none => .stuck) 1 _
      rw [M.bind_assoc]
      refine (Yl.bind (l := 0) (Yl_nextL (n := 26) (by decide) (by decide) rfl rfl) fun d hd => ?_)
      obtain ⟨i, hi, rfl⟩ := hd
      rw [fIx_S abc (i := i) (by rw [abc_len]; exact hi) (by rw [abc_len, sizeLine_eq]; decide)]
      rw [abc_at]
      simp only [M.ret_bind]
      rw [fAdd_S l [97 + i] (by simpa using hs)]
      refine Yl.ret ⟨_, rfl, fun c hc => ?_, by simp [hn]⟩
      rcases List.mem_append.mp hc with h | h
      · exact hl c h
      · rw [List.mem_singleton] at h
        omega
    · rintro d ⟨m, rfl, hm, hml⟩
      exact Yl.ret ⟨_, rfl, m, _, rfl, hm, hml⟩
  · rintro fl ⟨Γ', e, j, hj, l, k, e2, hl, hn⟩
    exact ⟨Γ', e, l, k, e2, hl, by omega⟩
theorem fLenV {Γ : DL.Env} {l : List Nat} (h : l.length ≤ sizeLine) (e : Γ[3]? = some (some (.fz (.str (S l))))) : iOp fAdd (iBi fLen [iVar 3]) (iLit (.int 1)) Γ = .ret (.int ((l.length + 1 : Nat) : Int)) := by
  unfold iOp iBi iLit evs evs iVar
  rw [e]
  simp only [M.ret_bind]
  rw [fLen_S l h]
  rfl
def bys : List D := [.int 1, .int 3, .int 5, .int 7, .int 9, .int 11]
def lnPick : IS := DL.sAsg (DL.gT [DL.gN 5, DL.gN 6, DL.gN 7]) (iTup [iCall m__law_next [iVar 0, iOp fAdd (iBi fLen [iVar 3]) (iLit (.int 1))], iCall m__law_next [iVar 0, iLit (.int 26)], iOp fIx (iLst [iLit (.int 1), iLit (.int 3), iLit (.int 5), iLit (.int 7), iLit (.int 9), iLit (.int 11)]) (iCall m__law_next [iVar 0, iLit (.int 6)])])
theorem pick_ok (n : Nat) (l : List Nat) (k : Option B) (hl : l.length ≤ 7) : Yl (lnPick (envN n l k none none none none)) 3 fun fl => ∃ Γ', fl = .nx Γ' ∧ ∃ a f y : Nat, Γ' = envN n l k (some (.fz (.int a))) (some (.fz (.int f))) (some (.fz (.int y))) none ∧ a ≤ l.length ∧ f < 26 ∧ y ∈ [1, 3, 5, 7, 9, 11] := by
  unfold lnPick DL.sAsg DL.iTup
  have h1 : Yl (iCall m__law_next [iVar 0, iOp fAdd (iBi fLen [iVar 3]) (iLit (.int 1))] (envN n l k none none none none)) 1 fun d => ∃ i : Nat, i < l.length + 1 ∧ d = .int i :=
    Yl_nextL (n := l.length + 1) (by omega) (by omega) rfl (fLenV (by rw [sizeLine_eq]; omega) rfl)
  have h2 : Yl (iCall m__law_next [iVar 0, iLit (.int 26)] (envN n l k none none none none)) 1 fun d => ∃ i : Nat, i < 26 ∧ d = .int i := Yl_nextL (n := 26) (by decide) (by decide) rfl rfl
  have h3 : Yl (iOp fIx (iLst [iLit (.int 1), iLit (.int 3), iLit (.int 5), iLit (.int 7), iLit (.int 9), iLit (.int 11)]) (iCall m__law_next [iVar 0, iLit (.int 6)]) (envN n l k none none none none)) 1 fun d => ∃ y : Nat, y ∈ [1, 3, 5, 7, 9, 11] ∧ d = .int y := by
    have e0 : iLst [iLit (.int 1), iLit (.int 3), iLit (.int 5), iLit (.int 7), iLit (.int 9), iLit (.int 11)] (envN n l k none none none none) = .ret (.lst bys) := by
      show (if 6 ≤ sizeLine then M.ret (D.lst bys) else .stuck) = _
      rw [if_pos (by rw [sizeLine_eq]; decide)]
    unfold iOp
    rw [e0, M.ret_bind]
    refine (Yl.bind (k := 1) (l := 0) (Yl_nextL (n := 6) (by decide) (by decide) rfl rfl) fun d hd => ?_)
    obtain ⟨i, hi, rfl⟩ := hd
    rw [fIx_lst bys (i := i) hi]
    refine Yl.ret ?_
    have : ∀ j : Fin 6, ∃ y : Nat, y ∈ [1, 3, 5, 7, 9, 11] ∧ bys[j.1]'j.2 = .int y := fun j => by
      match j with
      | 0 => exact ⟨1, by decide, rfl⟩
      | 1 => exact ⟨3, by decide, rfl⟩
      | 2 => exact ⟨5, by decide, rfl⟩
      | 3 => exact ⟨7, by decide, rfl⟩
      | 4 => exact ⟨9, by decide, rfl⟩
      | 5 => exact ⟨11, by decide, rfl⟩
    exact this ⟨i, hi⟩
  rw [M.bind_assoc]
  refine (Yl.bind (k := 3) (l := 0) (Yl.evs_cons h1 (Yl.evs_cons h2 (Yl.evs_cons h3 Yl.evs_nil))) fun ds hd => ?_)
  obtain ⟨d1, _, rfl, ⟨a, ha, rfl⟩, d2, _, rfl, ⟨f, hf, rfl⟩, d3, _, rfl, ⟨y, hy, rfl⟩, rfl⟩ := hd
  have e : (if [D.int (a : Nat), .int (f : Nat), .int (y : Nat)].length ≤ sizeLine then M.ret (D.tup [.int (a : Nat), .int (f : Nat), .int (y : Nat)]) else .stuck) = .ret (.tup [.int (a : Nat), .int (f : Nat), .int (y : Nat)]) := if_pos (by show 3 ≤ sizeLine; rw [sizeLine_eq]; decide)
  rw [e]
  exact Yl.ret ⟨_, rfl, a, f, y, rfl, by omega, hf, hy⟩
def lnWord : IS := DL.sSet 8 (iSl fSl (iOp fAdd (iVar 3) (iOp fMul (iOp fIx (iVar 2) (iVar 6)) (iLit (.int 8)))) oNone (oSome (iLit (.int 8))))
def wordL (l : List Nat) (f : Nat) : List Nat := (l ++ List.replicate 8 (97 + f)).take 8
theorem word_ok (n : Nat) (l : List Nat) (k : Option B) (hl : l.length ≤ 7) (a f y : Nat) (hf : f < 26) : lnWord (envN n l k (some (.fz (.int a))) (some (.fz (.int f))) (some (.fz (.int y))) none) = .ret (.nx (envN n l k (some (.fz (.int a))) (some (.fz (.int f))) (some (.fz (.int y))) (some (.fz (.str (S (wordL l f))))))) := by
  unfold lnWord DL.sSet iSl iOp iVar iLit oNone oSome
  simp only [List.getElem?_cons_succ, List.getElem?_cons_zero, M.ret_bind]
  rw [fIx_S abc (i := f) (by rw [abc_len]; exact hf) (by rw [abc_len, sizeLine_eq]; decide), abc_at]
  simp only [M.ret_bind]
  rw [fMul_one]
  simp only [M.ret_bind]
  rw [fAdd_S l (List.replicate 8 (97 + f)) (by rw [List.length_replicate, sizeLine_eq]; omega)]
  simp only [M.ret_bind]
  rw [show (8 : Int) = ((8 : Nat) : Int) from rfl, fSl_take _ _ (by rw [List.length_append, List.length_replicate, sizeLine_eq]; omega)]
  rfl
theorem wordL_len (l : List Nat) (f : Nat) : (wordL l f).length = 8 := by
  unfold wordL
  rw [List.length_take, List.length_append, List.length_replicate]
  omega
theorem wordL_low {l : List Nat} {f : Nat} (h : Low l) (hf : f < 26) : Low (wordL l f) := fun c hc => by
  unfold wordL at hc
  rcases List.mem_append.mp (List.mem_of_mem_take hc) with h1 | h1
  · exact h c h1
  · have := List.eq_of_mem_replicate h1
    omega
abbrev envW (n : Nat) (l : List Nat) (k : Option B) (a f y : Nat) : DL.Env := envN n l k (some (.fz (.int a))) (some (.fz (.int f))) (some (.fz (.int y))) (some (.fz (.str (S (wordL l f)))))
theorem sz8 {l : List Nat} (h : l.length ≤ 1000) : l.length ≤ sizeLine := by rw [sizeLine_eq]; omega
def lnEl1 : IE := iIf (asB (iOp fGt (iVar 7) (iLit (.int 7)))) (iSl fSl (iVar 8) (oSome (iVar 4)) oNone) (iSl fSl (iVar 8) oNone (oSome (iOp fSubI (iOp fAdd (iVar 4) (iLit (.int 9))) (iVar 1))))
theorem el1_big (n : Nat) (l : List Nat) (a f y k : Nat) (hy : 7 < y) : lnEl1 (envW n l (some (.fz (.int k))) a f y) = .ret (.str (S ((wordL l f).drop k))) := by
  unfold lnEl1 DL.iIf
  have e : asB (iOp fGt (iVar 7) (iLit (.int 7))) (envW n l (some (.fz (.int k))) a f y) = .ret (decide (7 < y)) := by
    show (match fGt (D.int y) (.int 7) with | some d => M.ret d | none => .stuck).bind _ = _
    rw [fGt_int]
    show M.ret (decide ((7 : Int) < (y : Int))) = _
    congr 1
    exact decide_eq_decide.mpr (by omega)
  rw [e, M.ret_bind, if_pos (decide_eq_true hy)]
  unfold iSl oSome oNone iVar
  simp only [List.getElem?_cons_succ, List.getElem?_cons_zero, M.ret_bind]
  rw [fSl_drop _ _ (sz8 (by rw [wordL_len]; decide))]
theorem el1_cut (n : Nat) (l : List Nat) (a f y k : Nat) (hy : y ≤ 7) (hn : n ≤ 9) : lnEl1 (envW n l (some (.fz (.int k))) a f y) = .ret (.str (S ((wordL l f).take (k + 9 - n)))) := by
  unfold lnEl1 DL.iIf
  have e : asB (iOp fGt (iVar 7) (iLit (.int 7))) (envW n l (some (.fz (.int k))) a f y) = .ret (decide (7 < y)) := by
    show (match fGt (D.int y) (.int 7) with | some d => M.ret d | none => .stuck).bind _ = _
    rw [fGt_int]
    show M.ret (decide ((7 : Int) < (y : Int))) = _
    congr 1
    exact decide_eq_decide.mpr (by omega)
  rw [e, M.ret_bind, if_neg (by simpa using hy)]
  unfold iSl oSome oNone iOp iVar iLit
  simp only [List.getElem?_cons_succ, List.getElem?_cons_zero, M.ret_bind, fAdd_int, fSubI_int]
  rw [show ((k : Int) + 9 - (n : Int)) = ((k + 9 - n : Nat) : Int) by omega, fSl_take _ _ (sz8 (by rw [wordL_len]; decide))]
def lnEl2 : IE := iOp fAdd (iOp fAdd (iSl fSl (iVar 3) oNone (oSome (iVar 5))) (iOp fIx (iVar 2) (iOp fModI (iBi fInt [iOp fAdd (iVar 6) (iOp fMul (iVar 7) (iVar 4))]) (iLit (.int 26))))) (iSl fSl (iVar 3) (oSome (iVar 5)) oNone)
def midL (l : List Nat) (a f y k : Nat) : List Nat := l.take a ++ [97 + (f + y * k) % 26] ++ l.drop a
theorem fMul_small (y k : Nat) (hy : y ≤ 11) (hk : k < 21) : fMul (.int y) (.int k) = some (.int ((y * k : Nat) : Int)) := by
  have c : ∀ (i : Fin 12) (j : Fin 21), decide (((i.1 : Nat) : Int).natAbs.log2 + ((j.1 : Nat) : Int).natAbs.log2 < 1000000) = true := by decide +kernel
  have e : fMulI (.int y) (.int k) = some (.int ((y : Int) * (k : Int))) := by
    show (if (decide ((y : Int).natAbs.log2 + (k : Int).natAbs.log2 < 1000000)) = true then some (D.int ((y : Int) * (k : Int))) else none) = _
    rw [if_pos (c ⟨y, by omega⟩ ⟨k, hk⟩)]
  show (match fMulI (.int y) (.int k) with | some d => some d | none => _) = _
  rw [e, Int.natCast_mul]
theorem fModI_26 (x : Nat) : fModI (.int x) (.int 26) = some (.int ((x % 26 : Nat) : Int)) := by
  rfl
theorem el2_ok (n : Nat) (l : List Nat) (a f y k : Nat) (hl : l.length ≤ 7) (hy : y ≤ 11) (hk : k < 21) : lnEl2 (envW n l (some (.fz (.int k))) a f y) = .ret (.str (S (midL l a f y k))) := by
  unfold lnEl2 iOp iSl oSome oNone iBi iLit evs evs iVar
  simp only [List.getElem?_cons_succ, List.getElem?_cons_zero, M.ret_bind]
  rw [fMul_small y k hy hk]
  simp only [M.ret_bind, fAdd_int]
  rw [show fInt [D.int ((f : Int) + ((y * k : Nat) : Int))] = some (.int ((f + y * k : Nat) : Int)) by rw [Int.natCast_add]; rfl]
  simp only [M.ret_bind]
  rw [fModI_26]
  simp only [M.ret_bind]
  rw [fIx_S abc (i := (f + y * k) % 26) (by rw [abc_len]; omega) (by rw [abc_len, sizeLine_eq]; decide), abc_at, fSl_take l a (sz8 (by omega)), fSl_drop l a (sz8 (by omega))]
  simp only [M.ret_bind]
  rw [fAdd_S _ _ (by rw [sizeLine_eq, List.length_take, List.length_singleton]; omega)]
  simp only [M.ret_bind]
  rw [fAdd_S _ _ (by rw [sizeLine_eq, List.length_append, List.length_take, List.length_singleton, List.length_drop]; omega)]
  rfl
end Lw
namespace Lw
open PySem PySem.Spec L2 DL
theorem word_of {l : List Nat} (h1 : 1 ≤ l.length) (h2 : l.length ≤ 8) (h3 : Low l) : WordOk (S l) := ⟨by show 1 ≤ l.toArray.size; simpa using h1, by show l.toArray.size ≤ 8; simpa using h2, h3⟩
theorem low_drop {l : List Nat} (h : Low l) (k : Nat) : Low (l.drop k) := fun c hc => h c (List.mem_of_mem_drop hc)
theorem low_take {l : List Nat} (h : Low l) (k : Nat) : Low (l.take k) := fun c hc => h c (List.mem_of_mem_take hc)
/-- what names are drawn -/
def NamesD (n : Nat) (d : D) : Prop := ∃ zs : List Str, d = .lst (zs.map D.str) ∧ zs.length = n ∧ (∀ z ∈ zs, WordOk z) ∧ zs.Nodup
theorem namesD_of {n : Nat} {g : Nat → List Nat} (h1 : ∀ k, k < n → 1 ≤ (g k).length ∧ (g k).length ≤ 8 ∧ Low (g k)) (h2 : ∀ i j, i < j → j < n → g i ≠ g j) : NamesD n (.lst ((List.range n).map fun k => .str (S (g k)))) := by
  refine ⟨(List.range n).map fun k => S (g k), by rw [List.map_map]; rfl, by simp, fun z hz => ?_, nodup_range fun i j hi hj e => h2 i j hi hj (S_inj e)⟩
  obtain ⟨k, hk, rfl⟩ := List.mem_map.mp hz
  obtain ⟨a, b, c⟩ := h1 k (List.mem_range.mp hk)
  exact word_of a b c
theorem mid_low {l : List Nat} {a f y k : Nat} (h : Low l) : Low (midL l a f y k) := fun c hc => by
  unfold midL at hc
  rcases List.mem_append.mp hc with h1 | h1
  · rcases List.mem_append.mp h1 with h1 | h1
    · exact h c (List.mem_of_mem_take h1)
    · rw [List.mem_singleton] at h1
      omega
  · exact h c (List.mem_of_mem_drop h1)
theorem mid_len {l : List Nat} {a f y k : Nat} (ha : a ≤ l.length) : (midL l a f y k).length = l.length + 1 := by
  unfold midL
  rw [List.length_append, List.length_append, List.length_take, List.length_singleton, List.length_drop]
  omega
theorem mid_inj {l : List Nat} {a f y i j : Nat} (h : midL l a f y i = midL l a f y j) : (f + y * i) % 26 = (f + y * j) % 26 := by
  unfold midL at h
  have h1 := List.append_cancel_right h
  have h2 := List.append_cancel_left h1
  have h3 : 97 + (f + y * i) % 26 = 97 + (f + y * j) % 26 := by simpa using h2
  omega
def lnRet1 : IS := DL.sIf (andB (asB (iOp fGt (iVar 7) (iLit (.int 5)))) (asB (iOp fLt (iVar 1) (iLit (.int 9))))) (DL.sRet (iLc (gN 4) (iiR1 (iVar 1)) cYes lnEl1 [4])) DL.sPass
def lnRet2 : IS := DL.sRet (iLc (gN 4) (iiR1 (iVar 1)) cYes lnEl2 [4])
theorem test_ok (n : Nat) (l : List Nat) (k : Option B) (a f y : Nat) (hn : n ≤ 4) : andB (asB (iOp fGt (iVar 7) (iLit (.int 5)))) (asB (iOp fLt (iVar 1) (iLit (.int 9)))) (envW n l k a f y) = .ret (decide (5 < y)) := by
  have e1 : asB (iOp fGt (iVar 7) (iLit (.int 5))) (envW n l k a f y) = .ret (decide (5 < y)) := by
    show (match fGt (D.int y) (.int 5) with | some d => M.ret d | none => .stuck).bind _ = _
    rw [fGt_int]
    show M.ret (decide ((5 : Int) < (y : Int))) = _
    congr 1
    exact decide_eq_decide.mpr (by omega)
  have e2 : asB (iOp fLt (iVar 1) (iLit (.int 9))) (envW n l k a f y) = .ret true := by
    show (match fLt (D.int n) (.int 9) with | some d => M.ret d | none => .stuck).bind _ = _
    rw [fLt_int]
    show M.ret (decide ((n : Int) < 9)) = _
    congr 1
    exact decide_eq_true (by omega)
  unfold andB
  rw [e1, M.ret_bind, e2]
  cases decide (5 < y) <;> rfl
theorem tail_ok {n : Nat} (h2 : 2 ≤ n) (hn : n ≤ 4) {l : List Nat} (hl : l.length ≤ 7) (low : Low l) (k : Option B) {a f y : Nat} (ha : a ≤ l.length) (hf : f < 26) (hy : y ∈ [1, 3, 5, 7, 9, 11]) :
    Yl (DL.sSeq lnRet1 lnRet2 (envW n l k a f y)) 0 fun fl => ∃ d, fl = .rt d ∧ NamesD n d := by
  have hw := wordL_len l f
  have lw := wordL_low low hf
  by_cases h5 : 5 < y
  · have e : ∀ g : Nat → List Nat, (∀ j, j < n → lnEl1 (envW n l (some (.fz (.int (j : Nat)))) a f y) = .ret (.str (S (g j)))) → DL.sSeq lnRet1 lnRet2 (envW n l k a f y) = .ret (.rt (.lst ((List.range n).map fun j => .str (S (g j))))) := fun g hg => by
      unfold DL.sSeq lnRet1 DL.sIf
      rw [test_ok n l k a f y hn, M.ret_bind, if_pos (decide_eq_true h5)]
      unfold DL.sRet
      rw [lc_rng (n := n) (e := fun j => .str (S (g j))) (by omega) rfl fun j hj => ⟨_, rfl, hg j hj⟩]
      rfl
    by_cases h7 : 7 < y
    · rw [e (fun j => (wordL l f).drop j) fun j hj => el1_big n l a f y j h7]
      refine Yl.ret ⟨_, rfl, namesD_of (g := fun j => (wordL l f).drop j) (fun j hj => ⟨?_, ?_, low_drop lw j⟩) fun i j hi hj e => ?_⟩
      · rw [List.length_drop, hw]; omega
      · rw [List.length_drop, hw]; omega
      · have := congrArg List.length e
        rw [List.length_drop, List.length_drop, hw] at this
        omega
    · rw [e (fun j => (wordL l f).take (j + 9 - n)) fun j hj => el1_cut n l a f y j (by omega) (by omega)]
      refine Yl.ret ⟨_, rfl, namesD_of (g := fun j => (wordL l f).take (j + 9 - n)) (fun j hj => ⟨?_, ?_, low_take lw _⟩) fun i j hi hj e => ?_⟩
      · rw [List.length_take, hw]; omega
      · rw [List.length_take, hw]; omega
      · have := congrArg List.length e
        rw [List.length_take, List.length_take, hw] at this
        omega
  · have hy2 : y = 1 ∨ y = 3 ∨ y = 5 := by
      simp only [List.mem_cons, List.not_mem_nil, or_false] at hy
      omega
    have e : DL.sSeq lnRet1 lnRet2 (envW n l k a f y) = .ret (.rt (.lst ((List.range n).map fun j => .str (S (midL l a f y j))))) := by
      unfold DL.sSeq lnRet1 DL.sIf
      rw [test_ok n l k a f y hn, M.ret_bind, if_neg (by simpa using h5)]
      have e3 : lnRet2 (envW n l k a f y) = .ret (.rt (.lst ((List.range n).map fun j => .str (S (midL l a f y j))))) := by
        unfold lnRet2 DL.sRet
        rw [lc_rng (n := n) (e := fun j => .str (S (midL l a f y j))) (by omega) rfl fun j hj => ⟨_, rfl, el2_ok n l a f y j hl (by omega) (by omega)⟩]
        rfl
      unfold DL.sPass
      rw [M.ret_bind]
      exact e3
    rw [e]
    refine Yl.ret ⟨_, rfl, namesD_of (fun j hj => ⟨?_, ?_, mid_low low⟩) fun i j hi hj e => ?_⟩
    · rw [mid_len ha]; omega
    · rw [mid_len ha]; omega
    · have := mid_inj e
      have hj2 : j ≤ 3 := by omega
      rcases hy2 with rfl | rfl | rfl <;> omega
theorem law_names {n : Nat} (h2 : 2 ≤ n) (hn : n ≤ 4) : Yl (m__law_names [.rnd, .int n]) 11 (NamesD n) := by
  unfold m__law_names b__law_names
  rw [abc_eq, empty_eq]
  refine Yl.fn ?_
  have e0 : env0 9 [D.rnd, .int (n : Nat)] = [some (.fz .rnd), some (.fz (.int n)), none, none, none, none, none, none, none] := rfl
  rw [e0]
  refine (Yl.seq (k := 0) (l := 11) (I := fun Γ => Γ = envN n [] none none none none none) (Yl.of_eq (a := .nx (envN n [] none none none none none)) ?_ ⟨_, rfl, rfl⟩) ?_).mono (by decide) fun _ x => x
  · unfold DL.sAsg DL.iTup
    show (if 2 ≤ sizeLine then M.ret (D.tup [.str (S abc), .str (S [])]) else .stuck).bind _ = _
    rw [if_pos (by rw [sizeLine_eq]; decide)]
    rfl
  · rintro Γ rfl
    refine Yl.seq (k := 8) (l := 3) (stem_ok n) ?_
    rintro Γ ⟨l, k, rfl, low, hl⟩
    refine Yl.seq (k := 3) (l := 0) (pick_ok n l k hl) ?_
    rintro Γ ⟨a, f, y, rfl, ha, hf, hy⟩
    refine Yl.seq (k := 0) (l := 0) (I := fun Γ => Γ = envW n l k a f y) (Yl.of_eq (word_ok n l k hl a f y hf) ⟨_, rfl, rfl⟩) ?_
    rintro Γ rfl
    exact tail_ok h2 hn hl low k ha hf hy
end Lw
namespace DL
open PySem PySem.Spec L2
theorem ins1_map {α β : Type} {f : α → β} {le : β → β → Bool} (x : α) : ∀ l : List α, ins1 le (f x) (l.map f) = (ins1 (fun a b => le (f a) (f b)) x l).map f
  | [] => rfl
  | y :: ys => by
    show (if le (f x) (f y) = true then f x :: f y :: ys.map f else f y :: ins1 le (f x) (ys.map f)) = (if le (f x) (f y) = true then x :: y :: ys else y :: ins1 (fun a b => le (f a) (f b)) x ys).map f
    rw [ins1_map x ys]
    by_cases h : le (f x) (f y) = true
    · rw [if_pos h, if_pos h]; rfl
    · rw [if_neg h, if_neg h]; rfl
theorem isort_map {α β : Type} {f : α → β} {le : β → β → Bool} : ∀ l : List α, isort le (l.map f) = (isort (fun a b => le (f a) (f b)) l).map f
  | [] => rfl
  | x :: xs => by
    show ins1 le (f x) (isort le (xs.map f)) = _
    rw [isort_map xs, ins1_map]
    rfl
theorem ins1_perm {α : Type} {le : α → α → Bool} (x : α) : ∀ l : List α, (ins1 le x l).Perm (x :: l)
  | [] => .refl _
  | y :: ys => by
    unfold ins1
    split
    · exact .refl _
    · exact ((ins1_perm x ys).cons y).trans (.swap x y ys)
theorem isort_perm {α : Type} {le : α → α → Bool} : ∀ l : List α, (isort le l).Perm l
  | [] => .refl _
  | x :: xs => (ins1_perm x _).trans ((isort_perm xs).cons x)
theorem sLt_total {x y : Str} (h : sLt y x = false) (n : x ≠ y) : sLt x y = true := by
  have h1 : ¬ y.cps.toList < x.cps.toList := of_decide_eq_false h
  have n1 : x.cps.toList ≠ y.cps.toList := fun e => n (PySem.W.str_of_cps e)
  refine decide_eq_true ?_
  rcases List.le_iff_lt_or_eq.mp (List.not_lt.mp h1) with h2 | h2
  · exact h2
  · exact absurd h2 n1
/-- texts in order -/
def ssort (zs : List Str) : List Str := isort (fun a b => dLe (.str a) (.str b)) zs
theorem sortD_str (zs : List Str) : sortD (zs.map D.str) = (ssort zs).map D.str := isort_map zs
theorem ssort_perm (zs : List Str) : (ssort zs).Perm zs := isort_perm zs
theorem ssort_asc {zs : List Str} (h : zs.Nodup) : (ssort zs).Pairwise fun x y => sLt x y = true := by
  have h1 : ((ssort zs).map D.str).Pairwise fun a b => dLe a b = true := by
    rw [← sortD_str]
    exact isort_pair dLe_total _
  rw [List.pairwise_map] at h1
  have h2 : (ssort zs).Nodup := (ssort_perm zs).nodup_iff.mpr h
  refine (h1.and h2).imp fun {x y} ⟨a, b⟩ => sLt_total ?_ b
  have e : dLe (.str x) (.str y) = !dLt (.str y) (.str x) := rfl
  rw [e, dLt_str] at a
  simpa using a
theorem okSort_str (zs : List Str) : okSort (zs.map D.str) = true := by
  unfold okSort
  have p : D.plL (zs.map D.str) = true := by
    induction zs with
    | nil => rfl
    | cons z zs ih =>
      show (D.pl (.str z) && D.plL (zs.map D.str)) = true
      rw [ih]; rfl
  have q : ∀ d ∈ zs.map D.str, ∃ z, d = .str z := fun d hd => by
    obtain ⟨z, _, rfl⟩ := List.mem_map.mp hd
    exact ⟨z, rfl⟩
  rw [p, Bool.true_and, Bool.and_eq_true, Bool.and_eq_true, Bool.or_eq_true]
  refine ⟨⟨List.all_eq_true.mpr fun x hx => List.all_eq_true.mpr fun y hy => ?_, .inr (List.all_eq_true.mpr fun x hx => ?_)⟩, List.all_eq_true.mpr fun x hx => ?_⟩
  · obtain ⟨a, rfl⟩ := q x hx
    obtain ⟨b, rfl⟩ := q y hy
    rfl
  · obtain ⟨a, rfl⟩ := q x hx
    rfl
  · obtain ⟨a, rfl⟩ := q x hx
    rfl
theorem fSorted_str (zs : List Str) : fSorted [.lst (zs.map D.str)] = some (.lst ((ssort zs).map D.str)) := by
  show (if okSort (zs.map D.str) = true then some (D.lst (sortD (zs.map D.str))) else none) = _
  rw [if_pos (okSort_str zs), sortD_str]
end DL
namespace Lw
open PySem PySem.Spec L2 DL
/-- valid names, as a tuple -/
def NamesT (d : D) : Prop := ∃ zs : List Str, d = .tup (zs.map D.str) ∧ NamesOk zs
theorem law_many : Yl (m__law_many [.rnd, .int 4]) 12 NamesT := by
  unfold m__law_many b__law_many
  refine Yl.fn ?_
  have e0 : env0 2 [D.rnd, .int 4] = [some (.fz .rnd), some (.fz (.int 4))] := rfl
  rw [e0]
  unfold DL.sRet iBi
  refine (Yl.bind (k := 12) (l := 0) (P := NamesT) ?_ fun d hd => Yl.ret ⟨d, rfl, hd⟩)
  rw [evs_bind, M.bind_assoc, M.bind_assoc, evs_bind, M.bind_assoc]
  refine (Yl.bind (k := 12) (l := 0) (P := fun d => ∃ n, 2 ≤ n ∧ n ≤ 4 ∧ NamesD n d) ?_ fun d hd => ?_)
  · unfold iCall
    refine (Yl.bind (k := 1) (l := 11) (Yl.evs_cons (k := 0) (l := 1) (P := fun d => d = .rnd) (Yl.of_eq (a := .rnd) rfl rfl) (Yl.evs_cons (k := 1) (l := 0) (P := fun d => ∃ n : Nat, 2 ≤ n ∧ n ≤ 4 ∧ d = .int n) ?_ Yl.evs_nil)) fun ds hd => ?_)
    · unfold iOp
      refine (Yl.bind (k := 0) (l := 1) (P := fun d => d = .int 2) (Yl.of_eq (a := .int 2) rfl rfl) fun d hd => ?_)
      subst hd
      refine (Yl.bind (k := 1) (l := 0) (Yl_nextL (n := 3) (by decide) (by decide) rfl rfl) fun d hd => ?_)
      obtain ⟨i, hi, rfl⟩ := hd
      exact Yl.ret ⟨2 + i, by omega, by omega, rfl⟩
    · obtain ⟨_, _, rfl, rfl, _, _, rfl, ⟨n, h1, h2, rfl⟩, rfl⟩ := hd
      exact (law_names h1 h2).mono (Nat.le_refl _) fun d hd => ⟨n, h1, h2, hd⟩
  · obtain ⟨n, h1, h2, zs, rfl, hl, hw, hn⟩ := hd
    simp only [M.ret_bind]
    rw [fSorted_str]
    refine Yl.ret ⟨ssort zs, rfl, ?_, ?_, fun z hz => hw z ((ssort_perm zs).mem_iff.mp hz), ssort_asc hn⟩
    · rw [(ssort_perm zs).length_eq]; omega
    · rw [(ssort_perm zs).length_eq]; omega
end Lw
namespace DL
open PySem PySem.Spec L2
theorem plL_str : ∀ zs : List Str, D.plL (zs.map D.str) = true
  | [] => rfl
  | z :: zs => by
    show (D.pl (.str z) && D.plL (zs.map D.str)) = true
    rw [plL_str zs]; rfl
theorem fNe_nil (zs : List Str) : fNeD (.lst (zs.map D.str)) (.lst []) = some (.bl (!zs.isEmpty)) := by
  have e : okEq (.lst (zs.map D.str)) (.lst []) = true := by
    unfold okEq
    rw [Bool.and_eq_true, Bool.and_eq_true]
    refine ⟨⟨plL_str zs, rfl⟩, decide_eq_true ?_⟩
    have : D.dep (.lst []) ≤ 60 := by decide
    omega
  show (if okEq (.lst (zs.map D.str)) (.lst []) = true then some (D.bl (!dEq (.lst (zs.map D.str)) (.lst []))) else none) = _
  rw [if_pos e]
  cases zs <;> rfl
theorem fAdd_lst (xs ys : List D) (h : xs.length + ys.length ≤ sizeLine) : fAdd (.lst xs) (.lst ys) = some (.lst (xs ++ ys)) := by
  have e : fAddL (.lst xs) (.lst ys) = some (.lst (xs ++ ys)) := if_pos h
  show (match fAddL (.lst xs) (.lst ys) with | some d => some d | none => _) = _
  rw [e]
theorem fAdd_tup (xs ys : List D) (h : xs.length + ys.length ≤ sizeLine) : fAdd (.tup xs) (.tup ys) = some (.tup (xs ++ ys)) := by
  have e : fAddT (.tup xs) (.tup ys) = some (.tup (xs ++ ys)) := if_pos h
  exact e
theorem cutD_take (ds : List D) (k : Nat) : cutD ds none (some (k : Int)) = ds.take k := by
  unfold cutD
  rw [HT.sIx_nat, HT.sIx_none, Nat.sub_zero, List.drop_zero]
  by_cases h : k ≤ ds.length
  · rw [Nat.min_eq_left h]
  · rw [Nat.min_eq_right (by omega), List.take_of_length_le (by omega), List.take_of_length_le (by omega)]
theorem cutD_drop (ds : List D) (k : Nat) : cutD ds (some (k : Int)) none = ds.drop k := by
  unfold cutD
  rw [HT.sIx_nat, HT.sIx_none]
  by_cases h : k ≤ ds.length
  · rw [Nat.min_eq_left h]
    exact List.take_of_length_le (by simp)
  · rw [Nat.min_eq_right (by omega), List.drop_of_length_le (Nat.le_refl _), List.drop_of_length_le (by omega), List.take_nil]
theorem fSl_ltake (ds : List D) (k : Nat) : fSl (.lst ds) none (some (k : Int)) = some (.lst (ds.take k)) := by
  show some (D.lst (cutD ds none (some (k : Int)))) = _
  rw [cutD_take]
theorem fSl_ldrop (ds : List D) (k : Nat) : fSl (.lst ds) (some (k : Int)) none = some (.lst (ds.drop k)) := by
  show some (D.lst (cutD ds (some (k : Int)) none)) = _
  rw [cutD_drop]
theorem take_perm {α : Type} (l : List α) {i : Nat} (h : i < l.length) : (l[i] :: (l.take i ++ l.drop (i + 1))).Perm l := by
  have e : l = l.take i ++ l[i] :: l.drop (i + 1) := by
    rw [← List.drop_eq_getElem_cons h, List.take_append_drop]
  exact (List.perm_middle.symm).trans (List.Perm.of_eq e.symm)
end DL
namespace Lw
open PySem PySem.Spec L2 DL
abbrev envO (M : D) (lf fd : List Str) (x : Option B) : DL.Env := [some (.fz .rnd), some (.fz M), some (.fz (.lst (lf.map D.str))), some (.fz (.tup (fd.map D.str))), x]
def loB : IS := DL.sSeq (DL.sSet 4 (iCall m__law_next [iVar 0, iBi fLen [iVar 2]])) (sPar 3 2 (iOp fAdd (iVar 3) (DL.iTup [iOp fIx (iVar 2) (iVar 4)])) (iOp fAdd (iSl fSl (iVar 2) oNone (oSome (iVar 4))) (iSl fSl (iVar 2) (oSome (iOp fAdd (iVar 4) (iLit (.int 1)))) oNone)))
theorem lo_body (Mm : D) {lf fd : List Str} {x : Option B} (h : 0 < lf.length) (hz : lf.length + fd.length ≤ 100) : Yl (loB (envO Mm lf fd x)) 1 fun fl => ∃ Γ', fl = .nx Γ' ∧ ∃ i, ∃ hi : i < lf.length, Γ' = envO Mm (lf.take i ++ lf.drop (i + 1)) (fd ++ [lf[i]]) (some (.fz (.int (i : Nat)))) := by
  unfold loB
  refine Yl.seq (k := 1) (l := 0) (I := fun Γ => ∃ i, i < lf.length ∧ Γ = envO Mm lf fd (some (.fz (.int (i : Nat))))) ?_ ?_
  · unfold DL.sSet
    refine (Yl.bind (k := 1) (l := 0) (Yl_nextL (n := lf.length) h (by omega) rfl ?_) fun d hd => ?_)
    · show (match fLen [D.lst (lf.map D.str)] with | some d => M.ret d | none => .stuck) = _
      rw [fLen_lst, List.length_map]
    · obtain ⟨i, hi, rfl⟩ := hd
      exact Yl.ret ⟨_, rfl, i, hi, rfl⟩
  · rintro Γ ⟨i, hi, rfl⟩
    refine Yl.of_eq (a := .nx (envO Mm (lf.take i ++ lf.drop (i + 1)) (fd ++ [lf[i]]) (some (.fz (.int (i : Nat)))))) ?_ ⟨_, rfl, i, hi, rfl⟩
    have e1 : iOp fAdd (iVar 3) (DL.iTup [iOp fIx (iVar 2) (iVar 4)]) (envO Mm lf fd (some (.fz (.int (i : Nat))))) = .ret (.tup ((fd ++ [lf[i]]).map D.str)) := by
      unfold iOp DL.iTup iVar evs evs
      simp only [List.getElem?_cons_succ, List.getElem?_cons_zero, M.ret_bind]
      rw [fIx_lst _ (i := i) (by rw [List.length_map]; exact hi)]
      simp only [M.ret_bind, List.length_cons, List.length_nil]
      rw [if_pos (by rw [sizeLine_eq]; decide)]
      simp only [M.ret_bind, List.getElem_map]
      rw [fAdd_tup _ _ (by rw [List.length_map, List.length_singleton, sizeLine_eq]; omega), List.map_append]
      rfl
    have e2 : iOp fAdd (iSl fSl (iVar 2) oNone (oSome (iVar 4))) (iSl fSl (iVar 2) (oSome (iOp fAdd (iVar 4) (iLit (.int 1)))) oNone) (envO Mm lf fd (some (.fz (.int (i : Nat))))) = .ret (.lst ((lf.take i ++ lf.drop (i + 1)).map D.str)) := by
      unfold iOp iSl oSome oNone iVar iLit
      simp only [List.getElem?_cons_succ, List.getElem?_cons_zero, M.ret_bind, fAdd_int]
      rw [show ((i : Int) + 1) = ((i + 1 : Nat) : Int) by omega, fSl_ltake, fSl_ldrop]
      simp only [M.ret_bind]
      rw [fAdd_lst _ _ (by rw [List.length_take, List.length_drop, List.length_map, sizeLine_eq]; omega), List.map_append, List.map_take, List.map_drop]
    unfold sPar evs evs evs
    rw [e1]
    simp only [M.ret_bind]
    rw [e2]
    rfl
theorem lo_loop (Mm : D) : ∀ (r : Nat) (lf fd : List Str) (x : Option B) (fuel : Nat), lf.length = r → r < fuel → r + fd.length ≤ 100 →
    Yl (sWhile fuel (asB (iOp fNeD (iVar 2) (DL.iLst []))) loB (envO Mm lf fd x)) r fun fl => ∃ Γ', fl = .nx Γ' ∧ ∃ fd' x', Γ' = envO Mm [] fd' x' ∧ fd'.Perm (fd ++ lf) := by
  intro r
  induction r with
  | zero =>
    intro lf fd x fuel h1 h2 h3
    obtain rfl := List.length_eq_zero_iff.mp h1
    cases fuel with
    | zero => omega
    | succ fuel =>
      refine Yl.of_eq (a := .nx (envO Mm [] fd x)) ?_ ⟨_, rfl, fd, x, rfl, by rw [List.append_nil]⟩
      rfl
  | succ r ih =>
    intro lf fd x fuel h1 h2 h3
    cases fuel with
    | zero => omega
    | succ fuel =>
      have e : asB (iOp fNeD (iVar 2) (DL.iLst [])) (envO Mm lf fd x) = .ret true := by
        unfold asB iOp DL.iLst iVar evs
        simp only [List.getElem?_cons_succ, List.getElem?_cons_zero, M.ret_bind, List.length_nil]
        rw [if_pos (Nat.zero_le _)]
        simp only [M.ret_bind]
        rw [fNe_nil]
        cases lf with
        | nil => simp at h1
        | cons a l => rfl
      unfold sWhile
      rw [e, M.ret_bind, if_pos rfl, Nat.add_comm]
      refine Yl.bind (lo_body Mm (by omega) (by omega)) fun fl hf => ?_
      obtain ⟨_, rfl, i, hi, rfl⟩ := hf
      refine (ih _ _ _ fuel (by rw [List.length_append, List.length_take, List.length_drop]; omega) (by omega) (by rw [List.length_append, List.length_singleton]; omega)).mono (Nat.le_refl _) ?_
      rintro fl ⟨Γ', e, fd', x', e2, p⟩
      refine ⟨Γ', e, fd', x', e2, p.trans ?_⟩
      rw [List.append_assoc]
      exact (List.Perm.refl fd).append (take_perm lf hi)
/-- an order of the names -/
theorem law_order {zs : List Str} (h : zs.length ≤ 4) : Yl (m__law_order [.rnd, .tup (zs.map D.str)]) 4 fun d => ∃ os : List Str, d = .tup (os.map D.str) ∧ os.Perm zs := by
  unfold m__law_order b__law_order
  refine Yl.fn ?_
  refine (Yl.seq (k := 0) (l := 4) (I := fun Γ => Γ = envO (.tup (zs.map D.str)) zs [] none) (Yl.of_eq (a := .nx (envO (.tup (zs.map D.str)) zs [] none)) ?_ ⟨_, rfl, rfl⟩) ?_).mono (by decide) fun _ x => x
  · unfold sPar evs evs evs
    have e1 : iBi fList [iVar 1] (env0 5 [D.rnd, .tup (zs.map D.str)]) = .ret (.lst (zs.map D.str)) := rfl
    have e2 : DL.iTup [] (env0 5 [D.rnd, .tup (zs.map D.str)]) = .ret (.tup []) := by
      unfold DL.iTup evs
      rw [M.ret_bind]
      exact if_pos (Nat.zero_le _)
    rw [e1]
    simp only [M.ret_bind]
    rw [e2]
    rfl
  · rintro Γ rfl
    refine (Yl.seq (k := zs.length) (l := 0) (lo_loop (.tup (zs.map D.str)) zs.length zs [] none 200 rfl (by omega) (by simp; omega)) ?_).mono (by omega) fun _ x => x
    rintro Γ ⟨fd, x, rfl, p⟩
    exact Yl.of_eq (a := .rt (.tup (fd.map D.str))) rfl ⟨_, rfl, fd, rfl, by simpa using p⟩
end Lw
namespace DL
open PySem PySem.Spec L2
theorem dEq_str (x y : Str) : dEq (.str x) (.str y) = decide (x = y) := by
  show (x == y) = _
  by_cases h : x = y <;> simp [h]
theorem fInA_str (x : Str) (zs : List Str) : fInA (.str x) (.tup (zs.map D.str)) = some (.bl (decide (x ∈ zs))) := by
  have e : okIn (.str x) (zs.map D.str) = true := by
    unfold okIn
    rw [plL_str]
    show (true && true && _) = true
    rw [Bool.true_and, Bool.true_and]
    refine decide_eq_true ?_
    have : D.dep (.str x) ≤ 60 := by show 0 ≤ 60; decide
    omega
  have e2 : dIn (.str x) (zs.map D.str) = decide (x ∈ zs) := by
    unfold dIn
    rw [List.any_map]
    induction zs with
    | nil => simp
    | cons z zs ih =>
      have ih := ih (by
        unfold okIn
        rw [plL_str]
        show (true && true && _) = true
        rw [Bool.true_and, Bool.true_and]
        refine decide_eq_true ?_
        have : D.dep (.str x) ≤ 60 := by show 0 ≤ 60; decide
        omega)
      rw [List.any_cons, ih]
      show (dEq (.str z) (.str x) || decide (x ∈ zs)) = _
      rw [dEq_str, ← Bool.decide_or]
      exact decide_eq_decide.mpr ⟨fun h => h.elim (fun h => by rw [h]; exact List.mem_cons_self) (List.mem_cons_of_mem _), fun h => (List.mem_cons.mp h).elim (fun h => .inl h.symm) .inr⟩
  have e3 : fIn false (.str x) (.tup (zs.map D.str)) = some (.bl (decide (x ∈ zs))) := by
    show (if okIn (.str x) (zs.map D.str) = true then some (D.bl (dIn (.str x) (zs.map D.str))) else none) = _
    rw [if_pos e, e2]
  show (match fIn false (.str x) (.tup (zs.map D.str)) with | some d => some d | none => _) = _
  rw [e3]
theorem strsD_str : ∀ zs : List Str, strsD (zs.map D.str) = some zs
  | [] => rfl
  | z :: zs => by
    show (strsD (zs.map D.str)).map (z :: ·) = _
    rw [strsD_str zs]; rfl
theorem met_nodup {zs : List Str} (h : zs.Nodup) : PySem.DLS.met zs = zs := by
  have go : ∀ (l q : List Str), (q ++ l).Nodup → l.foldl (fun q x => if q.any (· == x) then q else q ++ [x]) q = q ++ l := by
    intro l
    induction l with
    | nil => intro q _; simp
    | cons x l ih =>
      intro q hn
      have nx : x ∉ q := fun hx => by
        have := (List.nodup_append.mp hn).2.2 x hx x List.mem_cons_self
        exact this rfl
      have e : (q.any (· == x)) = false := by
        rw [List.any_eq_false]
        intro y hy
        simp only [beq_iff_eq]
        exact fun e => nx (e ▸ hy)
      rw [List.foldl_cons, if_neg (by rw [e]; decide), ih (q ++ [x]) (by rw [List.append_assoc]; exact hn), List.append_assoc]
      rfl
  unfold PySem.DLS.met
  exact (go zs [] (by simpa using h)).trans (by simp)
theorem fLenT_str {zs : List Str} (h : zs.Nodup) (hl : zs.length ≤ 1000) : fLenT (.tup (zs.map D.str)) = some (.int zs.length) := by
  show (strsD (zs.map D.str)).bind _ = _
  rw [strsD_str]
  show (if zs.length ≤ 1000 then some (D.int (PySem.DLS.met zs).length) else none) = _
  rw [if_pos hl, met_nodup h]
end DL
namespace Lw
open PySem PySem.Spec L2 DL
theorem asc_nodup {zs : List Str} (h : zs.Pairwise fun x y => sLt x y = true) : zs.Nodup := by
  refine h.imp fun {x y} h e => ?_
  subst e
  have : x.cps.toList < x.cps.toList := of_decide_eq_true h
  exact List.lt_irrefl _ this
/-- a paper of some of the names -/
theorem is_paper_eq {zs os : List Str} (hz : NamesOk zs) (hn : os.Nodup) (h1 : 1 ≤ os.length) (h2 : os.length ≤ zs.length) (hm : ∀ o ∈ os, o ∈ zs) : m_is_paper [.tup (zs.map D.str), .tup (os.map D.str)] = .ret (.bl true) := by
  have h4 := hz.four
  unfold m_is_paper b_is_paper
  simp only [DL.runFn, DL.sRet, DL.sSet, DL.sSeq, DL.sIf, DL.sPass, DL.sRaise, DL.iAnd, DL.iOr, DL.iNot, DL.iIf, DL.asB, DL.notB, DL.andB, DL.orB, DL.iCall, DL.iBi, DL.iOp, DL.iChain, DL.iChain3, DL.iVar, DL.iUse, DL.iLit, DL.iTup, DL.iLst, DL.evs, DL.env0, DL.oNone, DL.oSome, DL.iSl, DL.M.ret_bind, DL.M.bind_ite, DL.M.stuck_bind, DL.M.exc_bind, DL.M.choose_bind, DL.M.ret_noX, List.map_cons, List.map_nil, List.length_cons, List.length_nil, List.cons_append, List.nil_append, List.getElem?_cons_zero, List.getElem?_cons_succ, Nat.reduceAdd, Nat.reduceSub, List.reduceReplicate, List.append_nil, List.replicate_zero, Bool.false_eq_true, if_false, if_true, List.set_cons_zero, List.set_cons_succ, Bool.not_true, Bool.not_false]
  rw [isi_tup rfl]
  simp only [isTu, M.ret_bind, fLen_tup, fLe_int, Bool.not_true, Bool.false_eq_true, if_false, List.length_map]
  rw [decide_eq_true (show (1 : Int) ≤ (os.length : Int) by omega), decide_eq_true (show (os.length : Int) ≤ (zs.length : Int) by omega)]
  simp only [if_true, M.ret_bind, Bool.not_true, Bool.false_eq_true, if_false]
  rw [lc_all (ds := os.map D.str) (e := fun _ => .bl true) rfl ?_ ?_]
  · rw [M.ret_bind]
    simp only [M.ret_bind]
    rw [fAll_map (fun _ => true)]
    have : (os.map D.str).all (fun _ => true) = true := by simp
    rw [this]
    simp only [DL.runFn, DL.sRet, DL.sSet, DL.sSeq, DL.sIf, DL.sPass, DL.sRaise, DL.iAnd, DL.iOr, DL.iNot, DL.iIf, DL.asB, DL.notB, DL.andB, DL.orB, DL.iCall, DL.iBi, DL.iOp, DL.iChain, DL.iChain3, DL.iVar, DL.iUse, DL.iLit, DL.iTup, DL.iLst, DL.evs, DL.env0, DL.oNone, DL.oSome, DL.iSl, DL.M.ret_bind, DL.M.bind_ite, DL.M.stuck_bind, DL.M.exc_bind, DL.M.choose_bind, DL.M.ret_noX, List.map_cons, List.map_nil, List.length_cons, List.length_nil, List.cons_append, List.nil_append, List.getElem?_cons_zero, List.getElem?_cons_succ, Nat.reduceAdd, Nat.reduceSub, List.reduceReplicate, List.append_nil, List.replicate_zero, Bool.false_eq_true, if_false, if_true, List.set_cons_zero, List.set_cons_succ, Bool.not_true, Bool.not_false]
    unfold iLenT
    simp only [DL.runFn, DL.sRet, DL.sSet, DL.sSeq, DL.sIf, DL.sPass, DL.sRaise, DL.iAnd, DL.iOr, DL.iNot, DL.iIf, DL.asB, DL.notB, DL.andB, DL.orB, DL.iCall, DL.iBi, DL.iOp, DL.iChain, DL.iChain3, DL.iVar, DL.iUse, DL.iLit, DL.iTup, DL.iLst, DL.evs, DL.env0, DL.oNone, DL.oSome, DL.iSl, DL.M.ret_bind, DL.M.bind_ite, DL.M.stuck_bind, DL.M.exc_bind, DL.M.choose_bind, DL.M.ret_noX, List.map_cons, List.map_nil, List.length_cons, List.length_nil, List.cons_append, List.nil_append, List.getElem?_cons_zero, List.getElem?_cons_succ, Nat.reduceAdd, Nat.reduceSub, List.reduceReplicate, List.append_nil, List.replicate_zero, Bool.false_eq_true, if_false, if_true, List.set_cons_zero, List.set_cons_succ, Bool.not_true, Bool.not_false]
    rw [fLenT_str hn (by omega)]
    simp only [M.ret_bind]
    rw [fLen_tup, List.length_map]
    simp only [M.ret_bind]
    rw [fEq_int, decide_eq_true rfl]
    rfl
  · intro d hd
    obtain ⟨o, ho, rfl⟩ := List.mem_map.mp hd
    refine ⟨_, rfl, ?_⟩
    simp only [wipeE]
    simp only [DL.runFn, DL.sRet, DL.sSet, DL.sSeq, DL.sIf, DL.sPass, DL.sRaise, DL.iAnd, DL.iOr, DL.iNot, DL.iIf, DL.asB, DL.notB, DL.andB, DL.orB, DL.iCall, DL.iBi, DL.iOp, DL.iChain, DL.iChain3, DL.iVar, DL.iUse, DL.iLit, DL.iTup, DL.iLst, DL.evs, DL.env0, DL.oNone, DL.oSome, DL.iSl, DL.M.ret_bind, DL.M.bind_ite, DL.M.stuck_bind, DL.M.exc_bind, DL.M.choose_bind, DL.M.ret_noX, List.map_cons, List.map_nil, List.length_cons, List.length_nil, List.cons_append, List.nil_append, List.getElem?_cons_zero, List.getElem?_cons_succ, Nat.reduceAdd, Nat.reduceSub, List.reduceReplicate, List.append_nil, List.replicate_zero, Bool.false_eq_true, if_false, if_true, List.set_cons_zero, List.set_cons_succ, Bool.not_true, Bool.not_false]
    rw [isi_str rfl]
    simp only [isSt, M.ret_bind, if_true]
    rw [fInA_str, decide_eq_true (hm o ho)]
  · rw [List.length_map, sizeLine_eq]
    omega
/-- a drawn rule's fields -/
structure RuleOk (zs : List Str) (seats q1 q2 h1 h2 : Nat) (os : List Str) : Prop where
  names : NamesOk zs
  s1 : 1 ≤ seats
  s2 : seats < zs.length
  q : 0 < q1 ∧ q1 < q2 ∧ q2 ≤ 100
  h : h1 ≤ h2 ∧ 1 ≤ h2 ∧ h2 ≤ 100
  order : os.Perm zs
def ruleD (zs : List Str) (seats q1 q2 : Nat) (over : Bool) (h1 h2 : Nat) (os : List Str) : List D :=
  [.tup (zs.map D.str), .int seats, .tup [.int q1, .int q2], .bl over, .tup [.int h1, .int h2], .tup (os.map D.str)]
def RuleT (d : D) (zs : List Str) : Prop := ∃ seats q1 q2 over h1 h2 os, d = .tup (ruleD zs seats q1 q2 over h1 h2 os) ∧ RuleOk zs seats q1 q2 h1 h2 os
abbrev envR (zs : List Str) (s q h : Option B) : DL.Env := [some (.fz .rnd), some (.fz (.tup (zs.map D.str))), s, q, h]
def lrQ : IS := DL.sSet 3 (iOp fIx (DL.iLst [(DL.iTup [(iLit (.int 1)), (iLit (.int 2))]), (DL.iTup [(iLit (.int 1)), (iLit (.int 3))]), (DL.iTup [(iLit (.int 1)), (iOp fAdd (iVar 2) (iLit (.int 1)))]), (DL.iTup [(iLit (.int 2)), (iLit (.int 5))]), (DL.iTup [(iLit (.int 1)), (iLit (.int 100))]), (DL.iTup [(iLit (.int 3)), (iLit (.int 4))]), (DL.iTup [(iLit (.int 99)), (iLit (.int 100))])]) (iCall (m__law_next) [(iVar 0), (iLit (.int 7))]))
def lrH : IS := DL.sSet 4 (iOp fIx (DL.iLst [(DL.iTup [(iLit (.int 0)), (iLit (.int 1))]), (DL.iTup [(iLit (.int 1)), (iLit (.int 1))]), (DL.iTup [(iLit (.int 1)), (iLit (.int 2))]), (DL.iTup [(iLit (.int 1)), (iLit (.int 3))]), (DL.iTup [(iLit (.int 2)), (iLit (.int 3))]), (DL.iTup [(iLit (.int 0)), (iLit (.int 7))]), (DL.iTup [(iLit (.int 99)), (iLit (.int 100))])]) (iCall (m__law_next) [(iVar 0), (iLit (.int 7))]))
theorem tup2 {i j : IE} {Γ : DL.Env} {a b : D} (h1 : i Γ = .ret a) (h2 : j Γ = .ret b) : DL.iTup [i, j] Γ = .ret (.tup [a, b]) := by
  unfold DL.iTup evs evs evs
  rw [h1, M.ret_bind, h2]
  simp only [M.ret_bind]
  exact if_pos (by show 2 ≤ sizeLine; rw [sizeLine_eq]; decide)
theorem lst7 {i1 i2 i3 i4 i5 i6 i7 : IE} {Γ : DL.Env} {a1 a2 a3 a4 a5 a6 a7 : D} (h1 : i1 Γ = .ret a1) (h2 : i2 Γ = .ret a2) (h3 : i3 Γ = .ret a3) (h4 : i4 Γ = .ret a4) (h5 : i5 Γ = .ret a5) (h6 : i6 Γ = .ret a6) (h7 : i7 Γ = .ret a7) :
    DL.iLst [i1, i2, i3, i4, i5, i6, i7] Γ = .ret (.lst [a1, a2, a3, a4, a5, a6, a7]) := by
  unfold DL.iLst
  simp only [evs, h1, h2, h3, h4, h5, h6, h7, M.ret_bind]
  exact if_pos (by show 7 ≤ sizeLine; rw [sizeLine_eq]; decide)
theorem law_rule_q {zs : List Str} (hz : NamesOk zs) {s : Nat} (h1 : 1 ≤ s) (h2 : s < zs.length) : Yl (lrQ (envR zs (some (.fz (.int s))) none none)) 1 fun fl => ∃ Γ', fl = .nx Γ' ∧ ∃ q1 q2 : Nat, (0 < q1 ∧ q1 < q2 ∧ q2 ≤ 100) ∧ Γ' = envR zs (some (.fz (.int s))) (some (.fz (.tup [.int q1, .int q2]))) none := by
  have h4 := hz.four
  unfold lrQ DL.sSet iOp
  rw [lst7 (tup2 rfl rfl) (tup2 rfl rfl) (tup2 (b := .int ((s + 1 : Nat) : Int)) rfl rfl) (tup2 rfl rfl) (tup2 rfl rfl) (tup2 rfl rfl) (tup2 rfl rfl)]
  rw [M.ret_bind, M.bind_assoc]
  refine (Yl.bind (k := 1) (l := 0) (Yl_nextL (n := 7) (by decide) (by decide) rfl rfl) fun d hd => ?_)
  obtain ⟨i, hi, rfl⟩ := hd
  match i, hi with
  | 0, _ => exact Yl.of_eq rfl ⟨_, rfl, 1, 2, by omega, rfl⟩
  | 1, _ => exact Yl.of_eq rfl ⟨_, rfl, 1, 3, by omega, rfl⟩
  | 2, _ => exact Yl.of_eq rfl ⟨_, rfl, 1, s + 1, by omega, rfl⟩
  | 3, _ => exact Yl.of_eq rfl ⟨_, rfl, 2, 5, by omega, rfl⟩
  | 4, _ => exact Yl.of_eq rfl ⟨_, rfl, 1, 100, by omega, rfl⟩
  | 5, _ => exact Yl.of_eq rfl ⟨_, rfl, 3, 4, by omega, rfl⟩
  | 6, _ => exact Yl.of_eq rfl ⟨_, rfl, 99, 100, by omega, rfl⟩
theorem law_rule_h {zs : List Str} {s q : Option B} : Yl (lrH (envR zs s q none)) 1 fun fl => ∃ Γ', fl = .nx Γ' ∧ ∃ h1 h2 : Nat, (h1 ≤ h2 ∧ 1 ≤ h2 ∧ h2 ≤ 100) ∧ Γ' = envR zs s q (some (.fz (.tup [.int h1, .int h2]))) := by
  unfold lrH DL.sSet iOp
  rw [lst7 (tup2 rfl rfl) (tup2 rfl rfl) (tup2 rfl rfl) (tup2 rfl rfl) (tup2 rfl rfl) (tup2 rfl rfl) (tup2 rfl rfl)]
  rw [M.ret_bind, M.bind_assoc]
  refine (Yl.bind (k := 1) (l := 0) (Yl_nextL (n := 7) (by decide) (by decide) rfl rfl) fun d hd => ?_)
  obtain ⟨i, hi, rfl⟩ := hd
  match i, hi with
  | 0, _ => exact Yl.of_eq rfl ⟨_, rfl, 0, 1, by omega, rfl⟩
  | 1, _ => exact Yl.of_eq rfl ⟨_, rfl, 1, 1, by omega, rfl⟩
  | 2, _ => exact Yl.of_eq rfl ⟨_, rfl, 1, 2, by omega, rfl⟩
  | 3, _ => exact Yl.of_eq rfl ⟨_, rfl, 1, 3, by omega, rfl⟩
  | 4, _ => exact Yl.of_eq rfl ⟨_, rfl, 2, 3, by omega, rfl⟩
  | 5, _ => exact Yl.of_eq rfl ⟨_, rfl, 0, 7, by omega, rfl⟩
  | 6, _ => exact Yl.of_eq rfl ⟨_, rfl, 99, 100, by omega, rfl⟩
end Lw
namespace Lw
open PySem PySem.Spec L2 DL
theorem law_rule {zs : List Str} (hz : NamesOk zs) : Yl (m__law_rule [.rnd, .tup (zs.map D.str)]) 8 fun d => RuleT d zs := by
  have h2 := hz.two
  have h4 := hz.four
  unfold m__law_rule b__law_rule
  refine Yl.fn ?_
  have e0 : env0 5 [D.rnd, .tup (zs.map D.str)] = envR zs none none none := rfl
  rw [e0]
  refine (Yl.seq (k := 1) (l := 7) (I := fun Γ => ∃ s : Nat, 1 ≤ s ∧ s < zs.length ∧ Γ = envR zs (some (.fz (.int s))) none none) ?_ ?_).mono (by decide) fun _ x => x
  · unfold DL.sSet iOp
    refine (Yl.bind (k := 1) (l := 0) (P := fun d => ∃ s : Nat, 1 ≤ s ∧ s < zs.length ∧ d = .int s) ?_ ?_)
    · refine (Yl.bind (k := 0) (l := 1) (P := fun d => d = .int 1) (Yl.of_eq (a := .int 1) rfl rfl) fun d hd => ?_)
      subst hd
      refine (Yl.bind (k := 1) (l := 0) (Yl_nextL (n := zs.length - 1) (by omega) (by omega) rfl ?_) fun d hd => ?_)
      · show (match fLen [D.tup (zs.map D.str)] with | some d => M.ret d | none => .stuck).bind _ = _
        rw [fLen_tup, List.length_map]
        show M.ret (D.int ((zs.length : Int) - 1)) = _
        congr 2
        omega
      · obtain ⟨i, hi, rfl⟩ := hd
        refine Yl.of_eq (a := .int ((1 + i : Nat) : Int)) ?_ ⟨1 + i, by omega, by omega, rfl⟩
        show M.ret (D.int (1 + (i : Int))) = _
        congr 2
    · rintro d ⟨s, h1, h2, rfl⟩
      exact Yl.ret ⟨_, rfl, s, h1, h2, rfl⟩
  · rintro Γ ⟨s, s1, s2, rfl⟩
    refine (Yl.seq (k := 1) (l := 6) (law_rule_q hz s1 s2) ?_)
    rintro Γ ⟨q1, q2, hq, rfl⟩
    refine (Yl.seq (k := 1) (l := 5) law_rule_h ?_)
    rintro Γ ⟨g1, g2, hg, rfl⟩
    unfold DL.sRet DL.iTup
    rw [M.bind_assoc]
    refine (Yl.bind (k := 5) (l := 0) (Yl.evs_cons (k := 0) (P := fun d => d = .tup (zs.map D.str)) (Yl.of_eq rfl rfl) (Yl.evs_cons (k := 0) (P := fun d => d = .int s) (Yl.of_eq rfl rfl) (Yl.evs_cons (k := 0) (P := fun d => d = .tup [.int q1, .int q2]) (Yl.of_eq rfl rfl)
      (Yl.evs_cons (k := 1) (P := fun d => ∃ b, d = .bl b) ?_ (Yl.evs_cons (k := 0) (P := fun d => d = .tup [.int g1, .int g2]) (Yl.of_eq rfl rfl) (Yl.evs_cons (k := 4) (P := fun d => ∃ os : List Str, d = .tup (os.map D.str) ∧ os.Perm zs) (law_order h4) Yl.evs_nil)))))) fun ds hd => ?_)
    · unfold iOp
      refine (Yl.bind (k := 1) (l := 0) (Yl_nextL (n := 2) (by decide) (by decide) rfl rfl) fun d hd => ?_)
      obtain ⟨i, _, rfl⟩ := hd
      refine Yl.of_eq (a := .bl (decide ((i : Int) = 0))) ?_ ⟨_, rfl⟩
      show (match fEq (.int (i : Nat)) (.int 0) with | some d => M.ret d | none => .stuck) = _
      rw [fEq_int]
    · obtain ⟨_, _, rfl, rfl, _, _, rfl, rfl, _, _, rfl, rfl, _, _, rfl, ⟨b, rfl⟩, _, _, rfl, rfl, _, _, rfl, ⟨os, rfl, hp⟩, rfl⟩ := hd
      refine Yl.of_eq (a := .rt (.tup (ruleD zs s q1 q2 b g1 g2 os))) ?_ ⟨_, rfl, s, q1, q2, b, g1, g2, os, rfl, hz, s1, s2, hq, hg, hp⟩
      have e : ∀ ds : List D, ds.length = 6 → ((if ds.length ≤ sizeLine then M.ret (D.tup ds) else .stuck).bind fun d => M.ret (Fl.rt d)) = .ret (.rt (.tup ds)) := fun ds h => by
        rw [if_pos (by rw [h, sizeLine_eq]; decide)]
        rfl
      exact e _ rfl
/-- the rule that is made -/
def ruleI (zs : List Str) (seats q1 q2 : Nat) (over : Bool) (h1 h2 : Nat) (os : List Str) : D := .ins 4 (ruleD zs seats q1 q2 over h1 h2 os)
theorem is_within_nat (s n : Nat) (h1 : 1 ≤ s) (h2 : s ≤ n) : m_is_within [.int s, .int 1, .int n] = .ret (.bl true) := by
  rw [is_within_eq, decide_eq_true (by omega), decide_eq_true (by omega)]
  rfl
theorem seq_nx {s t : IS} {Γ Γ' : DL.Env} (h : s Γ = .ret (.nx Γ')) : DL.sSeq s t Γ = t Γ' := by
  unfold DL.sSeq
  rw [h]
  rfl
theorem if_no {c : IT} {s : IS} {Γ : DL.Env} (h : c Γ = .ret false) : DL.sIf c s DL.sPass Γ = .ret (.nx Γ) := by
  unfold DL.sIf
  rw [h]
  rfl
theorem not_yes {i : IE} {Γ : DL.Env} (h : i Γ = .ret (.bl true)) : notB (asB i) Γ = .ret false := by
  unfold notB asB
  rw [h]
  rfl
theorem call1 {m : List D → M D} {i : IE} {Γ : DL.Env} {a : D} (h : i Γ = .ret a) : iCall m [i] Γ = m [a] := by
  unfold iCall
  rw [evs_one h]
  rfl
theorem call2 {m : List D → M D} {i j : IE} {Γ : DL.Env} {a b : D} (h : i Γ = .ret a) (h2 : j Γ = .ret b) : iCall m [i, j] Γ = m [a, b] := by
  unfold iCall evs
  rw [h, M.ret_bind, evs_one h2]
  rfl
theorem call3 {m : List D → M D} {i j k : IE} {Γ : DL.Env} {a b c : D} (h : i Γ = .ret a) (h2 : j Γ = .ret b) (h3 : k Γ = .ret c) : iCall m [i, j, k] Γ = m [a, b, c] := by
  unfold iCall evs evs
  rw [h, M.ret_bind, h2, M.ret_bind, evs_one h3]
  rfl
abbrev envI (fs : List (Str × D)) (ds : List D) : DL.Env := some (.os 4 fs) :: ds.map fun d => some (.fz d)
theorem self_set {f : Str} {i : IE} {fs : List (Str × D)} {ds : List D} {d : D} (h : i (envI fs ds) = .ret d) (hf : f ∉ fs.map (·.1)) (hl : fs.length < 1000) : sSelf (fun c => decide (c = 4)) 0 f i (envI fs ds) = .ret (.nx (envI (fs ++ [(f, d)]) ds)) := by
  unfold sSelf
  rw [h, M.ret_bind]
  show (if decide (4 = 4) = true ∧ f ∉ fs.map (·.1) ∧ fs.length < 1000 then M.ret (Fl.nx (List.set (envI fs ds) 0 (some (.os 4 (fs ++ [(f, d)]))))) else .stuck) = _
  rw [if_pos ⟨rfl, hf, hl⟩]
  rfl
theorem feqS {a b : Str} {t : Bool} (h : decide (a = b) = t) : fEq (.str a) (.str b) = some (.bl t) := by rw [fEq_str, h]
theorem field_seats {zs : List Str} (s : Nat) (h1 : 1 ≤ s) (h2 : s < zs.length) : m_is_field [.tup (zs.map D.str), .str (Str.ofString "seats"), .int s] = .ret (.bl true) := by
  unfold m_is_field b_is_field
  simp only [DL.runFn, DL.sRet, DL.sSet, DL.sSeq, DL.sIf, DL.sPass, DL.sRaise, DL.iAnd, DL.iOr, DL.iNot, DL.iIf, DL.asB, DL.notB, DL.andB, DL.orB, DL.iCall, DL.iBi, DL.iOp, DL.iChain, DL.iChain3, DL.iVar, DL.iUse, DL.iLit, DL.iTup, DL.iLst, DL.evs, DL.env0, DL.oNone, DL.oSome, DL.iSl, DL.M.ret_bind, DL.M.bind_ite, DL.M.stuck_bind, DL.M.exc_bind, DL.M.choose_bind, DL.M.ret_noX, List.map_cons, List.map_nil, List.length_cons, List.length_nil, List.cons_append, List.nil_append, List.getElem?_cons_zero, List.getElem?_cons_succ, Nat.reduceAdd, Nat.reduceSub, List.reduceReplicate, List.append_nil, List.replicate_zero, Bool.false_eq_true, if_false, if_true, List.set_cons_zero, List.set_cons_succ, Bool.not_true, Bool.not_false]
  rw [feqS (t := true) (by decide +kernel)]
  simp only [M.ret_bind, if_true, fLen_tup, List.length_map]
  rw [show fSubI (.int (zs.length : Int)) (.int 1) = some (.int ((zs.length - 1 : Nat) : Int)) from congrArg (fun z => some (D.int z)) (by omega)]
  simp only [M.ret_bind]
  rw [is_within_nat s (zs.length - 1) h1 (by omega)]
  rfl
theorem field_quota {n : D} (i j : Int) (h : 0 < i ∧ i < j ∧ j ≤ 100) : m_is_field [n, .str (Str.ofString "quota"), .tup [.int i, .int j]] = .ret (.bl true) := by
  unfold m_is_field b_is_field
  simp only [DL.runFn, DL.sRet, DL.sSet, DL.sSeq, DL.sIf, DL.sPass, DL.sRaise, DL.iAnd, DL.iOr, DL.iNot, DL.iIf, DL.asB, DL.notB, DL.andB, DL.orB, DL.iCall, DL.iBi, DL.iOp, DL.iChain, DL.iChain3, DL.iVar, DL.iUse, DL.iLit, DL.iTup, DL.iLst, DL.evs, DL.env0, DL.oNone, DL.oSome, DL.iSl, DL.M.ret_bind, DL.M.bind_ite, DL.M.stuck_bind, DL.M.exc_bind, DL.M.choose_bind, DL.M.ret_noX, List.map_cons, List.map_nil, List.length_cons, List.length_nil, List.cons_append, List.nil_append, List.getElem?_cons_zero, List.getElem?_cons_succ, Nat.reduceAdd, Nat.reduceSub, List.reduceReplicate, List.append_nil, List.replicate_zero, Bool.false_eq_true, if_false, if_true, List.set_cons_zero, List.set_cons_succ, Bool.not_true, Bool.not_false]
  rw [feqS (t := false) (by decide +kernel)]
  simp only [DL.runFn, DL.sRet, DL.sSet, DL.sSeq, DL.sIf, DL.sPass, DL.sRaise, DL.iAnd, DL.iOr, DL.iNot, DL.iIf, DL.asB, DL.notB, DL.andB, DL.orB, DL.iCall, DL.iBi, DL.iOp, DL.iChain, DL.iChain3, DL.iVar, DL.iUse, DL.iLit, DL.iTup, DL.iLst, DL.evs, DL.env0, DL.oNone, DL.oSome, DL.iSl, DL.M.ret_bind, DL.M.bind_ite, DL.M.stuck_bind, DL.M.exc_bind, DL.M.choose_bind, DL.M.ret_noX, List.map_cons, List.map_nil, List.length_cons, List.length_nil, List.cons_append, List.nil_append, List.getElem?_cons_zero, List.getElem?_cons_succ, Nat.reduceAdd, Nat.reduceSub, List.reduceReplicate, List.append_nil, List.replicate_zero, Bool.false_eq_true, if_false, if_true, List.set_cons_zero, List.set_cons_succ, Bool.not_true, Bool.not_false]
  rw [feqS (t := true) (by decide +kernel)]
  simp only [DL.runFn, DL.sRet, DL.sSet, DL.sSeq, DL.sIf, DL.sPass, DL.sRaise, DL.iAnd, DL.iOr, DL.iNot, DL.iIf, DL.asB, DL.notB, DL.andB, DL.orB, DL.iCall, DL.iBi, DL.iOp, DL.iChain, DL.iChain3, DL.iVar, DL.iUse, DL.iLit, DL.iTup, DL.iLst, DL.evs, DL.env0, DL.oNone, DL.oSome, DL.iSl, DL.M.ret_bind, DL.M.bind_ite, DL.M.stuck_bind, DL.M.exc_bind, DL.M.choose_bind, DL.M.ret_noX, List.map_cons, List.map_nil, List.length_cons, List.length_nil, List.cons_append, List.nil_append, List.getElem?_cons_zero, List.getElem?_cons_succ, Nat.reduceAdd, Nat.reduceSub, List.reduceReplicate, List.append_nil, List.replicate_zero, Bool.false_eq_true, if_false, if_true, List.set_cons_zero, List.set_cons_succ, Bool.not_true, Bool.not_false]
  have e1 : fIx (.tup [.int i, .int j]) (.int 0) = some (.int i) := rfl
  have e2 : fIx (.tup [.int i, .int j]) (.int 1) = some (.int j) := rfl
  simp only [M.ret_bind, if_true, Bool.false_eq_true, if_false, is_integer_pair_eq, e1, e2, fLt_int, fLe_int, decide_eq_true h.1, decide_eq_true h.2.1, decide_eq_true h.2.2]
theorem field_over {n : D} (b : Bool) : m_is_field [n, .str (Str.ofString "over"), .bl b] = .ret (.bl true) := by
  unfold m_is_field b_is_field
  simp only [DL.runFn, DL.sRet, DL.sSet, DL.sSeq, DL.sIf, DL.sPass, DL.sRaise, DL.iAnd, DL.iOr, DL.iNot, DL.iIf, DL.asB, DL.notB, DL.andB, DL.orB, DL.iCall, DL.iBi, DL.iOp, DL.iChain, DL.iChain3, DL.iVar, DL.iUse, DL.iLit, DL.iTup, DL.iLst, DL.evs, DL.env0, DL.oNone, DL.oSome, DL.iSl, DL.M.ret_bind, DL.M.bind_ite, DL.M.stuck_bind, DL.M.exc_bind, DL.M.choose_bind, DL.M.ret_noX, List.map_cons, List.map_nil, List.length_cons, List.length_nil, List.cons_append, List.nil_append, List.getElem?_cons_zero, List.getElem?_cons_succ, Nat.reduceAdd, Nat.reduceSub, List.reduceReplicate, List.append_nil, List.replicate_zero, Bool.false_eq_true, if_false, if_true, List.set_cons_zero, List.set_cons_succ, Bool.not_true, Bool.not_false]
  rw [feqS (a := Str.ofString "over") (b := Str.ofString "seats") (t := false) (by decide +kernel)]
  simp only [DL.runFn, DL.sRet, DL.sSet, DL.sSeq, DL.sIf, DL.sPass, DL.sRaise, DL.iAnd, DL.iOr, DL.iNot, DL.iIf, DL.asB, DL.notB, DL.andB, DL.orB, DL.iCall, DL.iBi, DL.iOp, DL.iChain, DL.iChain3, DL.iVar, DL.iUse, DL.iLit, DL.iTup, DL.iLst, DL.evs, DL.env0, DL.oNone, DL.oSome, DL.iSl, DL.M.ret_bind, DL.M.bind_ite, DL.M.stuck_bind, DL.M.exc_bind, DL.M.choose_bind, DL.M.ret_noX, List.map_cons, List.map_nil, List.length_cons, List.length_nil, List.cons_append, List.nil_append, List.getElem?_cons_zero, List.getElem?_cons_succ, Nat.reduceAdd, Nat.reduceSub, List.reduceReplicate, List.append_nil, List.replicate_zero, Bool.false_eq_true, if_false, if_true, List.set_cons_zero, List.set_cons_succ, Bool.not_true, Bool.not_false]
  rw [feqS (a := Str.ofString "over") (b := Str.ofString "quota") (t := false) (by decide +kernel)]
  simp only [DL.runFn, DL.sRet, DL.sSet, DL.sSeq, DL.sIf, DL.sPass, DL.sRaise, DL.iAnd, DL.iOr, DL.iNot, DL.iIf, DL.asB, DL.notB, DL.andB, DL.orB, DL.iCall, DL.iBi, DL.iOp, DL.iChain, DL.iChain3, DL.iVar, DL.iUse, DL.iLit, DL.iTup, DL.iLst, DL.evs, DL.env0, DL.oNone, DL.oSome, DL.iSl, DL.M.ret_bind, DL.M.bind_ite, DL.M.stuck_bind, DL.M.exc_bind, DL.M.choose_bind, DL.M.ret_noX, List.map_cons, List.map_nil, List.length_cons, List.length_nil, List.cons_append, List.nil_append, List.getElem?_cons_zero, List.getElem?_cons_succ, Nat.reduceAdd, Nat.reduceSub, List.reduceReplicate, List.append_nil, List.replicate_zero, Bool.false_eq_true, if_false, if_true, List.set_cons_zero, List.set_cons_succ, Bool.not_true, Bool.not_false]
  rw [feqS (t := true) (by decide +kernel)]
  simp only [DL.runFn, DL.sRet, DL.sSet, DL.sSeq, DL.sIf, DL.sPass, DL.sRaise, DL.iAnd, DL.iOr, DL.iNot, DL.iIf, DL.asB, DL.notB, DL.andB, DL.orB, DL.iCall, DL.iBi, DL.iOp, DL.iChain, DL.iChain3, DL.iVar, DL.iUse, DL.iLit, DL.iTup, DL.iLst, DL.evs, DL.env0, DL.oNone, DL.oSome, DL.iSl, DL.M.ret_bind, DL.M.bind_ite, DL.M.stuck_bind, DL.M.exc_bind, DL.M.choose_bind, DL.M.ret_noX, List.map_cons, List.map_nil, List.length_cons, List.length_nil, List.cons_append, List.nil_append, List.getElem?_cons_zero, List.getElem?_cons_succ, Nat.reduceAdd, Nat.reduceSub, List.reduceReplicate, List.append_nil, List.replicate_zero, Bool.false_eq_true, if_false, if_true, List.set_cons_zero, List.set_cons_succ, Bool.not_true, Bool.not_false]
  cases b <;> rfl
theorem field_hand {n : D} (i j : Int) (h : 0 ≤ i ∧ i ≤ j ∧ 1 ≤ j ∧ j ≤ 100) : m_is_field [n, .str (Str.ofString "hand"), .tup [.int i, .int j]] = .ret (.bl true) := by
  unfold m_is_field b_is_field
  simp only [DL.runFn, DL.sRet, DL.sSet, DL.sSeq, DL.sIf, DL.sPass, DL.sRaise, DL.iAnd, DL.iOr, DL.iNot, DL.iIf, DL.asB, DL.notB, DL.andB, DL.orB, DL.iCall, DL.iBi, DL.iOp, DL.iChain, DL.iChain3, DL.iVar, DL.iUse, DL.iLit, DL.iTup, DL.iLst, DL.evs, DL.env0, DL.oNone, DL.oSome, DL.iSl, DL.M.ret_bind, DL.M.bind_ite, DL.M.stuck_bind, DL.M.exc_bind, DL.M.choose_bind, DL.M.ret_noX, List.map_cons, List.map_nil, List.length_cons, List.length_nil, List.cons_append, List.nil_append, List.getElem?_cons_zero, List.getElem?_cons_succ, Nat.reduceAdd, Nat.reduceSub, List.reduceReplicate, List.append_nil, List.replicate_zero, Bool.false_eq_true, if_false, if_true, List.set_cons_zero, List.set_cons_succ, Bool.not_true, Bool.not_false]
  rw [feqS (a := Str.ofString "hand") (b := Str.ofString "seats") (t := false) (by decide +kernel)]
  simp only [DL.runFn, DL.sRet, DL.sSet, DL.sSeq, DL.sIf, DL.sPass, DL.sRaise, DL.iAnd, DL.iOr, DL.iNot, DL.iIf, DL.asB, DL.notB, DL.andB, DL.orB, DL.iCall, DL.iBi, DL.iOp, DL.iChain, DL.iChain3, DL.iVar, DL.iUse, DL.iLit, DL.iTup, DL.iLst, DL.evs, DL.env0, DL.oNone, DL.oSome, DL.iSl, DL.M.ret_bind, DL.M.bind_ite, DL.M.stuck_bind, DL.M.exc_bind, DL.M.choose_bind, DL.M.ret_noX, List.map_cons, List.map_nil, List.length_cons, List.length_nil, List.cons_append, List.nil_append, List.getElem?_cons_zero, List.getElem?_cons_succ, Nat.reduceAdd, Nat.reduceSub, List.reduceReplicate, List.append_nil, List.replicate_zero, Bool.false_eq_true, if_false, if_true, List.set_cons_zero, List.set_cons_succ, Bool.not_true, Bool.not_false]
  rw [feqS (a := Str.ofString "hand") (b := Str.ofString "quota") (t := false) (by decide +kernel)]
  simp only [DL.runFn, DL.sRet, DL.sSet, DL.sSeq, DL.sIf, DL.sPass, DL.sRaise, DL.iAnd, DL.iOr, DL.iNot, DL.iIf, DL.asB, DL.notB, DL.andB, DL.orB, DL.iCall, DL.iBi, DL.iOp, DL.iChain, DL.iChain3, DL.iVar, DL.iUse, DL.iLit, DL.iTup, DL.iLst, DL.evs, DL.env0, DL.oNone, DL.oSome, DL.iSl, DL.M.ret_bind, DL.M.bind_ite, DL.M.stuck_bind, DL.M.exc_bind, DL.M.choose_bind, DL.M.ret_noX, List.map_cons, List.map_nil, List.length_cons, List.length_nil, List.cons_append, List.nil_append, List.getElem?_cons_zero, List.getElem?_cons_succ, Nat.reduceAdd, Nat.reduceSub, List.reduceReplicate, List.append_nil, List.replicate_zero, Bool.false_eq_true, if_false, if_true, List.set_cons_zero, List.set_cons_succ, Bool.not_true, Bool.not_false]
  rw [feqS (a := Str.ofString "hand") (b := Str.ofString "over") (t := false) (by decide +kernel)]
  simp only [DL.runFn, DL.sRet, DL.sSet, DL.sSeq, DL.sIf, DL.sPass, DL.sRaise, DL.iAnd, DL.iOr, DL.iNot, DL.iIf, DL.asB, DL.notB, DL.andB, DL.orB, DL.iCall, DL.iBi, DL.iOp, DL.iChain, DL.iChain3, DL.iVar, DL.iUse, DL.iLit, DL.iTup, DL.iLst, DL.evs, DL.env0, DL.oNone, DL.oSome, DL.iSl, DL.M.ret_bind, DL.M.bind_ite, DL.M.stuck_bind, DL.M.exc_bind, DL.M.choose_bind, DL.M.ret_noX, List.map_cons, List.map_nil, List.length_cons, List.length_nil, List.cons_append, List.nil_append, List.getElem?_cons_zero, List.getElem?_cons_succ, Nat.reduceAdd, Nat.reduceSub, List.reduceReplicate, List.append_nil, List.replicate_zero, Bool.false_eq_true, if_false, if_true, List.set_cons_zero, List.set_cons_succ, Bool.not_true, Bool.not_false]
  rw [feqS (t := true) (by decide +kernel)]
  simp only [DL.runFn, DL.sRet, DL.sSet, DL.sSeq, DL.sIf, DL.sPass, DL.sRaise, DL.iAnd, DL.iOr, DL.iNot, DL.iIf, DL.asB, DL.notB, DL.andB, DL.orB, DL.iCall, DL.iBi, DL.iOp, DL.iChain, DL.iChain3, DL.iVar, DL.iUse, DL.iLit, DL.iTup, DL.iLst, DL.evs, DL.env0, DL.oNone, DL.oSome, DL.iSl, DL.M.ret_bind, DL.M.bind_ite, DL.M.stuck_bind, DL.M.exc_bind, DL.M.choose_bind, DL.M.ret_noX, List.map_cons, List.map_nil, List.length_cons, List.length_nil, List.cons_append, List.nil_append, List.getElem?_cons_zero, List.getElem?_cons_succ, Nat.reduceAdd, Nat.reduceSub, List.reduceReplicate, List.append_nil, List.replicate_zero, Bool.false_eq_true, if_false, if_true, List.set_cons_zero, List.set_cons_succ, Bool.not_true, Bool.not_false]
  have e1 : fIx (.tup [.int i, .int j]) (.int 0) = some (.int i) := rfl
  have e2 : fIx (.tup [.int i, .int j]) (.int 1) = some (.int j) := rfl
  simp only [M.ret_bind, if_true, Bool.false_eq_true, if_false, is_integer_pair_eq, e1, e2, fLt_int, fLe_int, decide_eq_true h.1, decide_eq_true h.2.1, decide_eq_true h.2.2.1, decide_eq_true h.2.2.2]
theorem field_order {zs os : List Str} (hz : NamesOk zs) (hp : os.Perm zs) : m_is_field [.tup (zs.map D.str), .str (Str.ofString "order"), .tup (os.map D.str)] = .ret (.bl true) := by
  have t2 := hz.two
  have ol : os.length = zs.length := hp.length_eq
  unfold m_is_field b_is_field
  simp only [DL.runFn, DL.sRet, DL.sSet, DL.sSeq, DL.sIf, DL.sPass, DL.sRaise, DL.iAnd, DL.iOr, DL.iNot, DL.iIf, DL.asB, DL.notB, DL.andB, DL.orB, DL.iCall, DL.iBi, DL.iOp, DL.iChain, DL.iChain3, DL.iVar, DL.iUse, DL.iLit, DL.iTup, DL.iLst, DL.evs, DL.env0, DL.oNone, DL.oSome, DL.iSl, DL.M.ret_bind, DL.M.bind_ite, DL.M.stuck_bind, DL.M.exc_bind, DL.M.choose_bind, DL.M.ret_noX, List.map_cons, List.map_nil, List.length_cons, List.length_nil, List.cons_append, List.nil_append, List.getElem?_cons_zero, List.getElem?_cons_succ, Nat.reduceAdd, Nat.reduceSub, List.reduceReplicate, List.append_nil, List.replicate_zero, Bool.false_eq_true, if_false, if_true, List.set_cons_zero, List.set_cons_succ, Bool.not_true, Bool.not_false]
  rw [feqS (a := Str.ofString "order") (b := Str.ofString "seats") (t := false) (by decide +kernel)]
  simp only [DL.runFn, DL.sRet, DL.sSet, DL.sSeq, DL.sIf, DL.sPass, DL.sRaise, DL.iAnd, DL.iOr, DL.iNot, DL.iIf, DL.asB, DL.notB, DL.andB, DL.orB, DL.iCall, DL.iBi, DL.iOp, DL.iChain, DL.iChain3, DL.iVar, DL.iUse, DL.iLit, DL.iTup, DL.iLst, DL.evs, DL.env0, DL.oNone, DL.oSome, DL.iSl, DL.M.ret_bind, DL.M.bind_ite, DL.M.stuck_bind, DL.M.exc_bind, DL.M.choose_bind, DL.M.ret_noX, List.map_cons, List.map_nil, List.length_cons, List.length_nil, List.cons_append, List.nil_append, List.getElem?_cons_zero, List.getElem?_cons_succ, Nat.reduceAdd, Nat.reduceSub, List.reduceReplicate, List.append_nil, List.replicate_zero, Bool.false_eq_true, if_false, if_true, List.set_cons_zero, List.set_cons_succ, Bool.not_true, Bool.not_false]
  rw [feqS (a := Str.ofString "order") (b := Str.ofString "quota") (t := false) (by decide +kernel)]
  simp only [DL.runFn, DL.sRet, DL.sSet, DL.sSeq, DL.sIf, DL.sPass, DL.sRaise, DL.iAnd, DL.iOr, DL.iNot, DL.iIf, DL.asB, DL.notB, DL.andB, DL.orB, DL.iCall, DL.iBi, DL.iOp, DL.iChain, DL.iChain3, DL.iVar, DL.iUse, DL.iLit, DL.iTup, DL.iLst, DL.evs, DL.env0, DL.oNone, DL.oSome, DL.iSl, DL.M.ret_bind, DL.M.bind_ite, DL.M.stuck_bind, DL.M.exc_bind, DL.M.choose_bind, DL.M.ret_noX, List.map_cons, List.map_nil, List.length_cons, List.length_nil, List.cons_append, List.nil_append, List.getElem?_cons_zero, List.getElem?_cons_succ, Nat.reduceAdd, Nat.reduceSub, List.reduceReplicate, List.append_nil, List.replicate_zero, Bool.false_eq_true, if_false, if_true, List.set_cons_zero, List.set_cons_succ, Bool.not_true, Bool.not_false]
  rw [feqS (a := Str.ofString "order") (b := Str.ofString "over") (t := false) (by decide +kernel)]
  simp only [DL.runFn, DL.sRet, DL.sSet, DL.sSeq, DL.sIf, DL.sPass, DL.sRaise, DL.iAnd, DL.iOr, DL.iNot, DL.iIf, DL.asB, DL.notB, DL.andB, DL.orB, DL.iCall, DL.iBi, DL.iOp, DL.iChain, DL.iChain3, DL.iVar, DL.iUse, DL.iLit, DL.iTup, DL.iLst, DL.evs, DL.env0, DL.oNone, DL.oSome, DL.iSl, DL.M.ret_bind, DL.M.bind_ite, DL.M.stuck_bind, DL.M.exc_bind, DL.M.choose_bind, DL.M.ret_noX, List.map_cons, List.map_nil, List.length_cons, List.length_nil, List.cons_append, List.nil_append, List.getElem?_cons_zero, List.getElem?_cons_succ, Nat.reduceAdd, Nat.reduceSub, List.reduceReplicate, List.append_nil, List.replicate_zero, Bool.false_eq_true, if_false, if_true, List.set_cons_zero, List.set_cons_succ, Bool.not_true, Bool.not_false]
  rw [feqS (a := Str.ofString "order") (b := Str.ofString "hand") (t := false) (by decide +kernel)]
  simp only [DL.runFn, DL.sRet, DL.sSet, DL.sSeq, DL.sIf, DL.sPass, DL.sRaise, DL.iAnd, DL.iOr, DL.iNot, DL.iIf, DL.asB, DL.notB, DL.andB, DL.orB, DL.iCall, DL.iBi, DL.iOp, DL.iChain, DL.iChain3, DL.iVar, DL.iUse, DL.iLit, DL.iTup, DL.iLst, DL.evs, DL.env0, DL.oNone, DL.oSome, DL.iSl, DL.M.ret_bind, DL.M.bind_ite, DL.M.stuck_bind, DL.M.exc_bind, DL.M.choose_bind, DL.M.ret_noX, List.map_cons, List.map_nil, List.length_cons, List.length_nil, List.cons_append, List.nil_append, List.getElem?_cons_zero, List.getElem?_cons_succ, Nat.reduceAdd, Nat.reduceSub, List.reduceReplicate, List.append_nil, List.replicate_zero, Bool.false_eq_true, if_false, if_true, List.set_cons_zero, List.set_cons_succ, Bool.not_true, Bool.not_false]
  rw [is_paper_eq hz (hp.nodup_iff.mpr (asc_nodup hz.asc)) (by omega) (by omega) fun o ho => hp.mem_iff.mp ho]
  simp only [M.ret_bind, if_true, fLen_tup, List.length_map, fEq_int, ol, decide_true]
/-- one turn of the look at a rule's fields -/
theorem field_turn {G : DL.Env} {n : D} {p x : D} {rest : List D} {G' : DL.Env} (h7 : G.length = 9) (h1 : G[1]? = some (some (.fz n))) (hf : m_is_field [n, p, x] = .ret (.bl true)) (hG : (G.set 7 (some (.fz p))).set 8 (some (.fz x)) = G') :
    loop (gT [(gN 7), (gN 8)]) (sIf (notB (asB (iCall (m_is_field) [(iVar 1), (iVar 7), (iVar 8)]))) (sRaise 2 (iVar 7)) sPass) (.tup [p, x] :: rest) G = loop (gT [(gN 7), (gN 8)]) (sIf (notB (asB (iCall (m_is_field) [(iVar 1), (iVar 7), (iVar 8)]))) (sRaise 2 (iVar 7)) sPass) rest G' := by
  subst hG
  have e1 : gT [(gN 7), (gN 8)] (.tup [p, x]) G = .ret ((G.set 7 (some (.fz p))).set 8 (some (.fz x))) := rfl
  have v1 : iVar 1 ((G.set 7 (some (.fz p))).set 8 (some (.fz x))) = .ret n := by
    unfold iVar
    rw [List.getElem?_set_ne (by decide), List.getElem?_set_ne (by decide), h1]
  have v7 : iVar 7 ((G.set 7 (some (.fz p))).set 8 (some (.fz x))) = .ret p := by
    unfold iVar
    rw [List.getElem?_set_ne (by decide), List.getElem?_set_self (by omega)]
  have v8 : iVar 8 ((G.set 7 (some (.fz p))).set 8 (some (.fz x))) = .ret x := by
    unfold iVar
    rw [List.getElem?_set_self (by rw [List.length_set]; omega)]
  rw [loop, e1, M.ret_bind, if_no (not_yes (by rw [call3 v1 v7 v8]; exact hf))]
  rfl
theorem rule_init {zs os : List Str} {s q1 q2 h1 h2 : Nat} {b : Bool} (h : RuleOk zs s q1 q2 h1 h2 os) : m_Rule___init__ (ruleD zs s q1 q2 b h1 h2 os) = .ret [("names", .tup (zs.map D.str)), ("seats", .int s), ("quota", .tup [.int q1, .int q2]), ("over", .bl b), ("hand", .tup [.int h1, .int h2]), ("order", .tup (os.map D.str))] := by
  have t2 := h.names.two
  have t4 := h.names.four
  have hs2 := h.s2
  have ol : os.length = zs.length := h.order.length_eq
  unfold m_Rule___init__ b_Rule___init__ runIn
  generalize hG : ([some (.os 4 []), some (.fz (.tup (zs.map D.str))), some (.fz (.int s)), some (.fz (.tup [.int q1, .int q2])), some (.fz (.bl b)), some (.fz (.tup [.int h1, .int h2])), some (.fz (.tup (os.map D.str))), none, none] : DL.Env) = G
  have e0 : (some (B.os 4 []) :: env0 (9 - 1) (ruleD zs s q1 q2 b h1 h2 os)) = G := by rw [← hG]; rfl
  show (DL.sSeq _ _ (some (B.os 4 []) :: env0 (9 - 1) (ruleD zs s q1 q2 b h1 h2 os))).bind _ = _
  rw [e0]
  have g1 : iVar 1 G = .ret (.tup (zs.map D.str)) := by subst hG; rfl
  rw [seq_nx (Γ' := G) (by unfold DL.sExpr; rw [call1 g1, need_names_eq h.names]; rfl)]
  have ew : iiZ (iLit (.tup [.str (PySem.Str.ofString "seats"), .str (PySem.Str.ofString "quota"), .str (PySem.Str.ofString "over"), .str (PySem.Str.ofString "hand"), .str (PySem.Str.ofString "order")])) (iTup [(iVar 2), (iVar 3), (iVar 4), (iVar 5), (iVar 6)]) G =
      .ret [.tup [.str (Str.ofString "seats"), .int s], .tup [.str (Str.ofString "quota"), .tup [.int q1, .int q2]], .tup [.str (Str.ofString "over"), .bl b], .tup [.str (Str.ofString "hand"), .tup [.int h1, .int h2]], .tup [.str (Str.ofString "order"), .tup (os.map D.str)]] := by subst hG; rfl
  have hl : DL.sFor (gT [(gN 7), (gN 8)]) (iiZ (iLit (.tup [.str (PySem.Str.ofString "seats"), .str (PySem.Str.ofString "quota"), .str (PySem.Str.ofString "over"), .str (PySem.Str.ofString "hand"), .str (PySem.Str.ofString "order")])) (iTup [(iVar 2), (iVar 3), (iVar 4), (iVar 5), (iVar 6)])) (sIf (notB (asB (iCall (m_is_field) [(iVar 1), (iVar 7), (iVar 8)]))) (sRaise 2 (iVar 7)) sPass) G = .ret (.nx (envI [] (ruleD zs s q1 q2 b h1 h2 os ++ [.str (Str.ofString "order"), .tup (os.map D.str)]))) := by
    unfold DL.sFor
    rw [ew, M.ret_bind]
    subst hG
    rw [field_turn rfl rfl (field_seats s h.s1 hs2) rfl, field_turn rfl rfl (field_quota q1 q2 (by have := h.q; omega)) rfl, field_turn rfl rfl (field_over b) rfl, field_turn rfl rfl (field_hand h1 h2 (by have := h.h; omega)) rfl, field_turn rfl rfl (field_order h.names h.order) rfl]
    rfl
  rw [seq_nx hl]
  clear hG
  have p0 : sSelf (fun c => decide (c = 4)) 0 "names" (iVar 1) (envI [] (ruleD zs s q1 q2 b h1 h2 os ++ [.str (Str.ofString "order"), .tup (os.map D.str)])) = .ret (.nx (envI (([] : List (Str × D)) ++ [(("names" : Str), D.tup (zs.map D.str))]) (ruleD zs s q1 q2 b h1 h2 os ++ [.str (Str.ofString "order"), .tup (os.map D.str)]))) := self_set (fs := []) rfl (show ("names" : Str) ∉ ([] : List Str) by decide +kernel) (by show 0 < 1000; decide)
  have p1 : sSelf (fun c => decide (c = 4)) 0 "seats" (iVar 2) (envI [(("names" : Str), D.tup (zs.map D.str))] (ruleD zs s q1 q2 b h1 h2 os ++ [.str (Str.ofString "order"), .tup (os.map D.str)])) = .ret (.nx (envI ([(("names" : Str), D.tup (zs.map D.str))] ++ [(("seats" : Str), D.int s)]) (ruleD zs s q1 q2 b h1 h2 os ++ [.str (Str.ofString "order"), .tup (os.map D.str)]))) := self_set (fs := [(("names" : Str), D.tup (zs.map D.str))]) rfl (show ("seats" : Str) ∉ (["names"] : List Str) by decide +kernel) (by show 1 < 1000; decide)
  have p2 : sSelf (fun c => decide (c = 4)) 0 "quota" (iVar 3) (envI [(("names" : Str), D.tup (zs.map D.str)), (("seats" : Str), D.int s)] (ruleD zs s q1 q2 b h1 h2 os ++ [.str (Str.ofString "order"), .tup (os.map D.str)])) = .ret (.nx (envI ([(("names" : Str), D.tup (zs.map D.str)), (("seats" : Str), D.int s)] ++ [(("quota" : Str), D.tup [.int q1, .int q2])]) (ruleD zs s q1 q2 b h1 h2 os ++ [.str (Str.ofString "order"), .tup (os.map D.str)]))) := self_set (fs := [(("names" : Str), D.tup (zs.map D.str)), (("seats" : Str), D.int s)]) rfl (show ("quota" : Str) ∉ (["names", "seats"] : List Str) by decide +kernel) (by show 2 < 1000; decide)
  have p3 : sSelf (fun c => decide (c = 4)) 0 "over" (iVar 4) (envI [(("names" : Str), D.tup (zs.map D.str)), (("seats" : Str), D.int s), (("quota" : Str), D.tup [.int q1, .int q2])] (ruleD zs s q1 q2 b h1 h2 os ++ [.str (Str.ofString "order"), .tup (os.map D.str)])) = .ret (.nx (envI ([(("names" : Str), D.tup (zs.map D.str)), (("seats" : Str), D.int s), (("quota" : Str), D.tup [.int q1, .int q2])] ++ [(("over" : Str), D.bl b)]) (ruleD zs s q1 q2 b h1 h2 os ++ [.str (Str.ofString "order"), .tup (os.map D.str)]))) := self_set (fs := [(("names" : Str), D.tup (zs.map D.str)), (("seats" : Str), D.int s), (("quota" : Str), D.tup [.int q1, .int q2])]) rfl (show ("over" : Str) ∉ (["names", "seats", "quota"] : List Str) by decide +kernel) (by show 3 < 1000; decide)
  have p4 : sSelf (fun c => decide (c = 4)) 0 "hand" (iVar 5) (envI [(("names" : Str), D.tup (zs.map D.str)), (("seats" : Str), D.int s), (("quota" : Str), D.tup [.int q1, .int q2]), (("over" : Str), D.bl b)] (ruleD zs s q1 q2 b h1 h2 os ++ [.str (Str.ofString "order"), .tup (os.map D.str)])) = .ret (.nx (envI ([(("names" : Str), D.tup (zs.map D.str)), (("seats" : Str), D.int s), (("quota" : Str), D.tup [.int q1, .int q2]), (("over" : Str), D.bl b)] ++ [(("hand" : Str), D.tup [.int h1, .int h2])]) (ruleD zs s q1 q2 b h1 h2 os ++ [.str (Str.ofString "order"), .tup (os.map D.str)]))) := self_set (fs := [(("names" : Str), D.tup (zs.map D.str)), (("seats" : Str), D.int s), (("quota" : Str), D.tup [.int q1, .int q2]), (("over" : Str), D.bl b)]) rfl (show ("hand" : Str) ∉ (["names", "seats", "quota", "over"] : List Str) by decide +kernel) (by show 4 < 1000; decide)
  have p5 : sSelf (fun c => decide (c = 4)) 0 "order" (iVar 6) (envI [(("names" : Str), D.tup (zs.map D.str)), (("seats" : Str), D.int s), (("quota" : Str), D.tup [.int q1, .int q2]), (("over" : Str), D.bl b), (("hand" : Str), D.tup [.int h1, .int h2])] (ruleD zs s q1 q2 b h1 h2 os ++ [.str (Str.ofString "order"), .tup (os.map D.str)])) = .ret (.nx (envI ([(("names" : Str), D.tup (zs.map D.str)), (("seats" : Str), D.int s), (("quota" : Str), D.tup [.int q1, .int q2]), (("over" : Str), D.bl b), (("hand" : Str), D.tup [.int h1, .int h2])] ++ [(("order" : Str), D.tup (os.map D.str))]) (ruleD zs s q1 q2 b h1 h2 os ++ [.str (Str.ofString "order"), .tup (os.map D.str)]))) := self_set (fs := [(("names" : Str), D.tup (zs.map D.str)), (("seats" : Str), D.int s), (("quota" : Str), D.tup [.int q1, .int q2]), (("over" : Str), D.bl b), (("hand" : Str), D.tup [.int h1, .int h2])]) rfl (show ("order" : Str) ∉ (["names", "seats", "quota", "over", "hand"] : List Str) by decide +kernel) (by show 5 < 1000; decide)
  erw [seq_nx p0, seq_nx p1, seq_nx p2, seq_nx p3, seq_nx p4, p5]
  rfl
theorem rule_made {zs os : List Str} {s q1 q2 h1 h2 : Nat} {b : Bool} (h : RuleOk zs s q1 q2 h1 h2 os) : m__law_made [.tup (ruleD zs s q1 q2 b h1 h2 os)] = .ret (ruleI zs s q1 q2 b h1 h2 os) := by
  have e : mInit 4 fields4 m_Rule___init__ (ruleD zs s q1 q2 b h1 h2 os) = .ret (ruleI zs s q1 q2 b h1 h2 os) := by
    unfold mInit
    rw [rule_init h, M.ret_bind]
    exact if_pos rfl
  unfold m__law_made b__law_made runFn DL.sRet iCal
  have e2 : evs [iOp fIx (iVar 0) (iLit (.int 0)), iOp fIx (iVar 0) (iLit (.int 1)), iOp fIx (iVar 0) (iLit (.int 2)), iOp fIx (iVar 0) (iLit (.int 3)), iOp fIx (iVar 0) (iLit (.int 4)), iOp fIx (iVar 0) (iLit (.int 5))] (env0 1 [D.tup (ruleD zs s q1 q2 b h1 h2 os)]) = .ret (ruleD zs s q1 q2 b h1 h2 os) := by
    rfl
  rw [e2, M.ret_bind, e]
  rfl
end Lw
namespace DL
open PySem PySem.Spec L2
/-- a loop without draws -/
theorem loop_pure {t : IG} {s : IS} (ds : List D) (I : Nat → DL.Env → Prop) (h : ∀ j d Γ, ds[j]? = some d → I j Γ → ∃ Γ', (t d Γ).bind s = .ret (.nx Γ') ∧ I (j + 1) Γ') {Γ : DL.Env} (h0 : I 0 Γ) : ∃ Γ', loop t s ds Γ = .ret (.nx Γ') ∧ I ds.length Γ' := by
  have go : ∀ (r : List D) (j : Nat) (Γ : DL.Env), ds.drop j = r → j ≤ ds.length → I j Γ → ∃ Γ', DL.loop t s r Γ = .ret (.nx Γ') ∧ I ds.length Γ' := by
    intro r
    induction r with
    | nil =>
      intro j Γ e hj hI
      have : j = ds.length := by
        have := congrArg List.length e
        rw [List.length_drop] at this
        simp at this
        omega
      subst this
      exact ⟨Γ, rfl, hI⟩
    | cons d r ih =>
      intro j Γ e hj hI
      have hlt : j < ds.length := by
        have := congrArg List.length e
        rw [List.length_drop, List.length_cons] at this
        omega
      have ed : ds[j]? = some d := by
        rw [← List.head?_drop, e]; rfl
      have er : ds.drop (j + 1) = r := by
        rw [← List.tail_drop, e]; rfl
      obtain ⟨Γ1, h1, h2⟩ := h j d Γ ed hI
      obtain ⟨Γ', h3, h4⟩ := ih (j + 1) Γ1 er (by omega) h2
      refine ⟨Γ', ?_, h4⟩
      show (t d Γ).bind (fun Γ1 => (s Γ1).bind _) = _
      rw [← M.bind_assoc, h1, M.ret_bind]
      exact h3
  exact go ds 0 Γ rfl (Nat.zero_le _) h0
theorem fNe_str (x y : Str) : fNeD (.str x) (.str y) = some (.bl (decide (x ≠ y))) := by
  show some (D.bl (!(x == y))) = _
  by_cases h : x = y <;> simp [h]
end DL
namespace Lw
open PySem PySem.Spec L2 DL
theorem has_ended_eq (ds : List D) (s : Nat) : m_has_ended [.tup ds, .int s] = .ret (.bl (decide (s = 0 ∨ ds.length ≤ s))) := by
  unfold m_has_ended b_has_ended
  simp only [DL.runFn, DL.sRet, DL.sSet, DL.sSeq, DL.sIf, DL.sPass, DL.sRaise, DL.iAnd, DL.iOr, DL.iNot, DL.iIf, DL.asB, DL.notB, DL.andB, DL.orB, DL.iCall, DL.iBi, DL.iOp, DL.iChain, DL.iChain3, DL.iVar, DL.iUse, DL.iLit, DL.iTup, DL.iLst, DL.evs, DL.env0, DL.oNone, DL.oSome, DL.iSl, DL.M.ret_bind, DL.M.bind_ite, DL.M.stuck_bind, DL.M.exc_bind, DL.M.choose_bind, DL.M.ret_noX, List.map_cons, List.map_nil, List.length_cons, List.length_nil, List.cons_append, List.nil_append, List.getElem?_cons_zero, List.getElem?_cons_succ, Nat.reduceAdd, Nat.reduceSub, List.reduceReplicate, List.append_nil, List.replicate_zero, Bool.false_eq_true, if_false, if_true, List.set_cons_zero, List.set_cons_succ, Bool.not_true, Bool.not_false]
  rw [fEq_int]
  simp only [M.ret_bind]
  rw [fLen_tup]
  simp only [M.ret_bind]
  rw [fLe_int]
  by_cases h : s = 0
  · subst h
    rfl
  · rw [decide_eq_false (show ¬ ((s : Int) = 0) by omega)]
    have e : decide ((ds.length : Int) ≤ (s : Int)) = decide (s = 0 ∨ ds.length ≤ s) := decide_eq_decide.mpr ⟨fun x => .inr (by omega), fun x => by omega⟩
    rw [← e]
    rfl
/-- without a name -/
def rem (going : List Str) (z : Str) : List Str := going.filter fun o => decide (o ≠ z)
theorem rem_len {going : List Str} {z : Str} (h : z ∈ going) : (rem going z).length < going.length := by
  unfold rem
  rw [List.length_filter_lt_length_iff_exists]
  exact ⟨z, h, by simp⟩
theorem rem_le (going : List Str) (z : Str) : (rem going z).length ≤ going.length := List.length_filter_le _ _
theorem filter_map_str (p : Str → Bool) (q : D → Bool) (h : ∀ z, q (.str z) = p z) : ∀ zs : List Str, ((zs.map D.str).filter q).map (fun d => d) = (zs.filter p).map D.str
  | [] => rfl
  | z :: zs => by
    rw [List.map_cons, List.filter_cons, List.filter_cons, h z]
    split
    · rw [List.map_cons, filter_map_str p q h zs]; rfl
    · exact filter_map_str p q h zs
def neB (z : Str) (d : D) : Bool := match d with
  | .str o => decide (o ≠ z)
  | _ => false
theorem without_eq {going : List Str} (z : Str) (h : going.length ≤ 1000) : m_without_name [.tup (going.map D.str), .str z] = .ret (.tup ((rem going z).map D.str)) := by
  unfold m_without_name b_without_name
  simp only [DL.runFn, DL.sRet, DL.sSet, DL.sSeq, DL.sIf, DL.sPass, DL.sRaise, DL.iAnd, DL.iOr, DL.iNot, DL.iIf, DL.asB, DL.notB, DL.andB, DL.orB, DL.iCall, DL.iBi, DL.iOp, DL.iChain, DL.iChain3, DL.iVar, DL.iUse, DL.iLit, DL.iTup, DL.iLst, DL.evs, DL.env0, DL.oNone, DL.oSome, DL.iSl, DL.M.ret_bind, DL.M.bind_ite, DL.M.stuck_bind, DL.M.exc_bind, DL.M.choose_bind, DL.M.ret_noX, List.map_cons, List.map_nil, List.length_cons, List.length_nil, List.cons_append, List.nil_append, List.getElem?_cons_zero, List.getElem?_cons_succ, Nat.reduceAdd, Nat.reduceSub, List.reduceReplicate, List.append_nil, List.replicate_zero, Bool.false_eq_true, if_false, if_true, List.set_cons_zero, List.set_cons_succ, Bool.not_true, Bool.not_false]
  rw [lc_pure (ds := going.map D.str) (p := neB z) (e := fun d => d) rfl ?_ (by rw [List.length_map, sizeLine_eq]; omega)]
  · rw [filter_map_str (fun o => decide (o ≠ z)) (neB z) fun o => rfl]
    rfl
  · intro d hd
    obtain ⟨o, ho, rfl⟩ := List.mem_map.mp hd
    refine ⟨_, rfl, ?_, fun _ => rfl⟩
    simp only [wipeE]
    simp only [DL.runFn, DL.sRet, DL.sSet, DL.sSeq, DL.sIf, DL.sPass, DL.sRaise, DL.iAnd, DL.iOr, DL.iNot, DL.iIf, DL.asB, DL.notB, DL.andB, DL.orB, DL.iCall, DL.iBi, DL.iOp, DL.iChain, DL.iChain3, DL.iVar, DL.iUse, DL.iLit, DL.iTup, DL.iLst, DL.evs, DL.env0, DL.oNone, DL.oSome, DL.iSl, DL.M.ret_bind, DL.M.bind_ite, DL.M.stuck_bind, DL.M.exc_bind, DL.M.choose_bind, DL.M.ret_noX, List.map_cons, List.map_nil, List.length_cons, List.length_nil, List.cons_append, List.nil_append, List.getElem?_cons_zero, List.getElem?_cons_succ, Nat.reduceAdd, Nat.reduceSub, List.reduceReplicate, List.append_nil, List.replicate_zero, Bool.false_eq_true, if_false, if_true, List.set_cons_zero, List.set_cons_succ, Bool.not_true, Bool.not_false]
    rw [fNe_str]
    rfl
/-! ### all courses -/
abbrev Path := List (Bool × Str)
def wordD (w : Bool) : D := .str (Str.ofString (if w then "in" else "out"))
def encS (x : Bool × Str) : D := .tup [wordD x.1, .str x.2]
def encP (p : Path) : D := .tup (p.map encS)
def cs : Nat → List Str → Nat → List Path
  | 0, _, _ => []
  | n + 1, going, seats => if seats = 0 ∨ going.length ≤ seats then [[]] else
    (going.flatMap fun z => (cs n (rem going z) (seats - 1)).map ((true, z) :: ·)) ++ going.flatMap fun z => (cs n (rem going z) seats).map ((false, z) :: ·)
theorem flat_len {going : List Str} {f : Str → List Path} {b : Nat} (h : ∀ z ∈ going, (f z).length ≤ b) : (going.flatMap f).length ≤ going.length * b := by
  induction going with
  | nil => simp
  | cons z r ih =>
    rw [List.flatMap_cons, List.length_append, List.length_cons, Nat.succ_mul]
    have := ih fun y hy => h y (List.mem_cons_of_mem _ hy)
    have := h z List.mem_cons_self
    omega
theorem cs_len : ∀ (n : Nat) (going : List Str) (seats : Nat), going.length ≤ 4 → (cs n going seats).length ≤ 8 ^ n
  | 0, _, _, _ => by simp [cs]
  | n + 1, going, seats, h => by
    unfold cs
    have p : 1 ≤ 8 ^ n := Nat.one_le_pow _ _ (by decide)
    split
    · simp only [List.length_singleton, Nat.pow_succ]; omega
    · have f1 : (going.flatMap fun z => (cs n (rem going z) (seats - 1)).map ((true, z) :: ·)).length ≤ going.length * 8 ^ n := flat_len fun z _ => by
        rw [List.length_map]
        exact cs_len n _ _ (Nat.le_trans (rem_le _ _) h)
      have f2 : (going.flatMap fun z => (cs n (rem going z) seats).map ((false, z) :: ·)).length ≤ going.length * 8 ^ n := flat_len fun z _ => by
        rw [List.length_map]
        exact cs_len n _ _ (Nat.le_trans (rem_le _ _) h)
      have f3 : going.length * 8 ^ n ≤ 4 * 8 ^ n := Nat.mul_le_mul_right _ h
      rw [List.length_append, Nat.pow_succ]
      omega
theorem cs_short : ∀ (n : Nat) (going : List Str) (seats : Nat) (p : Path), p ∈ cs n going seats → p.length ≤ n
  | 0, _, _, p, h => by simp [cs] at h
  | n + 1, going, seats, p, h => by
    unfold cs at h
    split at h
    · rw [List.mem_singleton] at h
      subst h
      simp
    · rcases List.mem_append.mp h with h | h <;>
      · obtain ⟨z, _, h⟩ := List.mem_flatMap.mp h
        obtain ⟨q, hq, rfl⟩ := List.mem_map.mp h
        have := cs_short n _ _ q hq
        rw [List.length_cons]
        omega
end Lw
namespace Lw
open PySem PySem.Spec L2 DL
abbrev envC (going : List Str) (seats : Nat) (acc : List D) (w : Bool) (left : Nat) (x y : Option B) : DL.Env := [some (.fz (.tup (going.map D.str))), some (.fz (.int seats)), some (.ol acc), some (.fz (wordD w)), some (.fz (.int left)), x, y, none]
def cfB (rec : List D → M D) : IS := DL.sSeq (DL.sSet 6 (iCall rec [iCall m_without_name [iVar 0, iVar 5], iVar 4])) (sExt 2 (iLc (gN 7) (iiA (iVar 6)) cYes (iOp fAdd (DL.iTup [DL.iTup [iVar 3, iVar 5]]) (iVar 7)) [7]))
theorem tup1 {i : IE} {Γ : DL.Env} {a : D} (h1 : i Γ = .ret a) : DL.iTup [i] Γ = .ret (.tup [a]) := by
  unfold DL.iTup
  rw [evs_one h1, M.ret_bind]
  exact if_pos (by show 1 ≤ sizeLine; rw [sizeLine_eq]; decide)
def pre (w : Bool) (z : Str) (d : D) : D := match d with
  | .tup xs => .tup (encS (w, z) :: xs)
  | d => d
theorem pre_enc (w : Bool) (z : Str) (ps : List Path) : (ps.map encP).map (pre w z) = (ps.map ((w, z) :: ·)).map encP := by
  rw [List.map_map, List.map_map]
  rfl
theorem cf_step {rec : List D → M D} {going : List Str} {seats left : Nat} {acc : List D} {w : Bool} {z : Str} {y : Option B} {ps : List Path} (hg : going.length ≤ 4) (hr : rec [.tup ((rem going z).map D.str), .int left] = .ret (.lst (ps.map encP)))
    (hs : ∀ p ∈ ps, p.length ≤ 100) (hl : acc.length + ps.length ≤ sizeLine) : cfB rec (envC going seats acc w left (some (.fz (.str z))) y) = .ret (.nx (envC going seats (acc ++ (ps.map ((w, z) :: ·)).map encP) w left (some (.fz (.str z))) (some (.fz (.lst (ps.map encP)))))) := by
  unfold cfB
  rw [seq_nx (Γ' := envC going seats acc w left (some (.fz (.str z))) (some (.fz (.lst (ps.map encP))))) ?_]
  · have e : iLc (gN 7) (iiA (iVar 6)) cYes (iOp fAdd (DL.iTup [DL.iTup [iVar 3, iVar 5]]) (iVar 7)) [7] (envC going seats acc w left (some (.fz (.str z))) (some (.fz (.lst (ps.map encP))))) = .ret (.lst ((ps.map ((w, z) :: ·)).map encP)) := by
      rw [lc_all (ds := ps.map encP) (e := pre w z) rfl ?_ (by rw [List.length_map]; omega), pre_enc]
      intro d hd
      obtain ⟨p, hp, rfl⟩ := List.mem_map.mp hd
      refine ⟨_, rfl, ?_⟩
      unfold iOp
      rw [tup1 (tup2 (a := wordD w) (b := .str z) rfl rfl), M.ret_bind]
      show (match fAdd (.tup [.tup [wordD w, .str z]]) (encP p) with | some d => M.ret d | none => .stuck) = _
      unfold encP
      rw [fAdd_tup _ _ (by rw [List.length_singleton, List.length_map, sizeLine_eq]; have := hs p hp; omega)]
      rfl
    show (iLc _ _ _ _ _ _).bind _ = _
    rw [e, M.ret_bind]
    show (if acc.length + ((ps.map ((w, z) :: ·)).map encP).length ≤ sizeLine then _ else _) = _
    rw [if_pos (by rw [List.length_map, List.length_map]; exact hl)]
    rfl
  · unfold DL.sSet
    rw [call2 (a := .tup ((rem going z).map D.str)) (b := .int left) (by rw [call2 (a := .tup (going.map D.str)) (b := .str z) rfl rfl]; exact without_eq z (by omega)) rfl, hr]
    rfl
theorem cf_loop {rec : List D → M D} {going : List Str} {seats left n : Nat} {acc : List D} {w : Bool} {x y : Option B} (hg : going.length ≤ 4) (hn : n ≤ 100) (hr : ∀ z ∈ going, rec [.tup ((rem going z).map D.str), .int left] = .ret (.lst ((cs n (rem going z) left).map encP)))
    (hl : acc.length + 4 * 8 ^ n ≤ sizeLine) : ∃ x' y', DL.sFor (gN 5) (iiA (iVar 0)) (cfB rec) (envC going seats acc w left x y) = .ret (.nx (envC going seats (acc ++ (going.flatMap fun z => (cs n (rem going z) left).map ((w, z) :: ·)).map encP) w left x' y')) := by
  have fl : ∀ l : List Str, l.length ≤ 4 → (l.flatMap fun z => (cs n (rem going z) left).map ((w, z) :: ·)).length ≤ 4 * 8 ^ n := fun l h => by
    refine Nat.le_trans (flat_len (b := 8 ^ n) fun z _ => ?_) (Nat.mul_le_mul_right _ h)
    rw [List.length_map]
    exact cs_len n _ _ (Nat.le_trans (rem_le _ _) hg)
  have step : ∀ (j : Nat) (d : D) (Γ : DL.Env), (going.map D.str)[j]? = some d → (∃ x y, Γ = envC going seats (acc ++ ((going.take j).flatMap fun z => (cs n (rem going z) left).map ((w, z) :: ·)).map encP) w left x y) →
      ∃ Γ', (gN 5 d Γ).bind (cfB rec) = .ret (.nx Γ') ∧ ∃ x y, Γ' = envC going seats (acc ++ ((going.take (j + 1)).flatMap fun z => (cs n (rem going z) left).map ((w, z) :: ·)).map encP) w left x y := fun j d Γ e hI => ?_
  · obtain ⟨Γ', h1, x', y', h2⟩ := loop_pure (t := gN 5) (s := cfB rec) (going.map D.str) (fun j Γ => ∃ x y, Γ = envC going seats (acc ++ ((going.take j).flatMap fun z => (cs n (rem going z) left).map ((w, z) :: ·)).map encP) w left x y) step (Γ := envC going seats acc w left x y) ⟨x, y, by simp⟩
    refine ⟨x', y', ?_⟩
    unfold DL.sFor
    show loop _ _ (going.map D.str) _ = _
    rw [h1, h2, List.length_map, List.take_length]
  · obtain ⟨x, y, rfl⟩ := hI
    rw [List.getElem?_map] at e
    obtain ⟨z, hz, rfl⟩ := Option.map_eq_some_iff.mp e
    have hj := (List.getElem?_eq_some_iff.mp hz).1
    have hm : z ∈ going := List.mem_of_getElem? hz
    have tk : going.take (j + 1) = going.take j ++ [z] := by
      rw [List.take_add_one, hz]
      rfl
    refine ⟨envC going seats (acc ++ ((going.take (j + 1)).flatMap fun z => (cs n (rem going z) left).map ((w, z) :: ·)).map encP) w left (some (.fz (.str z))) (some (.fz (.lst ((cs n (rem going z) left).map encP)))), ?_, _, _, rfl⟩
    have := cf_step (seats := seats) (w := w) (y := y) (acc := acc ++ ((going.take j).flatMap fun z => (cs n (rem going z) left).map ((w, z) :: ·)).map encP) hg (hr z hm) (fun p hp => Nat.le_trans (cs_short n _ _ p hp) hn) ?_
    · refine Eq.trans this ?_
      rw [tk, List.flatMap_append, List.map_append, List.append_assoc]
      simp
    · have a := fl (going.take j ++ [z]) (by rw [← tk, List.length_take]; omega)
      rw [List.flatMap_append, List.length_append] at a
      simp only [List.flatMap_cons, List.flatMap_nil, List.append_nil, List.length_map] at a
      rw [List.length_append, List.length_map]
      omega
end Lw
namespace Lw
open PySem PySem.Spec L2 DL
theorem for2 {t : IG} {it : II} {s : IS} {d1 d2 : D} {Γ Γ1 Γ2 Γ3 Γ4 : DL.Env} (hi : it Γ = .ret [d1, d2]) (h1 : t d1 Γ = .ret Γ1) (h2 : s Γ1 = .ret (.nx Γ2)) (h3 : t d2 Γ2 = .ret Γ3) (h4 : s Γ3 = .ret (.nx Γ4)) : DL.sFor t it s Γ = .ret (.nx Γ4) := by
  unfold DL.sFor
  rw [hi, M.ret_bind]
  unfold loop
  rw [h1, M.ret_bind, h2, M.ret_bind]
  show loop t s [d2] Γ2 = _
  unfold loop
  rw [h3, M.ret_bind, h4, M.ret_bind]
  rfl
theorem in_eq : wordD true = .str (Str.ofString "in") := rfl
theorem out_eq : wordD false = .str (Str.ofString "out") := rfl
theorem pow_le {n : Nat} (h : n ≤ 6) : 8 ^ n ≤ 262144 := Nat.le_trans (Nat.pow_le_pow_right (by decide) h) (by decide)
theorem courses_from_eq : ∀ (n : Nat) (going : List Str) (seats : Nat), going.length ≤ 4 → going.length < n → n ≤ 6 → m__courses_from n [.tup (going.map D.str), .int seats] = .ret (.lst ((cs n going seats).map encP))
  | 0, _, _, _, h, _ => by omega
  | n + 1, going, seats, hg, hn, h6 => by
    have ih : ∀ (s : Nat), ∀ z ∈ going, m__courses_from n [.tup ((rem going z).map D.str), .int s] = .ret (.lst ((cs n (rem going z) s).map encP)) := fun s z hz =>
      courses_from_eq n (rem going z) s (Nat.le_trans (rem_le _ _) hg) (by have := rem_len hz; omega) (by omega)
    have p6 := pow_le (n := n) (by omega)
    have ended : asB (iCall m_has_ended [iVar 0, iVar 1]) (env0 8 [D.tup (going.map D.str), .int seats]) = .ret (decide (seats = 0 ∨ going.length ≤ seats)) := by
      unfold asB
      rw [call2 (a := .tup (going.map D.str)) (b := .int seats) rfl rfl, has_ended_eq, List.length_map]
      rfl
    show runFn 8 (b__courses_from (m__courses_from n)) _ = _
    unfold runFn b__courses_from
    by_cases he : seats = 0 ∨ going.length ≤ seats
    · have e : DL.sIf (asB (iCall m_has_ended [iVar 0, iVar 1])) (DL.sRet (DL.iLst [DL.iTup []])) DL.sPass (env0 8 [D.tup (going.map D.str), .int seats]) = .ret (.rt (.lst [.tup []])) := by
        unfold DL.sIf
        rw [ended, M.ret_bind, if_pos (decide_eq_true he)]
        have e1 : DL.iTup [] (env0 8 [D.tup (going.map D.str), .int seats]) = .ret (.tup []) := by
          unfold DL.iTup evs
          rw [M.ret_bind]
          exact if_pos (Nat.zero_le _)
        unfold DL.sRet DL.iLst
        rw [evs_one e1, M.ret_bind]
        have e2 : (if [D.tup []].length ≤ sizeLine then M.ret (D.lst [D.tup []]) else .stuck) = .ret (D.lst [D.tup []]) := if_pos (by show 1 ≤ sizeLine; rw [sizeLine_eq]; decide)
        rw [e2]
        rfl
      have c : cs (n + 1) going seats = [[]] := by unfold cs; rw [if_pos he]
      rw [c]
      unfold DL.sSeq
      rw [e]
      rfl
    · have hs : 1 ≤ seats := by omega
      rw [seq_nx (if_no (by rw [ended, decide_eq_false he]))]
      rw [seq_nx (Γ' := [some (.fz (.tup (going.map D.str))), some (.fz (.int seats)), some (.ol []), none, none, none, none, none]) (by
        unfold sOwn DL.iLst evs
        rw [M.ret_bind]
        have e2 : (if ([] : List D).length ≤ sizeLine then M.ret (D.lst []) else .stuck) = .ret (D.lst []) := if_pos (Nat.zero_le _)
        rw [e2]
        rfl)]
      obtain ⟨x1, y1, l1⟩ := cf_loop (rec := m__courses_from n) (seats := seats) (left := seats - 1) (n := n) (acc := []) (w := true) (x := none) (y := none) hg (by omega) (ih (seats - 1)) (by rw [sizeLine_eq, List.length_nil]; omega)
      have f1 : ((going.flatMap fun z => (cs n (rem going z) (seats - 1)).map ((true, z) :: ·)).map encP).length ≤ 4 * 262144 := by
        rw [List.length_map]
        refine Nat.le_trans (flat_len (b := 262144) fun z _ => ?_) (Nat.mul_le_mul_right _ hg)
        rw [List.length_map]
        exact Nat.le_trans (cs_len n _ _ (Nat.le_trans (rem_le _ _) hg)) p6
      obtain ⟨x2, y2, l2⟩ := cf_loop (rec := m__courses_from n) (seats := seats) (left := seats) (n := n) (acc := [] ++ (going.flatMap fun z => (cs n (rem going z) (seats - 1)).map ((true, z) :: ·)).map encP) (w := false) (x := x1) (y := y1) hg (by omega) (ih seats) (by rw [sizeLine_eq, List.nil_append]; omega)
      have it : iiA (DL.iTup [DL.iTup [iLit (.str (Str.ofString "in")), iOp fSubI (iVar 1) (iLit (.int 1))], DL.iTup [iLit (.str (Str.ofString "out")), iVar 1]]) [some (.fz (.tup (going.map D.str))), some (.fz (.int seats)), some (.ol []), none, none, none, none, none] =
          .ret [.tup [wordD true, .int ((seats - 1 : Nat) : Int)], .tup [wordD false, .int seats]] := by
        unfold iiA
        rw [tup2 (a := .tup [wordD true, .int ((seats - 1 : Nat) : Int)]) (b := .tup [wordD false, .int seats]) (tup2 rfl (by
          show M.ret (D.int ((seats : Int) - 1)) = _
          congr 2
          omega)) (tup2 rfl rfl)]
        rfl
      have two := for2 (t := gT [gN 3, gN 4]) (s := DL.sFor (gN 5) (iiA (iVar 0)) (cfB (m__courses_from n))) it (Γ1 := envC going seats [] true (seats - 1) none none) rfl l1 (Γ3 := envC going seats ([] ++ (going.flatMap fun z => (cs n (rem going z) (seats - 1)).map ((true, z) :: ·)).map encP) false seats x1 y1) rfl l2
      unfold cfB at two
      rw [seq_nx two]
      have c : cs (n + 1) going seats = (going.flatMap fun z => (cs n (rem going z) (seats - 1)).map ((true, z) :: ·)) ++ going.flatMap fun z => (cs n (rem going z) seats).map ((false, z) :: ·) := by
        show (if seats = 0 ∨ going.length ≤ seats then [[]] else _) = _
        rw [if_neg he]
      rw [c, List.map_append]
      rfl
end Lw
namespace Lw
open PySem PySem.Spec L2 DL
abbrev envL (going : List Str) (seats : Nat) (acc : List D) (w : Bool) (gone : Nat) (x y : Option B) : DL.Env := [some (.fz (.tup (going.map D.str))), some (.fz (.int seats)), some (.fz (.lst acc)), some (.fz (wordD w)), some (.fz (.int gone)), x, y, none, none]
def lcB (rec : List D → M D) : IS := DL.sSeq (DL.sSet 6 (iBi fTuple [iLc (gN 7) (iiA (iVar 0)) (asB (iOp fNeD (iVar 7) (iVar 5))) (iVar 7) [7]]))
  (DL.sSet 2 (iOp fAdd (iVar 2) (iLc (gN 8) (iiA (iCall rec [iVar 6, iOp fSubI (iVar 1) (iVar 4)])) cYes (iOp fAdd (DL.iTup [DL.iTup [iVar 3, iVar 5]]) (iVar 8)) [8])))
theorem op_ok {f : D → D → Option D} {i j : IE} {Γ : DL.Env} {a b d : D} (h1 : i Γ = .ret a) (h2 : j Γ = .ret b) (h : f a b = some d) : iOp f i j Γ = .ret d := by
  unfold iOp
  rw [h1, M.ret_bind, h2, M.ret_bind, h]
theorem set_ok {n : Nat} {i : IE} {Γ : DL.Env} {d : D} (h : i Γ = .ret d) : DL.sSet n i Γ = .ret (.nx (Γ.set n (some (.fz d)))) := by
  unfold DL.sSet
  rw [h]
  rfl
theorem lc_step {rec : List D → M D} {going : List Str} {seats gone : Nat} {acc : List D} {w : Bool} {z : Str} {y : Option B} {ps : List Path} (hg : going.length ≤ 4) (hd : gone ≤ seats) (hr : rec [.tup ((rem going z).map D.str), .int ((seats - gone : Nat) : Int)] = .ret (.lst (ps.map encP)))
    (hs : ∀ p ∈ ps, p.length ≤ 100) (hl : acc.length + ps.length ≤ sizeLine) : lcB rec (envL going seats acc w gone (some (.fz (.str z))) y) = .ret (.nx (envL going seats (acc ++ (ps.map ((w, z) :: ·)).map encP) w gone (some (.fz (.str z))) (some (.fz (.tup ((rem going z).map D.str)))))) := by
  unfold lcB
  rw [seq_nx (Γ' := envL going seats acc w gone (some (.fz (.str z))) (some (.fz (.tup ((rem going z).map D.str))))) ?_]
  · have e : iLc (gN 8) (iiA (iCall rec [iVar 6, iOp fSubI (iVar 1) (iVar 4)])) cYes (iOp fAdd (DL.iTup [DL.iTup [iVar 3, iVar 5]]) (iVar 8)) [8] (envL going seats acc w gone (some (.fz (.str z))) (some (.fz (.tup ((rem going z).map D.str))))) = .ret (.lst ((ps.map ((w, z) :: ·)).map encP)) := by
      rw [lc_all (ds := ps.map encP) (e := pre w z) ?_ ?_ (by rw [List.length_map]; omega), pre_enc]
      · unfold iiA
        rw [call2 (a := .tup ((rem going z).map D.str)) (b := .int ((seats - gone : Nat) : Int)) rfl (by
          show M.ret (D.int ((seats : Int) - (gone : Int))) = _
          congr 2
          omega), hr]
        rfl
      · intro d hd
        obtain ⟨p, hp, rfl⟩ := List.mem_map.mp hd
        refine ⟨_, rfl, ?_⟩
        unfold iOp
        rw [tup1 (tup2 (a := wordD w) (b := .str z) rfl rfl), M.ret_bind]
        show (match fAdd (.tup [.tup [wordD w, .str z]]) (encP p) with | some d => M.ret d | none => .stuck) = _
        unfold encP
        rw [fAdd_tup _ _ (by rw [List.length_singleton, List.length_map, sizeLine_eq]; have := hs p hp; omega)]
        rfl
    rw [set_ok (op_ok (a := .lst acc) rfl e (fAdd_lst _ _ (by rw [List.length_map, List.length_map]; exact hl)))]
    rfl
  · unfold DL.sSet iBi
    have e : iLc (gN 7) (iiA (iVar 0)) (asB (iOp fNeD (iVar 7) (iVar 5))) (iVar 7) [7] (envL going seats acc w gone (some (.fz (.str z))) y) = .ret (.lst ((rem going z).map D.str)) := by
      rw [lc_pure (ds := going.map D.str) (p := neB z) (e := fun d => d) rfl ?_ (by rw [List.length_map, sizeLine_eq]; omega)]
      · rw [filter_map_str (fun o => decide (o ≠ z)) (neB z) fun o => rfl]
        rfl
      · intro d hd
        obtain ⟨o, ho, rfl⟩ := List.mem_map.mp hd
        refine ⟨_, rfl, ?_, fun _ => rfl⟩
        show ((match fNeD (.str o) (.str z) with | some d => M.ret d | none => .stuck) : M D).bind _ = _
        rw [fNe_str]
        rfl
    rw [evs_one e]
    rfl
theorem lc_loop {rec : List D → M D} {going : List Str} {seats gone n : Nat} {acc : List D} {w : Bool} {x y : Option B} (hg : going.length ≤ 4) (hd : gone ≤ seats) (hn : n ≤ 100) (hr : ∀ z ∈ going, rec [.tup ((rem going z).map D.str), .int ((seats - gone : Nat) : Int)] = .ret (.lst ((cs n (rem going z) (seats - gone)).map encP)))
    (hl : acc.length + 4 * 8 ^ n ≤ sizeLine) : ∃ x' y', DL.sFor (gN 5) (iiA (iVar 0)) (lcB rec) (envL going seats acc w gone x y) = .ret (.nx (envL going seats (acc ++ (going.flatMap fun z => (cs n (rem going z) (seats - gone)).map ((w, z) :: ·)).map encP) w gone x' y')) := by
  have fl : ∀ l : List Str, l.length ≤ 4 → (l.flatMap fun z => (cs n (rem going z) (seats - gone)).map ((w, z) :: ·)).length ≤ 4 * 8 ^ n := fun l h => by
    refine Nat.le_trans (flat_len (b := 8 ^ n) fun z _ => ?_) (Nat.mul_le_mul_right _ h)
    rw [List.length_map]
    exact cs_len n _ _ (Nat.le_trans (rem_le _ _) hg)
  have step : ∀ (j : Nat) (d : D) (Γ : DL.Env), (going.map D.str)[j]? = some d → (∃ x y, Γ = envL going seats (acc ++ ((going.take j).flatMap fun z => (cs n (rem going z) (seats - gone)).map ((w, z) :: ·)).map encP) w gone x y) →
      ∃ Γ', (gN 5 d Γ).bind (lcB rec) = .ret (.nx Γ') ∧ ∃ x y, Γ' = envL going seats (acc ++ ((going.take (j + 1)).flatMap fun z => (cs n (rem going z) (seats - gone)).map ((w, z) :: ·)).map encP) w gone x y := fun j d Γ e hI => ?_
  · obtain ⟨Γ', h1, x', y', h2⟩ := loop_pure (t := gN 5) (s := lcB rec) (going.map D.str) (fun j Γ => ∃ x y, Γ = envL going seats (acc ++ ((going.take j).flatMap fun z => (cs n (rem going z) (seats - gone)).map ((w, z) :: ·)).map encP) w gone x y) step (Γ := envL going seats acc w gone x y) ⟨x, y, by simp⟩
    refine ⟨x', y', ?_⟩
    unfold DL.sFor
    show loop _ _ (going.map D.str) _ = _
    rw [h1, h2, List.length_map, List.take_length]
  · obtain ⟨x, y, rfl⟩ := hI
    rw [List.getElem?_map] at e
    obtain ⟨z, hz, rfl⟩ := Option.map_eq_some_iff.mp e
    have hj := (List.getElem?_eq_some_iff.mp hz).1
    have hm : z ∈ going := List.mem_of_getElem? hz
    have tk : going.take (j + 1) = going.take j ++ [z] := by
      rw [List.take_add_one, hz]
      rfl
    refine ⟨envL going seats (acc ++ ((going.take (j + 1)).flatMap fun z => (cs n (rem going z) (seats - gone)).map ((w, z) :: ·)).map encP) w gone (some (.fz (.str z))) (some (.fz (.tup ((rem going z).map D.str)))), ?_, _, _, rfl⟩
    have := lc_step (seats := seats) (w := w) (y := y) (acc := acc ++ ((going.take j).flatMap fun z => (cs n (rem going z) (seats - gone)).map ((w, z) :: ·)).map encP) hg hd (hr z hm) (fun p hp => Nat.le_trans (cs_short n _ _ p hp) hn) ?_
    · refine Eq.trans this ?_
      rw [tk, List.flatMap_append, List.map_append, List.append_assoc]
      simp
    · have a := fl (going.take j ++ [z]) (by rw [← tk, List.length_take]; omega)
      rw [List.flatMap_append, List.length_append] at a
      simp only [List.flatMap_cons, List.flatMap_nil, List.append_nil, List.length_map] at a
      rw [List.length_append, List.length_map]
      omega
theorem law_courses_eq : ∀ (n : Nat) (going : List Str) (seats : Nat), going.length ≤ 4 → going.length < n → n ≤ 6 → m__law_courses n [.tup (going.map D.str), .int seats] = .ret (.lst ((cs n going seats).map encP))
  | 0, _, _, _, h, _ => by omega
  | n + 1, going, seats, hg, hn, h6 => by
    have ih : ∀ (s : Nat), ∀ z ∈ going, m__law_courses n [.tup ((rem going z).map D.str), .int s] = .ret (.lst ((cs n (rem going z) s).map encP)) := fun s z hz =>
      law_courses_eq n (rem going z) s (Nat.le_trans (rem_le _ _) hg) (by have := rem_len hz; omega) (by omega)
    have p6 := pow_le (n := n) (by omega)
    have ended : orB (asB (iOp fEq (iVar 1) (iLit (.int 0)))) (asB (iOp fLe (iBi fLen [iVar 0]) (iVar 1))) (env0 9 [D.tup (going.map D.str), .int seats]) = .ret (decide (seats = 0 ∨ going.length ≤ seats)) := by
      have e1 : asB (iOp fEq (iVar 1) (iLit (.int 0))) (env0 9 [D.tup (going.map D.str), .int seats]) = .ret (decide (seats = 0)) := by
        show ((match fEq (.int seats) (.int 0) with | some d => M.ret d | none => .stuck) : M D).bind _ = _
        rw [fEq_int]
        show M.ret (decide ((seats : Int) = 0)) = _
        congr 1
        exact decide_eq_decide.mpr (by omega)
      have e2 : asB (iOp fLe (iBi fLen [iVar 0]) (iVar 1)) (env0 9 [D.tup (going.map D.str), .int seats]) = .ret (decide (going.length ≤ seats)) := by
        show M.ret (decide ((((going.map D.str).length : Nat) : Int) ≤ (seats : Int))) = _
        rw [List.length_map]
        congr 1
        exact decide_eq_decide.mpr (by omega)
      unfold orB
      rw [e1, M.ret_bind, e2]
      by_cases h : seats = 0
      · rw [decide_eq_true h, if_pos rfl, decide_eq_true (.inl h)]
      · rw [decide_eq_false h, if_neg (by decide)]
        congr 1
        exact decide_eq_decide.mpr ⟨.inr, fun x => x.resolve_left h⟩
    show runFn 9 (b__law_courses (m__law_courses n)) _ = _
    unfold runFn b__law_courses
    by_cases he : seats = 0 ∨ going.length ≤ seats
    · have e : DL.sIf (orB (asB (iOp fEq (iVar 1) (iLit (.int 0)))) (asB (iOp fLe (iBi fLen [iVar 0]) (iVar 1)))) (DL.sRet (DL.iLst [DL.iTup []])) DL.sPass (env0 9 [D.tup (going.map D.str), .int seats]) = .ret (.rt (.lst [.tup []])) := by
        unfold DL.sIf
        rw [ended, M.ret_bind, if_pos (decide_eq_true he)]
        have e1 : DL.iTup [] (env0 9 [D.tup (going.map D.str), .int seats]) = .ret (.tup []) := by
          unfold DL.iTup evs
          rw [M.ret_bind]
          exact if_pos (Nat.zero_le _)
        unfold DL.sRet DL.iLst
        rw [evs_one e1, M.ret_bind]
        have e2 : (if [D.tup []].length ≤ sizeLine then M.ret (D.lst [D.tup []]) else .stuck) = .ret (D.lst [D.tup []]) := if_pos (by show 1 ≤ sizeLine; rw [sizeLine_eq]; decide)
        rw [e2]
        rfl
      have c : cs (n + 1) going seats = [[]] := by unfold cs; rw [if_pos he]
      rw [c]
      unfold DL.sSeq
      rw [e]
      rfl
    · have hs : 1 ≤ seats := by omega
      rw [seq_nx (if_no (by rw [ended, decide_eq_false he]))]
      rw [seq_nx (Γ' := [some (.fz (.tup (going.map D.str))), some (.fz (.int seats)), some (.fz (.lst [])), none, none, none, none, none, none]) (by
        unfold DL.sSet DL.iLst evs
        rw [M.ret_bind]
        have e2 : (if ([] : List D).length ≤ sizeLine then M.ret (D.lst []) else .stuck) = .ret (D.lst []) := if_pos (Nat.zero_le _)
        rw [e2]
        rfl)]
      obtain ⟨x1, y1, l1⟩ := lc_loop (rec := m__law_courses n) (seats := seats) (gone := 1) (n := n) (acc := []) (w := true) (x := none) (y := none) hg hs (by omega) (ih (seats - 1)) (by rw [sizeLine_eq, List.length_nil]; omega)
      have f1 : ((going.flatMap fun z => (cs n (rem going z) (seats - 1)).map ((true, z) :: ·)).map encP).length ≤ 4 * 262144 := by
        rw [List.length_map]
        refine Nat.le_trans (flat_len (b := 262144) fun z _ => ?_) (Nat.mul_le_mul_right _ hg)
        rw [List.length_map]
        exact Nat.le_trans (cs_len n _ _ (Nat.le_trans (rem_le _ _) hg)) p6
      obtain ⟨x2, y2, l2⟩ := lc_loop (rec := m__law_courses n) (seats := seats) (gone := 0) (n := n) (acc := [] ++ (going.flatMap fun z => (cs n (rem going z) (seats - 1)).map ((true, z) :: ·)).map encP) (w := false) (x := x1) (y := y1) hg (Nat.zero_le _) (by omega) (ih (seats - 0)) (by rw [sizeLine_eq, List.nil_append]; omega)
      have it : iiA (DL.iTup [DL.iTup [iLit (.str (Str.ofString "in")), iLit (.int 1)], DL.iTup [iLit (.str (Str.ofString "out")), iLit (.int 0)]]) [some (.fz (.tup (going.map D.str))), some (.fz (.int seats)), some (.fz (.lst [])), none, none, none, none, none, none] =
          .ret [.tup [wordD true, .int ((1 : Nat) : Int)], .tup [wordD false, .int ((0 : Nat) : Int)]] := by
        unfold iiA
        rw [tup2 (tup2 rfl rfl) (tup2 rfl rfl)]
        rfl
      have two := for2 (t := gT [gN 3, gN 4]) (s := DL.sFor (gN 5) (iiA (iVar 0)) (lcB (m__law_courses n))) it (Γ1 := envL going seats [] true 1 none none) rfl l1 (Γ3 := envL going seats ([] ++ (going.flatMap fun z => (cs n (rem going z) (seats - 1)).map ((true, z) :: ·)).map encP) false 0 x1 y1) rfl l2
      unfold lcB at two
      rw [seq_nx two]
      have c : cs (n + 1) going seats = (going.flatMap fun z => (cs n (rem going z) (seats - 1)).map ((true, z) :: ·)) ++ going.flatMap fun z => (cs n (rem going z) seats).map ((false, z) :: ·) := by
        show (if seats = 0 ∨ going.length ≤ seats then [[]] else _) = _
        rw [if_neg he]
      rw [c, List.map_append]
      rfl
end Lw
namespace Lw
open PySem PySem.Spec L2 DL
theorem fld_names {zs os : List Str} {s q1 q2 h1 h2 : Nat} {b : Bool} {i : IE} {Γ : DL.Env} (h : i Γ = .ret (ruleI zs s q1 q2 b h1 h2 os)) : iFld at_names i Γ = .ret (.tup (zs.map D.str)) := by
  unfold iFld
  rw [h, M.ret_bind]
  rfl
theorem fld_seats {zs os : List Str} {s q1 q2 h1 h2 : Nat} {b : Bool} {i : IE} {Γ : DL.Env} (h : i Γ = .ret (ruleI zs s q1 q2 b h1 h2 os)) : iFld at_seats i Γ = .ret (.int s) := by
  unfold iFld
  rw [h, M.ret_bind]
  rfl
theorem all_courses_eq {zs os : List Str} {s q1 q2 h1 h2 : Nat} {b : Bool} (h : zs.length ≤ 4) : m_all_courses [ruleI zs s q1 q2 b h1 h2 os] = .ret (.tup ((cs 6 zs s).map encP)) := by
  unfold m_all_courses b_all_courses runFn DL.sRet iBi
  rw [evs_one (d := .lst ((cs 6 zs s).map encP)) (by rw [call2 (fld_names rfl) (fld_seats rfl)]; exact courses_from_eq 6 zs s h (by omega) (by decide))]
  rfl
/-- how many courses there are -/
def cn : Nat → Nat → Nat → Nat
  | 0, _, _ => 0
  | n + 1, k, s => if s = 0 ∨ k ≤ s then 1 else k * cn n (k - 1) (s - 1) + k * cn n (k - 1) s
theorem rem_nodup {going : List Str} {z : Str} (h : going.Nodup) (hz : z ∈ going) : (rem going z).length = going.length - 1 ∧ (rem going z).Nodup := by
  refine ⟨?_, h.filter _⟩
  unfold rem
  induction going with
  | nil => cases hz
  | cons y r ih =>
    have hn := List.nodup_cons.mp h
    by_cases e : y = z
    · subst e
      rw [List.filter_cons_of_neg (by simp)]
      have : r.filter (fun o => decide (o ≠ y)) = r := List.filter_eq_self.mpr fun o ho => decide_eq_true fun q => hn.1 (q ▸ ho)
      rw [this]
      simp
    · rw [List.filter_cons_of_pos (by simpa using e), List.length_cons, List.length_cons]
      have hm : z ∈ r := (List.mem_cons.mp hz).resolve_left fun q => e q.symm
      have := ih hn.2 hm
      have : 0 < r.length := List.length_pos_of_mem hm
      omega
theorem flat_eq {going : List Str} {f : Str → List Path} {b : Nat} (h : ∀ z ∈ going, (f z).length = b) : (going.flatMap f).length = going.length * b := by
  induction going with
  | nil => simp
  | cons z r ih =>
    rw [List.flatMap_cons, List.length_append, List.length_cons, Nat.succ_mul, ih fun y hy => h y (List.mem_cons_of_mem _ hy), h z List.mem_cons_self]
    omega
theorem cs_count : ∀ (n : Nat) (going : List Str) (s : Nat), going.Nodup → (cs n going s).length = cn n going.length s
  | 0, _, _, _ => rfl
  | n + 1, going, s, h => by
    unfold cs cn
    split
    · rfl
    · rw [List.length_append, flat_eq (b := cn n (going.length - 1) (s - 1)) fun z hz => ?_, flat_eq (b := cn n (going.length - 1) s) fun z hz => ?_]
      · rw [List.length_map, cs_count n _ _ (rem_nodup h hz).2, (rem_nodup h hz).1]
      · rw [List.length_map, cs_count n _ _ (rem_nodup h hz).2, (rem_nodup h hz).1]
/-- the sizes that the law tells -/
theorem sizes : ([cn 6 2 1, cn 6 3 1, cn 6 3 2, cn 6 4 1, cn 6 4 2, cn 6 4 3] : List Nat) = [4, 15, 15, 64, 120, 64] := by decide +kernel
end Lw
namespace Lw
open PySem PySem.Spec L2 DL
/-- plain, and its two items, if it has two -/
def stepOk (d : D) : Prop := isP d = true ∧ ∀ a b, d = .tup [a, b] → isP a = true ∧ isP b = true
def stepD (going : List Str) (d : D) : Option (Bool × Str) := match d with
  | .tup [.str w, .str n] => if n ∈ going then (if w = Str.ofString "in" then some (true, n) else if w = Str.ofString "out" then some (false, n) else none) else none
  | _ => none
theorem fInA_two (w : Str) : fInA (.str w) (.tup [.str (Str.ofString "in"), .str (Str.ofString "out")]) = some (.bl (decide (w = Str.ofString "in" ∨ w = Str.ofString "out"))) := by
  have := fInA_str w [Str.ofString "in", Str.ofString "out"]
  rw [show (D.tup [.str (Str.ofString "in"), .str (Str.ofString "out")]) = .tup ([Str.ofString "in", Str.ofString "out"].map D.str) from rfl, this]
  congr 2
  exact decide_eq_decide.mpr (by simp)
theorem in_out : Str.ofString "in" ≠ Str.ofString "out" := by decide +kernel
theorem is_step_eq {going : List Str} {d : D} (h : stepOk d) : m__is_step [.tup (going.map D.str), d] = .ret (.bl (stepD going d).isSome) := by
  unfold m__is_step b__is_step
  by_cases hp : ∃ a b, d = .tup [a, b]
  · obtain ⟨a, b, rfl⟩ := hp
    obtain ⟨pa, pb⟩ := h.2 a b rfl
    have i0 : fIx (.tup [a, b]) (.int 0) = some a := rfl
    have i1 : fIx (.tup [a, b]) (.int 1) = some b := rfl
    simp only [DL.runFn, DL.sRet, DL.sSet, DL.sSeq, DL.sIf, DL.sPass, DL.sRaise, DL.iAnd, DL.iOr, DL.iNot, DL.iIf, DL.asB, DL.notB, DL.andB, DL.orB, DL.iCall, DL.iBi, DL.iOp, DL.iChain, DL.iChain3, DL.iVar, DL.iUse, DL.iLit, DL.iTup, DL.iLst, DL.evs, DL.env0, DL.oNone, DL.oSome, DL.iSl, DL.M.ret_bind, DL.M.bind_ite, DL.M.stuck_bind, DL.M.exc_bind, DL.M.choose_bind, DL.M.ret_noX, List.map_cons, List.map_nil, List.length_cons, List.length_nil, List.cons_append, List.nil_append, List.getElem?_cons_zero, List.getElem?_cons_succ, Nat.reduceAdd, Nat.reduceSub, List.reduceReplicate, List.append_nil, List.replicate_zero, Bool.false_eq_true, if_false, if_true, List.set_cons_zero, List.set_cons_succ, Bool.not_true, Bool.not_false]
    rw [is_pair_tup]
    simp only [List.length_cons, List.length_nil, M.ret_bind, i0, i1]
    rw [isi_str pa, isi_str pb]
    simp only [M.ret_bind]
    cases a with
    | str w =>
      cases b with
      | str n =>
        simp only [isSt, M.ret_bind, Bool.not_true, Bool.false_eq_true, if_false, decide_true, Nat.reduceAdd]
        have z2 : 2 ≤ sizeLine := by rw [sizeLine_eq]; decide
        have i0 : fIx (.tup [.str w, .str n]) (.int 0) = some (.str w) := rfl
        have i1 : fIx (.tup [.str w, .str n]) (.int 1) = some (.str n) := rfl
        simp only [DL.runFn, DL.sRet, DL.sSet, DL.sSeq, DL.sIf, DL.sPass, DL.sRaise, DL.iAnd, DL.iOr, DL.iNot, DL.iIf, DL.asB, DL.notB, DL.andB, DL.orB, DL.iCall, DL.iBi, DL.iOp, DL.iChain, DL.iChain3, DL.iVar, DL.iUse, DL.iLit, DL.iTup, DL.iLst, DL.evs, DL.env0, DL.oNone, DL.oSome, DL.iSl, DL.M.ret_bind, DL.M.bind_ite, DL.M.stuck_bind, DL.M.exc_bind, DL.M.choose_bind, DL.M.ret_noX, List.map_cons, List.map_nil, List.length_cons, List.length_nil, List.cons_append, List.nil_append, List.getElem?_cons_zero, List.getElem?_cons_succ, Nat.reduceAdd, Nat.reduceSub, List.reduceReplicate, List.append_nil, List.replicate_zero, Bool.false_eq_true, if_false, if_true, List.set_cons_zero, List.set_cons_succ, Bool.not_true, Bool.not_false]
        rw [i0, i1]
        simp only [M.ret_bind, if_pos z2]
        rw [fInA_two, fInA_str]
        simp only [M.ret_bind, stepD]
        by_cases hn : n ∈ going
        · by_cases w1 : w = Str.ofString "in"
          · rw [if_pos hn, if_pos w1, decide_eq_true hn, decide_eq_true (.inl w1)]
            rfl
          · by_cases w2 : w = Str.ofString "out"
            · rw [if_pos hn, if_neg w1, if_pos w2, decide_eq_true hn, decide_eq_true (.inr w2)]
              rfl
            · rw [if_pos hn, if_neg w1, if_neg w2, decide_eq_false (fun x => x.elim w1 w2)]
              rfl
        · rw [if_neg hn, decide_eq_false hn]
          cases decide (w = Str.ofString "in" ∨ w = Str.ofString "out") <;> rfl
      | _ => first | rfl | (simp [isP] at pb)
    | _ => first | rfl | (simp [isP] at pa)
  · have e : m_is_pair [d] = .ret (.bl false) := by
      cases d with
      | tup ds =>
        rw [is_pair_tup, decide_eq_false]
        intro hl
        match ds, hl with
        | [a, b], _ => exact hp ⟨a, b, rfl⟩
      | _ => first | exact is_pair_no h.1 rfl | (simp [isP, stepOk] at h)
    have e2 : stepD going d = none := by
      unfold stepD
      split
      · rename_i w n
        exact absurd ⟨_, _, rfl⟩ hp
      · rfl
    simp only [DL.runFn, DL.sRet, DL.sSet, DL.sSeq, DL.sIf, DL.sPass, DL.sRaise, DL.iAnd, DL.iOr, DL.iNot, DL.iIf, DL.asB, DL.notB, DL.andB, DL.orB, DL.iCall, DL.iBi, DL.iOp, DL.iChain, DL.iChain3, DL.iVar, DL.iUse, DL.iLit, DL.iTup, DL.iLst, DL.evs, DL.env0, DL.oNone, DL.oSome, DL.iSl, DL.M.ret_bind, DL.M.bind_ite, DL.M.stuck_bind, DL.M.exc_bind, DL.M.choose_bind, DL.M.ret_noX, List.map_cons, List.map_nil, List.length_cons, List.length_nil, List.cons_append, List.nil_append, List.getElem?_cons_zero, List.getElem?_cons_succ, Nat.reduceAdd, Nat.reduceSub, List.reduceReplicate, List.append_nil, List.replicate_zero, Bool.false_eq_true, if_false, if_true, List.set_cons_zero, List.set_cons_succ, Bool.not_true, Bool.not_false]
    rw [e, e2]
    rfl
/-- is it a course from here on -/
def isC : List Str → Nat → List D → Bool
  | going, s, [] => decide (s = 0 ∨ going.length ≤ s)
  | going, s, d :: r => if s = 0 ∨ going.length ≤ s then false else match stepD going d with
    | some (w, n) => isC (rem going n) (if w then s - 1 else s) r
    | none => false
def icB : IS := DL.sSeq (DL.sIf (orB (asB (iCall (m_has_ended) [(iVar 2), (iVar 3)])) (notB (asB (iCall (m__is_step) [(iVar 2), (iVar 4)])))) (DL.sRet (iLit (.bl false))) DL.sPass)
  (DL.sSeq (DL.sSet 2 (iCall (m_without_name) [(iVar 2), (iOp fIx (iVar 4) (iLit (.int 1)))]))
  (DL.sIf (asB (iOp fEq (iOp fIx (iVar 4) (iLit (.int 0))) (iLit (.str (PySem.Str.ofString "in"))))) (DL.sSet 3 (iOp fSubI (iVar 3) (iLit (.int 1)))) DL.sPass))
abbrev envS (R T : D) (going : List Str) (s : Nat) (x : Option B) : DL.Env := [some (.fz R), some (.fz T), some (.fz (.tup (going.map D.str))), some (.fz (.int s)), x]
theorem stepD_some {going : List Str} {d : D} {w : Bool} {n : Str} (h : stepD going d = some (w, n)) : d = encS (w, n) ∧ n ∈ going := by
  unfold stepD at h
  split at h
  · rename_i w' n'
    split at h
    · rename_i hn
      split at h
      · rename_i e
        cases h
        subst e
        exact ⟨rfl, hn⟩
      · split at h
        · rename_i e
          cases h
          subst e
          exact ⟨rfl, hn⟩
        · cases h
    · cases h
  · cases h
theorem ic_loop (R T : D) : ∀ (ds : List D) (going : List Str) (s : Nat) (x : Option B), going.length ≤ 4 → (∀ d ∈ ds, stepOk d) →
    (loop (gN 4) icB ds (envS R T going s x) = .ret (.rt (.bl false)) ∧ isC going s ds = false) ∨ ∃ going' s' x', going'.length ≤ 4 ∧ loop (gN 4) icB ds (envS R T going s x) = .ret (.nx (envS R T going' s' x')) ∧ isC going s ds = decide (s' = 0 ∨ going'.length ≤ s')
  | [], going, s, x, hg, _ => .inr ⟨going, s, x, hg, rfl, rfl⟩
  | d :: r, going, s, x, hg, h => by
    have test : orB (asB (iCall (m_has_ended) [(iVar 2), (iVar 3)])) (notB (asB (iCall (m__is_step) [(iVar 2), (iVar 4)]))) (envS R T going s (some (.fz d))) = .ret (decide (s = 0 ∨ going.length ≤ s) || !(stepD going d).isSome) := by
      unfold orB notB asB
      rw [call2 (a := .tup (going.map D.str)) (b := .int s) rfl rfl, has_ended_eq, List.length_map, call2 (a := .tup (going.map D.str)) (b := d) rfl rfl, is_step_eq (h d List.mem_cons_self)]
      cases decide (s = 0 ∨ going.length ≤ s) <;> rfl
    show (loop (gN 4) icB (d :: r) (envS R T going s x) = _ ∧ _) ∨ _
    have lp : ∀ fl, icB (envS R T going s (some (.fz d))) = .ret fl → loop (gN 4) icB (d :: r) (envS R T going s x) = match fl with
        | .nx Γ2 => loop (gN 4) icB r Γ2
        | .ct Γ2 => loop (gN 4) icB r Γ2
        | .bk Γ2 => .ret (.nx Γ2)
        | .rt d => .ret (.rt d) := fun fl e => by
      show (icB (envS R T going s (some (.fz d)))).bind _ = _
      rw [e]
      cases fl <;> rfl
    by_cases he : s = 0 ∨ going.length ≤ s
    · refine .inl ⟨?_, by unfold isC; rw [if_pos he]⟩
      rw [lp (.rt (.bl false)) (by
        unfold icB DL.sSeq DL.sIf
        rw [test, decide_eq_true he]
        rfl)]
    · cases hs : stepD going d with
      | none =>
        refine .inl ⟨?_, by unfold isC; rw [if_neg he, hs]⟩
        rw [lp (.rt (.bl false)) (by
          unfold icB DL.sSeq DL.sIf
          rw [test, hs, decide_eq_false he]
          rfl)]
      | some p =>
        obtain ⟨w, n⟩ := p
        obtain ⟨rfl, hn⟩ := stepD_some hs
        have hs1 : 1 ≤ s := by omega
        have e : icB (envS R T going s (some (.fz (encS (w, n))))) = .ret (.nx (envS R T (rem going n) (if w then s - 1 else s) (some (.fz (encS (w, n)))))) := by
          unfold icB
          rw [seq_nx (if_no (by rw [test, hs, decide_eq_false he]; rfl))]
          rw [seq_nx (set_ok (d := .tup ((rem going n).map D.str)) (by rw [call2 (a := .tup (going.map D.str)) (b := .str n) rfl rfl]; exact without_eq n (by omega)))]
          have t2 : asB (iOp fEq (iOp fIx (iVar 4) (iLit (.int 0))) (iLit (.str (PySem.Str.ofString "in")))) (List.set (envS R T going s (some (.fz (encS (w, n))))) 2 (some (.fz (.tup ((rem going n).map D.str))))) = .ret w := by
            show ((match fEq (wordD w) (.str (Str.ofString "in")) with | some d => M.ret d | none => .stuck) : M D).bind _ = _
            unfold wordD
            rw [fEq_str]
            cases w with
            | true => rfl
            | false =>
              rw [decide_eq_false (fun e => in_out e.symm)]
              rfl
          unfold DL.sIf
          rw [t2, M.ret_bind]
          cases w with
          | true =>
            rw [if_pos rfl, set_ok (d := .int ((s - 1 : Nat) : Int)) (by
              show M.ret (D.int ((s : Int) - 1)) = _
              congr 2
              omega)]
            rfl
          | false => rfl
        rw [lp _ e]
        have ic : isC going s (encS (w, n) :: r) = isC (rem going n) (if w then s - 1 else s) r := by
          show (if s = 0 ∨ going.length ≤ s then false else match stepD going (encS (w, n)) with | some (w, n) => isC (rem going n) (if w then s - 1 else s) r | none => false) = _
          rw [if_neg he, hs]
        rw [ic]
        exact ic_loop R T r _ _ _ (Nat.le_trans (rem_le _ _) hg) fun d hd => h d (List.mem_cons_of_mem _ hd)
theorem is_course_eq {zs os : List Str} {s q1 q2 h1 h2 : Nat} {b : Bool} {ds : List D} (hz : zs.length ≤ 4) (h : ∀ d ∈ ds, stepOk d) : m_is_course [ruleI zs s q1 q2 b h1 h2 os, .tup ds] = .ret (.bl (isC zs s ds)) := by
  unfold m_is_course b_is_course runFn
  rw [seq_nx (if_no (by
    unfold notB asB iBi
    show ((((match fIsI [.tup ds, .ty "tuple"] with | some d => M.ret d | none => .stuck) : M D).bind _).bind _) = _
    rw [isi_tup rfl]
    rfl))]
  rw [seq_nx (set_ok (fld_names rfl)), seq_nx (set_ok (fld_seats rfl))]
  have ft : ∀ going s x, DL.sRet (iCall m_has_ended [iVar 2, iVar 3]) (envS (ruleI zs s q1 q2 b h1 h2 os) (.tup ds) going s x) = .ret (.rt (.bl (decide (s = 0 ∨ going.length ≤ s)))) := fun going s x => by
    unfold DL.sRet
    rw [call2 (a := .tup (going.map D.str)) (b := .int s) rfl rfl, has_ended_eq, List.length_map]
    rfl
  show (DL.sSeq (DL.sFor (gN 4) (iiA (iVar 1)) icB) _ (envS (ruleI zs s q1 q2 b h1 h2 os) (.tup ds) zs s none)).bind _ = _
  have fe : DL.sFor (gN 4) (iiA (iVar 1)) icB (envS (ruleI zs s q1 q2 b h1 h2 os) (.tup ds) zs s none) = loop (gN 4) icB ds (envS (ruleI zs s q1 q2 b h1 h2 os) (.tup ds) zs s none) := rfl
  unfold DL.sSeq
  rw [fe]
  rcases ic_loop (ruleI zs s q1 q2 b h1 h2 os) (.tup ds) ds zs s none hz h with ⟨e1, e2⟩ | ⟨going', s', x', _, e1, e2⟩
  · rw [e1, e2]
    rfl
  · rw [e1, e2, M.ret_bind]
    show (DL.sRet (iCall m_has_ended [iVar 2, iVar 3]) _).bind _ = _
    unfold DL.sRet
    rw [call2 (a := .tup (going'.map D.str)) (b := .int s') rfl rfl, has_ended_eq, List.length_map]
    rfl
end Lw
namespace Lw
open PySem PySem.Spec L2 DL
theorem stepD_enc {going : List Str} {w : Bool} {z : Str} (h : z ∈ going) : stepD going (encS (w, z)) = some (w, z) := by
  cases w with
  | true =>
    show (if z ∈ going then (if Str.ofString "in" = Str.ofString "in" then some (true, z) else _) else none) = _
    rw [if_pos h, if_pos rfl]
  | false =>
    show (if z ∈ going then (if Str.ofString "out" = Str.ofString "in" then some (true, z) else if Str.ofString "out" = Str.ofString "out" then some (false, z) else none) else none) = _
    rw [if_pos h, if_neg (fun e => in_out e.symm), if_pos rfl]
theorem cs_not {n : Nat} {going : List Str} {s : Nat} (he : ¬ (s = 0 ∨ going.length ≤ s)) : cs (n + 1) going s = (going.flatMap fun z => (cs n (rem going z) (s - 1)).map ((true, z) :: ·)) ++ going.flatMap fun z => (cs n (rem going z) s).map ((false, z) :: ·) := by
  show (if s = 0 ∨ going.length ≤ s then [[]] else _) = _
  rw [if_neg he]
theorem mem_cs {n : Nat} {going : List Str} {s : Nat} (he : ¬ (s = 0 ∨ going.length ≤ s)) {p : Path} : p ∈ cs (n + 1) going s ↔ ∃ w z q, p = (w, z) :: q ∧ z ∈ going ∧ q ∈ cs n (rem going z) (if w then s - 1 else s) := by
  rw [cs_not he, List.mem_append]
  constructor
  · rintro (h | h)
    · obtain ⟨z, hz, h⟩ := List.mem_flatMap.mp h
      obtain ⟨q, hq, rfl⟩ := List.mem_map.mp h
      exact ⟨true, z, q, rfl, hz, hq⟩
    · obtain ⟨z, hz, h⟩ := List.mem_flatMap.mp h
      obtain ⟨q, hq, rfl⟩ := List.mem_map.mp h
      exact ⟨false, z, q, rfl, hz, hq⟩
  · rintro ⟨w, z, q, rfl, hz, hq⟩
    cases w with
    | true => exact .inl (List.mem_flatMap.mpr ⟨z, hz, List.mem_map.mpr ⟨q, hq, rfl⟩⟩)
    | false => exact .inr (List.mem_flatMap.mpr ⟨z, hz, List.mem_map.mpr ⟨q, hq, rfl⟩⟩)
/-- just the courses are courses -/
theorem isC_iff : ∀ (n : Nat) (going : List Str) (s : Nat) (ds : List D), going.length < n → (isC going s ds = true ↔ ∃ p ∈ cs n going s, ds = p.map encS)
  | 0, _, _, _, h => by omega
  | n + 1, going, s, ds, h => by
    by_cases he : s = 0 ∨ going.length ≤ s
    · have c : cs (n + 1) going s = [[]] := by unfold cs; rw [if_pos he]
      rw [c]
      cases ds with
      | nil => exact ⟨fun _ => ⟨[], by simp, rfl⟩, fun _ => decide_eq_true he⟩
      | cons d r =>
        unfold isC
        rw [if_pos he]
        refine ⟨fun h => (nomatch h), fun ⟨p, hp, e⟩ => ?_⟩
        rw [List.mem_singleton] at hp
        subst hp
        cases e
    · cases ds with
      | nil =>
        have : isC going s [] = false := decide_eq_false he
        rw [this]
        refine ⟨fun h => (nomatch h), fun ⟨p, hp, e⟩ => ?_⟩
        obtain ⟨w, z, q, rfl, _⟩ := (mem_cs he).mp hp
        cases e
      | cons d r =>
        have c : isC going s (d :: r) = match stepD going d with
          | some (w, n) => isC (rem going n) (if w then s - 1 else s) r
          | none => false := by
          show (if s = 0 ∨ going.length ≤ s then false else _) = _
          rw [if_neg he]
          try rfl
        rw [c]
        cases hs : stepD going d with
        | none =>
          refine ⟨fun h => (nomatch h), fun ⟨p, hp, e⟩ => ?_⟩
          obtain ⟨w, z, q, rfl, hz, _⟩ := (mem_cs he).mp hp
          have e1 : d = encS (w, z) := (List.cons.inj e).1
          rw [e1, stepD_enc hz] at hs
          cases hs
        | some x =>
          obtain ⟨w, z⟩ := x
          obtain ⟨rfl, hz⟩ := stepD_some hs
          show isC (rem going z) (if w then s - 1 else s) r = true ↔ _
          rw [isC_iff n (rem going z) (if w then s - 1 else s) r (by have := rem_len hz; omega)]
          constructor
          · rintro ⟨q, hq, rfl⟩
            exact ⟨(w, z) :: q, (mem_cs he).mpr ⟨w, z, q, rfl, hz, hq⟩, rfl⟩
          · rintro ⟨p, hp, e⟩
            obtain ⟨w', z', q, rfl, hz', hq⟩ := (mem_cs he).mp hp
            obtain ⟨e1, e2⟩ := List.cons.inj e
            have e3 : stepD going (encS (w', z')) = some (w, z) := by rw [← hs]; exact congrArg _ e1.symm
            rw [stepD_enc hz'] at e3
            cases e3
            exact ⟨q, hq, e2⟩
theorem encS_ok (x : Bool × Str) : stepOk (encS x) := ⟨rfl, fun a b e => by
  have := D.tup.inj e
  cases this
  exact ⟨rfl, rfl⟩⟩
theorem course_is {zs os : List Str} {s q1 q2 h1 h2 : Nat} {b : Bool} {p : Path} (hz : zs.length ≤ 4) (hp : p ∈ cs 6 zs s) : m_is_course [ruleI zs s q1 q2 b h1 h2 os, encP p] = .ret (.bl true) := by
  unfold encP
  rw [is_course_eq hz fun d hd => by obtain ⟨x, _, rfl⟩ := List.mem_map.mp hd; exact encS_ok x]
  rw [(isC_iff 6 zs s (p.map encS) (by omega)).mpr ⟨p, hp, rfl⟩]
end Lw
namespace Lw
open PySem PySem.Spec L2 DL
def ins (p : Path) : List Str := (p.filter fun x => x.1).map (·.2)
def snd (d : D) : D := match d with
  | .tup [_, b] => b
  | d => d
def inB (d : D) : Bool := match d with
  | .tup [.str w, _] => decide (w = Str.ofString "in")
  | _ => false
theorem inB_enc (x : Bool × Str) : inB (encS x) = x.1 := by
  obtain ⟨w, z⟩ := x
  cases w with
  | true => exact (decide_eq_true rfl : decide (Str.ofString "in" = Str.ofString "in") = true)
  | false => exact (decide_eq_false (fun e => in_out e.symm) : decide (Str.ofString "out" = Str.ofString "in") = false)
theorem ins_map (p : Path) : ((p.map encS).filter inB).map snd = (ins p).map D.str := by
  unfold ins
  induction p with
  | nil => rfl
  | cons x r ih =>
    rw [List.map_cons, List.filter_cons, List.filter_cons, inB_enc]
    cases x.1 with
    | true =>
      simp only [if_true, List.map_cons]
      rw [ih]
      rfl
    | false => simpa using ih
theorem snd_map (p : Path) : (p.map encS).map snd = (p.map (·.2)).map D.str := by
  rw [List.map_map, List.map_map]
  rfl
/-- the comprehensions over a path, at the slots 4 and 5 of six -/
theorem lc_ins {Γ : DL.Env} {p : Path} {it : II} (hl : Γ.length = 6) (hp : p.length ≤ 100) (hi : it Γ = .ret (p.map encS)) : iLc (gT [gN 4, gN 5]) it (asB (iOp fEq (iVar 4) (iLit (.str (Str.ofString "in"))))) (iVar 5) [4, 5] Γ = .ret (.lst ((ins p).map D.str)) := by
  match Γ, hl with
  | [a0, a1, a2, a3, a4, a5], _ =>
    rw [lc_pure (ds := p.map encS) (p := inB) (e := snd) hi ?_ (by rw [List.length_map, sizeLine_eq]; omega), ins_map]
    intro d hd
    obtain ⟨⟨w, z⟩, _, rfl⟩ := List.mem_map.mp hd
    refine ⟨[a0, a1, a2, a3, some (.fz (wordD w)), some (.fz (.str z))], rfl, ?_, fun _ => rfl⟩
    rw [inB_enc]
    show ((match fEq (wordD w) (.str (Str.ofString "in")) with | some d => M.ret d | none => .stuck) : M D).bind _ = _
    unfold wordD
    rw [fEq_str]
    cases w with
    | true => rfl
    | false =>
      rw [decide_eq_false (fun e => in_out e.symm)]
      rfl
theorem lc_snd {Γ : DL.Env} {p : Path} {it : II} (hl : Γ.length = 6) (hp : p.length ≤ 100) (hi : it Γ = .ret (p.map encS)) : iLc (gT [gN 4, gN 5]) it cYes (iVar 5) [4, 5] Γ = .ret (.lst ((p.map (·.2)).map D.str)) := by
  match Γ, hl with
  | [a0, a1, a2, a3, a4, a5], _ =>
    rw [lc_all (ds := p.map encS) (e := snd) hi ?_ (by rw [List.length_map, sizeLine_eq]; omega), snd_map]
    intro d hd
    obtain ⟨⟨w, z⟩, _, rfl⟩ := List.mem_map.mp hd
    exact ⟨[a0, a1, a2, a3, some (.fz (wordD w)), some (.fz (.str z))], rfl, rfl⟩
/-- the winners of a course -/
def winL (zs : List Str) (s : Nat) (p : Path) : List Str := ssort (ins p ++ if (ins p).length < s then zs.filter fun z => decide (z ∉ p.map (·.2)) else [])
theorem fNotIn_str (x : Str) (zs : List Str) : fNotIn (.str x) (.lst (zs.map D.str)) = some (.bl (decide (x ∉ zs))) := by
  have h := fInA_str x zs
  have e : okIn (.str x) (zs.map D.str) = true := by
    unfold okIn
    rw [plL_str]
    show (true && true && _) = true
    rw [Bool.true_and, Bool.true_and]
    refine decide_eq_true ?_
    have : D.dep (.str x) ≤ 60 := by show 0 ≤ 60; decide
    omega
  have h2 : fIn false (.str x) (.tup (zs.map D.str)) = some (.bl (dIn (.str x) (zs.map D.str))) := if_pos e
  have h3 : fInA (.str x) (.tup (zs.map D.str)) = some (.bl (dIn (.str x) (zs.map D.str))) := by
    show (match fIn false (.str x) (.tup (zs.map D.str)) with | some d => some d | none => _) = _
    rw [h2]
  rw [h3] at h
  have h4 : dIn (.str x) (zs.map D.str) = decide (x ∈ zs) := by simpa using h
  have h5 : fIn true (.str x) (.lst (zs.map D.str)) = some (.bl (!dIn (.str x) (zs.map D.str))) := if_pos e
  show (match fIn true (.str x) (.lst (zs.map D.str)) with | some d => some d | none => _) = _
  rw [h5, h4]
  simp
def stB (l : List Str) (d : D) : Bool := match d with
  | .str z => decide (z ∉ l)
  | _ => false
end Lw
namespace Lw
open PySem PySem.Spec L2 DL
theorem ins_len (p : Path) : (ins p).length ≤ p.length := by
  unfold ins
  rw [List.length_map]
  exact List.length_filter_le _ _
theorem bi_ok {f : List D → Option D} {i : IE} {Γ : DL.Env} {a d : D} (h : i Γ = .ret a) (h2 : f [a] = some d) : iBi f [i] Γ = .ret d := by
  unfold iBi
  rw [evs_one h, M.ret_bind, h2]
theorem law_winners_eq {zs os : List Str} {s q1 q2 h1 h2 : Nat} {b : Bool} {p : Path} (hz : zs.length ≤ 4) (hp : p.length ≤ 100) : m__law_winners [.tup (ruleD zs s q1 q2 b h1 h2 os), encP p] = .ret (.tup ((winL zs s p).map D.str)) := by
  unfold m__law_winners b__law_winners runFn
  have il := ins_len p
  have e0 : env0 6 [D.tup (ruleD zs s q1 q2 b h1 h2 os), encP p] = [some (.fz (.tup (ruleD zs s q1 q2 b h1 h2 os))), some (.fz (encP p)), none, none, none, none] := rfl
  rw [e0]
  rw [seq_nx (set_ok (lc_ins (p := p) rfl hp rfl))]
  rw [seq_nx (set_ok (lc_snd (p := p) rfl hp rfl))]
  show (DL.sRet _ [some (.fz (.tup (ruleD zs s q1 q2 b h1 h2 os))), some (.fz (encP p)), some (.fz (.lst ((ins p).map D.str))), some (.fz (.lst ((p.map (·.2)).map D.str))), none, none]).bind _ = _
  have c : iLc (gN 5) (iiA (iOp fIx (iVar 0) (iLit (.int 0)))) (andB (asB (iOp fNotIn (iVar 5) (iVar 3))) (asB (iOp fLt (iBi fLen [iVar 2]) (iOp fIx (iVar 0) (iLit (.int 1)))))) (iVar 5) [5] [some (.fz (.tup (ruleD zs s q1 q2 b h1 h2 os))), some (.fz (encP p)), some (.fz (.lst ((ins p).map D.str))), some (.fz (.lst ((p.map (·.2)).map D.str))), none, none] =
      .ret (.lst ((if (ins p).length < s then zs.filter fun z => decide (z ∉ p.map (·.2)) else []).map D.str)) := by
    rw [lc_pure (ds := zs.map D.str) (p := fun d => stB (p.map (·.2)) d && decide ((ins p).length < s)) (e := fun d => d) rfl ?_ (by rw [List.length_map, sizeLine_eq]; omega)]
    · rw [filter_map_str (fun z => decide (z ∉ p.map (·.2)) && decide ((ins p).length < s)) _ fun z => rfl]
      congr 3
      by_cases h : (ins p).length < s
      · rw [if_pos h]
        refine List.filter_congr fun z _ => ?_
        rw [decide_eq_true h, Bool.and_true]
      · rw [if_neg h]
        refine List.filter_eq_nil_iff.mpr fun z _ => ?_
        rw [decide_eq_false h, Bool.and_false]
        decide
    · intro d hd
      obtain ⟨z, _, rfl⟩ := List.mem_map.mp hd
      refine ⟨_, rfl, ?_, fun _ => rfl⟩
      have t1 : asB (iOp fNotIn (iVar 5) (iVar 3)) [some (.fz (.tup (ruleD zs s q1 q2 b h1 h2 os))), some (.fz (encP p)), some (.fz (.lst ((ins p).map D.str))), some (.fz (.lst ((p.map (·.2)).map D.str))), none, some (.fz (.str z))] = .ret (stB (p.map (·.2)) (.str z)) := by
        show ((match fNotIn (.str z) (.lst ((p.map (·.2)).map D.str)) with | some d => M.ret d | none => .stuck) : M D).bind _ = _
        rw [fNotIn_str]
        rfl
      have t2 : asB (iOp fLt (iBi fLen [iVar 2]) (iOp fIx (iVar 0) (iLit (.int 1)))) [some (.fz (.tup (ruleD zs s q1 q2 b h1 h2 os))), some (.fz (encP p)), some (.fz (.lst ((ins p).map D.str))), some (.fz (.lst ((p.map (·.2)).map D.str))), none, some (.fz (.str z))] = .ret (decide ((ins p).length < s)) := by
        show M.ret (decide ((((ins p).map D.str).length : Int) < (s : Int))) = _
        rw [List.length_map]
        congr 1
        exact decide_eq_decide.mpr (by omega)
      show andB _ _ [some (.fz (.tup (ruleD zs s q1 q2 b h1 h2 os))), some (.fz (encP p)), some (.fz (.lst ((ins p).map D.str))), some (.fz (.lst ((p.map (·.2)).map D.str))), none, some (.fz (.str z))] = _
      unfold andB
      rw [t1, M.ret_bind, t2]
      cases stB (p.map (·.2)) (.str z) <;> rfl
  unfold DL.sRet
  rw [bi_ok (bi_ok (op_ok rfl c (fAdd_lst _ _ (by
    rw [List.length_map, List.length_map, sizeLine_eq]
    have : (if (ins p).length < s then zs.filter fun z => decide (z ∉ p.map (·.2)) else []).length ≤ 4 := by
      split
      · exact Nat.le_trans (List.length_filter_le _ _) hz
      · simp
    omega))) (by rw [← List.map_append]; exact fSorted_str _)) rfl]
  rfl
abbrev envV (R : D) (p : Path) (l : List Str) (x : Option B) : DL.Env := [some (.fz R), some (.fz (encP p)), some (.fz (.lst (l.map D.str))), x, none, none]
theorem winners_eq {zs os : List Str} {s q1 q2 h1 h2 : Nat} {b : Bool} {p : Path} (hz : zs.length ≤ 4) (hc : p ∈ cs 6 zs s) : m_winners_of [ruleI zs s q1 q2 b h1 h2 os, encP p] = .ret (.tup ((winL zs s p).map D.str)) := by
  unfold m_winners_of b_winners_of runFn
  have hp : p.length ≤ 100 := Nat.le_trans (cs_short 6 zs s p hc) (by decide)
  have il := ins_len p
  generalize hR : ruleI zs s q1 q2 b h1 h2 os = R
  have fs : ∀ {i : IE} {Γ : DL.Env}, i Γ = .ret R → iFld at_seats i Γ = .ret (.int s) := fun h => by subst hR; exact fld_seats h
  have fn : ∀ {i : IE} {Γ : DL.Env}, i Γ = .ret R → iFld at_names i Γ = .ret (.tup (zs.map D.str)) := fun h => by subst hR; exact fld_names h
  have e0 : env0 6 [R, encP p] = [some (.fz R), some (.fz (encP p)), none, none, none, none] := rfl
  rw [e0]
  rw [seq_nx (if_no (not_yes (by rw [call2 (a := R) (b := encP p) rfl rfl, ← hR]; exact course_is hz hc)))]
  rw [seq_nx (set_ok (lc_ins (p := p) rfl hp rfl))]
  have test : asB (iOp fLt (iBi fLen [iVar 2]) (iFld at_seats (iVar 0))) (envV R p (ins p) none) = .ret (decide ((ins p).length < s)) := by
    unfold asB
    rw [op_ok (a := .int ((ins p).length : Nat)) (by show M.ret (D.int (((ins p).map D.str).length : Nat)) = _; rw [List.length_map]) (fs rfl) (fLt_int _ _)]
    show M.ret (decide (((ins p).length : Int) < (s : Int))) = _
    congr 1
    exact decide_eq_decide.mpr (by omega)
  have fin : ∀ (l : List Str) x, l.length ≤ 1000 → DL.sRet (iBi fTuple [iBi fSorted [iVar 2]]) (envV R p l x) = .ret (.rt (.tup ((ssort l).map D.str))) := fun l x _ => by
    unfold DL.sRet
    rw [bi_ok (bi_ok (a := .lst (l.map D.str)) rfl (fSorted_str l)) rfl]
    rfl
  by_cases h : (ins p).length < s
  · have body : DL.sIf (asB (iOp fLt (iBi fLen [iVar 2]) (iFld at_seats (iVar 0)))) (DL.sSeq (DL.sSet 3 (iLc (gT [gN 4, gN 5]) (iiA (iVar 1)) cYes (iVar 5) [4, 5])) (DL.sSet 2 (iOp fAdd (iVar 2) (iLc (gN 5) (iiA (iFld at_names (iVar 0))) (asB (iOp fNotIn (iVar 5) (iVar 3))) (iVar 5) [5])))) DL.sPass (envV R p (ins p) none) =
        .ret (.nx (envV R p (ins p ++ zs.filter fun z => decide (z ∉ p.map (·.2))) (some (.fz (.lst ((p.map (·.2)).map D.str)))))) := by
      unfold DL.sIf
      rw [test, M.ret_bind, if_pos (decide_eq_true h)]
      rw [seq_nx (set_ok (lc_snd (p := p) rfl hp rfl))]
      have c : iLc (gN 5) (iiA (iFld at_names (iVar 0))) (asB (iOp fNotIn (iVar 5) (iVar 3))) (iVar 5) [5] (envV R p (ins p) (some (.fz (.lst ((p.map (·.2)).map D.str))))) = .ret (.lst ((zs.filter fun z => decide (z ∉ p.map (·.2))).map D.str)) := by
        rw [lc_pure (ds := zs.map D.str) (p := stB (p.map (·.2))) (e := fun d => d) (by unfold iiA; rw [fn rfl]; rfl) ?_ (by rw [List.length_map, sizeLine_eq]; omega)]
        · rw [filter_map_str (fun z => decide (z ∉ p.map (·.2))) _ fun z => rfl]
        · intro d hd
          obtain ⟨z, _, rfl⟩ := List.mem_map.mp hd
          refine ⟨_, rfl, ?_, fun _ => rfl⟩
          show ((match fNotIn (.str z) (.lst ((p.map (·.2)).map D.str)) with | some d => M.ret d | none => .stuck) : M D).bind _ = _
          rw [fNotIn_str]
          rfl
      show DL.sSet 2 (iOp fAdd (iVar 2) (iLc (gN 5) (iiA (iFld at_names (iVar 0))) (asB (iOp fNotIn (iVar 5) (iVar 3))) (iVar 5) [5])) (envV R p (ins p) (some (.fz (.lst ((p.map (·.2)).map D.str))))) = _
      rw [set_ok (op_ok rfl c (fAdd_lst _ _ (by
        rw [List.length_map, List.length_map, sizeLine_eq]
        have := List.length_filter_le (fun z => decide (z ∉ p.map (·.2))) zs
        omega)))]
      rw [← List.map_append]
      rfl
    refine (congrArg (fun z => M.bind z _) ((seq_nx body).trans (fin _ _ (by
      rw [List.length_append]
      have := List.length_filter_le (fun z => decide (z ∉ p.map (·.2))) zs
      omega)))).trans ?_
    unfold winL
    rw [if_pos h]
    rfl
  · refine (congrArg (fun z => M.bind z _) ((seq_nx (if_no (by rw [← decide_eq_false h]; exact test))).trans (fin (ins p) none (by omega)))).trans ?_
    unfold winL
    rw [if_neg h, List.append_nil]
    rfl
end Lw
/-! repr, sign by sign. -/
namespace DL
open PySem PySem.Spec L2
/-- signs that stand for themselves in a repr -/
def safeC (c : Nat) : Bool := c == 32 || (48 ≤ c && c ≤ 57) || (65 ≤ c && c ≤ 90) || (97 ≤ c && c ≤ 122)
def SafeL (l : List Nat) : Prop := ∀ c ∈ l, safeC c = true
theorem reprChar_fin : ∀ c : Fin 123, safeC c.1 = true → Builtin.Str.reprChar 39 c.1 = [c.1] := by decide +kernel
theorem safe_lt {c : Nat} (h : safeC c = true) : c < 123 ∧ c ≠ 39 := by
  unfold safeC at h
  simp only [Bool.or_eq_true, Bool.and_eq_true, beq_iff_eq, decide_eq_true_eq] at h
  omega
theorem reprChar_safe {c : Nat} (h : safeC c = true) : Builtin.Str.reprChar 39 c = [c] := reprChar_fin ⟨c, (safe_lt h).1⟩ h
theorem fold_safe : ∀ (l : List Nat) (acc : Array Nat), SafeL l → (l.foldl (fun out c => out ++ (Builtin.Str.reprChar 39 c).toArray) acc).toList = acc.toList ++ l
  | [], acc, _ => by simp
  | c :: r, acc, h => by
    rw [List.foldl_cons, fold_safe r _ fun x hx => h x (List.mem_cons_of_mem _ hx), reprChar_safe (h c List.mem_cons_self)]
    simp
theorem repr_safe {z : Str} (h : SafeL z.cps.toList) : (reprText z).cps.toList = 39 :: (z.cps.toList ++ [39]) := by
  have q : reprQuote z = 39 := by
    unfold reprQuote
    have : z.cps.contains 39 = false := by
      cases e : z.cps.contains 39 with
      | false => rfl
      | true =>
        have m : 39 ∈ z.cps.toList := by
          rw [Array.contains_iff_mem] at e
          exact Array.mem_toList_iff.mpr e
        exact absurd rfl (safe_lt (h 39 m)).2
    rw [this]
    rfl
  unfold reprText
  rw [q, Array.toList_push, ← Array.foldl_toList, fold_safe _ _ h]
  rfl
end DL
namespace DL
open PySem PySem.Spec L2
mutual
def D.z : D → PyData
  | .tup xs => .tuple (D.zL xs)
  | .lst xs => .list (D.zL xs)
  | .dct _ _ => .dict []
  | .non => .none
  | .bl b => .bool b
  | .int i => .int i
  | .str s => .str s
  | .ins _ _ | .exc _ _ | .err _ _ | .ty _ | .clo _ | .rnd | .scr _ => .none
def D.zL : List D → List PyData
  | [] => []
  | x :: r => D.z x :: D.zL r
end
def R (d : D) : List Nat := d.z.shown.cps.toList
def Rs : List (List Nat) → List Nat
  | [] => [41]
  | x :: r => 44 :: 32 :: (x ++ Rs r)
def tupL : List (List Nat) → List Nat
  | [] => [40, 41]
  | [x] => 40 :: (x ++ [44, 41])
  | x :: r => 40 :: (x ++ Rs r)
theorem app_list (a b : Str) : (a ++ b : Str).cps.toList = a.cps.toList ++ b.cps.toList := by
  show (a.cps ++ b.cps).toList = _
  simp
theorem comma : (Str.ofString ", ").cps.toList = [44, 32] := by decide +kernel
theorem par_o : (Str.ofString "(").cps.toList = [40] := by decide +kernel
theorem par_c : (Str.ofString ")").cps.toList = [41] := by decide +kernel
theorem par_c1 : (Str.ofString ",)").cps.toList = [44, 41] := by decide +kernel
theorem join_list : ∀ (x : Str) (r : List Str), (Str.join (Str.ofString ", ") (x :: r)).cps.toList ++ [41] = x.cps.toList ++ Rs (r.map fun t => t.cps.toList)
  | x, [] => rfl
  | x, y :: r => by
    show (x ++ Str.ofString ", " ++ Str.join (Str.ofString ", ") (y :: r) : Str).cps.toList ++ [41] = _
    rw [app_list, app_list, comma, List.append_assoc, join_list y r]
    simp [Rs]
theorem tupleText_list (ts : List Str) : (tupleText ts).cps.toList = tupL (ts.map fun t => t.cps.toList) := by
  match ts with
  | [] => decide +kernel
  | [x] =>
    show (Str.ofString "(" ++ x ++ Str.ofString ",)" : Str).cps.toList = _
    rw [app_list, app_list, par_o, par_c1]
    simp [tupL]
  | x :: y :: r =>
    show (Str.ofString "(" ++ Str.join (Str.ofString ", ") (x :: y :: r) ++ Str.ofString ")" : Str).cps.toList = _
    rw [app_list, app_list, par_o, par_c, List.append_assoc, join_list]
    rfl
theorem shownAll_map : ∀ xs : List D, (PyData.shownAll (D.zL xs)).map (fun t => t.cps.toList) = xs.map R
  | [] => by simp [D.zL, PyData.shownAll]
  | x :: r => by
    simp only [D.zL, PyData.shownAll, List.map_cons, shownAll_map r]
    rfl
theorem R_tup (xs : List D) : R (.tup xs) = tupL (xs.map R) := by
  unfold R
  simp only [D.z, PyData.shown]
  rw [tupleText_list, shownAll_map]
  rfl
theorem R_str {s : Str} (h : SafeL s.cps.toList) : R (.str s) = 39 :: (s.cps.toList ++ [39]) := by
  unfold R
  simp only [D.z, PyData.shown]
  exact repr_safe h
end DL
namespace DL
open PySem PySem.Spec L2
mutual
/-- plain, its texts of safe signs -/
def D.sf : D → Bool
  | .non | .bl _ | .int _ => true
  | .str s => s.cps.toList.all safeC
  | .tup xs => D.sfL xs
  | .lst xs => D.sfL xs
  | .dct _ _ => true
  | .ins _ _ | .exc _ _ | .err _ _ | .ty _ | .clo _ | .rnd | .scr _ => false
def D.sfL : List D → Bool
  | [] => true
  | x :: r => D.sf x && D.sfL r
end
theorem sfL_all : ∀ {xs : List D}, D.sfL xs = true → ∀ x ∈ xs, x.sf = true
  | [], _, x, h => by cases h
  | y :: r, hp, x, h => by
    simp only [D.sfL, Bool.and_eq_true] at hp
    rcases List.mem_cons.mp h with rfl | h
    · exact hp.1
    · exact sfL_all hp.2 x h
/-- what begins a repr -/
inductive Head : D → Nat → Prop
  | tup (xs : List D) : Head (.tup xs) 40
  | str (s : Str) : Head (.str s) 39
  | oth (d : D) (c : Nat) (h1 : c ≠ 40) (h2 : c ≠ 39) (h3 : c ≠ 41) : Head d c
theorem digit_head (i : Int) : ∃ c r, R (.int i) = c :: r ∧ c ≠ 40 ∧ c ≠ 39 ∧ c ≠ 41 := by
  have dig : ∀ n : Nat, ∃ c r, (Str.ofString (toString n)).cps.toList = c :: r ∧ c ≠ 40 ∧ c ≠ 39 ∧ c ≠ 41 := fun n => by
    have e : toString n = String.ofList (Nat.toDigits 10 n) := rfl
    rw [e, Str.ofString_eq_toList]
    cases hd : Nat.toDigits 10 n with
    | nil => exact absurd hd Nat.toDigits_ne_nil
    | cons c r =>
      have hc : c.isDigit = true := Nat.isDigit_of_mem_toDigits (b := 10) (n := n) (by decide) (by decide) (by rw [hd]; exact List.mem_cons_self)
      refine ⟨c.toNat, r.map Char.toNat, by simp, ?_⟩
      have h2 : 48 ≤ c.toNat ∧ c.toNat ≤ 57 := by
        simp only [Char.isDigit, Bool.and_eq_true, decide_eq_true_eq] at hc
        exact ⟨hc.1, hc.2⟩
      omega
  cases i with
  | ofNat n => exact dig n
  | negSucc n =>
    have e : R (.int (.negSucc n)) = (Str.ofString ("-" ++ toString (n + 1))).cps.toList := rfl
    rw [e, Str.ofString_eq_toList]
    refine ⟨45, (toString (n + 1)).toList.map Char.toNat, ?_, by decide, by decide, by decide⟩
    simp
theorem textFrom_pre : ∀ (ts : List Str) (k : Nat) (acc : Str), ∃ r, (textFrom k acc ts).cps.toList = acc.cps.toList ++ r
  | [], k, acc => ⟨[], by simp [textFrom]⟩
  | t :: ts, k, acc => by
    obtain ⟨r, h⟩ := textFrom_pre ts (k + 1) (acc ++ (if k > 0 then ", " else "" : String) ++ t)
    exact ⟨_, by show (textFrom (k + 1) (acc ++ (if k > 0 then ", " else "" : String) ++ t) ts).cps.toList = _; rw [h, app_list, app_list, List.append_assoc, List.append_assoc]⟩
theorem R_head {y : D} (h : y.sf = true) : ∃ c r, R y = c :: r ∧ Head y c := by
  cases y with
  | non => exact ⟨78, _, (by decide +kernel : R .non = [78, 111, 110, 101]), .oth _ _ (by decide) (by decide) (by decide)⟩
  | bl b =>
    cases b with
    | true => exact ⟨84, _, (by decide +kernel : R (.bl true) = [84, 114, 117, 101]), .oth _ _ (by decide) (by decide) (by decide)⟩
    | false => exact ⟨70, _, (by decide +kernel : R (.bl false) = [70, 97, 108, 115, 101]), .oth _ _ (by decide) (by decide) (by decide)⟩
  | int i =>
    obtain ⟨c, r, e, h1, h2, h3⟩ := digit_head i
    exact ⟨c, r, e, .oth _ _ h1 h2 h3⟩
  | str s =>
    have : SafeL s.cps.toList := fun c hc => List.all_eq_true.mp (by simpa only [D.sf] using h) c hc
    exact ⟨39, _, R_str this, .str s⟩
  | tup xs =>
    rw [R_tup]
    match xs.map R with
    | [] => exact ⟨40, _, rfl, .tup xs⟩
    | [x] => exact ⟨40, _, rfl, .tup xs⟩
    | x :: y :: r => exact ⟨40, _, rfl, .tup xs⟩
  | lst xs =>
    have e : R (.lst xs) = (textFrom 0 (Str.ofString "[") (PyData.shownAll (D.zL xs)) ++ Str.ofString "]" : Str).cps.toList := by
      unfold R
      simp only [D.z, PyData.shown]
      rfl
    obtain ⟨r, hr⟩ := textFrom_pre (PyData.shownAll (D.zL xs)) 0 (Str.ofString "[")
    rw [e, app_list, hr, (by decide +kernel : (Str.ofString "[").cps.toList = [91])]
    exact ⟨91, _, rfl, .oth _ _ (by decide) (by decide) (by decide)⟩
  | dct t kvs =>
    have e : R (.dct t kvs) = (dictText []).cps.toList := by
      unfold R
      simp only [D.z, PyData.shown]
      rfl
    rw [e]
    exact ⟨123, [125], by decide +kernel, .oth _ _ (by decide) (by decide) (by decide)⟩
  | _ => simp only [D.sf] at h; cases h
/-- a repr that tells its data, whatever follows -/
def Dec (x : D) : Prop := ∀ y : D, y.sf = true → ∀ r1 r2, R y ++ r1 = R x ++ r2 → y = x ∧ r1 = r2
theorem cut39 : ∀ {a b r1 r2 : List Nat}, SafeL a → SafeL b → a ++ 39 :: r1 = b ++ 39 :: r2 → a = b ∧ r1 = r2
  | [], [], _, _, _, _, h => ⟨rfl, (List.cons.inj h).2⟩
  | [], c :: b, _, _, _, hb, h => by
    have e : 39 = c := (List.cons.inj h).1
    exact absurd e.symm (safe_lt (hb c List.mem_cons_self)).2
  | c :: a, [], _, _, ha, _, h => by
    have e : c = 39 := (List.cons.inj h).1
    exact absurd e (safe_lt (ha c List.mem_cons_self)).2
  | c :: a, d :: b, _, _, ha, hb, h => by
    obtain ⟨e1, e2⟩ := List.cons.inj h
    obtain ⟨e3, e4⟩ := cut39 (a := a) (b := b) (fun x hx => ha x (List.mem_cons_of_mem _ hx)) (fun x hx => hb x (List.mem_cons_of_mem _ hx)) e2
    exact ⟨by rw [e1, e3], e4⟩
theorem Dec.str {s : Str} (hs : SafeL s.cps.toList) : Dec (.str s) := fun y hy r1 r2 e => by
  obtain ⟨c, r, ey, hh⟩ := R_head hy
  rw [R_str hs] at e
  have ec : c = 39 := by
    rw [ey] at e
    exact (List.cons.inj e).1
  subst ec
  cases hh with
  | str t =>
    have ht : SafeL t.cps.toList := fun c hc => List.all_eq_true.mp (by simpa only [D.sf] using hy) c hc
    rw [R_str ht] at e
    have e2 : t.cps.toList ++ 39 :: r1 = s.cps.toList ++ 39 :: r2 := by
      have := (List.cons.inj e).2
      simpa using this
    obtain ⟨e3, e4⟩ := cut39 ht hs e2
    exact ⟨by rw [PySem.W.str_of_cps e3], e4⟩
  | oth _ _ _ h2 _ => exact absurd rfl h2
theorem Rs_inj : ∀ {rx ry : List D} {r1 r2 : List Nat}, (∀ x ∈ rx, Dec x) → (∀ y ∈ ry, y.sf = true) → Rs (ry.map R) ++ r1 = Rs (rx.map R) ++ r2 → ry = rx ∧ r1 = r2
  | [], [], _, _, _, _, h => ⟨rfl, (List.cons.inj h).2⟩
  | [], y :: ry, _, _, _, _, h => by
    have := (List.cons.inj h).1
    omega
  | x :: rx, [], _, _, _, _, h => by
    have := (List.cons.inj h).1
    omega
  | x :: rx, y :: ry, r1, r2, hx, hy, h => by
    have h1 : R y ++ (Rs (ry.map R) ++ r1) = R x ++ (Rs (rx.map R) ++ r2) := by
      have := (List.cons.inj (List.cons.inj h).2).2
      simpa using this
    obtain ⟨e1, e2⟩ := hx x List.mem_cons_self y (hy y List.mem_cons_self) _ _ h1
    obtain ⟨e3, e4⟩ := Rs_inj (fun z hz => hx z (List.mem_cons_of_mem _ hz)) (fun z hz => hy z (List.mem_cons_of_mem _ hz)) e2
    exact ⟨by rw [e1, e3], e4⟩
theorem tupL_inj {xs ys : List D} {r1 r2 : List Nat} (hx : ∀ x ∈ xs, Dec x ∧ x.sf = true) (hy : ∀ y ∈ ys, y.sf = true) (h : tupL (ys.map R) ++ r1 = tupL (xs.map R) ++ r2) : ys = xs ∧ r1 = r2 := by
  have no : ∀ (z : D), z.sf = true → ∀ l l' : List Nat, R z ++ l = 41 :: l' → False := fun z hz l l' e => by
    obtain ⟨c, r, ez, hh⟩ := R_head hz
    rw [ez] at e
    have : c = 41 := (List.cons.inj e).1
    subst this
    cases hh with
    | oth _ _ _ _ h3 => exact h3 rfl
  match xs, ys, hx, hy, h with
  | [], [], _, _, h => exact ⟨rfl, (List.cons.inj (List.cons.inj h).2).2⟩
  | [], [y], _, hy, h =>
    have h1 : R y ++ ([44, 41] ++ r1) = 41 :: r2 := by simpa [tupL] using h
    exact (no y (hy y List.mem_cons_self) _ _ h1).elim
  | [], y :: y2 :: ry, _, hy, h =>
    have h1 : R y ++ (Rs ((y2 :: ry).map R) ++ r1) = 41 :: r2 := by simpa [tupL] using h
    exact (no y (hy y List.mem_cons_self) _ _ h1).elim
  | [x], [], hx, _, h =>
    have h1 : R x ++ ([44, 41] ++ r2) = 41 :: r1 := by simpa [tupL] using h.symm
    exact (no x (hx x List.mem_cons_self).2 _ _ h1).elim
  | x :: x2 :: rx, [], hx, _, h =>
    have h1 : R x ++ (Rs ((x2 :: rx).map R) ++ r2) = 41 :: r1 := by simpa [tupL] using h.symm
    exact (no x (hx x List.mem_cons_self).2 _ _ h1).elim
  | [x], [y], hx, hy, h =>
    have h1 : R y ++ ([44, 41] ++ r1) = R x ++ ([44, 41] ++ r2) := by simpa [tupL] using h
    obtain ⟨e1, e2⟩ := (hx x List.mem_cons_self).1 y (hy y List.mem_cons_self) _ _ h1
    exact ⟨by rw [e1], by simpa using e2⟩
  | [x], y :: y2 :: ry, hx, hy, h =>
    have h1 : R y ++ (Rs ((y2 :: ry).map R) ++ r1) = R x ++ ([44, 41] ++ r2) := by simpa [tupL] using h
    obtain ⟨e1, e2⟩ := (hx x List.mem_cons_self).1 y (hy y List.mem_cons_self) _ _ h1
    have := (List.cons.inj (List.cons.inj e2).2).1
    omega
  | x :: x2 :: rx, [y], hx, hy, h =>
    have h1 : R y ++ ([44, 41] ++ r1) = R x ++ (Rs ((x2 :: rx).map R) ++ r2) := by simpa [tupL] using h
    obtain ⟨e1, e2⟩ := (hx x List.mem_cons_self).1 y (hy y List.mem_cons_self) _ _ h1
    have := (List.cons.inj (List.cons.inj e2).2).1
    omega
  | x :: x2 :: rx, y :: y2 :: ry, hx, hy, h =>
    have h1 : R y ++ (Rs ((y2 :: ry).map R) ++ r1) = R x ++ (Rs ((x2 :: rx).map R) ++ r2) := by simpa [tupL] using h
    obtain ⟨e1, e2⟩ := (hx x List.mem_cons_self).1 y (hy y List.mem_cons_self) _ _ h1
    obtain ⟨e3, e4⟩ := Rs_inj (rx := x2 :: rx) (ry := y2 :: ry) (fun z hz => (hx z (List.mem_cons_of_mem _ hz)).1) (fun z hz => hy z (List.mem_cons_of_mem _ hz)) e2
    exact ⟨by rw [e1, e3], e4⟩
theorem Dec.tup {xs : List D} (hx : ∀ x ∈ xs, Dec x ∧ x.sf = true) : Dec (.tup xs) := fun y hy r1 r2 e => by
  obtain ⟨c, r, ey, hh⟩ := R_head hy
  have ec : c = 40 := by
    rw [ey, R_tup] at e
    have : ∀ l : List (List Nat), ∃ t, tupL l = 40 :: t := fun l => match l with
      | [] => ⟨_, rfl⟩
      | [x] => ⟨_, rfl⟩
      | x :: y :: r => ⟨_, rfl⟩
    obtain ⟨t, ht⟩ := this (xs.map R)
    rw [ht] at e
    exact (List.cons.inj e).1
  subst ec
  cases hh with
  | tup ys =>
    rw [R_tup, R_tup] at e
    obtain ⟨e1, e2⟩ := tupL_inj hx (sfL_all (by simpa only [D.sf] using hy)) e
    exact ⟨by rw [e1], e2⟩
  | oth _ _ h1 _ _ => exact absurd rfl h1
/-- what is told by its repr alone -/
theorem Dec.eq {x y : D} (h : Dec x) (hy : y.sf = true) (e : y.z.shown = x.z.shown) : y = x := by
  have e2 : R y ++ [] = R x ++ [] := by
    unfold R
    rw [e]
  exact (h y hy [] [] e2).1
end DL
namespace DL
open PySem PySem.Spec L2
mutual
theorem py_z : ∀ (d : D), d.pl = true → d.py = d.z
  | .non, _ | .bl _, _ | .int _, _ | .str _, _ => by simp only [D.py, D.z]
  | .tup xs, h => by simp only [D.py, D.z]; rw [pyL_z xs (by simpa only [D.pl] using h)]
  | .lst xs, h => by simp only [D.py, D.z]; rw [pyL_z xs (by simpa only [D.pl] using h)]
  | .dct _ _, h | .ins _ _, h | .exc _ _, h | .err _ _, h | .ty _, h | .clo _, h | .rnd, h | .scr _, h => by simp only [D.pl] at h; cases h
theorem pyL_z : ∀ (xs : List D), D.plL xs = true → D.pyL xs = D.zL xs
  | [], _ => by simp only [D.pyL, D.zL]
  | x :: r, h => by
    simp only [D.plL, Bool.and_eq_true] at h
    simp only [D.pyL, D.zL, py_z x h.1, pyL_z r h.2]
end
mutual
theorem sw_z : ∀ (d : D), d.okw = true → d.sw = d.z
  | .non, _ | .bl _, _ | .int _, _ | .str _, _ => by simp only [D.sw, D.z]
  | .tup xs, h => by simp only [D.sw, D.z]; rw [swL_z xs (by simpa only [D.okw] using h)]
  | .dct _ _, _ => by simp only [D.sw, D.z]
  | .lst _, h | .ins _ _, h | .exc _ _, h | .err _ _, h | .ty _, h | .clo _, h | .rnd, h | .scr _, h => by simp only [D.okw] at h; cases h
theorem swL_z : ∀ (xs : List D), D.okwL xs = true → D.swL xs = D.zL xs
  | [], _ => by simp only [D.swL, D.zL]
  | x :: r, h => by
    simp only [D.okwL, Bool.and_eq_true] at h
    simp only [D.swL, D.zL, sw_z x h.1, swL_z r h.2]
end
theorem shw_or (d : D) : (∃ t, d = .dct t []) ∨ d.shw = if d.pl = true then some d.py else none := by
  unfold D.shw
  split
  · exact .inl ⟨_, rfl⟩
  · exact .inr rfl
theorem rp_ok {d : D} (k : d.pl = true ∨ d.okw = true) (h1 : d.z.showable = true) (h2 : d.z.depth ≤ 20) (h3 : d.z.shown.length ≤ sizeLine) : fRp [d] = some (.str d.z.shown) := by
  have key : fRepr [d] = some (.str d.z.shown) ∨ (fRepr [d] = none ∧ d.okw = true) := by
    rcases shw_or d with ⟨t, rfl⟩ | e
    · left
      have e : (D.dct t []).z = .dict [] := by simp only [D.z]
      rw [e] at h1 h2 h3 ⊢
      show (if (PyData.dict []).showable = true ∧ (PyData.dict []).depth ≤ 20 ∧ (PyData.dict []).shown.length ≤ sizeLine then some (D.str (PyData.dict []).shown) else none) = _
      rw [if_pos ⟨h1, h2, h3⟩]
    · by_cases p : d.pl = true
      · left
        rw [if_pos p, py_z d p] at e
        show (match d.shw with | some z => if z.showable = true ∧ z.depth ≤ 20 ∧ z.shown.length ≤ sizeLine then some (D.str z.shown) else none | none => none) = _
        rw [e]
        exact if_pos ⟨h1, h2, h3⟩
      · right
        rw [if_neg p] at e
        refine ⟨?_, k.resolve_left p⟩
        show (match d.shw with | some z => if z.showable = true ∧ z.depth ≤ 20 ∧ z.shown.length ≤ sizeLine then some (D.str z.shown) else none | none => none) = _
        rw [e]
  show (match fRepr [d] with | some d => some d | none => fReprW [d]) = _
  rcases key with e | ⟨e, ok⟩
  · rw [e]
  · rw [e]
    show (if d.okw = true ∧ d.sw.showable = true ∧ d.sw.depth ≤ 20 ∧ d.sw.shown.length ≤ sizeLine then some (D.str d.sw.shown) else none) = _
    rw [sw_z d ok]
    exact if_pos ⟨ok, h1, h2, h3⟩
/-! bounds -/
theorem tupL_len {ls : List (List Nat)} {w : Nat} (h : ∀ l ∈ ls, l.length ≤ w) : (tupL ls).length ≤ ls.length * (w + 2) + 3 := by
  have rs : ∀ r : List (List Nat), (∀ l ∈ r, l.length ≤ w) → (Rs r).length ≤ r.length * (w + 2) + 1 := by
    intro r
    induction r with
    | nil => intro _; simp [Rs]
    | cons x r ih =>
      intro h
      have a := ih fun l hl => h l (List.mem_cons_of_mem _ hl)
      have b := h x List.mem_cons_self
      simp only [Rs, List.length_cons, List.length_append]
      rw [Nat.succ_mul]
      omega
  match ls, h with
  | [], _ => simp [tupL]
  | [x], h =>
    have b := h x List.mem_cons_self
    simp only [tupL, List.length_cons, List.length_append, List.length_nil]
    omega
  | x :: y :: r, h =>
    have b := h x List.mem_cons_self
    have a := rs (y :: r) fun l hl => h l (List.mem_cons_of_mem _ hl)
    simp only [tupL, List.length_cons, List.length_append] at a ⊢
    rw [Nat.succ_mul]
    omega
/-- a thing whose repr is told -/
structure Tg (k w : Nat) (d : D) : Prop where
  kd : d.pl = true ∨ d.okw = true
  sf : d.sf = true
  sh : d.z.showable = true
  dp : d.z.depth ≤ k
  ln : (R d).length ≤ w
/-- .. with no list and no dict in it -/
structure Bo (k w : Nat) (d : D) : Prop where
  pl : d.pl = true
  ok : d.okw = true
  sf : d.sf = true
  sh : d.z.showable = true
  dp : d.z.depth ≤ k
  ln : (R d).length ≤ w
theorem Bo.tg {k w : Nat} {d : D} (h : Bo k w d) : Tg k w d := ⟨.inl h.pl, h.sf, h.sh, h.dp, h.ln⟩
theorem Tg.mono {k w k' w' : Nat} {d : D} (h : Tg k w d) (hk : k ≤ k') (hw : w ≤ w') : Tg k' w' d := ⟨h.kd, h.sf, h.sh, Nat.le_trans h.dp hk, Nat.le_trans h.ln hw⟩
theorem Bo.mono {k w k' w' : Nat} {d : D} (h : Bo k w d) (hk : k ≤ k') (hw : w ≤ w') : Bo k' w' d := ⟨h.pl, h.ok, h.sf, h.sh, Nat.le_trans h.dp hk, Nat.le_trans h.ln hw⟩
theorem Tg.rp {k w : Nat} {d : D} (h : Tg k w d) (hk : k ≤ 20) (hw : w ≤ 1000000) : fRp [d] = some (.str d.z.shown) := by
  refine rp_ok h.kd h.sh (Nat.le_trans h.dp hk) ?_
  have e : d.z.shown.length = (R d).length := by
    unfold R
    rw [Array.length_toList]
    rfl
  rw [e, sizeLine_eq]
  have := h.ln
  omega
theorem all_of {p : D → Bool} {q : List D → Bool} (h0 : q [] = true) (h1 : ∀ x r, q (x :: r) = (p x && q r)) : ∀ {xs : List D}, (∀ x ∈ xs, p x = true) → q xs = true
  | [], _ => h0
  | x :: r, h => by
    rw [h1, h x List.mem_cons_self, all_of h0 h1 fun y hy => h y (List.mem_cons_of_mem _ hy)]
    rfl
theorem zL_show {xs : List D} (h : ∀ x ∈ xs, x.z.showable = true) : PyData.showableAll (D.zL xs) = true := by
  induction xs with
  | nil => simp [D.zL, PyData.showableAll]
  | cons x r ih =>
    simp only [D.zL, PyData.showableAll, Bool.and_eq_true]
    exact ⟨h x List.mem_cons_self, ih fun y hy => h y (List.mem_cons_of_mem _ hy)⟩
theorem zL_depth {xs : List D} {k : Nat} (h : ∀ x ∈ xs, x.z.depth ≤ k) : PyData.depthAll (D.zL xs) ≤ k := by
  induction xs with
  | nil => simp [D.zL, PyData.depthAll]
  | cons x r ih =>
    simp only [D.zL, PyData.depthAll]
    exact Nat.max_le.mpr ⟨h x List.mem_cons_self, ih fun y hy => h y (List.mem_cons_of_mem _ hy)⟩
/-- a tuple of things, all but one of them plain -/
theorem Tg.tup {k w n : Nat} {as bs : List D} {y : D} (ha : ∀ x ∈ as, Bo k w x) (hy : Tg k w y) (hb : ∀ x ∈ bs, Bo k w x) (hn : as.length + bs.length + 1 ≤ n) : Tg (k + 1) (n * (w + 2) + 3) (.tup (as ++ [y] ++ bs)) := by
  have mem : ∀ x ∈ as ++ [y] ++ bs, Tg k w x := fun x hx => by
    rcases List.mem_append.mp hx with hx | hx
    · rcases List.mem_append.mp hx with hx | hx
      · exact (ha x hx).tg
      · rw [List.mem_singleton] at hx
        exact hx ▸ hy
    · exact (hb x hx).tg
  refine ⟨?_, ?_, ?_, ?_, ?_⟩
  · rcases hy.kd with p | p
    · left
      simp only [D.pl]
      refine all_of (p := D.pl) (q := D.plL) rfl (fun _ _ => rfl) fun x hx => ?_
      rcases List.mem_append.mp hx with hx | hx
      · rcases List.mem_append.mp hx with hx | hx
        · exact (ha x hx).pl
        · rw [List.mem_singleton] at hx
          exact hx ▸ p
      · exact (hb x hx).pl
    · right
      simp only [D.okw]
      refine all_of (p := D.okw) (q := D.okwL) rfl (fun _ _ => rfl) fun x hx => ?_
      rcases List.mem_append.mp hx with hx | hx
      · rcases List.mem_append.mp hx with hx | hx
        · exact (ha x hx).ok
        · rw [List.mem_singleton] at hx
          exact hx ▸ p
      · exact (hb x hx).ok
  · simp only [D.sf]
    exact all_of (p := D.sf) (q := D.sfL) rfl (fun _ _ => rfl) fun x hx => (mem x hx).sf
  · simp only [D.z, PyData.showable]
    exact zL_show fun x hx => (mem x hx).sh
  · simp only [D.z, PyData.depth]
    exact Nat.succ_le_succ (zL_depth fun x hx => (mem x hx).dp)
  · rw [R_tup]
    refine Nat.le_trans (tupL_len (w := w) fun l hl => ?_) ?_
    · obtain ⟨x, hx, rfl⟩ := List.mem_map.mp hl
      exact (mem x hx).ln
    · rw [List.length_map, List.length_append, List.length_append, List.length_singleton]
      have : (as.length + 1 + bs.length) * (w + 2) ≤ n * (w + 2) := Nat.mul_le_mul_right _ (by omega)
      omega
/-- a tuple of plain things -/
theorem Bo.tup {k w n : Nat} {xs : List D} (h : ∀ x ∈ xs, Bo k w x) (hn : xs.length ≤ n) : Bo (k + 1) (n * (w + 2) + 3) (.tup xs) := by
  refine ⟨?_, ?_, ?_, ?_, ?_, ?_⟩
  · simp only [D.pl]
    exact all_of (p := D.pl) (q := D.plL) rfl (fun _ _ => rfl) fun x hx => (h x hx).pl
  · simp only [D.okw]
    exact all_of (p := D.okw) (q := D.okwL) rfl (fun _ _ => rfl) fun x hx => (h x hx).ok
  · simp only [D.sf]
    exact all_of (p := D.sf) (q := D.sfL) rfl (fun _ _ => rfl) fun x hx => (h x hx).sf
  · simp only [D.z, PyData.showable]
    exact zL_show fun x hx => (h x hx).sh
  · simp only [D.z, PyData.depth]
    exact Nat.succ_le_succ (zL_depth fun x hx => (h x hx).dp)
  · rw [R_tup]
    refine Nat.le_trans (tupL_len (w := w) fun l hl => ?_) ?_
    · obtain ⟨x, hx, rfl⟩ := List.mem_map.mp hl
      exact (h x hx).ln
    · rw [List.length_map]
      have : xs.length * (w + 2) ≤ n * (w + 2) := Nat.mul_le_mul_right _ hn
      omega
end DL
namespace DL
open PySem PySem.Spec L2
theorem textFrom_len2 {w : Nat} : ∀ (ts : List Str) (k : Nat) (acc : Str), (∀ t ∈ ts, t.cps.toList.length ≤ w) → (textFrom k acc ts).cps.toList.length ≤ acc.cps.toList.length + ts.length * (w + 2)
  | [], k, acc, _ => by simp [textFrom]
  | t :: ts, k, acc, h => by
    have b := h t List.mem_cons_self
    have a := textFrom_len2 ts (k + 1) (acc ++ (if k > 0 then ", " else "" : String) ++ t) fun x hx => h x (List.mem_cons_of_mem _ hx)
    show (textFrom (k + 1) (acc ++ (if k > 0 then ", " else "" : String) ++ t) ts).cps.toList.length ≤ _
    rw [app_list, app_list, List.length_append, List.length_append] at a
    have c : (Str.ofString (if k > 0 then ", " else "" : String)).cps.toList.length ≤ 2 := by
      split
      · decide +kernel
      · decide +kernel
    rw [List.length_cons, Nat.succ_mul]
    omega
theorem shownAll_len (xs : List D) : (PyData.shownAll (D.zL xs)).length = xs.length := by
  have := congrArg List.length (shownAll_map xs)
  simpa using this
theorem Tg.lst {k w n : Nat} {xs : List D} (h : ∀ x ∈ xs, Bo k w x) (hn : xs.length ≤ n) : Tg (k + 1) (n * (w + 2) + 3) (.lst xs) := by
  refine ⟨.inl ?_, ?_, ?_, ?_, ?_⟩
  · simp only [D.pl]
    exact all_of (p := D.pl) (q := D.plL) rfl (fun _ _ => rfl) fun x hx => (h x hx).pl
  · simp only [D.sf]
    exact all_of (p := D.sf) (q := D.sfL) rfl (fun _ _ => rfl) fun x hx => (h x hx).sf
  · simp only [D.z, PyData.showable]
    exact zL_show fun x hx => (h x hx).sh
  · simp only [D.z, PyData.depth]
    exact Nat.succ_le_succ (zL_depth fun x hx => (h x hx).dp)
  · have e : R (.lst xs) = (textFrom 0 (Str.ofString "[") (PyData.shownAll (D.zL xs)) ++ Str.ofString "]" : Str).cps.toList := by
      unfold R
      simp only [D.z, PyData.shown]
      rfl
    have a := textFrom_len2 (w := w) (PyData.shownAll (D.zL xs)) 0 (Str.ofString "[") fun t ht => by
      have m : t.cps.toList ∈ (PyData.shownAll (D.zL xs)).map fun t => t.cps.toList := List.mem_map.mpr ⟨t, ht, rfl⟩
      rw [shownAll_map] at m
      obtain ⟨x, hx, e⟩ := List.mem_map.mp m
      rw [← e]
      exact (h x hx).ln
    rw [e, app_list, List.length_append]
    rw [shownAll_len] at a
    have c1 : (Str.ofString "[").cps.toList.length = 1 := by decide +kernel
    have c2 : (Str.ofString "]").cps.toList.length = 1 := by decide +kernel
    have : xs.length * (w + 2) ≤ n * (w + 2) := Nat.mul_le_mul_right _ hn
    omega
theorem Bo.str {s : Str} {n : Nat} (h : SafeL s.cps.toList) (hn : s.cps.toList.length ≤ n) : Bo 0 (n + 2) (.str s) := by
  refine ⟨rfl, rfl, ?_, ?_, ?_, ?_⟩
  · simp only [D.sf]
    exact List.all_eq_true.mpr h
  · simp only [D.z, PyData.showable]
  · simp only [D.z, PyData.depth]
    exact Nat.le_refl _
  · rw [R_str h]
    simp only [List.length_cons, List.length_append, List.length_nil]
    omega
def tgB (k w : Nat) (d : D) : Bool := (d.pl || d.okw) && (d.sf && (d.z.showable && (decide (d.z.depth ≤ k) && decide ((R d).length ≤ w))))
theorem tgB_ok {k w : Nat} {d : D} (h : tgB k w d = true) : Tg k w d := by
  unfold tgB at h
  simp only [Bool.and_eq_true, Bool.or_eq_true, decide_eq_true_eq] at h
  obtain ⟨h1, h2, h3, h4, h5⟩ := h
  exact ⟨h1, h2, h3, h4, h5⟩
end DL
namespace Lw
open PySem PySem.Spec L2 DL
def odds : List D := [.non, .int 0, .int 1, .int 2, .int 3, .int (-1), .int 101, .int (-10), .bl true, .bl false, .str (Str.ofString ""), .str (Str.ofString "a"), .str (Str.ofString "abcdefghi"), .str (Str.ofString "A"), .str (Str.ofString "in"), .str (Str.ofString "out"), .tup [], .tup [.tup []], .tup [.str (Str.ofString "a"), .int 0],
  .lst [], .dct false [], .int (10 ^ 30), .tup [.str (Str.ofString "halves")], .tup [.str (Str.ofString "in"), .str (Str.ofString "a")], .str (Str.ofString "a1"), .tup [.non], .tup [.int 0], .tup [.str (Str.ofString "a")], .tup [.str (Str.ofString "b"), .str (Str.ofString "a")]]
theorem odds_ok : odds.all (tgB 2 40) = true := by decide +kernel
theorem odd1 : DL.sSet 1 (DL.iLst [(iLit .non), (iLit (.int 0)), (iLit (.int 1)), (iLit (.int 2)), (iLit (.int 3)), (iNeg (iLit (.int 1))), (iLit (.int 101)), (iNeg (iLit (.int 10))), (iLit (.bl true)), (iLit (.bl false)), (iLit (.str (PySem.Str.ofString ""))), (iLit (.str (PySem.Str.ofString "a"))), (iLit (.str (PySem.Str.ofString "abcdefghi"))), (iLit (.str (PySem.Str.ofString "A"))), (iLit (.str (PySem.Str.ofString "in"))), (iLit (.str (PySem.Str.ofString "out"))), (DL.iTup []), (DL.iTup [(DL.iTup [])]), (DL.iTup [(iLit (.str (PySem.Str.ofString "a"))), (iLit (.int 0))])]) [some (.fz .rnd), none] = .ret (.nx [some (.fz .rnd), some (.fz (.lst (odds.take 19)))]) := by kernel_rfl
theorem odd2 : DL.sSet 1 (iOp fAdd (iVar 1) (DL.iLst [(DL.iLst []), (iLit (.dct false [])), (iOp fPowI (iLit (.int 10)) (iLit (.int 30))), (DL.iTup [(iLit (.str (PySem.Str.ofString "halves")))]), (DL.iTup [(iLit (.str (PySem.Str.ofString "in"))), (iLit (.str (PySem.Str.ofString "a")))]), (iLit (.str (PySem.Str.ofString "a1"))), (DL.iTup [(iLit .non)]), (DL.iTup [(iLit (.int 0))]), (DL.iTup [(iLit (.str (PySem.Str.ofString "a")))]), (DL.iTup [(iLit (.str (PySem.Str.ofString "b"))), (iLit (.str (PySem.Str.ofString "a")))])])) [some (.fz .rnd), some (.fz (.lst (odds.take 19)))] = .ret (.nx [some (.fz .rnd), some (.fz (.lst odds))]) := by kernel_rfl
theorem odd3 : Yl (DL.sRet (iOp fIx (iVar 1) (iCall (m__law_next) [(iVar 0), (iLit (.int 29))])) [some (.fz .rnd), some (.fz (.lst odds))]) 1 fun fl => ∃ d, fl = .rt d ∧ Tg 2 40 d := by
  have key : ∀ l : List D, l.length = 29 → l.all (tgB 2 40) = true → Yl (DL.sRet (iOp fIx (iVar 1) (iCall (m__law_next) [(iVar 0), (iLit (.int 29))])) [some (.fz .rnd), some (.fz (.lst l))]) 1 fun fl => ∃ d, fl = .rt d ∧ Tg 2 40 d := fun l h1 h2 => by
    unfold DL.sRet iOp
    rw [M.bind_assoc]
    refine (Yl.bind (k := 0) (l := 1) (P := fun d => d = .lst l) (Yl.of_eq rfl rfl) fun d hd => ?_)
    subst hd
    rw [M.bind_assoc]
    refine (Yl.bind (k := 1) (l := 0) (Yl_nextL (n := 29) (by decide) (by decide) rfl rfl) fun d hd => ?_)
    obtain ⟨i, hi, rfl⟩ := hd
    have hl : i < l.length := by rw [h1]; exact hi
    rw [fIx_lst l (i := i) hl]
    exact Yl.ret ⟨_, rfl, tgB_ok (List.all_eq_true.mp h2 _ (List.getElem_mem hl))⟩
  exact key odds (by decide +kernel) odds_ok
theorem law_odd : Yl (m__law_odd [.rnd]) 1 (Tg 2 40) := by
  unfold m__law_odd
  refine Yl.fn ?_
  have e : b__law_odd (env0 2 [D.rnd]) = DL.sRet (iOp fIx (iVar 1) (iCall (m__law_next) [(iVar 0), (iLit (.int 29))])) [some (.fz .rnd), some (.fz (.lst odds))] := by
    unfold b__law_odd
    have e0 : env0 2 [D.rnd] = [some (.fz .rnd), none] := rfl
    rw [e0, seq_nx odd1, seq_nx odd2]
  rw [e]
  exact odd3
end Lw
namespace DL
open PySem PySem.Spec L2
/-- a statement that may return, and what follows -/
theorem Yl.ret_or {s t : IS} {Γ Γ' : DL.Env} {k l : Nat} {P : D → Prop} (h : Yl (s Γ) k fun fl => (∃ d, fl = .rt d ∧ P d) ∨ fl = .nx Γ') (h2 : Yl (t Γ') l fun fl => ∃ d, fl = .rt d ∧ P d) : Yl (DL.sSeq s t Γ) (k + l) fun fl => ∃ d, fl = .rt d ∧ P d := by
  unfold DL.sSeq
  refine Yl.bind h fun fl hf => ?_
  rcases hf with ⟨d, rfl, hd⟩ | rfl
  · exact (Yl.ret ⟨d, rfl, hd⟩).mono (Nat.zero_le _) fun _ x => x
  · exact h2
theorem Yl.if_ret {c : IT} {i : IE} {Γ : DL.Env} {k l : Nat} {P : D → Prop} (h : Yl (c Γ) k fun _ => True) (h2 : Yl (i Γ) l P) : Yl (DL.sIf c (DL.sRet i) DL.sPass Γ) (k + l) fun fl => (∃ d, fl = .rt d ∧ P d) ∨ fl = .nx Γ := by
  unfold DL.sIf
  refine Yl.bind h fun b _ => ?_
  cases b with
  | true =>
    rw [if_pos rfl]
    unfold DL.sRet
    exact (Yl.bind (l := 0) h2 fun d hd => Yl.ret (.inl ⟨d, rfl, hd⟩)).mono (Nat.le_refl _) fun _ x => x
  | false =>
    rw [if_neg (by decide)]
    exact (Yl.ret (.inr rfl)).mono (Nat.zero_le _) fun _ x => x
theorem fSl_ttake (ds : List D) (k : Nat) : fSl (.tup ds) none (some (k : Int)) = some (.tup (ds.take k)) := by
  show some (D.tup (cutD ds none (some (k : Int)))) = _
  rw [cutD_take]
theorem fSl_tdrop (ds : List D) (k : Nat) : fSl (.tup ds) (some (k : Int)) none = some (.tup (ds.drop k)) := by
  show some (D.tup (cutD ds (some (k : Int)) none)) = _
  rw [cutD_drop]
theorem cutD_one (ds : List D) {k : Nat} (h : k < ds.length) : cutD ds (some (k : Int)) (some ((k + 1 : Nat) : Int)) = [ds[k]] := by
  unfold cutD
  rw [HT.sIx_nat, HT.sIx_nat, Nat.min_eq_left (by omega), Nat.min_eq_left (by omega), List.drop_eq_getElem_cons h]
  have : k + 1 - k = 1 := by omega
  rw [this]
  rfl
theorem fSl_tone (ds : List D) {k : Nat} (h : k < ds.length) : fSl (.tup ds) (some (k : Int)) (some ((k + 1 : Nat) : Int)) = some (.tup [ds[k]]) := by
  show some (D.tup (cutD ds (some (k : Int)) (some ((k + 1 : Nat) : Int)))) = _
  rw [cutD_one ds h]
theorem fEq_nil {xs : List D} (hp : D.plL xs = true) (h0 : xs ≠ []) : fEq (.tup xs) (.tup []) = some (.bl false) := by
  have e : okEq (.tup xs) (.tup []) = true := by
    unfold okEq
    rw [Bool.and_eq_true, Bool.and_eq_true]
    refine ⟨⟨by simpa only [D.pl] using hp, rfl⟩, decide_eq_true ?_⟩
    have : D.dep (.tup []) ≤ 60 := by decide
    omega
  have e2 : fEqD (.tup xs) (.tup []) = some (.bl (dEq (.tup xs) (.tup []))) := if_pos e
  show (match fEqD (.tup xs) (.tup []) with | some d => some d | none => _) = _
  rw [e2]
  cases xs with
  | nil => exact absurd rfl h0
  | cons x r => rfl
end DL
namespace Lw
open PySem PySem.Spec L2 DL
abbrev envB (xs : List D) (a p : Option B) : DL.Env := [some (.fz .rnd), some (.fz (.tup xs)), a, p]
/-- what a bent tuple is -/
def bentT (rec : List D → M D) (xs : List D) : M D := runFn 4 (b__law_bent rec) [.rnd, .tup xs]
theorem isi_int {x : D} (h : isP x = true) : fIsI [x, .ty "int"] = some (.bl (match x with | .int _ => true | .bl _ => true | _ => false)) := by
  cases x <;> first | rfl | (simp [isP] at h)
theorem pick_is (k : Nat) {xs : List D} {at_ p : Nat} : asB (iOp fEq (iVar 3) (iLit (.int (k : Nat)))) (envB xs (some (.fz (.int at_))) (some (.fz (.int p)))) = .ret (decide (p = k)) := by
  show ((match fEq (.int p) (.int k) with | some d => M.ret d | none => .stuck) : M D).bind _ = _
  rw [fEq_int]
  show M.ret (decide ((p : Int) = (k : Int))) = _
  congr 1
  exact decide_eq_decide.mpr (by omega)
end Lw
namespace Lw
open PySem PySem.Spec L2 DL
theorem bt_ix {xs : List D} {a : Nat} {p : Option B} (h : a < xs.length) : iOp fIx (iVar 1) (iVar 2) (envB xs (some (.fz (.int a))) p) = .ret xs[a] := by
  show (match fIx (.tup xs) (.int a) with | some d => M.ret d | none => .stuck) = _
  rw [fIx_tup xs h]
theorem bt_lo {xs : List D} {a : Nat} {p : Option B} : iSl fSl (iVar 1) oNone (oSome (iVar 2)) (envB xs (some (.fz (.int a))) p) = .ret (.tup (xs.take a)) := by
  show (match fSl (.tup xs) none (some (a : Int)) with | some d => M.ret d | none => .stuck) = _
  rw [fSl_ttake]
theorem bt_hi {xs : List D} {a : Nat} {p : Option B} : iSl fSl (iVar 1) (oSome (iVar 2)) oNone (envB xs (some (.fz (.int a))) p) = .ret (.tup (xs.drop a)) := by
  show (match fSl (.tup xs) (some (a : Int)) none with | some d => M.ret d | none => .stuck) = _
  rw [fSl_tdrop]
theorem bt_hi1 {xs : List D} {a : Nat} {p : Option B} : iSl fSl (iVar 1) (oSome (iOp fAdd (iVar 2) (iLit (.int 1)))) oNone (envB xs (some (.fz (.int a))) p) = .ret (.tup (xs.drop (a + 1))) := by
  show (match fSl (.tup xs) (some ((a + 1 : Nat) : Int)) none with | some d => M.ret d | none => .stuck) = _
  rw [fSl_tdrop]
theorem bt_one {xs : List D} {a : Nat} {p : Option B} (h : a < xs.length) : iSl fSl (iVar 1) (oSome (iVar 2)) (oSome (iOp fAdd (iVar 2) (iLit (.int 1)))) (envB xs (some (.fz (.int a))) p) = .ret (.tup [xs[a]]) := by
  show (match fSl (.tup xs) (some (a : Int)) (some ((a + 1 : Nat) : Int)) with | some d => M.ret d | none => .stuck) = _
  rw [fSl_tone xs h]
theorem add3 {i j k : IE} {Γ : DL.Env} {as bs : List D} {y : D → Prop} {kk : Nat} (hi : i Γ = .ret (.tup as)) (hj : Yl (j Γ) kk y) (hk : k Γ = .ret (.tup bs)) (hl : as.length + bs.length + 1 ≤ sizeLine) : Yl (iOp fAdd (iOp fAdd i (DL.iTup [j])) k Γ) kk fun d => ∃ v, y v ∧ d = .tup (as ++ [v] ++ bs) := by
  unfold iOp
  rw [M.bind_assoc, hi, M.ret_bind]
  have e : DL.iTup [j] Γ = (j Γ).bind fun d => .ret (.tup [d]) := by
    unfold DL.iTup
    rw [evs_bind, M.bind_assoc]
    congr
  rw [e, M.bind_assoc, M.bind_assoc]
  refine (Yl.bind (l := 0) hj fun v hv => ?_).mono (Nat.le_refl _) fun _ x => x
  rw [M.ret_bind, fAdd_tup _ _ (by rw [List.length_singleton]; omega)]
  simp only [M.ret_bind]
  rw [hk, M.ret_bind, fAdd_tup _ _ (by rw [List.length_append, List.length_singleton]; omega)]
  exact Yl.ret ⟨v, hv, rfl⟩
/-- a bent tuple of plain things is a thing -/
theorem bent_tup {rec : List D → M D} {xs : List D} {k w n r : Nat} (hx : ∀ x ∈ xs, Bo k w x) (h0 : xs ≠ []) (hn : xs.length + 1 ≤ n) (hn2 : n ≤ 50) (hk : 2 ≤ k + 1) (hw : 40 ≤ w) (hr : ∀ x ∈ xs, Yl (rec [.rnd, x]) r (Tg k w)) (hr1 : 1 ≤ r) (hk2 : 2 ≤ k) : Yl (bentT rec xs) (r + 10) (Tg (k + 1) (n * (w + 2) + 3)) := by
  have hpl : D.plL xs = true := all_of (p := D.pl) (q := D.plL) rfl (fun _ _ => rfl) fun x h => (hx x h).pl
  have hlen : 0 < xs.length := List.length_pos_iff.mpr h0
  have hz : n + n ≤ sizeLine := by rw [sizeLine_eq]; omega
  have big : 40 ≤ n * (w + 2) + 3 := by
    have : 1 * (w + 2) ≤ n * (w + 2) := Nat.mul_le_mul_right _ (by omega)
    omega
  have odd : Yl (m__law_odd [.rnd]) 1 (Tg (k + 1) (n * (w + 2) + 3)) := law_odd.mono (Nat.le_refl _) fun d h => h.mono (by omega) big
  have oddI : ∀ a p, Yl (iCall m__law_odd [iVar 0] (envB xs a p)) 1 (Tg 2 40) := fun a p => by
    rw [call1 (a := .rnd) rfl]
    exact law_odd
  unfold bentT b__law_bent
  refine Yl.fn ?_
  have e0 : env0 4 [D.rnd, .tup xs] = envB xs none none := rfl
  rw [e0]
  have st : asB (iBi fIsI [iVar 1, iLit (.ty "str")]) (envB xs none none) = .ret false := by
    show ((match fIsI [.tup xs, .ty "str"] with | some d => M.ret d | none => .stuck) : M D).bind _ = _
    rw [isi_str rfl]
    rfl
  have it : asB (iBi fIsI [iVar 1, iLit (.ty "int")]) (envB xs none none) = .ret false := by
    show ((match fIsI [.tup xs, .ty "int"] with | some d => M.ret d | none => .stuck) : M D).bind _ = _
    rw [isi_int rfl]
    rfl
  rw [seq_nx (if_no (by unfold andB; rw [st]; rfl)), seq_nx (if_no (by unfold andB; rw [it]; rfl))]
  refine (Yl.ret_or (k := 2) (l := r + 8) (Γ' := envB xs none none) (Yl.if_ret (k := 1) (l := 1) ?_ (by rw [call1 (a := .rnd) rfl]; exact odd)) ?_).mono (by omega) fun _ x => x
  · have tt : notB (asB (iBi fIsI [iVar 1, iLit (.ty "tuple")])) (envB xs none none) = .ret false := by
      unfold notB asB
      show ((((match fIsI [.tup xs, .ty "tuple"] with | some d => M.ret d | none => .stuck) : M D).bind _).bind _) = _
      rw [isi_tup rfl]
      rfl
    have te : asB (iOp fEq (iVar 1) (DL.iTup [])) (envB xs none none) = .ret false := by
      have e1 : DL.iTup [] (envB xs none none) = .ret (.tup []) := by
        unfold DL.iTup evs
        rw [M.ret_bind]
        exact if_pos (Nat.zero_le _)
      unfold asB
      rw [op_ok (a := .tup xs) rfl e1 (fEq_nil hpl h0)]
      rfl
    unfold orB
    rw [tt, M.ret_bind, if_neg (by decide), te, M.ret_bind, if_neg (by decide)]
    unfold asB iOp
    rw [M.bind_assoc]
    refine (Yl.bind (k := 1) (l := 0) (Yl_nextL (n := 6) (by decide) (by decide) rfl rfl) fun d hd => ?_)
    obtain ⟨i, _, rfl⟩ := hd
    show Yl (((match fEq (.int i) (.int 0) with | some d => M.ret d | none => .stuck) : M D).bind _) 0 _
    rw [fEq_int]
    exact Yl.ret trivial
  · refine (Yl.seq (k := 2) (l := r + 5) (I := fun Γ => ∃ a p : Nat, a < xs.length ∧ p < 11 ∧ Γ = envB xs (some (.fz (.int a))) (some (.fz (.int p)))) ?_ ?_).mono (by omega) fun _ x => x
    · unfold sPar
      refine (Yl.bind (k := 2) (l := 0) (Yl.evs_cons (k := 1) (l := 1) (Yl_nextL (n := xs.length) hlen (by omega) rfl rfl) (Yl.evs_cons (k := 1) (l := 0) (Yl_nextL (n := 11) (by decide) (by decide) rfl rfl) Yl.evs_nil)) fun ds hd => ?_)
      obtain ⟨_, _, rfl, ⟨a, ha, rfl⟩, _, _, rfl, ⟨p, hp, rfl⟩, rfl⟩ := hd
      exact Yl.ret ⟨_, rfl, a, p, ha, hp, rfl⟩
    · rintro Γ ⟨a, p, ha, hp, rfl⟩
      have tk : ∀ x ∈ xs.take a, Bo k w x := fun x h => hx x (List.mem_of_mem_take h)
      have dr : ∀ m, ∀ x ∈ xs.drop m, Bo k w x := fun m x h => hx x (List.mem_of_mem_drop h)
      have l1 : (xs.take a).length ≤ xs.length := by rw [List.length_take]; omega
      have l2 : ∀ m, (xs.drop m).length ≤ xs.length := fun m => by rw [List.length_drop]; omega
      have ok : ∀ {c : IT} {i : IE} {m : Nat} {q : Bool}, c (envB xs (some (.fz (.int a))) (some (.fz (.int p)))) = .ret q → Yl (i (envB xs (some (.fz (.int a))) (some (.fz (.int p))))) m (Tg (k + 1) (n * (w + 2) + 3)) → ∀ {t : IS} {l : Nat}, Yl (t (envB xs (some (.fz (.int a))) (some (.fz (.int p))))) l (fun fl => ∃ d, fl = .rt d ∧ Tg (k + 1) (n * (w + 2) + 3) d) → Yl (DL.sSeq (DL.sIf c (DL.sRet i) DL.sPass) t (envB xs (some (.fz (.int a))) (some (.fz (.int p))))) (m + l) (fun fl => ∃ d, fl = .rt d ∧ Tg (k + 1) (n * (w + 2) + 3) d) := fun hc hi t l ht =>
        Yl.ret_or ((Yl.if_ret (k := 0) (Yl.of_eq hc trivial) hi).mono (by omega) fun _ x => x) ht
      refine (ok (m := 0) (pick_is 0) (Yl.of_eq (a := .tup (xs.take a ++ xs.drop (a + 1))) ?_ ?_) (ok (m := 0) (pick_is 1) (Yl.of_eq (a := .tup (xs ++ [xs[a]])) ?_ ?_) (ok (m := 0) (pick_is 2) (Yl.of_eq (a := .lst xs) rfl ?_) (ok (m := 1) (pick_is 3) ?_ (ok (m := 0) (pick_is 4) (Yl.of_eq (a := .tup xs.reverse) rfl ?_) (?_ : Yl _ r _)))))).mono (by omega) fun _ x => x
      · exact op_ok bt_lo bt_hi1 (fAdd_tup _ _ (by have := l2 (a + 1); omega))
      · refine (Bo.tup (n := n) (fun x h => ?_) ?_).tg
        · rcases List.mem_append.mp h with h | h
          · exact tk x h
          · exact dr _ x h
        · rw [List.length_append, List.length_take, List.length_drop]; omega
      · exact op_ok (a := .tup xs) rfl (bt_one ha) (fAdd_tup _ _ (by rw [List.length_singleton]; omega))
      · refine (Bo.tup (n := n) (fun x h => ?_) ?_).tg
        · rcases List.mem_append.mp h with h | h
          · exact hx x h
          · rw [List.mem_singleton] at h
            exact h ▸ hx _ (List.getElem_mem ha)
        · rw [List.length_append, List.length_singleton]; omega
      · exact Tg.lst hx (by omega)
      · refine (add3 bt_lo (oddI _ _) bt_hi (by have := l2 a; omega)).mono (Nat.le_refl _) fun d hd => ?_
        obtain ⟨v, hv, rfl⟩ := hd
        refine Tg.tup tk (hv.mono hk2 hw) (dr a) ?_
        rw [List.length_take, List.length_drop]
        omega
      · exact (Bo.tup (n := n) (fun x h => hx x (List.mem_reverse.mp h)) (by rw [List.length_reverse]; omega)).tg
      · unfold DL.sRet
        refine (Yl.bind (k := r) (l := 0) (add3 bt_lo (j := iCall rec [iVar 0, iOp fIx (iVar 1) (iVar 2)]) (y := Tg k w) (by rw [call2 (a := .rnd) rfl (bt_ix ha)]; exact hr _ (List.getElem_mem ha)) bt_hi1 (by have := l2 (a + 1); omega)) fun d hd => ?_)
        obtain ⟨v, hv, rfl⟩ := hd
        refine Yl.ret ⟨_, rfl, Tg.tup tk hv (dr _) ?_⟩
        rw [List.length_take, List.length_drop]
        omega
end Lw
namespace DL
open PySem PySem.Spec L2
theorem S_self (s : Str) : S s.cps.toList = s := by
  cases s
  rfl
theorem fMul_two (l : List Nat) (h : l.length ≤ 1000) : ∃ m, fMul (.str (S l)) (.int 2) = some (.str (S m)) ∧ m.length ≤ 2 * l.length ∧ ∀ c ∈ m, c ∈ l := by
  have e : fMulS (.str (S l)) (.int 2) = some (.str (Txt.mul (S l) 2)) := by
    show (if (0 : Int) ≤ 2 ∧ (2 : Int) ≤ 1000 ∧ (S l).length ≤ 1000 then some (D.str (Txt.mul (S l) 2)) else none) = _
    rw [if_pos ⟨by decide, by decide, by rw [S_length]; exact h⟩]
  have e2 : fMul (.str (S l)) (.int 2) = some (.str (Txt.mul (S l) 2)) := by
    show (match fMulS (.str (S l)) (.int 2) with | some d => some d | none => _) = _
    rw [e]
  rw [e2]
  by_cases h0 : l.length = 0
  · obtain rfl := List.length_eq_zero_iff.mp h0
    exact ⟨[], rfl, by simp, by simp⟩
  · refine ⟨l ++ l, ?_, by rw [List.length_append]; omega, fun c hc => (List.mem_append.mp hc).elim id id⟩
    have c : ((2 : Int) == 1 || (S l).length == 0) = false := by
      rw [S_length]
      simp [h0]
    unfold Txt.mul
    rw [if_neg (by decide), c, if_neg (by decide)]
    have : (⟨(List.replicate (2 : Int).toNat (S l).cps).foldl (· ++ ·) #[]⟩ : Str) = S (l ++ l) := by
      show (⟨#[] ++ l.toArray ++ l.toArray⟩ : Str) = _
      unfold S
      simp
    rw [this]
theorem safe_of {l : List Nat} (h : Low l) : SafeL l := fun c hc => by
  have := h c hc
  unfold safeC
  simp only [Bool.or_eq_true, Bool.and_eq_true, beq_iff_eq, decide_eq_true_eq]
  omega
end DL
namespace Lw
open PySem PySem.Spec L2 DL
theorem lst6 {i1 i2 i3 i4 i5 i6 : IE} {Γ : DL.Env} {a1 a2 a3 a4 a5 a6 : D} (h1 : i1 Γ = .ret a1) (h2 : i2 Γ = .ret a2) (h3 : i3 Γ = .ret a3) (h4 : i4 Γ = .ret a4) (h5 : i5 Γ = .ret a5) (h6 : i6 Γ = .ret a6) :
    DL.iLst [i1, i2, i3, i4, i5, i6] Γ = .ret (.lst [a1, a2, a3, a4, a5, a6]) := by
  unfold DL.iLst
  simp only [evs, h1, h2, h3, h4, h5, h6, M.ret_bind]
  exact if_pos (by show 6 ≤ sizeLine; rw [sizeLine_eq]; decide)
theorem one_b : Str.ofString "b" = S [98] := by decide +kernel
theorem one_A : Str.ofString "A" = S [65] := by decide +kernel
theorem one_s : Str.ofString " " = S [32] := by decide +kernel
theorem one_1 : Str.ofString "1" = S [49] := by decide +kernel
/-- a bent text is a thing -/
theorem bent_str {rec : List D → M D} {l : List Nat} (hs : SafeL l) (hl : l.length ≤ 8) : Yl (runFn 4 (b__law_bent rec) [.rnd, .str (S l)]) 4 (Tg 2 40) := by
  unfold b__law_bent
  refine Yl.fn ?_
  have e0 : env0 4 [D.rnd, .str (S l)] = [some (.fz .rnd), some (.fz (.str (S l))), none, none] := rfl
  rw [e0]
  have odd : Yl (iCall m__law_odd [iVar 0] [some (.fz .rnd), some (.fz (.str (S l))), none, none]) 1 (Tg 2 40) := by
    rw [call1 (a := .rnd) rfl]
    exact law_odd
  have sf1 : ∀ c, safeC c = true → SafeL (l ++ [c]) := fun c hc x hx => by
    rcases List.mem_append.mp hx with h | h
    · exact hs x h
    · rw [List.mem_singleton] at h
      exact h ▸ hc
  have bo : ∀ m : List Nat, SafeL m → m.length ≤ 38 → Tg 2 40 (.str (S m)) := fun m h1 h2 => (Bo.str (n := 38) (s := S m) h1 h2).tg.mono (by decide) (by decide)
  refine (Yl.ret_or (k := 2) (l := 2) (Γ' := [some (.fz .rnd), some (.fz (.str (S l))), none, none]) (Yl.if_ret (k := 1) (l := 1) ?_ ?_) ?_).mono (by decide) fun _ x => x
  · have st : asB (iBi fIsI [iVar 1, iLit (.ty "str")]) [some (.fz .rnd), some (.fz (.str (S l))), none, none] = .ret true := by
      show ((match fIsI [.str (S l), .ty "str"] with | some d => M.ret d | none => .stuck) : M D).bind _ = _
      rw [isi_str rfl]
      rfl
    unfold andB
    rw [st, M.ret_bind, if_pos rfl]
    unfold asB iOp
    rw [M.bind_assoc]
    refine (Yl.bind (k := 1) (l := 0) (Yl_nextL (n := 2) (by decide) (by decide) rfl rfl) fun d hd => ?_)
    obtain ⟨i, _, rfl⟩ := hd
    show Yl (((match fEq (.int i) (.int 0) with | some d => M.ret d | none => .stuck) : M D).bind _) 0 _
    rw [fEq_int]
    exact Yl.ret trivial
  · obtain ⟨m2, em, lm, sm⟩ := fMul_two l (by omega)
    have ad : ∀ (z : Str) (c : Nat), z = S [c] → iOp fAdd (iVar 1) (iLit (.str z)) [some (.fz .rnd), some (.fz (.str (S l))), none, none] = .ret (.str (S (l ++ [c]))) := fun z c hz => by
      subst hz
      exact op_ok rfl rfl (fAdd_S l [c] (by rw [List.length_singleton, sizeLine_eq]; omega))
    have sl : iSl fSl (iVar 1) (oSome (iLit (.int 1))) oNone [some (.fz .rnd), some (.fz (.str (S l))), none, none] = .ret (.str (S (l.drop 1))) := by
      show (match fSl (.str (S l)) (some ((1 : Nat) : Int)) none with | some d => M.ret d | none => .stuck) = _
      rw [fSl_drop l 1 (sz8 (by omega))]
    have six := lst6 (ad _ 98 one_b) sl (ad _ 65 one_A) (ad _ 32 one_s) (op_ok (i := iVar 1) (j := iLit (.int 2)) (Γ := [some (.fz .rnd), some (.fz (.str (S l))), none, none]) rfl rfl em) (ad _ 49 one_1)
    have step : ∀ i : IE, i [some (.fz .rnd), some (.fz (.str (S l))), none, none] = .ret (.lst [.str (S (l ++ [98])), .str (S (l.drop 1)), .str (S (l ++ [65])), .str (S (l ++ [32])), .str (S m2), .str (S (l ++ [49]))]) → Yl (iOp fIx i (iCall m__law_next [iVar 0, iLit (.int 6)]) [some (.fz .rnd), some (.fz (.str (S l))), none, none]) 1 (Tg 2 40) := fun i hi => by
      unfold iOp
      rw [hi, M.ret_bind]
      refine (Yl.bind (k := 1) (l := 0) (Yl_nextL (n := 6) (by decide) (by decide) rfl rfl) fun d hd => ?_)
      obtain ⟨j, hj, rfl⟩ := hd
      have a1 : ∀ c, safeC c = true → Tg 2 40 (.str (S (l ++ [c]))) := fun c hc => bo _ (sf1 c hc) (by rw [List.length_append, List.length_singleton]; omega)
      match j, hj with
      | 0, _ => exact Yl.of_eq rfl (a1 98 (by decide))
      | 1, _ => exact Yl.of_eq rfl (bo _ (fun c hc => hs c (List.mem_of_mem_drop hc)) (by rw [List.length_drop]; omega))
      | 2, _ => exact Yl.of_eq rfl (a1 65 (by decide))
      | 3, _ => exact Yl.of_eq rfl (a1 32 (by decide))
      | 4, _ => exact Yl.of_eq rfl (bo _ (fun c hc => hs c (sm c hc)) (by omega))
      | 5, _ => exact Yl.of_eq rfl (a1 49 (by decide))
    exact step _ six
  · have it : asB (iBi fIsI [iVar 1, iLit (.ty "int")]) [some (.fz .rnd), some (.fz (.str (S l))), none, none] = .ret false := by
      show ((match fIsI [.str (S l), .ty "int"] with | some d => M.ret d | none => .stuck) : M D).bind _ = _
      rw [isi_int rfl]
      rfl
    rw [seq_nx (if_no (by unfold andB; rw [it]; rfl))]
    have tt : notB (asB (iBi fIsI [iVar 1, iLit (.ty "tuple")])) [some (.fz .rnd), some (.fz (.str (S l))), none, none] = .ret true := by
      unfold notB asB
      show ((((match fIsI [.str (S l), .ty "tuple"] with | some d => M.ret d | none => .stuck) : M D).bind _).bind _) = _
      rw [isi_tup rfl]
      rfl
    unfold DL.sSeq DL.sIf orB
    rw [tt, M.ret_bind, if_pos rfl, M.ret_bind, if_pos rfl]
    unfold DL.sRet
    rw [M.bind_assoc]
    exact (Yl.bind (k := 1) (l := 0) odd fun d hd => Yl.ret ⟨d, rfl, hd⟩).mono (by decide) fun _ x => x
end Lw
namespace Lw
open PySem PySem.Spec L2 DL
theorem word_safe {z : Str} (h : WordOk z) : SafeL z.cps.toList ∧ z.cps.toList.length ≤ 8 := ⟨safe_of h.2.2, by rw [Array.length_toList]; exact h.2.1⟩
theorem in_safe : (Str.ofString "in").cps.toList.all safeC = true ∧ (Str.ofString "out").cps.toList.all safeC = true ∧ (Str.ofString "in").cps.toList.length ≤ 8 ∧ (Str.ofString "out").cps.toList.length ≤ 8 := by decide +kernel
theorem wordD_eq (w : Bool) : ∃ l, wordD w = .str (S l) ∧ SafeL l ∧ l.length ≤ 8 := by
  cases w with
  | true => exact ⟨_, by rw [S_self]; rfl, List.all_eq_true.mp in_safe.1, in_safe.2.2.1⟩
  | false => exact ⟨_, by rw [S_self]; rfl, List.all_eq_true.mp in_safe.2.1, in_safe.2.2.2⟩
theorem str_bo {l : List Nat} (h : SafeL l) (hl : l.length ≤ 8) : Bo 2 40 (.str (S l)) := (Bo.str (n := 38) (s := S l) h (by rw [S_list]; omega)).mono (by decide) (by decide)
theorem step_items {w : Bool} {z : Str} (hz : WordOk z) : ∀ x ∈ [wordD w, .str z], ∃ l, x = .str (S l) ∧ SafeL l ∧ l.length ≤ 8 := by
  intro x hx
  simp only [List.mem_cons, List.not_mem_nil, or_false] at hx
  rcases hx with rfl | rfl
  · exact wordD_eq w
  · exact ⟨z.cps.toList, by rw [S_self], (word_safe hz).1, (word_safe hz).2⟩
theorem bent_step {n : Nat} {w : Bool} {z : Str} (hz : WordOk z) : Yl (m__law_bent (n + 2) [.rnd, encS (w, z)]) 14 (Tg 3 129) := by
  show Yl (bentT (m__law_bent (n + 1)) [wordD w, .str z]) 14 (Tg 3 129)
  refine (bent_tup (xs := [wordD w, .str z]) (k := 2) (w := 40) (n := 3) (r := 4) (fun x hx => ?_) (by simp) (Nat.le_refl 3) (by decide) (by decide) (by decide) (fun x hx => ?_) (by decide) (by decide)).mono (by decide) fun _ h => h
  · obtain ⟨l, rfl, h1, h2⟩ := step_items hz x hx
    exact str_bo h1 h2
  · obtain ⟨l, rfl, h1, h2⟩ := step_items hz x hx
    exact bent_str h1 h2
theorem step_bo {w : Bool} {z : Str} (hz : WordOk z) : Bo 3 129 (encS (w, z)) := by
  refine (Bo.tup (k := 2) (w := 40) (n := 2) (xs := [wordD w, .str z]) (fun x hx => ?_) (Nat.le_refl 2)).mono (by decide) (by decide)
  obtain ⟨l, rfl, h1, h2⟩ := step_items hz x hx
  exact str_bo h1 h2
/-- all names of a path are words -/
theorem cs_words : ∀ (n : Nat) (going : List Str) (s : Nat) (p : Path), p ∈ cs n going s → ∀ x ∈ p, x.2 ∈ going
  | 0, _, _, p, h => by simp [cs] at h
  | n + 1, going, s, p, h => by
    by_cases he : s = 0 ∨ going.length ≤ s
    · have c : cs (n + 1) going s = [[]] := by
        show (if s = 0 ∨ going.length ≤ s then [[]] else _) = _
        rw [if_pos he]
      rw [c, List.mem_singleton] at h
      subst h
      intro x hx
      cases hx
    · obtain ⟨w, z, q, rfl, hz, hq⟩ := (mem_cs he).mp h
      intro x hx
      rcases List.mem_cons.mp hx with rfl | hx
      · exact hz
      · exact (List.mem_filter.mp (cs_words n _ _ q hq x hx)).1
theorem path_bo {zs : List Str} {s : Nat} {p : Path} (h : NamesOk zs) (hp : p ∈ cs 6 zs s) : ∀ x ∈ p.map encS, Bo 3 129 x := fun x hx => by
  obtain ⟨⟨w, z⟩, hm, rfl⟩ := List.mem_map.mp hx
  exact step_bo (h.word z (cs_words 6 zs s p hp _ hm))
theorem path_ne {zs : List Str} {s : Nat} {p : Path} (h1 : 1 ≤ s) (h2 : s < zs.length) (hp : p ∈ cs 6 zs s) : p ≠ [] := by
  obtain ⟨w, z, q, rfl, _⟩ := (mem_cs (n := 5) (by omega)).mp hp
  simp
theorem bent_path {zs : List Str} {s : Nat} {p : Path} (h : NamesOk zs) (h1 : 1 ≤ s) (h2 : s < zs.length) (hp : p ∈ cs 6 zs s) : Yl (m__law_bent 6 [.rnd, encP p]) 24 (Tg 4 920) := by
  show Yl (bentT (m__law_bent 5) (p.map encS)) 24 (Tg 4 920)
  have hl := cs_short 6 zs s p hp
  refine (bent_tup (k := 3) (w := 129) (n := 7) (r := 14) (path_bo h hp) (by simpa using path_ne h1 h2 hp) (by rw [List.length_map]; omega) (by decide) (by decide) (by decide) (fun x hx => ?_) (by decide) (by decide)).mono (by decide) fun _ h => h
  obtain ⟨⟨w, z⟩, hm, rfl⟩ := List.mem_map.mp hx
  exact bent_step (n := 3) (h.word z (cs_words 6 zs s p hp _ hm))
/-! ### things that are asked -/
theorem sf_isP {d : D} (h : d.sf = true) : isP d = true := by
  cases d <;> first | rfl | (simp only [D.sf] at h; cases h)
theorem sf_step {d : D} (h : d.sf = true) : stepOk d := ⟨sf_isP h, fun a b e => by
  subst e
  have := sfL_all (by simpa only [D.sf] using h)
  exact ⟨sf_isP (this a (by simp)), sf_isP (this b (by simp))⟩⟩
theorem is_course_no {zs os : List Str} {s q1 q2 h1 h2 : Nat} {b : Bool} {d : D} (hp : isP d = true) (ht : isTu d = false) : m_is_course [ruleI zs s q1 q2 b h1 h2 os, d] = .ret (.bl false) := by
  unfold m_is_course b_is_course runFn
  unfold DL.sSeq DL.sIf
  have e : notB (asB (iBi fIsI [iVar 1, iLit (.ty "tuple")])) (env0 5 [ruleI zs s q1 q2 b h1 h2 os, d]) = .ret true := by
    unfold notB asB
    show ((((match fIsI [d, .ty "tuple"] with | some d => M.ret d | none => .stuck) : M D).bind _).bind _) = _
    rw [isi_tup hp, ht]
    rfl
  rw [e]
  rfl
/-- told of any thing -/
theorem is_course_any {zs os : List Str} {s q1 q2 h1 h2 : Nat} {b : Bool} {d : D} (hz : zs.length ≤ 4) (h : d.sf = true) (hn : ∀ p ∈ cs 6 zs s, d ≠ encP p) : m_is_course [ruleI zs s q1 q2 b h1 h2 os, d] = .ret (.bl false) := by
  by_cases ht : isTu d = true
  · cases d with
    | tup ds =>
      rw [is_course_eq hz fun x hx => sf_step (sfL_all (by simpa only [D.sf] using h) x hx)]
      have : isC zs s ds = false := by
        cases e : isC zs s ds with
        | false => rfl
        | true =>
          obtain ⟨p, hp, rfl⟩ := (isC_iff 6 zs s ds (by omega)).mp e
          exact absurd rfl (hn p hp)
      rw [this]
    | _ => cases ht
  · exact is_course_no (sf_isP h) (by simpa using ht)
theorem winners_no {zs os : List Str} {s q1 q2 h1 h2 : Nat} {b : Bool} {d : D} (h : m_is_course [ruleI zs s q1 q2 b h1 h2 os, d] = .ret (.bl false)) : m_winners_of [ruleI zs s q1 q2 b h1 h2 os, d] = .exc ⟨3, d⟩ := by
  unfold m_winners_of b_winners_of runFn
  unfold DL.sSeq DL.sIf
  have e : notB (asB (iCall m_is_course [iVar 0, iVar 1])) (env0 6 [ruleI zs s q1 q2 b h1 h2 os, d]) = .ret true := by
    unfold notB asB
    rw [call2 (a := ruleI zs s q1 q2 b h1 h2 os) (b := d) rfl rfl, h]
    rfl
  rw [e]
  rfl
end Lw
namespace Lw
open PySem PySem.Spec L2 DL
abbrev envT (Rr d : D) (x : Option B) : DL.Env := [some (.fz Rr), some (.fz d), x]
theorem told_course {zs os : List Str} {s q1 q2 h1 h2 : Nat} {b : Bool} {p : Path} (hz : zs.length ≤ 4) (hc : p ∈ cs 6 zs s) : m__law_told [ruleI zs s q1 q2 b h1 h2 os, encP p] = .ret (.lst [.tup ((winL zs s p).map D.str)]) := by
  unfold m__law_told b__law_told runFn sTryRet
  have e : DL.iLst [iCall m_winners_of [iVar 0, iVar 1]] (env0 3 [ruleI zs s q1 q2 b h1 h2 os, encP p]) = .ret (.lst [.tup ((winL zs s p).map D.str)]) := by
    unfold DL.iLst
    rw [evs_one (d := .tup ((winL zs s p).map D.str)) (by rw [call2 (a := ruleI zs s q1 q2 b h1 h2 os) (b := encP p) rfl rfl]; exact winners_eq hz hc), M.ret_bind]
    exact if_pos (by show 1 ≤ sizeLine; rw [sizeLine_eq]; decide)
  rw [e]
  rfl
theorem cl_yes {sub : Nat → Nat → Option Bool} {k j : Nat} {i : IE} {x : Ex} {r : List Cl} {Γ : DL.Env} (h : sub x.c k = some true) : clRun sub ((k, some j, i) :: r) x Γ = (i (Γ.set j (some (.fz (.err x.c x.v))))).noX.bind fun d => if d.noErr = true then .ret (.rt d) else .stuck := by
  unfold clRun
  rw [h]
theorem sub33 : subX 3 3 = some true := by decide +kernel
theorem told_no {zs os : List Str} {s q1 q2 h1 h2 k w : Nat} {b : Bool} {d : D} (hz : zs.length ≤ 4) (h : Tg k w d) (hk : k ≤ 20) (hw : w ≤ 1000000) (hn : ∀ p ∈ cs 6 zs s, d ≠ encP p) : m__law_told [ruleI zs s q1 q2 b h1 h2 os, d] = .ret (.str d.z.shown) := by
  unfold m__law_told b__law_told runFn sTryRet
  have e : DL.iLst [iCall m_winners_of [iVar 0, iVar 1]] (env0 3 [ruleI zs s q1 q2 b h1 h2 os, d]) = .exc ⟨3, d⟩ := by
    unfold DL.iLst
    rw [evs_bind, call2 (a := ruleI zs s q1 q2 b h1 h2 os) (b := d) rfl rfl, winners_no (is_course_any hz h.sf hn)]
    rfl
  rw [e]
  have c : clRun subX [(3, some 2, iBi fRp [iErr (fun c => decide (c = 3)) 2])] ⟨3, d⟩ (env0 3 [ruleI zs s q1 q2 b h1 h2 os, d]) = .ret (.rt (.str d.z.shown)) := by
    rw [cl_yes (x := ⟨3, d⟩) sub33]
    have e2 : iBi fRp [iErr (fun c => decide (c = 3)) 2] (envT (ruleI zs s q1 q2 b h1 h2 os) d (some (.fz (.err 3 d)))) = .ret (.str d.z.shown) := bi_ok (a := d) rfl (h.rp hk hw)
    show ((iBi fRp [iErr (fun c => decide (c = 3)) 2] (envT (ruleI zs s q1 q2 b h1 h2 os) d (some (.fz (.err 3 d))))).noX.bind _) = _
    rw [e2]
    rfl
  show (clRun subX _ ⟨3, d⟩ _).bind _ = _
  rw [c]
  rfl
/-! all signs of a repr are small -/
def SmallL (l : List Nat) : Prop := ∀ c ∈ l, c < 128
theorem small_app {a b : List Nat} (h1 : SmallL a) (h2 : SmallL b) : SmallL (a ++ b) := fun c hc => (List.mem_append.mp hc).elim (h1 c) (h2 c)
theorem small_tup {ls : List (List Nat)} (h : ∀ l ∈ ls, SmallL l) : SmallL (tupL ls) := by
  have k : ∀ l : List Nat, l.all (fun c => decide (c < 128)) = true → SmallL l := fun l h c hc => of_decide_eq_true (List.all_eq_true.mp h c hc)
  have rs : ∀ r : List (List Nat), (∀ l ∈ r, SmallL l) → SmallL (Rs r) := by
    intro r
    induction r with
    | nil => intro _; exact k [41] (by decide)
    | cons x r ih =>
      intro h
      have e : Rs (x :: r) = [44, 32] ++ (x ++ Rs r) := rfl
      rw [e]
      exact small_app (k _ (by decide)) (small_app (h x List.mem_cons_self) (ih fun l hl => h l (List.mem_cons_of_mem _ hl)))
  match ls, h with
  | [], _ => exact k [40, 41] (by decide)
  | [x], h => exact small_app (a := [40]) (k _ (by decide)) (small_app (h x List.mem_cons_self) (k [44, 41] (by decide)))
  | x :: y :: r, h => exact small_app (a := [40]) (k _ (by decide)) (small_app (h x List.mem_cons_self) (rs (y :: r) fun l hl => h l (List.mem_cons_of_mem _ hl)))
theorem small_text : ∀ (ts : List Str) (k : Nat) (acc : Str), SmallL acc.cps.toList → (∀ t ∈ ts, SmallL t.cps.toList) → SmallL (textFrom k acc ts).cps.toList
  | [], k, acc, h, _ => by simpa [textFrom] using h
  | t :: ts, k, acc, h, ht => by
    show SmallL (textFrom (k + 1) (acc ++ (if k > 0 then ", " else "" : String) ++ t) ts).cps.toList
    refine small_text ts (k + 1) _ ?_ fun x hx => ht x (List.mem_cons_of_mem _ hx)
    rw [app_list, app_list]
    refine small_app (small_app h ?_) (ht t List.mem_cons_self)
    split
    · have : (Str.ofString ", ").cps.toList.all (fun c => decide (c < 128)) = true := by decide +kernel
      exact fun c hc => of_decide_eq_true (List.all_eq_true.mp this c hc)
    · have : (Str.ofString "").cps.toList.all (fun c => decide (c < 128)) = true := by decide +kernel
      exact fun c hc => of_decide_eq_true (List.all_eq_true.mp this c hc)
end Lw
namespace Lw
open PySem PySem.Spec L2 DL
theorem small_of {s : String} (h : ∀ c ∈ s.toList, c.toNat < 128) : SmallL (Str.ofString s).cps.toList := fun c hc => by
  rw [Str.ofString_eq_toList] at hc
  obtain ⟨x, hx, rfl⟩ := List.mem_map.mp (by simpa using hc)
  exact h x hx
theorem dig_small (n : Nat) : ∀ c ∈ (toString n).toList, c.toNat < 128 := fun c hc => by
  have e : (toString n).toList = Nat.toDigits 10 n := by
    show (String.ofList (Nat.toDigits 10 n)).toList = _
    simp
  rw [e] at hc
  have h : c.isDigit = true := Nat.isDigit_of_mem_toDigits (b := 10) (n := n) (by decide) (by decide) hc
  have h2 : c.toNat ≤ 57 := by
    simp only [Char.isDigit, Bool.and_eq_true, decide_eq_true_eq] at h
    exact h.2
  omega
theorem kb {l : List Nat} (h : l.all (fun c => decide (c < 128)) = true) : SmallL l := fun c hc => of_decide_eq_true (List.all_eq_true.mp h c hc)
mutual
theorem R_small : ∀ d : D, d.sf = true → SmallL (R d)
  | .non, _ => kb (by decide +kernel)
  | .bl true, _ => kb (by decide +kernel)
  | .bl false, _ => kb (by decide +kernel)
  | .int (.ofNat n), _ => small_of (dig_small n)
  | .int (.negSucc n), _ => by
    have e : R (.int (.negSucc n)) = (Str.ofString ("-" ++ toString (n + 1))).cps.toList := rfl
    rw [e]
    refine small_of fun c hc => ?_
    have : c = '-' ∨ c ∈ (toString (n + 1)).toList := by simpa using hc
    rcases this with rfl | h
    · decide
    · exact dig_small _ c h
  | .str s, h => by
    have hs : SafeL s.cps.toList := fun c hc => List.all_eq_true.mp (by simpa only [D.sf] using h) c hc
    rw [R_str hs]
    refine small_app (a := [39]) (kb (by decide)) (small_app (fun c hc => ?_) (kb (by decide)))
    have := (safe_lt (hs c hc)).1
    omega
  | .tup xs, h => by
    rw [R_tup]
    refine small_tup fun l hl => ?_
    obtain ⟨x, hx, rfl⟩ := List.mem_map.mp hl
    exact R_smallL xs (by simpa only [D.sf] using h) x hx
  | .lst xs, h => by
    have e : R (.lst xs) = (textFrom 0 (Str.ofString "[") (PyData.shownAll (D.zL xs)) ++ Str.ofString "]" : Str).cps.toList := by
      unfold R
      simp only [D.z, PyData.shown]
      rfl
    rw [e, app_list]
    refine small_app (small_text _ _ _ (kb (by decide +kernel)) fun t ht => ?_) (kb (by decide +kernel))
    have m : t.cps.toList ∈ (PyData.shownAll (D.zL xs)).map fun t => t.cps.toList := List.mem_map.mpr ⟨t, ht, rfl⟩
    rw [shownAll_map] at m
    obtain ⟨x, hx, e⟩ := List.mem_map.mp m
    rw [← e]
    exact R_smallL xs (by simpa only [D.sf] using h) x hx
  | .dct t kvs, _ => by
    have e : R (.dct t kvs) = (dictText []).cps.toList := by
      unfold R
      simp only [D.z, PyData.shown]
      rfl
    rw [e]
    exact kb (by decide +kernel)
  | .ins _ _, h | .exc _ _, h | .err _ _, h | .ty _, h | .clo _, h | .rnd, h | .scr _, h => by simp only [D.sf] at h; cases h
theorem R_smallL : ∀ xs : List D, D.sfL xs = true → ∀ x ∈ xs, SmallL (R x)
  | [], _, x, hx => by cases hx
  | y :: r, h, x, hx => by
    simp only [D.sfL, Bool.and_eq_true] at h
    rcases List.mem_cons.mp hx with e | hx
    · rw [e]
      exact R_small y h.1
    · exact R_smallL r h.2 x hx
end
/-- the repr of a repr -/
theorem rp_rp {d : D} {k w : Nat} (h : Tg k w d) (hw : w ≤ 1000000) : fRp [.str d.z.shown] = some (.str (D.str d.z.shown).z.shown) := by
  refine rp_ok (.inl rfl) (by simp only [D.z, PyData.showable]) (by simp only [D.z, PyData.depth]; decide) ?_
  have e : (D.str d.z.shown).z.shown = reprText d.z.shown := by simp only [D.z, PyData.shown]
  rw [e]
  have s := R_small d h.sf
  have l := StrLaws.reprText_len d.z.shown fun c hc => by
    have := s c hc
    have : (128 : Nat) ≤ 16 ^ 8 := by decide
    omega
  have e2 : d.z.shown.length = (R d).length := by
    unfold R
    rw [Array.length_toList]
    rfl
  have := h.ln
  rw [sizeLine_eq]
  omega
/-- the repr of a list of winners -/
theorem win_tg {zs : List Str} {s : Nat} {p : Path} (h : NamesOk zs) (hp : p ∈ cs 6 zs s) : Tg 2 1000 (.lst [.tup ((winL zs s p).map D.str)]) := by
  have words : ∀ z ∈ winL zs s p, z ∈ zs := fun z hz => by
    unfold winL at hz
    have m := (ssort_perm _).mem_iff.mp hz
    rcases List.mem_append.mp m with m | m
    · unfold ins at m
      obtain ⟨x, hx, rfl⟩ := List.mem_map.mp m
      exact cs_words 6 zs s p hp x (List.mem_filter.mp hx).1
    · split at m
      · exact (List.mem_filter.mp m).1
      · cases m
  have len : (winL zs s p).length ≤ 10 := by
    unfold winL
    rw [(ssort_perm _).length_eq, List.length_append]
    have a := ins_len p
    have b := cs_short 6 zs s p hp
    have c : (if (ins p).length < s then zs.filter fun z => decide (z ∉ p.map (·.2)) else []).length ≤ 4 := by
      split
      · exact Nat.le_trans (List.length_filter_le _ _) h.four
      · simp
    omega
  have t : Bo 1 123 (.tup ((winL zs s p).map D.str)) := by
    refine (Bo.tup (k := 0) (w := 10) (n := 10) (fun x hx => ?_) (by rw [List.length_map]; exact len)).mono (by decide) (by decide)
    obtain ⟨z, hz, rfl⟩ := List.mem_map.mp hx
    have := word_safe (h.word z (words z hz))
    exact Bo.str (n := 8) this.1 this.2
  refine (Tg.lst (xs := [.tup ((winL zs s p).map D.str)]) (k := 1) (w := 123) (n := 1) (fun x hx => ?_) (Nat.le_refl 1)).mono (by decide) (by decide)
  rw [List.mem_singleton] at hx
  exact hx ▸ t
end Lw
namespace Lw
open PySem PySem.Spec L2 DL
theorem fInA_lst (x : Str) (zs : List Str) : fInA (.str x) (.lst (zs.map D.str)) = some (.bl (decide (x ∈ zs))) := by
  have h := fInA_str x zs
  have e : okIn (.str x) (zs.map D.str) = true := by
    unfold okIn
    rw [plL_str]
    show (true && true && _) = true
    rw [Bool.true_and, Bool.true_and]
    refine decide_eq_true ?_
    have : D.dep (.str x) ≤ 60 := by show 0 ≤ 60; decide
    omega
  have h2 : fIn false (.str x) (.tup (zs.map D.str)) = some (.bl (dIn (.str x) (zs.map D.str))) := if_pos e
  have h3 : fInA (.str x) (.tup (zs.map D.str)) = some (.bl (dIn (.str x) (zs.map D.str))) := by
    show (match fIn false (.str x) (.tup (zs.map D.str)) with | some d => some d | none => _) = _
    rw [h2]
  rw [h3] at h
  have h4 : dIn (.str x) (zs.map D.str) = decide (x ∈ zs) := by simpa using h
  have h5 : fIn false (.str x) (.lst (zs.map D.str)) = some (.bl (dIn (.str x) (zs.map D.str))) := if_pos e
  show (match fIn false (.str x) (.lst (zs.map D.str)) with | some d => some d | none => _) = _
  rw [h5, h4]
theorem step_dec {w : Bool} {z : Str} (hz : WordOk z) : Dec (encS (w, z)) := by
  refine Dec.tup (xs := [wordD w, .str z]) fun x hx => ?_
  obtain ⟨l, rfl, h1, h2⟩ := step_items hz x hx
  exact ⟨Dec.str h1, (str_bo h1 h2).sf⟩
theorem path_dec {zs : List Str} {s : Nat} {p : Path} (h : NamesOk zs) (hp : p ∈ cs 6 zs s) : Dec (encP p) := by
  refine Dec.tup fun x hx => ⟨?_, (path_bo h hp x hx).sf⟩
  obtain ⟨⟨w, z⟩, hm, rfl⟩ := List.mem_map.mp hx
  exact step_dec (h.word z (cs_words 6 zs s p hp _ hm))
theorem path_tg {zs : List Str} {s : Nat} {p : Path} (h : NamesOk zs) (hp : p ∈ cs 6 zs s) : Bo 4 920 (encP p) := by
  have hl := cs_short 6 zs s p hp
  exact (Bo.tup (k := 3) (w := 129) (n := 7) (path_bo h hp) (by rw [List.length_map]; omega)).mono (by decide) (by decide)
/-- the reprs of all courses -/
def namesL (zs : List Str) (s : Nat) : List Str := (cs 6 zs s).map fun p => (encP p).z.shown
theorem in_names {zs : List Str} {s : Nat} (h : NamesOk zs) {d : D} (hd : d.sf = true) : d.z.shown ∈ namesL zs s ↔ ∃ p ∈ cs 6 zs s, d = encP p := by
  unfold namesL
  constructor
  · intro m
    obtain ⟨p, hp, e⟩ := List.mem_map.mp m
    exact ⟨p, hp, (path_dec h hp).eq hd e.symm⟩
  · rintro ⟨p, hp, rfl⟩
    exact List.mem_map.mpr ⟨p, hp, rfl⟩
/-- the frame of the law, where the things are asked -/
abbrev envZ (sc : Option B) (zs : List Str) (fs R : D) (ev : List D) (sz : Option B) (nm : List Str) (so : List D) (k one th du na : Option B) : DL.Env :=
  [sc, some (.fz .rnd), some (.fz .non), some (.fz (.tup (zs.map D.str))), some (.fz fs), some (.fz R), some (.fz (.lst ev)), sz, some (.fz (.lst (nm.map D.str))), some (.fz (.lst so)), k, one, th, du, na]
def thB : IS := DL.sSeq (DL.sSet 13 (DL.iIf (asB (iOp fInA (iBi fRp [(iVar 12)]) (iVar 8))) (DL.iLst [(iCall (m__law_winners) [(iVar 4), (iVar 12)])]) (iBi fRp [(iVar 12)])))
  (DL.sIf (asB (iOp fNeD (iBi fRp [(iCall (m__law_told) [(iVar 5), (iVar 12)])]) (iBi fRp [(iVar 13)]))) (DL.sRet (iLit (.bl false))) DL.sPass)
theorem ne_same (x : Str) : fNeD (.str x) (.str x) = some (.bl false) := by
  rw [fNe_str]
  simp
theorem thing_ok {sc : Option B} {tn : D} {zs os : List Str} {s q1 q2 h1 h2 k w : Nat} {b : Bool} {ev : List D} {sz kk one du na : Option B} {so : List D} {d : D} (hr : RuleOk zs s q1 q2 h1 h2 os) (h : Tg k w d) (hk : k ≤ 20) (hw : w ≤ 1000000) :
    ∃ du', thB [sc, some (.fz .rnd), some (.fz tn), some (.fz (.tup (zs.map D.str))), some (.fz (.tup (ruleD zs s q1 q2 b h1 h2 os))), some (.fz (ruleI zs s q1 q2 b h1 h2 os)), some (.fz (.lst ev)), sz, some (.fz (.lst ((namesL zs s).map D.str))), some (.fz (.lst so)), kk, one, some (.fz d), du, na] =
      .ret (.nx [sc, some (.fz .rnd), some (.fz tn), some (.fz (.tup (zs.map D.str))), some (.fz (.tup (ruleD zs s q1 q2 b h1 h2 os))), some (.fz (ruleI zs s q1 q2 b h1 h2 os)), some (.fz (.lst ev)), sz, some (.fz (.lst ((namesL zs s).map D.str))), some (.fz (.lst so)), kk, one, some (.fz d), du', na]) := by
  have hz := hr.names.four
  generalize hG : [sc, some (.fz .rnd), some (.fz tn), some (.fz (.tup (zs.map D.str))), some (.fz (.tup (ruleD zs s q1 q2 b h1 h2 os))), some (.fz (ruleI zs s q1 q2 b h1 h2 os)), some (.fz (.lst ev)), sz, some (.fz (.lst ((namesL zs s).map D.str))), some (.fz (.lst so)), kk, one, some (.fz d), du, na] = G
  have r1 : iBi fRp [iVar 12] G = .ret (.str d.z.shown) := by
    subst hG
    exact bi_ok (a := d) rfl (h.rp hk hw)
  have t1 : asB (iOp fInA (iBi fRp [iVar 12]) (iVar 8)) G = .ret (decide (d.z.shown ∈ namesL zs s)) := by
    unfold asB
    rw [op_ok (b := .lst ((namesL zs s).map D.str)) r1 (by subst hG; rfl) (fInA_lst _ _)]
    rfl
  have last : ∀ (D1 : D) (z : Str), iBi fRp [iCall m__law_told [iVar 5, iVar 12]] (G.set 13 (some (.fz D1))) = .ret (.str z) → fRp [D1] = some (.str z) → DL.sIf (asB (iOp fNeD (iBi fRp [(iCall (m__law_told) [(iVar 5), (iVar 12)])]) (iBi fRp [(iVar 13)]))) (DL.sRet (iLit (.bl false))) DL.sPass (G.set 13 (some (.fz D1))) = .ret (.nx (G.set 13 (some (.fz D1)))) := fun D1 z e1 e2 => by
    refine if_no ?_
    unfold asB
    rw [op_ok e1 (bi_ok (a := D1) (by subst hG; rfl) e2) (ne_same z)]
    rfl
  by_cases hc : ∃ p ∈ cs 6 zs s, d = encP p
  · obtain ⟨p, hp, rfl⟩ := hc
    have hin : (encP p).z.shown ∈ namesL zs s := (in_names hr.names h.sf).mpr ⟨p, hp, rfl⟩
    have due : DL.iIf (asB (iOp fInA (iBi fRp [(iVar 12)]) (iVar 8))) (DL.iLst [(iCall (m__law_winners) [(iVar 4), (iVar 12)])]) (iBi fRp [(iVar 12)]) G = .ret (.lst [.tup ((winL zs s p).map D.str)]) := by
      unfold DL.iIf
      rw [t1, M.ret_bind, if_pos (decide_eq_true hin)]
      unfold DL.iLst
      rw [evs_one (d := .tup ((winL zs s p).map D.str)) (by
        rw [call2 (a := .tup (ruleD zs s q1 q2 b h1 h2 os)) (b := encP p) (by subst hG; rfl) (by subst hG; rfl)]
        exact law_winners_eq hz (Nat.le_trans (cs_short 6 zs s p hp) (by decide))), M.ret_bind]
      exact if_pos (by show 1 ≤ sizeLine; rw [sizeLine_eq]; decide)
    refine ⟨some (.fz (.lst [.tup ((winL zs s p).map D.str)])), ?_⟩
    unfold thB
    rw [seq_nx (set_ok due), last _ _ (bi_ok (a := .lst [.tup ((winL zs s p).map D.str)]) (by
      rw [call2 (a := ruleI zs s q1 q2 b h1 h2 os) (b := encP p) (by subst hG; rfl) (by subst hG; rfl)]
      exact told_course hz hp) ((win_tg hr.names hp).rp (by decide) (by decide))) ((win_tg hr.names hp).rp (by decide) (by decide))]
    subst hG
    rfl
  · have hn : ∀ p ∈ cs 6 zs s, d ≠ encP p := fun p hp e => hc ⟨p, hp, e⟩
    have hin : ¬ d.z.shown ∈ namesL zs s := fun m => hc ((in_names hr.names h.sf).mp m)
    have due : DL.iIf (asB (iOp fInA (iBi fRp [(iVar 12)]) (iVar 8))) (DL.iLst [(iCall (m__law_winners) [(iVar 4), (iVar 12)])]) (iBi fRp [(iVar 12)]) G = .ret (.str d.z.shown) := by
      unfold DL.iIf
      rw [t1, M.ret_bind, if_neg (by rw [decide_eq_false hin]; decide)]
      exact r1
    refine ⟨some (.fz (.str d.z.shown)), ?_⟩
    unfold thB
    rw [seq_nx (set_ok due), last _ _ (bi_ok (a := .str d.z.shown) (by
      rw [call2 (a := ruleI zs s q1 q2 b h1 h2 os) (b := d) (by subst hG; rfl) (by subst hG; rfl)]
      exact told_no hz h hk hw hn) (rp_rp h hw)) (rp_rp h hw)]
    subst hG
    rfl
end Lw
namespace DL
open PySem PySem.Spec L2
mutual
theorem eqv_refl : ∀ d : D, d.pl = true → PyData.eqv d.py d.py = true
  | .non, _ => by simp only [D.py, PyData.eqv]
  | .bl b, _ => by simp [D.py, PyData.eqv]
  | .int i, _ => by simp [D.py, PyData.eqv]
  | .str s, _ => by simp [D.py, PyData.eqv]
  | .tup xs, h => by simp only [D.py, PyData.eqv]; exact eqv_reflL xs (by simpa only [D.pl] using h)
  | .lst xs, h => by simp only [D.py, PyData.eqv]; exact eqv_reflL xs (by simpa only [D.pl] using h)
  | .dct _ _, h | .ins _ _, h | .exc _ _, h | .err _ _, h | .ty _, h | .clo _, h | .rnd, h | .scr _, h => by simp only [D.pl] at h; cases h
theorem eqv_reflL : ∀ xs : List D, D.plL xs = true → PyData.eqvAll (D.pyL xs) (D.pyL xs) = true
  | [], _ => by simp only [D.pyL, PyData.eqvAll]
  | x :: r, h => by
    simp only [D.plL, Bool.and_eq_true] at h
    simp only [D.pyL, PyData.eqvAll, eqv_refl x h.1, eqv_reflL r h.2, Bool.and_self]
end
theorem ne_refl {d : D} (p : d.pl = true) (h : d.z.depth ≤ 60) : fNeD d d = some (.bl false) := by
  have e : okEq d d = true := by
    unfold okEq
    rw [p, Bool.true_and, Bool.true_and]
    refine decide_eq_true ?_
    have : d.dep = d.z.depth := by rw [← D.depth_py, py_z d p]
    omega
  show (if okEq d d = true then some (D.bl (!dEq d d)) else none) = _
  rw [if_pos e]
  unfold dEq
  rw [eqv_refl d p]
  rfl
end DL
namespace Lw
open PySem PySem.Spec L2 DL
theorem seq_tg {k w : Nat} {xs : List D} (h : ∀ x ∈ xs, Bo k w x) : D.plL xs = true ∧ (D.tup xs).z.depth ≤ k + 1 ∧ (D.lst xs).z.depth ≤ k + 1 := by
  refine ⟨all_of (p := D.pl) (q := D.plL) rfl (fun _ _ => rfl) fun x hx => (h x hx).pl, ?_, ?_⟩
  · simp only [D.z, PyData.depth]
    exact Nat.succ_le_succ (zL_depth fun x hx => (h x hx).dp)
  · simp only [D.z, PyData.depth]
    exact Nat.succ_le_succ (zL_depth fun x hx => (h x hx).dp)
def evL (zs : List Str) (s : Nat) : List D := (cs 6 zs s).map encP
def wnL (zs : List Str) (s : Nat) : List D := (cs 6 zs s).map fun p => .tup ((winL zs s p).map D.str)
theorem ev_bo {zs : List Str} {s : Nat} (h : NamesOk zs) : ∀ x ∈ evL zs s, Bo 4 920 x := fun x hx => by
  unfold evL at hx
  obtain ⟨p, hp, rfl⟩ := List.mem_map.mp hx
  exact path_tg h hp
theorem ev_len {zs : List Str} {s : Nat} (h : NamesOk zs) : (evL zs s).length ≤ 262144 := by
  unfold evL
  rw [List.length_map]
  exact Nat.le_trans (cs_len 6 zs s h.four) (pow_le (by decide))
theorem win_bo {zs : List Str} {s : Nat} (h : NamesOk zs) : ∀ x ∈ wnL zs s, D.pl x = true ∧ x.z.depth ≤ 1 := fun x hx => by
  unfold wnL at hx
  obtain ⟨p, hp, rfl⟩ := List.mem_map.mp hx
  generalize winL zs s p = l
  refine ⟨by simp only [D.pl]; exact plL_str l, ?_⟩
  simp only [D.z, PyData.depth]
  refine Nat.succ_le_succ (zL_depth fun y hy => ?_)
  obtain ⟨z, _, rfl⟩ := List.mem_map.mp hy
  simp only [D.z, PyData.depth]
  exact Nat.le_refl _
theorem win_ne {zs : List Str} {s : Nat} (h : NamesOk zs) : fNeD (.lst (wnL zs s)) (.lst (wnL zs s)) = some (.bl false) := by
  refine ne_refl ?_ ?_
  · simp only [D.pl]
    exact all_of (p := D.pl) (q := D.plL) rfl (fun _ _ => rfl) fun x hx => (win_bo h x hx).1
  · simp only [D.z, PyData.depth]
    exact Nat.le_trans (Nat.succ_le_succ (zL_depth fun x hx => (win_bo h x hx).2)) (by decide)
theorem ev_ne {zs : List Str} {s : Nat} (h : NamesOk zs) : fNeD (.tup (evL zs s)) (.tup (evL zs s)) = some (.bl false) := by
  have t := seq_tg (ev_bo (s := s) h)
  exact ne_refl (by simp only [D.pl]; exact t.1) (Nat.le_trans t.2.1 (by decide))
/-- the sizes, looked up -/
theorem size_ok {zs : List Str} {s : Nat} (h : NamesOk zs) (h1 : 1 ≤ s) (h2 : s < zs.length) : ∃ row : List D, fIx (.lst [.lst [.int 4], .lst [.int 15, .int 15], .lst [.int 64, .int 120, .int 64]]) (.int ((zs.length - 2 : Nat) : Int)) = some (.lst row) ∧ fIx (.lst row) (.int ((s - 1 : Nat) : Int)) = some (.int ((cs 6 zs s).length : Nat)) := by
  have c := cs_count 6 zs s (asc_nodup h.asc)
  have sz := sizes
  simp only [List.cons.injEq, and_true] at sz
  have t2 := h.two
  have t4 := h.four
  have l : zs.length = 2 ∨ zs.length = 3 ∨ zs.length = 4 := by omega
  rcases l with l | l | l
  · have : s = 1 := by omega
    subst this
    rw [c, l, sz.1]
    exact ⟨[.int 4], rfl, rfl⟩
  · rcases (show s = 1 ∨ s = 2 by omega) with rfl | rfl
    · rw [c, l, sz.2.1]
      exact ⟨[.int 15, .int 15], rfl, rfl⟩
    · rw [c, l, sz.2.2.1]
      exact ⟨[.int 15, .int 15], rfl, rfl⟩
  · rcases (show s = 1 ∨ s = 2 ∨ s = 3 by omega) with rfl | rfl | rfl
    · rw [c, l, sz.2.2.2.1]
      exact ⟨[.int 64, .int 120, .int 64], rfl, rfl⟩
    · rw [c, l, sz.2.2.2.2.1]
      exact ⟨[.int 64, .int 120, .int 64], rfl, rfl⟩
    · rw [c, l, sz.2.2.2.2.2]
      exact ⟨[.int 64, .int 120, .int 64], rfl, rfl⟩
end Lw
namespace Lw
open PySem PySem.Spec L2 DL
def tC : IS := DL.sAsg (DL.gT [(DL.gN 5), (DL.gN 6)]) (DL.iTup [(iCall (m__law_made) [(iVar 4)]), (iCall (m__law_courses 6) [(iVar 3), (iOp fIx (iVar 4) (iLit (.int 1)))])])
def tD : IS := DL.sSet 7 (iOp fIx (iOp fIx (DL.iLst [(DL.iLst [(iLit (.int 4))]), (DL.iLst [(iLit (.int 15)), (iLit (.int 15))]), (DL.iLst [(iLit (.int 64)), (iLit (.int 120)), (iLit (.int 64))])]) (iOp fSubI (iBi fLen [(iVar 3)]) (iLit (.int 2)))) (iOp fSubI (iOp fIx (iVar 4) (iLit (.int 1))) (iLit (.int 1))))
def tE : IT := orB (asB (iOp fNeD (iCall (m_all_courses) [(iVar 5)]) (iBi fTuple [(iVar 6)]))) (asB (iOp fNeD (iBi fLen [(iVar 6)]) (iVar 7)))
def tF : IT := asB (iOp fNeD (iLc (gN 11) (iiA (iVar 6)) cYes (iCall (m_winners_of) [(iVar 5), (iVar 11)]) [11]) (iLc (gN 11) (iiA (iVar 6)) cYes (iCall (m__law_winners) [(iVar 4), (iVar 11)]) [11]))
def tG : IS := DL.sSet 8 (iLc (gN 11) (iiA (iVar 6)) cYes (iBi fRp [(iVar 11)]) [11])
section
variable {sc tn a5 a6 a7 a8 a9 a10 a11 a12 a13 a14 : Option B} {zs os : List Str} {s q1 q2 h1 h2 : Nat} {b : Bool}
theorem tC_ok (hr : RuleOk zs s q1 q2 h1 h2 os) : tC [sc, some (.fz .rnd), tn, some (.fz (.tup (zs.map D.str))), some (.fz (.tup (ruleD zs s q1 q2 b h1 h2 os))), a5, a6, a7, a8, a9, a10, a11, a12, a13, a14] =
    .ret (.nx [sc, some (.fz .rnd), tn, some (.fz (.tup (zs.map D.str))), some (.fz (.tup (ruleD zs s q1 q2 b h1 h2 os))), some (.fz (ruleI zs s q1 q2 b h1 h2 os)), some (.fz (.lst (evL zs s))), a7, a8, a9, a10, a11, a12, a13, a14]) := by
  have h4 := hr.names.four
  unfold tC DL.sAsg
  rw [tup2 (a := ruleI zs s q1 q2 b h1 h2 os) (b := .lst (evL zs s)) (by rw [call1 (a := .tup (ruleD zs s q1 q2 b h1 h2 os)) rfl]; exact rule_made hr)
    (by rw [call2 (a := .tup (zs.map D.str)) (b := .int s) rfl rfl]; exact law_courses_eq 6 zs s h4 (by omega) (by decide))]
  rfl
theorem tD_ok (hr : RuleOk zs s q1 q2 h1 h2 os) {R : D} : tD [sc, some (.fz .rnd), tn, some (.fz (.tup (zs.map D.str))), some (.fz (.tup (ruleD zs s q1 q2 b h1 h2 os))), some (.fz R), some (.fz (.lst (evL zs s))), a7, a8, a9, a10, a11, a12, a13, a14] =
    .ret (.nx [sc, some (.fz .rnd), tn, some (.fz (.tup (zs.map D.str))), some (.fz (.tup (ruleD zs s q1 q2 b h1 h2 os))), some (.fz R), some (.fz (.lst (evL zs s))), some (.fz (.int ((cs 6 zs s).length : Nat))), a8, a9, a10, a11, a12, a13, a14]) := by
  have t2 := hr.names.two
  have t1 := hr.s1
  obtain ⟨row, e1, e2⟩ := size_ok hr.names hr.s1 hr.s2
  generalize hG : [sc, some (.fz .rnd), tn, some (.fz (.tup (zs.map D.str))), some (.fz (.tup (ruleD zs s q1 q2 b h1 h2 os))), some (.fz R), some (.fz (.lst (evL zs s))), a7, a8, a9, a10, a11, a12, a13, a14] = G
  have z : ∀ n, n ≤ 10 → n ≤ sizeLine := fun n hn => by rw [sizeLine_eq]; omega
  have l1 : ∀ i j : IE, ∀ x y : D, i G = .ret x → j G = .ret y → DL.iLst [i, j] G = .ret (.lst [x, y]) := fun i j x y h1 h2 => by
    unfold DL.iLst
    simp only [evs, h1, h2, M.ret_bind]
    exact if_pos (z 2 (by decide))
  have l0 : ∀ i : IE, ∀ x : D, i G = .ret x → DL.iLst [i] G = .ret (.lst [x]) := fun i x h1 => by
    unfold DL.iLst
    simp only [evs, h1, M.ret_bind]
    exact if_pos (z 1 (by decide))
  have l3 : ∀ i j k : IE, ∀ x y w : D, i G = .ret x → j G = .ret y → k G = .ret w → DL.iLst [i, j, k] G = .ret (.lst [x, y, w]) := fun i j k x y w h1 h2 h3 => by
    unfold DL.iLst
    simp only [evs, h1, h2, h3, M.ret_bind]
    exact if_pos (z 3 (by decide))
  have len : iOp fSubI (iBi fLen [iVar 3]) (iLit (.int 2)) G = .ret (.int ((zs.length - 2 : Nat) : Int)) := by
    rw [op_ok (a := .int (zs.length : Nat)) (b := .int 2) (bi_ok (a := .tup (zs.map D.str)) (by subst hG; rfl) (by rw [fLen_tup, List.length_map])) rfl (fSubI_int _ _)]
    congr 2
    omega
  have se : iOp fSubI (iOp fIx (iVar 4) (iLit (.int 1))) (iLit (.int 1)) G = .ret (.int ((s - 1 : Nat) : Int)) := by
    rw [op_ok (a := .int (s : Nat)) (b := .int 1) (by subst hG; rfl) rfl (fSubI_int _ _)]
    congr 2
    omega
  unfold tD
  rw [set_ok (op_ok (op_ok (l3 _ _ _ _ _ _ (l0 _ _ rfl) (l1 _ _ _ _ rfl rfl) (l3 _ _ _ _ _ _ rfl rfl rfl)) len e1) se e2)]
  subst hG
  rfl
theorem tE_ok (hr : RuleOk zs s q1 q2 h1 h2 os) {F : D} : tE [sc, some (.fz .rnd), tn, some (.fz (.tup (zs.map D.str))), some (.fz F), some (.fz (ruleI zs s q1 q2 b h1 h2 os)), some (.fz (.lst (evL zs s))), some (.fz (.int ((cs 6 zs s).length : Nat))), a8, a9, a10, a11, a12, a13, a14] = .ret false := by
  have h4 := hr.names.four
  generalize hG : [sc, some (.fz .rnd), tn, some (.fz (.tup (zs.map D.str))), some (.fz F), some (.fz (ruleI zs s q1 q2 b h1 h2 os)), some (.fz (.lst (evL zs s))), some (.fz (.int ((cs 6 zs s).length : Nat))), a8, a9, a10, a11, a12, a13, a14] = G
  have e1 : asB (iOp fNeD (iCall m_all_courses [iVar 5]) (iBi fTuple [iVar 6])) G = .ret false := by
    unfold asB
    rw [op_ok (a := .tup (evL zs s)) (b := .tup (evL zs s)) (by rw [call1 (a := ruleI zs s q1 q2 b h1 h2 os) (by subst hG; rfl)]; exact all_courses_eq h4) (bi_ok (a := .lst (evL zs s)) (by subst hG; rfl) rfl) (ev_ne hr.names)]
    rfl
  have e2 : asB (iOp fNeD (iBi fLen [iVar 6]) (iVar 7)) G = .ret false := by
    unfold asB
    rw [op_ok (a := .int ((cs 6 zs s).length : Nat)) (b := .int ((cs 6 zs s).length : Nat)) (bi_ok (a := .lst (evL zs s)) (by subst hG; rfl) (by rw [fLen_lst]; unfold evL; rw [List.length_map])) (by subst hG; rfl) (ne_refl rfl (by simp only [D.z, PyData.depth]; decide))]
    rfl
  unfold tE orB
  rw [e1, M.ret_bind, if_neg (by decide), e2]
theorem tF_ok (hr : RuleOk zs s q1 q2 h1 h2 os) {sz : Option B} : tF [sc, some (.fz .rnd), tn, some (.fz (.tup (zs.map D.str))), some (.fz (.tup (ruleD zs s q1 q2 b h1 h2 os))), some (.fz (ruleI zs s q1 q2 b h1 h2 os)), some (.fz (.lst (evL zs s))), sz, a8, a9, a10, a11, a12, a13, a14] = .ret false := by
  have h4 := hr.names.four
  have el := ev_len (s := s) hr.names
  have inv : ∀ d ∈ evL zs s, ∃ p ∈ cs 6 zs s, d = encP p := fun d hd => by
    unfold evL at hd
    obtain ⟨p, hp, e⟩ := List.mem_map.mp hd
    exact ⟨p, hp, e.symm⟩
  have gen : ∀ (i : IE), (∀ p ∈ cs 6 zs s, i [sc, some (.fz .rnd), tn, some (.fz (.tup (zs.map D.str))), some (.fz (.tup (ruleD zs s q1 q2 b h1 h2 os))), some (.fz (ruleI zs s q1 q2 b h1 h2 os)), some (.fz (.lst (evL zs s))), sz, a8, a9, a10, some (.fz (encP p)), a12, a13, a14] = .ret (.tup ((winL zs s p).map D.str))) →
      iLc (gN 11) (iiA (iVar 6)) cYes i [11] [sc, some (.fz .rnd), tn, some (.fz (.tup (zs.map D.str))), some (.fz (.tup (ruleD zs s q1 q2 b h1 h2 os))), some (.fz (ruleI zs s q1 q2 b h1 h2 os)), some (.fz (.lst (evL zs s))), sz, a8, a9, a10, a11, a12, a13, a14] = .ret (.lst (wnL zs s)) := fun i hi => by
    have hm : ∀ (ps : List Path), (∀ p ∈ ps, p ∈ cs 6 zs s) → ∀ acc : List D, acc.length + ps.length ≤ sizeLine → lcRun (gN 11) cYes i [11] [sc, some (.fz .rnd), tn, some (.fz (.tup (zs.map D.str))), some (.fz (.tup (ruleD zs s q1 q2 b h1 h2 os))), some (.fz (ruleI zs s q1 q2 b h1 h2 os)), some (.fz (.lst (evL zs s))), sz, a8, a9, a10, a11, a12, a13, a14] acc (ps.map encP) = .ret (acc ++ ps.map fun p => .tup ((winL zs s p).map D.str)) := by
      intro ps
      induction ps with
      | nil => intro _ acc _; simp [lcRun]
      | cons p r ih =>
        intro hp acc hl
        rw [List.length_cons] at hl
        rw [List.map_cons]
        show ((i [sc, some (.fz .rnd), tn, some (.fz (.tup (zs.map D.str))), some (.fz (.tup (ruleD zs s q1 q2 b h1 h2 os))), some (.fz (ruleI zs s q1 q2 b h1 h2 os)), some (.fz (.lst (evL zs s))), sz, a8, a9, a10, some (.fz (encP p)), a12, a13, a14]).bind fun x => if acc.length < sizeLine then lcRun (gN 11) cYes i [11] [sc, some (.fz .rnd), tn, some (.fz (.tup (zs.map D.str))), some (.fz (.tup (ruleD zs s q1 q2 b h1 h2 os))), some (.fz (ruleI zs s q1 q2 b h1 h2 os)), some (.fz (.lst (evL zs s))), sz, a8, a9, a10, a11, a12, a13, a14] (acc ++ [x]) (r.map encP) else .stuck) = _
        rw [hi p (hp p List.mem_cons_self), M.ret_bind, if_pos (by omega), ih (fun q hq => hp q (List.mem_cons_of_mem _ hq)) _ (by rw [List.length_append, List.length_singleton]; omega), List.map_cons, List.append_assoc]
        rfl
    unfold iLc
    show ((lcRun _ _ _ _ _ [] (evL zs s)).noX.bind _) = _
    unfold evL at el ⊢
    rw [List.length_map] at el
    have := hm (cs 6 zs s) (fun p hp => hp) [] (by rw [sizeLine_eq, List.length_nil]; omega)
    unfold evL at this
    rw [this]
    rfl
  unfold tF asB
  rw [op_ok (gen _ fun p hp => by rw [call2 (a := ruleI zs s q1 q2 b h1 h2 os) (b := encP p) rfl rfl]; exact winners_eq h4 hp) (gen _ fun p hp => by
    rw [call2 (a := .tup (ruleD zs s q1 q2 b h1 h2 os)) (b := encP p) rfl rfl]
    exact law_winners_eq h4 (Nat.le_trans (cs_short 6 zs s p hp) (by decide))) (win_ne hr.names)]
  rfl
end
end Lw
namespace Lw
open PySem PySem.Spec L2 DL
abbrev Thing (d : D) : Prop := Tg 8 5000 d
theorem bo_thing {k w : Nat} {d : D} (h : Bo k w d) (hk : k ≤ 8) (hw : w ≤ 5000) : Thing d := h.tg.mono hk hw
theorem cs_small {zs : List Str} {s : Nat} (h : NamesOk zs) (h1 : 1 ≤ s) (h2 : s < zs.length) : (cs 6 zs s).length ≤ 1000 ∧ 0 < (cs 6 zs s).length := by
  have c := cs_count 6 zs s (asc_nodup h.asc)
  have sz := sizes
  simp only [List.cons.injEq, and_true] at sz
  have t2 := h.two
  have t4 := h.four
  have l : zs.length = 2 ∨ zs.length = 3 ∨ zs.length = 4 := by omega
  rcases l with l | l | l
  · have : s = 1 := by omega
    subst this
    rw [c, l, sz.1]
    decide
  · rcases (show s = 1 ∨ s = 2 by omega) with rfl | rfl
    · rw [c, l, sz.2.1]; decide
    · rw [c, l, sz.2.2.1]; decide
  · rcases (show s = 1 ∨ s = 2 ∨ s = 3 by omega) with rfl | rfl | rfl
    · rw [c, l, sz.2.2.2.1]; decide
    · rw [c, l, sz.2.2.2.2.1]; decide
    · rw [c, l, sz.2.2.2.2.2]; decide
theorem Yl_nextM {Γ : DL.Env} {n : Nat} (h : 0 < n) (h2 : n ≤ 1000) {j : IE} (hm : Γ[1]? = some (some (.fz .rnd))) (hj : j Γ = .ret (.int n)) : Yl (iCall m__law_next [iVar 1, j] Γ) 1 fun d => ∃ i : Nat, i < n ∧ d = .int i := by
  have e : iCall m__law_next [iVar 1, j] Γ = m__law_next [.rnd, .int n] := by
    unfold iCall evs evs evs iVar
    rw [hm]
    simp only [M.ret_bind]
    rw [hj]
    rfl
  rw [e]
  exact Yl_next h h2
section
variable {sc tn a5 a6 a7 a8 a9 a10 a11 a12 a13 a14 : Option B} {zs os : List Str} {s q1 q2 h1 h2 : Nat} {b : Bool} {F Rr : D} {sz : Option B}
theorem tG_ok (h : NamesOk zs) : tG [sc, some (.fz .rnd), tn, some (.fz (.tup (zs.map D.str))), some (.fz F), some (.fz Rr), some (.fz (.lst (evL zs s))), sz, a8, a9, a10, a11, a12, a13, a14] =
    .ret (.nx [sc, some (.fz .rnd), tn, some (.fz (.tup (zs.map D.str))), some (.fz F), some (.fz Rr), some (.fz (.lst (evL zs s))), sz, some (.fz (.lst ((namesL zs s).map D.str))), a9, a10, a11, a12, a13, a14]) := by
  have el := ev_len (s := s) h
  have e : iLc (gN 11) (iiA (iVar 6)) cYes (iBi fRp [(iVar 11)]) [11] [sc, some (.fz .rnd), tn, some (.fz (.tup (zs.map D.str))), some (.fz F), some (.fz Rr), some (.fz (.lst (evL zs s))), sz, a8, a9, a10, a11, a12, a13, a14] = .ret (.lst ((namesL zs s).map D.str)) := by
    rw [lc_all (ds := evL zs s) (e := fun d => .str d.z.shown) rfl (fun d hd => ?_) (by rw [sizeLine_eq]; omega)]
    · unfold evL namesL
      rw [List.map_map, List.map_map]
      rfl
    · exact ⟨_, rfl, bi_ok (a := d) rfl ((ev_bo h d hd).tg.rp (by decide) (by decide))⟩
  unfold tG
  rw [set_ok e]
  rfl
def tH : IS := DL.sSet 9 (DL.iLst [(DL.iTup []), (iLit .non), (iLit (.int 5)), (iLit (.str (PySem.Str.ofString "in"))), (iCall (m__law_odd) [(iVar 1)]), (iBi fTuple [(iLc (gN 14) (iiA (iVar 3)) cYes (DL.iTup [(iLit (.str (PySem.Str.ofString "in"))), (iVar 14)]) [14])]), (iOp fMul (DL.iTup [(DL.iTup [(iLit (.str (PySem.Str.ofString "out"))), (iOp fIx (iVar 3) (iLit (.int 0)))])]) (iLit (.int 2)))])
theorem fMul_tup (x : D) : fMul (.tup [x]) (.int 2) = some (.tup [x, x]) := rfl
theorem first_name (h : NamesOk zs) : ∃ z, z ∈ zs ∧ ∀ {Γ : DL.Env}, Γ[3]? = some (some (.fz (.tup (zs.map D.str)))) → DL.iTup [DL.iTup [iLit (.str (PySem.Str.ofString "out")), iOp fIx (iVar 3) (iLit (.int 0))]] Γ = .ret (.tup [encS (false, z)]) := by
  have t2 := h.two
  match zs, t2 with
  | z :: r, _ =>
    refine ⟨z, List.mem_cons_self, fun {Γ} hg => ?_⟩
    refine tup1 (tup2 (a := .str (Str.ofString "out")) (b := .str z) rfl ?_)
    exact op_ok (a := .tup ((z :: r).map D.str)) (b := .int 0) (by unfold iVar; rw [hg]) rfl (fIx_tup ((z :: r).map D.str) (i := 0) (by simp))
theorem tH_ok (h : NamesOk zs) {nm : Option B} : Yl (tH [sc, some (.fz .rnd), tn, some (.fz (.tup (zs.map D.str))), some (.fz F), some (.fz Rr), some (.fz (.lst (evL zs s))), sz, nm, a9, a10, a11, a12, a13, a14]) 1 fun fl => ∃ Γ', fl = .nx Γ' ∧ ∃ so : List D, (∀ d ∈ so, Thing d) ∧ so.length ≤ 7 ∧
    Γ' = [sc, some (.fz .rnd), tn, some (.fz (.tup (zs.map D.str))), some (.fz F), some (.fz Rr), some (.fz (.lst (evL zs s))), sz, nm, some (.fz (.lst so)), a10, a11, a12, a13, a14] := by
  have h4 := h.four
  obtain ⟨z0, hz0, fst⟩ := first_name h
  have e1 : DL.iTup [] [sc, some (.fz .rnd), tn, some (.fz (.tup (zs.map D.str))), some (.fz F), some (.fz Rr), some (.fz (.lst (evL zs s))), sz, nm, a9, a10, a11, a12, a13, a14] = .ret (.tup []) := by
    unfold DL.iTup evs
    rw [M.ret_bind]
    exact if_pos (Nat.zero_le _)
  have e6 : iBi fTuple [(iLc (gN 14) (iiA (iVar 3)) cYes (DL.iTup [(iLit (.str (PySem.Str.ofString "in"))), (iVar 14)]) [14])] [sc, some (.fz .rnd), tn, some (.fz (.tup (zs.map D.str))), some (.fz F), some (.fz Rr), some (.fz (.lst (evL zs s))), sz, nm, a9, a10, a11, a12, a13, a14] = .ret (.tup ((zs.map fun z => encS (true, z)))) := by
    refine bi_ok (a := .lst (zs.map fun z => encS (true, z))) ?_ rfl
    rw [lc_all (ds := zs.map D.str) (e := fun d => .tup [.str (Str.ofString "in"), d]) rfl (fun d hd => ?_) (by rw [List.length_map, sizeLine_eq]; omega), List.map_map]
    · rfl
    · exact ⟨_, rfl, tup2 rfl rfl⟩
  have e7 : iOp fMul (DL.iTup [(DL.iTup [(iLit (.str (PySem.Str.ofString "out"))), (iOp fIx (iVar 3) (iLit (.int 0)))])]) (iLit (.int 2)) [sc, some (.fz .rnd), tn, some (.fz (.tup (zs.map D.str))), some (.fz F), some (.fz Rr), some (.fz (.lst (evL zs s))), sz, nm, a9, a10, a11, a12, a13, a14] = .ret (.tup [encS (false, z0), encS (false, z0)]) := op_ok (fst rfl) rfl (fMul_tup _)
  have stb : ∀ w, ∀ z ∈ zs, Bo 3 129 (encS (w, z)) := fun w z hz => step_bo (h.word z hz)
  have t1 : Thing (.tup []) := tgB_ok (by decide +kernel)
  have t2 : Thing .non := tgB_ok (by decide +kernel)
  have t3 : Thing (.int 5) := tgB_ok (by decide +kernel)
  have t4 : Thing (.str (Str.ofString "in")) := tgB_ok (by decide +kernel)
  have t6 : Thing (.tup (zs.map fun z => encS (true, z))) := bo_thing (Bo.tup (k := 3) (w := 129) (n := 4) (fun x hx => by obtain ⟨z, hz, rfl⟩ := List.mem_map.mp hx; exact stb true z hz) (by rw [List.length_map]; exact h4)) (by decide) (by decide)
  have t7 : Thing (.tup [encS (false, z0), encS (false, z0)]) := bo_thing (Bo.tup (k := 3) (w := 129) (n := 2) (xs := [encS (false, z0), encS (false, z0)]) (fun x hx => by
    simp only [List.mem_cons, List.not_mem_nil, or_false, or_self] at hx
    exact hx ▸ stb false z0 hz0) (Nat.le_refl 2)) (by decide) (by decide)
  unfold tH DL.sSet DL.iLst
  rw [M.bind_assoc]
  refine (Yl.bind (k := 1) (l := 0) (Yl.evs_cons (k := 0) (P := Thing) (Yl.of_eq e1 t1) (Yl.evs_cons (k := 0) (P := Thing) (Yl.of_eq rfl t2) (Yl.evs_cons (k := 0) (P := Thing) (Yl.of_eq rfl t3) (Yl.evs_cons (k := 0) (P := Thing) (Yl.of_eq rfl t4)
    (Yl.evs_cons (k := 1) (P := Thing) (by rw [call1 (a := .rnd) rfl]; exact law_odd.mono (Nat.le_refl _) fun d hd => hd.mono (by decide) (by decide)) (Yl.evs_cons (k := 0) (P := Thing) (Yl.of_eq e6 t6) (Yl.evs_cons (k := 0) (P := Thing) (Yl.of_eq e7 t7) Yl.evs_nil))))))) fun ds hd => ?_)
  obtain ⟨d1, _, rfl, p1, d2, _, rfl, p2, d3, _, rfl, p3, d4, _, rfl, p4, d5, _, rfl, p5, d6, _, rfl, p6, d7, _, rfl, p7, rfl⟩ := hd
  have e : ∀ ds : List D, ds.length = 7 → ((if ds.length ≤ sizeLine then M.ret (D.lst ds) else .stuck) : M D) = .ret (D.lst ds) := fun ds hl => if_pos (by rw [hl, sizeLine_eq]; decide)
  rw [e _ rfl, M.ret_bind]
  refine Yl.ret ⟨_, rfl, [d1, d2, d3, d4, d5, d6, d7], fun d hd => ?_, Nat.le_refl 7, rfl⟩
  simp only [List.mem_cons, List.not_mem_nil, or_false] at hd
  rcases hd with rfl | rfl | rfl | rfl | rfl | rfl | rfl <;> assumption
end
end Lw
namespace Lw
open PySem PySem.Spec L2 DL
section
variable {sc tn : Option B} {zs os : List Str} {s q1 q2 h1 h2 : Nat} {b : Bool} {F Rr : D} {sz nm : Option B}
abbrev envY (sc tn : Option B) (zs : List Str) (F Rr : D) (s : Nat) (sz nm : Option B) (so : List D) (a10 a11 a12 a13 a14 : Option B) : DL.Env :=
  [sc, some (.fz .rnd), tn, some (.fz (.tup (zs.map D.str))), some (.fz F), some (.fz Rr), some (.fz (.lst (evL zs s))), sz, nm, some (.fz (.lst so)), a10, a11, a12, a13, a14]
def tIb : IS := DL.sSeq (DL.sSet 11 (iOp fIx (iVar 6) (iCall (m__law_next) [(iVar 1), (iBi fLen [(iVar 6)])])))
  (DL.sSet 9 (iOp fAdd (iVar 9) (DL.iLst [(iVar 11), (iCall (m__law_bent 6) [(iVar 1), (iVar 11)]), (iSl fSl (iVar 11) oNone (oSome (iNeg (iLit (.int 1))))), (iOp fAdd (iVar 11) (DL.iTup [(DL.iTup [(iLit (.str (PySem.Str.ofString "out"))), (iOp fIx (iVar 3) (iLit (.int 0)))])])), (iBi fList [(iVar 11)]), (iRev (iVar 11))])))
theorem cutD_neg (ds : List D) : ∃ n, cutD ds none (some (-1)) = ds.take n := by
  unfold cutD
  rw [HT.sIx_none, List.drop_zero]
  exact ⟨_, rfl⟩
theorem tIb_ok (h : NamesOk zs) (g1 : 1 ≤ s) (g2 : s < zs.length) {so : List D} {a10 a11 a12 a13 a14 : Option B} (hs : ∀ d ∈ so, Thing d) (hl : so.length ≤ 1000) : Yl (tIb (envY sc tn zs F Rr s sz nm so a10 a11 a12 a13 a14)) 25 fun fl => ∃ Γ', fl = .nx Γ' ∧ ∃ so' a11', (∀ d ∈ so', Thing d) ∧ so'.length = so.length + 6 ∧ Γ' = envY sc tn zs F Rr s sz nm so' a10 a11' a12 a13 a14 := by
  obtain ⟨c1, c0⟩ := cs_small h g1 g2
  obtain ⟨z0, hz0, fst⟩ := first_name h
  have el : (evL zs s).length = (cs 6 zs s).length := by unfold evL; rw [List.length_map]
  refine (Yl.seq (k := 1) (l := 24) (I := fun Γ => ∃ p, p ∈ cs 6 zs s ∧ Γ = envY sc tn zs F Rr s sz nm so a10 (some (.fz (encP p))) a12 a13 a14) ?_ ?_)
  · unfold DL.sSet iOp
    rw [M.bind_assoc]
    refine (Yl.bind (k := 0) (l := 1) (P := fun d => d = .lst (evL zs s)) (Yl.of_eq rfl rfl) fun d hd => ?_)
    subst hd
    rw [M.bind_assoc]
    refine (Yl.bind (k := 1) (l := 0) (Yl_nextM (n := (cs 6 zs s).length) c0 c1 rfl (bi_ok (a := .lst (evL zs s)) rfl (by rw [fLen_lst, el]))) fun d hd => ?_)
    obtain ⟨i, hi, rfl⟩ := hd
    have hi2 : i < (evL zs s).length := by rw [el]; exact hi
    rw [fIx_lst _ hi2]
    have m := List.getElem_mem hi2
    have m2 : (evL zs s)[i] ∈ (cs 6 zs s).map encP := m
    obtain ⟨p, hp, e⟩ := List.mem_map.mp m2
    exact Yl.ret ⟨_, rfl, p, hp, by rw [← e]; rfl⟩
  · rintro Γ ⟨p, hp, rfl⟩
    have pb := path_bo h hp
    have pl := cs_short 6 zs s p hp
    have it : ∀ xs : List D, (∀ x ∈ xs, Bo 3 129 x) → xs.length ≤ 10 → Thing (.tup xs) := fun xs hx hn => bo_thing (Bo.tup (k := 3) (w := 129) (n := 10) hx hn) (by decide) (by decide)
    have lm : (p.map encS).length ≤ 6 := by rw [List.length_map]; exact pl
    obtain ⟨cutn, cute⟩ := cutD_neg (p.map encS)
    have b1 : Thing (encP p) := it _ pb (by omega)
    have b3 : Thing (.tup ((p.map encS).take cutn)) := it _ (fun x hx => pb x (List.mem_of_mem_take hx)) (by rw [List.length_take]; omega)
    have b4 : Thing (.tup (p.map encS ++ [encS (false, z0)])) := it _ (fun x hx => by
      rcases List.mem_append.mp hx with hx | hx
      · exact pb x hx
      · rw [List.mem_singleton] at hx
        exact hx ▸ step_bo (h.word z0 hz0)) (by rw [List.length_append, List.length_singleton]; omega)
    have b5 : Thing (.lst (p.map encS)) := (Tg.lst (k := 3) (w := 129) (n := 10) pb (by omega)).mono (by decide) (by decide)
    have b6 : Thing (.tup (p.map encS).reverse) := it _ (fun x hx => pb x (List.mem_reverse.mp hx)) (by rw [List.length_reverse]; omega)
    unfold DL.sSet
    refine (Yl.bind (k := 24) (l := 0) (P := fun d => ∃ so' : List D, d = .lst so' ∧ (∀ d ∈ so', Thing d) ∧ so'.length = so.length + 6) ?_ ?_)
    · unfold iOp
      refine (Yl.bind (k := 0) (l := 24) (P := fun d => d = .lst so) (Yl.of_eq rfl rfl) fun d hd => ?_)
      subst hd
      refine (Yl.bind (k := 24) (l := 0) (P := fun d => ∃ six : List D, d = .lst six ∧ (∀ d ∈ six, Thing d) ∧ six.length = 6) ?_ ?_)
      · unfold DL.iLst
        refine (Yl.bind (k := 24) (l := 0) (Yl.evs_cons (k := 0) (P := Thing) (Yl.of_eq rfl b1) (Yl.evs_cons (k := 24) (P := Thing) (by
            rw [call2 (a := .rnd) (b := encP p) rfl rfl]
            exact (bent_path h g1 g2 hp).mono (Nat.le_refl _) fun d hd => hd.mono (by decide) (by decide))
          (Yl.evs_cons (k := 0) (P := Thing) (Yl.of_eq (a := .tup ((p.map encS).take cutn)) (by rw [← cute]; rfl) b3) (Yl.evs_cons (k := 0) (P := Thing) (Yl.of_eq (a := .tup (p.map encS ++ [encS (false, z0)])) (op_ok (i := iVar 11) (a := .tup (p.map encS)) rfl (fst rfl) (fAdd_tup _ _ (by rw [List.length_singleton, sizeLine_eq]; omega))) b4)
          (Yl.evs_cons (k := 0) (P := Thing) (Yl.of_eq (a := .lst (p.map encS)) rfl b5) (Yl.evs_cons (k := 0) (P := Thing) (Yl.of_eq (a := .tup (p.map encS).reverse) rfl b6) Yl.evs_nil)))))) fun ds hd => ?_)
        obtain ⟨d1, _, rfl, p1, d2, _, rfl, p2, d3, _, rfl, p3, d4, _, rfl, p4, d5, _, rfl, p5, d6, _, rfl, p6, rfl⟩ := hd
        have e : ∀ ds : List D, ds.length = 6 → ((if ds.length ≤ sizeLine then M.ret (D.lst ds) else .stuck) : M D) = .ret (D.lst ds) := fun ds hl => if_pos (by rw [hl, sizeLine_eq]; decide)
        rw [e _ rfl]
        refine Yl.ret ⟨[d1, d2, d3, d4, d5, d6], rfl, fun d hd => ?_, rfl⟩
        simp only [List.mem_cons, List.not_mem_nil, or_false] at hd
        rcases hd with rfl | rfl | rfl | rfl | rfl | rfl <;> assumption
      · rintro d ⟨six, rfl, h6, l6⟩
        rw [fAdd_lst _ _ (by rw [l6, sizeLine_eq]; omega)]
        refine Yl.ret ⟨_, rfl, fun d hd => ?_, by rw [List.length_append, l6]⟩
        rcases List.mem_append.mp hd with hd | hd
        · exact hs d hd
        · exact h6 d hd
    · rintro d ⟨so', rfl, t1, t2⟩
      exact Yl.ret ⟨_, rfl, so', _, t1, t2, rfl⟩
/-- the things are asked, all pass -/
theorem things_ok {tn : D} (hr : RuleOk zs s q1 q2 h1 h2 os) {a10 a11 a14 : Option B} : ∀ (so0 so : List D), (∀ d ∈ so, Thing d) → ∀ a12 a13, ∃ a12' a13', loop (gN 12) thB so (envY sc (some (.fz tn)) zs (.tup (ruleD zs s q1 q2 b h1 h2 os)) (ruleI zs s q1 q2 b h1 h2 os) s sz (some (.fz (.lst ((namesL zs s).map D.str)))) so0 a10 a11 a12 a13 a14) =
      .ret (.nx (envY sc (some (.fz tn)) zs (.tup (ruleD zs s q1 q2 b h1 h2 os)) (ruleI zs s q1 q2 b h1 h2 os) s sz (some (.fz (.lst ((namesL zs s).map D.str)))) so0 a10 a11 a12' a13' a14))
  | so0, [], _, a12, a13 => ⟨a12, a13, rfl⟩
  | so0, d :: r, h, a12, a13 => by
    obtain ⟨du, e⟩ := thing_ok (sc := sc) (tn := tn) (b := b) (ev := evL zs s) (sz := sz) (kk := a10) (one := a11) (du := a13) (na := a14) (so := so0) hr (h d List.mem_cons_self) (by decide) (by decide)
    obtain ⟨x, y, e2⟩ := things_ok hr so0 r (fun x hx => h x (List.mem_cons_of_mem _ hx)) (some (.fz d)) du
    refine ⟨x, y, ?_⟩
    show ((thB _).bind _) = _
    rw [show thB (List.set (envY sc (some (.fz tn)) zs (.tup (ruleD zs s q1 q2 b h1 h2 os)) (ruleI zs s q1 q2 b h1 h2 os) s sz (some (.fz (.lst ((namesL zs s).map D.str)))) so0 a10 a11 a12 a13 a14) 12 (some (.fz d))) = _ from e]
    exact e2
end
end Lw
namespace Lw
open PySem PySem.Spec L2 DL
theorem r8 (Γ : DL.Env) : iiR1 (iLit (.int 8)) Γ = .ret (rngD 0 8) := rng_eq (n := 8) (by decide) rfl
theorem pA {sc tn : D} {a3 a4 a5 a6 a7 a8 a9 a10 a11 a12 a13 a14 : Option B} : Yl (DL.sSet 3 (iCall (m__law_many) [(iVar 1), (iLit (.int 4))]) [some (.fz sc), some (.fz .rnd), some (.fz tn), a3, a4, a5, a6, a7, a8, a9, a10, a11, a12, a13, a14]) 12 fun fl => ∃ Γ', fl = .nx Γ' ∧ ∃ zs, NamesOk zs ∧ Γ' = [some (.fz sc), some (.fz .rnd), some (.fz tn), some (.fz (.tup (zs.map D.str))), a4, a5, a6, a7, a8, a9, a10, a11, a12, a13, a14] := by
  unfold DL.sSet
  refine (Yl.bind (k := 12) (l := 0) (P := NamesT) (by rw [call2 (a := .rnd) (b := .int 4) rfl rfl]; exact law_many) fun d hd => ?_)
  obtain ⟨zs, rfl, hz⟩ := hd
  exact Yl.ret ⟨_, rfl, zs, hz, rfl⟩
theorem pB {sc tn : D} {zs : List Str} (hz : NamesOk zs) {a4 a5 a6 a7 a8 a9 a10 a11 a12 a13 a14 : Option B} : Yl (DL.sSet 4 (iCall (m__law_rule) [(iVar 1), (iVar 3)]) [some (.fz sc), some (.fz .rnd), some (.fz tn), some (.fz (.tup (zs.map D.str))), a4, a5, a6, a7, a8, a9, a10, a11, a12, a13, a14]) 8 fun fl => ∃ Γ', fl = .nx Γ' ∧ ∃ s q1 q2 b h1 h2 os, RuleOk zs s q1 q2 h1 h2 os ∧ Γ' = [some (.fz sc), some (.fz .rnd), some (.fz tn), some (.fz (.tup (zs.map D.str))), some (.fz (.tup (ruleD zs s q1 q2 b h1 h2 os))), a5, a6, a7, a8, a9, a10, a11, a12, a13, a14] := by
  unfold DL.sSet
  refine (Yl.bind (k := 8) (l := 0) (P := fun d => RuleT d zs) (by rw [call2 (a := .rnd) (b := .tup (zs.map D.str)) rfl rfl]; exact law_rule hz) fun d hd => ?_)
  obtain ⟨s, q1, q2, b, h1, h2, os, rfl, hr⟩ := hd
  exact Yl.ret ⟨_, rfl, s, q1, q2, b, h1, h2, os, hr, rfl⟩
theorem pC {sc tn : D} {zs os : List Str} {s q1 q2 h1 h2 : Nat} {b : Bool} {sz nm : Option B} {F Rr : D} {a10 a11 a12 a13 a14 : Option B} (hz : NamesOk zs) (g1 : 1 ≤ s) (g2 : s < zs.length) {so : List D} (t1 : ∀ d ∈ so, Thing d) (t2 : so.length ≤ 7) :
    Yl (DL.sFor (gN 10) (iiR1 (iLit (.int 8))) tIb (envY (some (.fz sc)) (some (.fz tn)) zs F Rr s sz nm so a10 a11 a12 a13 a14)) 200 fun fl => ∃ Γ', fl = .nx Γ' ∧ ∃ so b10 b11, (∀ d ∈ so, Thing d) ∧ Γ' = envY (some (.fz sc)) (some (.fz tn)) zs F Rr s sz nm so b10 b11 a12 a13 a14 := by
  refine (Yl.for_ (l := 0) (k := 25) (kk := 8) (fun j Γ => ∃ so b10 b11, (∀ d ∈ so, Thing d) ∧ so.length ≤ 7 + 6 * j ∧ Γ = envY (some (.fz sc)) (some (.fz tn)) zs F Rr s sz nm so b10 b11 a12 a13 a14)
        (Yl.of_eq (r8 _) ⟨8, rfl, Nat.le_refl 8⟩) ⟨so, a10, a11, t1, by omega, rfl⟩ ?_).mono (Nat.le_of_eq rfl) ?_
  · rintro j Γ hj ⟨so, b10, b11, u1, u2, rfl⟩
    show Yl (tIb (envY (some (.fz sc)) (some (.fz tn)) zs F Rr s sz nm so (some (.fz (.int (j : Nat)))) b11 a12 a13 a14)) 25 _
    refine (tIb_ok hz g1 g2 u1 (by omega)).mono (Nat.le_refl _) ?_
    rintro fl ⟨Γ', e, so', c11, v1, v2, rfl⟩
    exact ⟨_, e, so', _, c11, v1, by omega, rfl⟩
  · rintro fl ⟨Γ', e, n, _, so, b10, b11, u1, _, e2⟩
    exact ⟨Γ', e, so, b10, b11, u1, e2⟩

def turnB : IS := (DL.sSeq (DL.sSet 3 (iCall (m__law_many) [(iVar 1), (iLit (.int 4))]))
  (DL.sSeq (DL.sSet 4 (iCall (m__law_rule) [(iVar 1), (iVar 3)]))
  (DL.sSeq tC (DL.sSeq tD (DL.sSeq (DL.sIf tE (DL.sRet (iLit (.bl false))) DL.sPass) (DL.sSeq (DL.sIf tF (DL.sRet (iLit (.bl false))) DL.sPass)
  (DL.sSeq tG (DL.sSeq tH (DL.sSeq (DL.sFor (gN 10) (iiR1 (iLit (.int 8))) tIb) (DL.sFor (gN 12) (iiA (iVar 9)) thB))))))))))
/-- the frame between the turns -/
def Fr (sc : D) (Γ : DL.Env) : Prop := ∃ a2 a3 a4 a5 a6 a7 a8 a9 a10 a11 a12 a13 a14, Γ = [some (.fz sc), some (.fz .rnd), a2, a3, a4, a5, a6, a7, a8, a9, a10, a11, a12, a13, a14]
theorem pD {sc tn : D} {zs os : List Str} {s q1 q2 h1 h2 : Nat} {b : Bool} {sz : Option B} {b10 b11 a12 a13 a14 : Option B} (hr : RuleOk zs s q1 q2 h1 h2 os) {so : List D} (u1 : ∀ d ∈ so, Thing d) :
    Yl (DL.sFor (gN 12) (iiA (iVar 9)) thB (envY (some (.fz sc)) (some (.fz tn)) zs (.tup (ruleD zs s q1 q2 b h1 h2 os)) (ruleI zs s q1 q2 b h1 h2 os) s sz (some (.fz (.lst ((namesL zs s).map D.str)))) so b10 b11 a12 a13 a14)) 0 fun fl => ∃ Γ', fl = .nx Γ' ∧ Fr sc Γ' := by
  obtain ⟨x, y, e⟩ := things_ok (sc := some (.fz sc)) (tn := tn) (b := b) (sz := sz) (a10 := b10) (a11 := b11) (a14 := a14) hr so so u1 a12 a13
  have e2 : DL.sFor (gN 12) (iiA (iVar 9)) thB (envY (some (.fz sc)) (some (.fz tn)) zs (.tup (ruleD zs s q1 q2 b h1 h2 os)) (ruleI zs s q1 q2 b h1 h2 os) s sz (some (.fz (.lst ((namesL zs s).map D.str)))) so b10 b11 a12 a13 a14) = loop (gN 12) thB so (envY (some (.fz sc)) (some (.fz tn)) zs (.tup (ruleD zs s q1 q2 b h1 h2 os)) (ruleI zs s q1 q2 b h1 h2 os) s sz (some (.fz (.lst ((namesL zs s).map D.str)))) so b10 b11 a12 a13 a14) := rfl
  rw [e2, e]
  exact Yl.ret ⟨_, rfl, _, _, _, _, _, _, _, _, _, _, _, _, _, rfl⟩
end Lw
namespace Lw
open PySem PySem.Spec L2 DL
/-- Yl, closed -/
structure Yc {α : Type} (m : M α) (k : Nat) (P : α → Prop) : Prop where
  yl : Yl m k P
theorem Yc.nx {s t : IS} {Γ Γ' : DL.Env} {k : Nat} {P : Fl → Prop} (h : s Γ = .ret (.nx Γ')) (h2 : Yc (t Γ') k P) : Yc (DL.sSeq s t Γ) k P := by
  rw [seq_nx h]
  exact h2
theorem Yc.nxI {c : IT} {s t : IS} {Γ : DL.Env} {k : Nat} {P : Fl → Prop} (h : c Γ = .ret false) (h2 : Yc (t Γ) k P) : Yc (DL.sSeq (DL.sIf c s DL.sPass) t Γ) k P := Yc.nx (if_no h) h2
theorem Yc.then {s t : IS} {Γ : DL.Env} {k l n : Nat} {I : DL.Env → Prop} {P : Fl → Prop} (h : Yc (s Γ) k fun fl => ∃ Γ', fl = .nx Γ' ∧ I Γ') (e : k + l = n) (h2 : ∀ Γ', I Γ' → Yc (t Γ') l P) : Yc (DL.sSeq s t Γ) n P := ⟨e ▸ Yl.seq h.yl fun Γ' i => (h2 Γ' i).yl⟩
section
variable {sc tn : D} {zs os : List Str} {s q1 q2 h1 h2 : Nat} {b : Bool} {a3 a4 a5 a6 a7 a8 a9 a10 a11 a12 a13 a14 : Option B}
abbrev Out (sc : D) : Fl → Prop := fun fl => ∃ Γ', fl = .nx Γ' ∧ Fr sc Γ'
def w1 : IS := DL.sFor (gN 12) (iiA (iVar 9)) thB
def w2 : IS := DL.sSeq (DL.sFor (gN 10) (iiR1 (iLit (.int 8))) tIb) w1
def w3 : IS := DL.sSeq tG (DL.sSeq tH w2)
def w4 : IS := DL.sSeq (DL.sIf tE (DL.sRet (iLit (.bl false))) DL.sPass) (DL.sSeq (DL.sIf tF (DL.sRet (iLit (.bl false))) DL.sPass) w3)
def w5 : IS := DL.sSeq tC (DL.sSeq tD w4)
theorem e1 (hr : RuleOk zs s q1 q2 h1 h2 os) {sz : Option B} {so : List D} (u1 : ∀ d ∈ so, Thing d) :
    Yc (w1 (envY (some (.fz sc)) (some (.fz tn)) zs (.tup (ruleD zs s q1 q2 b h1 h2 os)) (ruleI zs s q1 q2 b h1 h2 os) s sz (some (.fz (.lst ((namesL zs s).map D.str)))) so a10 a11 a12 a13 a14)) 0 (Out sc) := ⟨pD hr u1⟩
theorem e2 (hr : RuleOk zs s q1 q2 h1 h2 os) {sz : Option B} {so : List D} (t1 : ∀ d ∈ so, Thing d) (t2 : so.length ≤ 7) :
    Yc (w2 (envY (some (.fz sc)) (some (.fz tn)) zs (.tup (ruleD zs s q1 q2 b h1 h2 os)) (ruleI zs s q1 q2 b h1 h2 os) s sz (some (.fz (.lst ((namesL zs s).map D.str)))) so a10 a11 a12 a13 a14)) 200 (Out sc) := by
  unfold w2
  refine Yc.then (l := 0) ⟨pC (os := os) (q1 := q1) (q2 := q2) (h1 := h1) (h2 := h2) (b := b) hr.names hr.s1 hr.s2 t1 t2⟩ rfl ?_
  rintro Γ ⟨so, b10, b11, u1, rfl⟩
  exact e1 hr u1
theorem e3 (hr : RuleOk zs s q1 q2 h1 h2 os) {sz : Option B} :
    Yc (w3 [some (.fz sc), some (.fz .rnd), some (.fz tn), some (.fz (.tup (zs.map D.str))), some (.fz (.tup (ruleD zs s q1 q2 b h1 h2 os))), some (.fz (ruleI zs s q1 q2 b h1 h2 os)), some (.fz (.lst (evL zs s))), sz, a8, a9, a10, a11, a12, a13, a14]) 201 (Out sc) := by
  unfold w3
  have p1 := tG_ok (sc := some (.fz sc)) (tn := some (.fz tn)) (s := s) (F := .tup (ruleD zs s q1 q2 b h1 h2 os)) (Rr := ruleI zs s q1 q2 b h1 h2 os) (sz := sz) (a8 := a8) (a9 := a9) (a10 := a10) (a11 := a11) (a12 := a12) (a13 := a13) (a14 := a14) hr.names
  refine Yc.nx p1 ?_
  refine Yc.then (k := 1) (l := 200) ⟨tH_ok hr.names⟩ rfl ?_
  rintro Γ ⟨so, t1, t2, rfl⟩
  exact e2 hr t1 t2
theorem e4 (hr : RuleOk zs s q1 q2 h1 h2 os) :
    Yc (w4 [some (.fz sc), some (.fz .rnd), some (.fz tn), some (.fz (.tup (zs.map D.str))), some (.fz (.tup (ruleD zs s q1 q2 b h1 h2 os))), some (.fz (ruleI zs s q1 q2 b h1 h2 os)), some (.fz (.lst (evL zs s))), some (.fz (.int ((cs 6 zs s).length : Nat))), a8, a9, a10, a11, a12, a13, a14]) 201 (Out sc) := by
  unfold w4
  have p1 := tE_ok (sc := some (.fz sc)) (tn := some (.fz tn)) (b := b) (F := .tup (ruleD zs s q1 q2 b h1 h2 os)) (a8 := a8) (a9 := a9) (a10 := a10) (a11 := a11) (a12 := a12) (a13 := a13) (a14 := a14) hr
  have p2 := tF_ok (sc := some (.fz sc)) (tn := some (.fz tn)) (b := b) (a8 := a8) (a9 := a9) (a10 := a10) (a11 := a11) (a12 := a12) (a13 := a13) (a14 := a14) (sz := some (.fz (.int ((cs 6 zs s).length : Nat)))) hr
  generalize hG : [some (.fz sc), some (.fz .rnd), some (.fz tn), some (.fz (.tup (zs.map D.str))), some (.fz (.tup (ruleD zs s q1 q2 b h1 h2 os))), some (.fz (ruleI zs s q1 q2 b h1 h2 os)), some (.fz (.lst (evL zs s))), some (.fz (.int ((cs 6 zs s).length : Nat))), a8, a9, a10, a11, a12, a13, a14] = G at *
  refine Yc.nxI p1 ?_
  refine Yc.nxI p2 ?_
  exact hG ▸ e3 hr
theorem e5 (hr : RuleOk zs s q1 q2 h1 h2 os) :
    Yc (w5 [some (.fz sc), some (.fz .rnd), some (.fz tn), some (.fz (.tup (zs.map D.str))), some (.fz (.tup (ruleD zs s q1 q2 b h1 h2 os))), a5, a6, a7, a8, a9, a10, a11, a12, a13, a14]) 201 (Out sc) := by
  unfold w5
  have p1 := tC_ok (sc := some (.fz sc)) (tn := some (.fz tn)) (b := b) (a5 := a5) (a6 := a6) (a7 := a7) (a8 := a8) (a9 := a9) (a10 := a10) (a11 := a11) (a12 := a12) (a13 := a13) (a14 := a14) hr
  have p2 := tD_ok (sc := some (.fz sc)) (tn := some (.fz tn)) (b := b) (R := ruleI zs s q1 q2 b h1 h2 os) (a7 := a7) (a8 := a8) (a9 := a9) (a10 := a10) (a11 := a11) (a12 := a12) (a13 := a13) (a14 := a14) hr
  have p3 := e4 (sc := sc) (tn := tn) (b := b) (a8 := a8) (a9 := a9) (a10 := a10) (a11 := a11) (a12 := a12) (a13 := a13) (a14 := a14) hr
  generalize hG : [some (.fz sc), some (.fz .rnd), some (.fz tn), some (.fz (.tup (zs.map D.str))), some (.fz (.tup (ruleD zs s q1 q2 b h1 h2 os))), a5, a6, a7, a8, a9, a10, a11, a12, a13, a14] = G at p1 ⊢
  generalize hG2 : [some (.fz sc), some (.fz .rnd), some (.fz tn), some (.fz (.tup (zs.map D.str))), some (.fz (.tup (ruleD zs s q1 q2 b h1 h2 os))), some (.fz (ruleI zs s q1 q2 b h1 h2 os)), some (.fz (.lst (evL zs s))), a7, a8, a9, a10, a11, a12, a13, a14] = G2 at p1 p2
  generalize hG3 : [some (.fz sc), some (.fz .rnd), some (.fz tn), some (.fz (.tup (zs.map D.str))), some (.fz (.tup (ruleD zs s q1 q2 b h1 h2 os))), some (.fz (ruleI zs s q1 q2 b h1 h2 os)), some (.fz (.lst (evL zs s))), some (.fz (.int ((cs 6 zs s).length : Nat))), a8, a9, a10, a11, a12, a13, a14] = G3 at p2 p3
  refine Yc.nx p1 ?_
  refine Yc.nx p2 ?_
  exact p3
end
def turnC : IS := DL.sSeq (DL.sSet 3 (iCall (m__law_many) [(iVar 1), (iLit (.int 4))])) (DL.sSeq (DL.sSet 4 (iCall (m__law_rule) [(iVar 1), (iVar 3)])) w5)
theorem turn_ok {sc tn : D} {a3 a4 a5 a6 a7 a8 a9 a10 a11 a12 a13 a14 : Option B} : Yc (turnC [some (.fz sc), some (.fz .rnd), some (.fz tn), a3, a4, a5, a6, a7, a8, a9, a10, a11, a12, a13, a14]) 221 (Out sc) := by
  unfold turnC
  refine Yc.then (k := 12) (l := 209) ⟨pA⟩ rfl ?_
  rintro Γ ⟨zs, hz, rfl⟩
  refine Yc.then (k := 8) (l := 201) ⟨pB hz⟩ rfl ?_
  rintro Γ ⟨s, q1, q2, b, h1, h2, os, hr, rfl⟩
  exact e5 hr
end Lw
namespace Lw
open PySem PySem.Spec L2 DL
theorem lim_big {n : Nat} (h : n ≤ 2 ^ 40) : n ≤ lim := by
  unfold lim
  exact Nat.le_trans h (Nat.pow_le_pow_right (by decide) (by decide))
theorem call0 {m : List D → M D} {Γ : DL.Env} {a : D} (h : iVar 0 Γ = .ret a) : iCall m [iVar 0] Γ = m [a] := call1 h
theorem Yl.at {α β : Type} {m : M α} {f : α → M β} {c B : Nat} {P : α → Prop} {v : β} (hB : B = lim) (h : Yl m c P) (hc : c ≤ B) (hf : ∀ a, P a → f a = .ret v) : (m.bind f).wpB B (fun d _ => d = v) (fun _ _ => False) := by
  refine (M.wpB_bind _ _).mpr (M.wpB_mono (fun a b ha => ?_) (fun _ _ x => x) _ _ (h B hc (Nat.le_of_eq hB)))
  rw [hf a ha.2.2]
  exact rfl
theorem gN_bind {α : Type} (n : Nat) (d : D) (Γ Γ' : DL.Env) (t : DL.Env → M α) (h : Γ.set n (some (.fz d)) = Γ') : (gN n d Γ).bind t = t Γ' := h ▸ rfl
/-- a law that begins, walks, and tells True -/
theorem law_shape {n kk c : Nat} {it : II} {t : IS} {ns : List Int} {G : DL.Env} (h1 : ns.length ≤ 63) (h2 : ∀ z ∈ ns, bitsOk z) (e0 : env0 n [D.scr ns] = some (.fz (.scr ns)) :: none :: G) (I : DL.Env → Prop)
    (hit : ∃ j, j ≤ kk ∧ it (some (.fz (.scr ns)) :: some (.fz .rnd) :: G) = .ret (rngD 0 j)) (h0 : I (some (.fz (.scr ns)) :: some (.fz .rnd) :: G)) (hs : ∀ d Γ, I Γ → Yc ((gN 2 d Γ).bind t) c fun fl => ∃ Γ', fl = .nx Γ' ∧ I Γ') (hc : c * kk ≤ 2 ^ 40) :
    (runFn n (DL.sSeq (DL.sSet 1 (iCall mBegun [iVar 0])) (DL.sSeq (DL.sFor (gN 2) it t) (DL.sRet (iLit (.bl true))))) [.scr ns]).wpB (lim + 1) (fun d _ => d = .bl true) (fun _ _ => False) := by
  unfold runFn
  refine (M.wpB_bind _ _).mpr ?_
  rw [e0]
  have e1 : mBegun [.scr ns] = .begun (.ret .rnd) := by
    unfold mBegun
    exact if_pos ⟨h1, h2⟩
  have e2 : DL.sSet 1 (iCall mBegun [iVar 0]) (some (.fz (.scr ns)) :: none :: G) = .begun (.ret (.nx (some (.fz (.scr ns)) :: some (.fz .rnd) :: G))) := by
    unfold DL.sSet
    rw [call0 (a := .scr ns) rfl, e1]
    rfl
  unfold DL.sSeq
  rw [e2]
  refine ⟨rfl, ?_⟩
  obtain ⟨j, hj, ej⟩ := hit
  have hl : (rngD 0 j).length = j := by unfold rngD; simp
  have hw : Yl (DL.sFor (gN 2) it t (some (.fz (.scr ns)) :: some (.fz .rnd) :: G)) (c * kk) fun fl => ∃ Γ', fl = .nx Γ' ∧ I Γ' := by
    unfold DL.sFor
    rw [ej, M.ret_bind]
    exact (Yl.loop (rngD 0 j) (fun _ => I) (fun _ d Γ _ hI => (hs d Γ hI).yl) h0).mono (by rw [hl]; exact Nat.mul_le_mul_left _ hj) fun _ x => x
  rw [M.ret_bind]
  refine (M.wpB_bind _ _).mp ?_
  simp only []
  rw [M.bind_assoc]
  refine Yl.at rfl hw (lim_big hc) ?_
  rintro fl ⟨Γ, rfl, _⟩
  rfl
theorem min2_ok {ns : List Int} {k : Nat} {Γ : DL.Env} (h : iVar 0 Γ = .ret (.scr ns)) : iBi fMin2 [(iBi fLen [(iVar 0)]), (iLit (.int k))] Γ = .ret (.int ((min ns.length k : Nat) : Int)) := by
  have e : iBi fLen [iVar 0] Γ = .ret (.int (ns.length : Nat)) := bi_ok h rfl
  have e2 : evs [(iBi fLen [(iVar 0)]), (iLit (.int k))] Γ = .ret [.int (ns.length : Nat), .int k] := by
    simp only [evs, e, iLit, M.ret_bind]
  have e3 : fMin2 [.int (ns.length : Nat), .int k] = some (.int ((min ns.length k : Nat) : Int)) := by
    unfold fMin2
    simp only
    congr 2
    split <;> omega
  unfold iBi at e2 ⊢
  rw [e2, M.ret_bind, e3]
/-- range(k + min(len(script), l)) -/
theorem walk_ok {ns : List Int} {k l : Nat} {Γ : DL.Env} (h : iVar 0 Γ = .ret (.scr ns)) (hk : k + l < 21) : ∃ j, j ≤ k + l ∧ iiR1 (iOp fAdd (iLit (.int k)) (iBi fMin2 [(iBi fLen [(iVar 0)]), (iLit (.int l))])) Γ = .ret (rngD 0 j) :=
  ⟨k + min ns.length l, by omega, rng_eq (by omega) (op_ok (a := .int k) (b := .int ((min ns.length l : Nat) : Int)) rfl (min2_ok h) (by rw [fAdd_int]; congr 2))⟩
theorem law_text : b_law = DL.sSeq (DL.sSet 1 (iCall (m__law_begun) [(iVar 0)])) (DL.sSeq (DL.sFor (gN 2) (iiR1 (iOp fAdd (iLit (.int (3 : Nat))) (iBi fMin2 [(iBi fLen [(iVar 0)]), (iLit (.int (8 : Nat)))]))) turnC) (DL.sRet (iLit (.bl true)))) := by
  unfold b_law turnC w5 w4 w3 w2 w1 tC tD tE tF tG tH tIb thB
  rfl
theorem law_m {ns : List Int} (h1 : ns.length ≤ 63) (h2 : ∀ z ∈ ns, bitsOk z) : (m_law [.scr ns]).wpB (lim + 1) (fun d _ => d = .bl true) (fun _ _ => False) := by
  unfold m_law
  rw [law_text]
  refine law_shape (kk := 11) (c := 221) (G := [none, none, none, none, none, none, none, none, none, none, none, none, none]) h1 h2 rfl (Fr (.scr ns)) (walk_ok (k := 3) (l := 8) rfl (by decide)) ⟨_, _, _, _, _, _, _, _, _, _, _, _, _, rfl⟩ ?_ (by decide)
  rintro d Γ ⟨a2, a3, a4, a5, a6, a7, a8, a9, a10, a11, a12, a13, a14, rfl⟩
  rw [gN_bind (h := rfl)]
  exact turn_ok
end Lw
namespace Lw
open PySem PySem.Spec L2 DL DLH
def clsName : Nat → Str
  | 1 => "BadNames"
  | 2 => "BadRule"
  | 3 => "BadCourse"
  | 4 => "Rule"
  | _ => "BadNames"
def clsFld : Nat → List Str
  | 1 => ["value"]
  | 2 => ["place"]
  | 3 => ["value"]
  | 4 => fields4
  | _ => []
def Lk (K : PySem.W.Frag) : Lx := ⟨K, [], fun n => He.ga K (clsName n), clsFld, none, none⟩
def initOf (i : Nat) : Stmt := match topS i with
  | .ClassDef (body := body) .. => (body.find? fun s => match s with
    | .FunctionDef .. => true
    | _ => false).getD (.Pass ⟨0, 0, 0, 0⟩)
  | _ => .Pass ⟨0, 0, 0, 0⟩
def dOf (x : Str) (st : Stmt) : He.DefD := ⟨(x, none), x, x, defArgs st, defBody st, defScope st, [], []⟩
def dMe (C m q : Str) (st : Stmt) : He.DefD := ⟨(C, some m), m, q, defArgs st, defBody st, defScope st, [], []⟩
def fn : List He.DefD := [dOf "_law_begun" (topS 33), dOf "_law_next" (topS 34), dOf "_law_names" (topS 35), dOf "_law_many" (topS 38), dOf "_law_order" (topS 41), dOf "_law_rule" (topS 42), dOf "_is_word" (topS 19), dOf "is_ascending" (topS 11), dOf "are_names" (topS 17), dOf "need_names" (topS 16), dOf "is_integer" (topS 7), dOf "is_within" (topS 8), dOf "is_pair" (topS 9), dOf "is_integer_pair" (topS 10), dOf "is_paper" (topS 18), dOf "is_field" (topS 24), dMe "Rule" "__init__" "Rule.__init__" (clsS 23 0), dOf "_law_made" (topS 49), dOf "_law_courses" (topS 48), dOf "has_ended" (topS 28), dOf "without_name" (topS 29), dOf "_courses_from" (topS 30), dOf "all_courses" (topS 25), dOf "_is_step" (topS 31), dOf "is_course" (topS 26), dOf "winners_of" (topS 27), dOf "_law_winners" (topS 46), dOf "_law_odd" (topS 36), dOf "_law_bent" (topS 37), dOf "_law_told" (topS 50), dOf "law" (topS 51), dMe "BadNames" "__init__" "BadNames.__init__" (initOf 3), dMe "BadRule" "__init__" "BadRule.__init__" (initOf 4), dMe "BadCourse" "__init__" "BadCourse.__init__" (initOf 5)]
def fa : List He.Fa := [.glo "_law_begun", .glo "_law_next", .glo "_law_names", .glo "_law_many", .glo "_law_order", .glo "_law_rule", .glo "_is_word", .glo "is_ascending", .glo "are_names", .glo "need_names", .glo "is_integer", .glo "is_within", .glo "is_pair", .glo "is_integer_pair", .glo "is_paper", .glo "is_field", .glo "_law_made", .glo "_law_courses", .glo "has_ended", .glo "without_name", .glo "_courses_from", .glo "all_courses", .glo "_is_step", .glo "is_course", .glo "winners_of", .glo "_law_winners", .glo "_law_odd", .glo "_law_bent", .glo "_law_told", .glo "law", .free "all", .free "bool", .free "int", .free "isinstance", .free "len", .free "list", .free "min", .free "range", .free "repr", .free "set"] ++ [.free "sorted", .free "str", .free "tuple", .free "zip", .int "MOST_NAMES" 4, .int "_FEWEST_NAMES" 2, .int "_MOST_LETTERS" 8, .int "_MOST_PARTS" 100, .glo "FIELDS", .glo "BadNames", .glo "BadRule", .glo "BadCourse", .glo "Rule", .cls "Rule", .mkr "Rule", .noat "Rule" "names", .noat "Rule" "seats", .noat "Rule" "quota", .noat "Rule" "over", .noat "Rule" "hand", .noat "Rule" "order", .exm "BadNames" "BadNames" true, .exm "BadNames" "BadRule" false, .exm "BadNames" "BadCourse" false, .exm "BadRule" "BadNames" false, .exm "BadRule" "BadRule" true, .exm "BadRule" "BadCourse" false, .exm "BadCourse" "BadNames" false, .exm "BadCourse" "BadRule" false, .exm "BadCourse" "BadCourse" true]
/-- what isinstance asks of an own class -/
def insB (K : PySem.W.Frag) (C : Addr) : Bool :=
  He.eqO (PySem.W.findIn K (.ref C) "__class__") (some (some (.builtin "object.__class__"))) && (He.eqO (PySem.W.specialIn K (.builtin "object.__class__") "__get__") (some (some (.builtin "getset_descriptor.__get__"))) &&
  (decide (PySem.W.takesIn K (.builtin "object.__class__") = some true) && decide (PySem.W.mroIn K C (.type "object") = some true)))
theorem insB_ok {K : PySem.W.Frag} {C : Addr} (c : Cls K C) (h : insB K C = true) : InsC K C := by
  obtain ⟨h1, h⟩ := He.ba h
  obtain ⟨h2, h⟩ := He.ba h
  obtain ⟨h3, h4⟩ := He.ba h
  exact ⟨c, He.eqO_ok h1, He.eqO_ok h2, of_decide_eq_true h3, of_decide_eq_true h4⟩
def xb (K : PySem.W.Frag) : Bool := exB K (He.ga K "BadNames") "value" [.type "ValueError", .type "Exception", .type "BaseException", .type "object"] "ValueError.__new__" && (exB K (He.ga K "BadRule") "place" [.type "ValueError", .type "Exception", .type "BaseException", .type "object"] "ValueError.__new__" && (exB K (He.ga K "BadCourse") "value" [.type "ValueError", .type "Exception", .type "BaseException", .type "object"] "ValueError.__new__" && (gtB K (He.ga K "FIELDS") ["seats", "quota", "over", "hand", "order"] && (insB K (He.ga K "Rule") && ((tabB.all fun e => decide (PySem.W.kitOne K (.type e.1) ((Lk K).tv e.2.1) = some e.2.2)) && ((tabI.all fun e => decide (PySem.W.kitOne K (.ref ((Lk K).cA e.1)) ((Lk K).tv e.2.1) = some e.2.2))))))))
abbrev R : PySem.W.OpenRow := PySem.W.OpenLaw.row PySem.Challenge.rw_handedvotes_k05_whole_courses
abbrev hk : PySem.W.Hook := hookX 5 xb fa fn
def ob (s : PySem.W.SharedT) : AlX := obsX 5 xb fa fn (HandSHeadRun.getT s)
theorem ob_eq (s : PySem.W.SharedT) : ob s = hk.obs s.abs := obsX_eq (HandSHeadRun.getT_eq s)
def loose : List PySem.Str := [("_wall" : PySem.Str), ("VoteError" : PySem.Str), ("BadNames" : PySem.Str), ("BadRule" : PySem.Str), ("BadCourse" : PySem.Str), ("is_integer" : PySem.Str), ("is_within" : PySem.Str), ("is_pair" : PySem.Str), ("is_integer_pair" : PySem.Str), ("is_ascending" : PySem.Str), ("MOST_NAMES" : PySem.Str), ("_FEWEST_NAMES" : PySem.Str), ("_MOST_LETTERS" : PySem.Str), ("need_names" : PySem.Str), ("are_names" : PySem.Str), ("is_paper" : PySem.Str), ("_is_word" : PySem.Str), ("FIELDS" : PySem.Str), ("_MOST_PARTS" : PySem.Str), ("Rule" : PySem.Str), ("is_field" : PySem.Str), ("all_courses" : PySem.Str), ("is_course" : PySem.Str), ("winners_of" : PySem.Str), ("has_ended" : PySem.Str), ("without_name" : PySem.Str), ("_courses_from" : PySem.Str), ("_is_step" : PySem.Str), ("_law_begun" : PySem.Str), ("_law_next" : PySem.Str), ("_law_names" : PySem.Str), ("_law_odd" : PySem.Str), ("_law_bent" : PySem.Str), ("_law_many" : PySem.Str), ("_law_kinds" : PySem.Str), ("_law_some_kinds" : PySem.Str), ("_law_order" : PySem.Str), ("_law_rule" : PySem.Str), ("_law_units" : PySem.Str), ("_law_first" : PySem.Str)] ++ [("_law_stages" : PySem.Str), ("_law_winners" : PySem.Str), ("_law_course" : PySem.Str), ("_law_courses" : PySem.Str), ("_law_made" : PySem.Str), ("_law_told" : PySem.Str)]
theorem run (w : World) : HandSHeadRun.RunEq R (PySem.W.view R.prog [51]) hk ob 20000 loose w := by
  intro os
  kernel_rfl
end Lw
namespace Lw
open PySem PySem.Spec L2 DL DLH
theorem facts {K : PySem.W.Frag} {h : Heap} {mg : Str → Option Value} (X : K.In h) (G : h.Ns mainGlobals mg) (hb : xb K = true) (c : He.SaysD fa fn K) :
    ∃ (f : Nat → Addr) (fd : Nat → FuncData) (fI : Nat → Addr), Md (Lk K) mg f fd fI ∧ f 30 = He.ga K "law" ∧ ∀ (s : Shared) (u : Value), BindsTo s (fd 30) ⟨[u], []⟩ [("script", u)] := by
  unfold xb at hb
  obtain ⟨e0, hb⟩ := He.ba hb
  obtain ⟨e1, hb⟩ := He.ba hb
  obtain ⟨e2, hb⟩ := He.ba hb
  obtain ⟨e3, hb⟩ := He.ba hb
  obtain ⟨e4, hb⟩ := He.ba hb
  obtain ⟨e5, hb⟩ := He.ba hb
  obtain ⟨fd0, F0⟩ := c.def_ 0 (d := dOf "_law_begun" (topS 33)) rfl
  obtain ⟨fd1, F1⟩ := c.def_ 1 (d := dOf "_law_next" (topS 34)) rfl
  obtain ⟨fd2, F2⟩ := c.def_ 2 (d := dOf "_law_names" (topS 35)) rfl
  obtain ⟨fd3, F3⟩ := c.def_ 3 (d := dOf "_law_many" (topS 38)) rfl
  obtain ⟨fd4, F4⟩ := c.def_ 4 (d := dOf "_law_order" (topS 41)) rfl
  obtain ⟨fd5, F5⟩ := c.def_ 5 (d := dOf "_law_rule" (topS 42)) rfl
  obtain ⟨fd6, F6⟩ := c.def_ 6 (d := dOf "_is_word" (topS 19)) rfl
  obtain ⟨fd7, F7⟩ := c.def_ 7 (d := dOf "is_ascending" (topS 11)) rfl
  obtain ⟨fd8, F8⟩ := c.def_ 8 (d := dOf "are_names" (topS 17)) rfl
  obtain ⟨fd9, F9⟩ := c.def_ 9 (d := dOf "need_names" (topS 16)) rfl
  obtain ⟨fd10, F10⟩ := c.def_ 10 (d := dOf "is_integer" (topS 7)) rfl
  obtain ⟨fd11, F11⟩ := c.def_ 11 (d := dOf "is_within" (topS 8)) rfl
  obtain ⟨fd12, F12⟩ := c.def_ 12 (d := dOf "is_pair" (topS 9)) rfl
  obtain ⟨fd13, F13⟩ := c.def_ 13 (d := dOf "is_integer_pair" (topS 10)) rfl
  obtain ⟨fd14, F14⟩ := c.def_ 14 (d := dOf "is_paper" (topS 18)) rfl
  obtain ⟨fd15, F15⟩ := c.def_ 15 (d := dOf "is_field" (topS 24)) rfl
  obtain ⟨fd16, F16⟩ := c.def_ 16 (d := dMe "Rule" "__init__" "Rule.__init__" (clsS 23 0)) rfl
  obtain ⟨fd17, F17⟩ := c.def_ 17 (d := dOf "_law_made" (topS 49)) rfl
  obtain ⟨fd18, F18⟩ := c.def_ 18 (d := dOf "_law_courses" (topS 48)) rfl
  obtain ⟨fd19, F19⟩ := c.def_ 19 (d := dOf "has_ended" (topS 28)) rfl
  obtain ⟨fd20, F20⟩ := c.def_ 20 (d := dOf "without_name" (topS 29)) rfl
  obtain ⟨fd21, F21⟩ := c.def_ 21 (d := dOf "_courses_from" (topS 30)) rfl
  obtain ⟨fd22, F22⟩ := c.def_ 22 (d := dOf "all_courses" (topS 25)) rfl
  obtain ⟨fd23, F23⟩ := c.def_ 23 (d := dOf "_is_step" (topS 31)) rfl
  obtain ⟨fd24, F24⟩ := c.def_ 24 (d := dOf "is_course" (topS 26)) rfl
  obtain ⟨fd25, F25⟩ := c.def_ 25 (d := dOf "winners_of" (topS 27)) rfl
  obtain ⟨fd26, F26⟩ := c.def_ 26 (d := dOf "_law_winners" (topS 46)) rfl
  obtain ⟨fd27, F27⟩ := c.def_ 27 (d := dOf "_law_odd" (topS 36)) rfl
  obtain ⟨fd28, F28⟩ := c.def_ 28 (d := dOf "_law_bent" (topS 37)) rfl
  obtain ⟨fd29, F29⟩ := c.def_ 29 (d := dOf "_law_told" (topS 50)) rfl
  obtain ⟨fd30, F30⟩ := c.def_ 30 (d := dOf "law" (topS 51)) rfl
  obtain ⟨fd31, F31⟩ := c.def_ 31 (d := dMe "BadNames" "__init__" "BadNames.__init__" (initOf 3)) rfl
  obtain ⟨fd32, F32⟩ := c.def_ 32 (d := dMe "BadRule" "__init__" "BadRule.__init__" (initOf 4)) rfl
  obtain ⟨fd33, F33⟩ := c.def_ 33 (d := dMe "BadCourse" "__init__" "BadCourse.__init__" (initOf 5)) rfl
  refine ⟨fun i => match i with | 0 => He.ga K "_law_begun" | 1 => He.ga K "_law_next" | 2 => He.ga K "_law_names" | 3 => He.ga K "_law_many" | 4 => He.ga K "_law_order" | 5 => He.ga K "_law_rule" | 6 => He.ga K "_is_word" | 7 => He.ga K "is_ascending" | 8 => He.ga K "are_names" | 9 => He.ga K "need_names" | 10 => He.ga K "is_integer" | 11 => He.ga K "is_within" | 12 => He.ga K "is_pair" | 13 => He.ga K "is_integer_pair" | 14 => He.ga K "is_paper" | 15 => He.ga K "is_field" | 16 => He.ma K (He.ga K "Rule") "__init__" | 17 => He.ga K "_law_made" | 18 => He.ga K "_law_courses" | 19 => He.ga K "has_ended" | 20 => He.ga K "without_name" | 21 => He.ga K "_courses_from" | 22 => He.ga K "all_courses" | 23 => He.ga K "_is_step" | 24 => He.ga K "is_course" | 25 => He.ga K "winners_of" | 26 => He.ga K "_law_winners" | 27 => He.ga K "_law_odd" | 28 => He.ga K "_law_bent" | 29 => He.ga K "_law_told" | 30 => He.ga K "law" | _ => 0, fun i => match i with | 0 => fd0 | 1 => fd1 | 2 => fd2 | 3 => fd3 | 4 => fd4 | 5 => fd5 | 6 => fd6 | 7 => fd7 | 8 => fd8 | 9 => fd9 | 10 => fd10 | 11 => fd11 | 12 => fd12 | 13 => fd13 | 14 => fd14 | 15 => fd15 | 16 => fd16 | 17 => fd17 | 18 => fd18 | 19 => fd19 | 20 => fd20 | 21 => fd21 | 22 => fd22 | 23 => fd23 | 24 => fd24 | 25 => fd25 | 26 => fd26 | 27 => fd27 | 28 => fd28 | 29 => fd29 | 30 => fd30 | _ => fd0, fun n => He.ma K (He.ga K (clsName n)) "__init__", ?_, rfl, ?_⟩
  · refine {
      F__law_begun := fun_of F0
      g__law_begun := He.glo_ok X G (c.fact 0 rfl)
      k__law_begun := F0.kp
      b__law_begun := F0.bindsN fun _ _ _ _ _ _ us hl => match us, hl with | [_], _ => rfl
      F__law_next := fun_of F1
      g__law_next := He.glo_ok X G (c.fact 1 rfl)
      k__law_next := F1.kp
      b__law_next := F1.bindsN fun _ _ _ _ _ _ us hl => match us, hl with | [_, _], _ => rfl
      F__law_names := fun_of F2
      g__law_names := He.glo_ok X G (c.fact 2 rfl)
      k__law_names := F2.kp
      b__law_names := F2.bindsN fun _ _ _ _ _ _ us hl => match us, hl with | [_, _], _ => rfl
      F__law_many := fun_of F3
      g__law_many := He.glo_ok X G (c.fact 3 rfl)
      k__law_many := F3.kp
      b__law_many := F3.bindsN fun _ _ _ _ _ _ us hl => match us, hl with | [_, _], _ => rfl
      F__law_order := fun_of F4
      g__law_order := He.glo_ok X G (c.fact 4 rfl)
      k__law_order := F4.kp
      b__law_order := F4.bindsN fun _ _ _ _ _ _ us hl => match us, hl with | [_, _], _ => rfl
      F__law_rule := fun_of F5
      g__law_rule := He.glo_ok X G (c.fact 5 rfl)
      k__law_rule := F5.kp
      b__law_rule := F5.bindsN fun _ _ _ _ _ _ us hl => match us, hl with | [_, _], _ => rfl
      F__is_word := fun_of F6
      g__is_word := He.glo_ok X G (c.fact 6 rfl)
      k__is_word := F6.kp
      b__is_word := F6.bindsN fun _ _ _ _ _ _ us hl => match us, hl with | [_], _ => rfl
      F_is_ascending := fun_of F7
      g_is_ascending := He.glo_ok X G (c.fact 7 rfl)
      k_is_ascending := F7.kp
      b_is_ascending := F7.bindsN fun _ _ _ _ _ _ us hl => match us, hl with | [_], _ => rfl
      F_are_names := fun_of F8
      g_are_names := He.glo_ok X G (c.fact 8 rfl)
      k_are_names := F8.kp
      b_are_names := F8.bindsN fun _ _ _ _ _ _ us hl => match us, hl with | [_], _ => rfl
      F_need_names := fun_of F9
      g_need_names := He.glo_ok X G (c.fact 9 rfl)
      k_need_names := F9.kp
      b_need_names := F9.bindsN fun _ _ _ _ _ _ us hl => match us, hl with | [_], _ => rfl
      F_is_integer := fun_of F10
      g_is_integer := He.glo_ok X G (c.fact 10 rfl)
      k_is_integer := F10.kp
      b_is_integer := F10.bindsN fun _ _ _ _ _ _ us hl => match us, hl with | [_], _ => rfl
      F_is_within := fun_of F11
      g_is_within := He.glo_ok X G (c.fact 11 rfl)
      k_is_within := F11.kp
      b_is_within := F11.bindsN fun _ _ _ _ _ _ us hl => match us, hl with | [_, _, _], _ => rfl
      F_is_pair := fun_of F12
      g_is_pair := He.glo_ok X G (c.fact 12 rfl)
      k_is_pair := F12.kp
      b_is_pair := F12.bindsN fun _ _ _ _ _ _ us hl => match us, hl with | [_], _ => rfl
      F_is_integer_pair := fun_of F13
      g_is_integer_pair := He.glo_ok X G (c.fact 13 rfl)
      k_is_integer_pair := F13.kp
      b_is_integer_pair := F13.bindsN fun _ _ _ _ _ _ us hl => match us, hl with | [_], _ => rfl
      F_is_paper := fun_of F14
      g_is_paper := He.glo_ok X G (c.fact 14 rfl)
      k_is_paper := F14.kp
      b_is_paper := F14.bindsN fun _ _ _ _ _ _ us hl => match us, hl with | [_, _], _ => rfl
      F_is_field := fun_of F15
      g_is_field := He.glo_ok X G (c.fact 15 rfl)
      k_is_field := F15.kp
      b_is_field := F15.bindsN fun _ _ _ _ _ _ us hl => match us, hl with | [_, _, _], _ => rfl
      F_Rule___init__ := fun_of F16
      b_Rule___init__ := F16.bindsN fun _ _ _ _ _ _ us hl => match us, hl with | [_, _, _, _, _, _, _], _ => rfl
      F__law_made := fun_of F17
      g__law_made := He.glo_ok X G (c.fact 16 rfl)
      k__law_made := F17.kp
      b__law_made := F17.bindsN fun _ _ _ _ _ _ us hl => match us, hl with | [_], _ => rfl
      F__law_courses := fun_of F18
      g__law_courses := He.glo_ok X G (c.fact 17 rfl)
      k__law_courses := F18.kp
      b__law_courses := F18.bindsN fun _ _ _ _ _ _ us hl => match us, hl with | [_, _], _ => rfl
      F_has_ended := fun_of F19
      g_has_ended := He.glo_ok X G (c.fact 18 rfl)
      k_has_ended := F19.kp
      b_has_ended := F19.bindsN fun _ _ _ _ _ _ us hl => match us, hl with | [_, _], _ => rfl
      F_without_name := fun_of F20
      g_without_name := He.glo_ok X G (c.fact 19 rfl)
      k_without_name := F20.kp
      b_without_name := F20.bindsN fun _ _ _ _ _ _ us hl => match us, hl with | [_, _], _ => rfl
      F__courses_from := fun_of F21
      g__courses_from := He.glo_ok X G (c.fact 20 rfl)
      k__courses_from := F21.kp
      b__courses_from := F21.bindsN fun _ _ _ _ _ _ us hl => match us, hl with | [_, _], _ => rfl
      F_all_courses := fun_of F22
      g_all_courses := He.glo_ok X G (c.fact 21 rfl)
      k_all_courses := F22.kp
      b_all_courses := F22.bindsN fun _ _ _ _ _ _ us hl => match us, hl with | [_], _ => rfl
      F__is_step := fun_of F23
      g__is_step := He.glo_ok X G (c.fact 22 rfl)
      k__is_step := F23.kp
      b__is_step := F23.bindsN fun _ _ _ _ _ _ us hl => match us, hl with | [_, _], _ => rfl
      F_is_course := fun_of F24
      g_is_course := He.glo_ok X G (c.fact 23 rfl)
      k_is_course := F24.kp
      b_is_course := F24.bindsN fun _ _ _ _ _ _ us hl => match us, hl with | [_, _], _ => rfl
      F_winners_of := fun_of F25
      g_winners_of := He.glo_ok X G (c.fact 24 rfl)
      k_winners_of := F25.kp
      b_winners_of := F25.bindsN fun _ _ _ _ _ _ us hl => match us, hl with | [_, _], _ => rfl
      F__law_winners := fun_of F26
      g__law_winners := He.glo_ok X G (c.fact 25 rfl)
      k__law_winners := F26.kp
      b__law_winners := F26.bindsN fun _ _ _ _ _ _ us hl => match us, hl with | [_, _], _ => rfl
      F__law_odd := fun_of F27
      g__law_odd := He.glo_ok X G (c.fact 26 rfl)
      k__law_odd := F27.kp
      b__law_odd := F27.bindsN fun _ _ _ _ _ _ us hl => match us, hl with | [_], _ => rfl
      F__law_bent := fun_of F28
      g__law_bent := He.glo_ok X G (c.fact 27 rfl)
      k__law_bent := F28.kp
      b__law_bent := F28.bindsN fun _ _ _ _ _ _ us hl => match us, hl with | [_, _], _ => rfl
      F__law_told := fun_of F29
      g__law_told := He.glo_ok X G (c.fact 28 rfl)
      k__law_told := F29.kp
      b__law_told := F29.bindsN fun _ _ _ _ _ _ us hl => match us, hl with | [_, _], _ => rfl
      F_law := fun_of F30
      b_law := F30.bindsN fun _ _ _ _ _ _ us hl => match us, hl with | [_], _ => rfl
      n_all := He.free_ok X G (c.fact 30 rfl)
      n_bool := He.free_ok X G (c.fact 31 rfl)
      n_int := He.free_ok X G (c.fact 32 rfl)
      n_isinstance := He.free_ok X G (c.fact 33 rfl)
      n_len := He.free_ok X G (c.fact 34 rfl)
      n_list := He.free_ok X G (c.fact 35 rfl)
      n_min := He.free_ok X G (c.fact 36 rfl)
      n_range := He.free_ok X G (c.fact 37 rfl)
      n_repr := He.free_ok X G (c.fact 38 rfl)
      n_set := He.free_ok X G (c.fact 39 rfl)
      n_sorted := He.free_ok X G (c.fact 40 rfl)
      n_str := He.free_ok X G (c.fact 41 rfl)
      n_tuple := He.free_ok X G (c.fact 42 rfl)
      n_zip := He.free_ok X G (c.fact 43 rfl)
      i_MOST_NAMES := He.int_ok X G (c.fact 44 rfl)
      i__FEWEST_NAMES := He.int_ok X G (c.fact 45 rfl)
      i__MOST_LETTERS := He.int_ok X G (c.fact 46 rfl)
      i__MOST_PARTS := He.int_ok X G (c.fact 47 rfl)
      t_FIELDS := gtB_ok e3 (He.glo_ok X G (c.fact 48 rfl))
      c1 := He.glo_ok X G (c.fact 49 rfl)
      h1 := rfl
      x1 := exB_ok (bm := [.type "ValueError", .type "Exception", .type "BaseException", .type "object"]) PySem.F.excBase_ValueError PySem.F.store_ValueError e0 (.inl rfl) (by decide +kernel) F31
      c2 := He.glo_ok X G (c.fact 50 rfl)
      h2 := rfl
      x2 := exB_ok (bm := [.type "ValueError", .type "Exception", .type "BaseException", .type "object"]) PySem.F.excBase_ValueError PySem.F.store_ValueError e1 (.inr (.inl rfl)) (by decide +kernel) F32
      c3 := He.glo_ok X G (c.fact 51 rfl)
      h3 := rfl
      x3 := exB_ok (bm := [.type "ValueError", .type "Exception", .type "BaseException", .type "object"]) PySem.F.excBase_ValueError PySem.F.store_ValueError e2 (.inl rfl) (by decide +kernel) F33
      c4 := He.glo_ok X G (c.fact 52 rfl)
      h4 := rfl
      cl4 := He.cls_ok (c.fact 53 (f := .cls "Rule") rfl)
      na4 := fun x hx => by
        unfold fields4 at hx
        simp only [List.mem_cons, List.not_mem_nil, or_false] at hx
        rcases hx with rfl | rfl | rfl | rfl | rfl | rfl
        · exact He.noat_ok (c.fact 55 (f := .noat "Rule" "names") rfl)
        · exact He.noat_ok (c.fact 56 (f := .noat "Rule" "seats") rfl)
        · exact He.noat_ok (c.fact 57 (f := .noat "Rule" "quota") rfl)
        · exact He.noat_ok (c.fact 58 (f := .noat "Rule" "over") rfl)
        · exact He.noat_ok (c.fact 59 (f := .noat "Rule" "hand") rfl)
        · exact He.noat_ok (c.fact 60 (f := .noat "Rule" "order") rfl)
      mk4 := He.mkr_ok (c.fact 54 (f := .mkr "Rule") rfl)
      kc4 := (He.mkr_ok (c.fact 54 (f := .mkr "Rule") rfl)).kp
      f_names := fun n j hj => by
        unfold at_names at hj
        split at hj
        · rename_i e
          subst e
          cases hj
          exact ⟨(show (fields4 : List Str).Nodup by decide +kernel), rfl, He.cls_ok (c.fact 53 (f := .cls "Rule") rfl), He.noat_ok (c.fact 55 (f := .noat "Rule" "names") rfl)⟩
        cases hj
      f_seats := fun n j hj => by
        unfold at_seats at hj
        split at hj
        · rename_i e
          subst e
          cases hj
          exact ⟨(show (fields4 : List Str).Nodup by decide +kernel), rfl, He.cls_ok (c.fact 53 (f := .cls "Rule") rfl), He.noat_ok (c.fact 56 (f := .noat "Rule" "seats") rfl)⟩
        cases hj
      tab := ⟨fun e he => of_decide_eq_true (List.all_eq_true.mp e5 e he), fun e he => (by cases he), fun e he => ⟨?_, of_decide_eq_true (List.all_eq_true.mp hb e he)⟩⟩
      sb := ?_
      er := rfl }
    · have h : e.1 ∈ tabI.map (·.1) := List.mem_map.mpr ⟨e, he, rfl⟩
      have h2 : ∀ n ∈ tabI.map (·.1), InsC K ((Lk K).cA n) := by
        have hd : ∀ n ∈ tabI.map (·.1), n = 4 := by decide
        intro n hn
        rcases hd n hn with rfl
        · exact insB_ok (He.cls_ok (c.fact 53 (f := .cls "Rule") rfl)) e4
      exact h2 _ h
    · intro e he
      unfold subT at he
      simp only [List.mem_cons, List.not_mem_nil, or_false] at he
      rcases he with rfl | rfl | rfl | rfl | rfl | rfl | rfl | rfl | rfl
      · exact He.exm_ok (c.fact 61 (f := .exm "BadNames" "BadNames" true) rfl)
      · exact He.exm_ok (c.fact 62 (f := .exm "BadNames" "BadRule" false) rfl)
      · exact He.exm_ok (c.fact 63 (f := .exm "BadNames" "BadCourse" false) rfl)
      · exact He.exm_ok (c.fact 64 (f := .exm "BadRule" "BadNames" false) rfl)
      · exact He.exm_ok (c.fact 65 (f := .exm "BadRule" "BadRule" true) rfl)
      · exact He.exm_ok (c.fact 66 (f := .exm "BadRule" "BadCourse" false) rfl)
      · exact He.exm_ok (c.fact 67 (f := .exm "BadCourse" "BadNames" false) rfl)
      · exact He.exm_ok (c.fact 68 (f := .exm "BadCourse" "BadRule" false) rfl)
      · exact He.exm_ok (c.fact 69 (f := .exm "BadCourse" "BadCourse" true) rfl)
  · exact fun s u => FunD.bindsA (ps := ["script"]) F30 (fun _ _ _ _ _ _ us hl => match us, hl with | [_], _ => rfl) s [u] rfl
end Lw
open PySem PySem.W PySem.Calls PyProof.Rows
theorem Lw.bits_ok {z : Int} (h : Builtin.Int.intBits z ≤ 1048576) : DL.bitsOk z := by
  unfold DL.bitsOk
  by_cases e : z = 0
  · subst e
    exact Nat.pow_pos (by decide)
  · have h2 : z.natAbs.log2 + 1 ≤ 1048576 := by
      unfold Builtin.Int.intBits at h
      rw [if_neg (by simpa using e)] at h
      exact h
    exact Nat.lt_of_lt_of_le Nat.lt_log2_self (Nat.pow_le_pow_right (by decide) (by omega))
theorem PySem.Challenge.cw_handedvotes_k05_whole_courses_holds : PySem.Challenge.rw_handedvotes_k05_whole_courses.Holds := by
  w_on; o_law
  refine HandSHeadRun.head_any (r := OpenLaw.row PySem.Challenge.rw_handedvotes_k05_whole_courses) (q := view (OpenLaw.row PySem.Challenge.rw_handedvotes_k05_whole_courses).prog [51]) (H := Lw.hk) (ob := Lw.ob) (M := 20000) (loose := Lw.loose) (d := HandSHeadRun.topDef (OpenLaw.row PySem.Challenge.rw_handedvotes_k05_whole_courses).prog 51) (kwd := []) Lw.ob_eq
    (by kernel_rfl) (fun s => by kernel_rfl) Lw.run (by kernel_rfl) (by kernel_rfl) (by kernel_rfl) (by rfl) (by first | assumption | decide +kernel) (by decide +kernel) ⟨rfl, rfl, rfl, rfl, rfl, by decide +kernel⟩ ?hw ?hc
  case hw => w_witness2
  case hc =>
    refine Att.attach_callB (l := PySem.Challenge.rw_handedvotes_k05_whole_courses) (n := 63) rfl (by kernel_rfl) fun w s₀ s₁ mg mb fa o pm cd doc a vs ns G Y ho hd hcd hmg hobj hints hlen hbits hg => ?_
    obtain ⟨K, KX, hb, c⟩ := Y
    obtain ⟨f, fd, fI, M, e5, b5⟩ := Lw.facts KX G.T.g hb c
    have hmg2 : mg ("law" : PySem.Str) = some (.ref fa) := by
      have e : (HandSHeadRun.topDef (OpenLaw.row PySem.Challenge.rw_handedvotes_k05_whole_courses).prog 51).name = ("law" : PySem.Str) := by kernel_rfl
      rw [← e]
      exact hmg
    have e := hmg2.symm.trans (He.glo_ok KX G.T.g (c.fact 29 (f := .glo "law") rfl))
    have ea : fa = f 30 := by rw [e5]; exact Value.ref.inj (Option.some.inj e)
    subst ea
    exact DL.law_callG (L := Lw.Lk K) (k := 11) (m := Lw.m_law) (x := "script") rfl rfl KX G.T.g G.T.b G.T.builtins G.T.nolimit hg hobj hints (Nat.le_trans hlen (by decide)) ⟨rfl, by decide, by decide⟩ (fun base _ _ => Lw.g_law M) b5
      (Lw.law_m hlen fun z hz => Lw.bits_ok (hbits z hz))
