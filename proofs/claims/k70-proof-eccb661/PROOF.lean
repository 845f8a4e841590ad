import PyProof.Rows.All
import Wide.All
import OpenK.AllK
import Wide.FinOn
import HandS.ForMost
import HandS.ForExc
import HandS.Lambda
import HandS.EndTab
import HandS.ExcInit
import HandS.TupAny
import HandS.TupMul
import HandS.Wide
import KE.DataEq
import KE.DataFind
import HandS.Text
import HandS.Deep
import HandS.IsInst
import HandS.Iter
import PyProof.ReprRoads
import HandS.Exc
import HandS.ExcField
import HandS.ExcIs
import KE.KExcInit
import HandS.EndBits
import HandS.Head0
import HandS.Head1
import HandS.Head2
import HandS.HeadEnd
import HandS.HeadHook1
import HandS.HeadHook2
import KE.KStateDown
import Open.SpecLaws
import PySem.Challenge.RW_handedvotes_k70_errors
set_option Elab.async false
set_option linter.all false
set_option maxRecDepth 100000
set_option maxHeartbeats 0
/-! Data as trees, over the hand layer: what values denote, runs with free choices, the ghost state. -/
namespace DL
open PySem PySem.Spec L2

inductive D where
  | non | bl (b : Bool) | int (i : Int) | str (s : Str)
  | tup (xs : List D) | lst (xs : List D) | dct (kvs : List (D × D))
  | ins (c : Nat) (fs : List D)
  | exc (c : Nat) (v : D)
  | ty (n : String) | clo (n : Nat)
  | rnd
  | scr (ns : List Int)

/-- an exception that flies: its class, its one field -/
structure Ex where
  c : Nat
  v : D

inductive M (α : Type) where
  | ret (a : α) | exc (x : Ex) | stuck | choose (n : Nat) (k : Nat → M α) | begun (k : M α)
def lim : Nat := 2 ^ 100000
namespace M
def bind {α β : Type} : M α → (α → M β) → M β
  | ret a, f => f a
  | exc x, _ => exc x
  | stuck, _ => stuck
  | choose n k, f => choose n fun i => (k i).bind f
  | begun k, f => begun (k.bind f)
def wp {α : Type} : M α → (α → Prop) → (Ex → Prop) → Prop
  | ret a, Q, _ => Q a
  | exc x, _, E => E x
  | stuck, _, _ => False
  | choose n k, Q, E => ∀ i, i < n → (k i).wp Q E
  | begun k, Q, E => k.wp Q E
theorem wp_mono {α : Type} {Q Q' : α → Prop} {E E' : Ex → Prop} (hQ : ∀ a, Q a → Q' a) (hE : ∀ x, E x → E' x) : ∀ (m : M α), m.wp Q E → m.wp Q' E'
  | ret a, h => hQ a h
  | exc x, h => hE x h
  | stuck, h => h.elim
  | choose _ k, h => fun i hi => wp_mono hQ hE (k i) (h i hi)
  | begun k, h => wp_mono hQ hE k h
/-- with a number of choices that are left -/
def wpB {α : Type} : M α → Nat → (α → Nat → Prop) → (Ex → Nat → Prop) → Prop
  | ret a, b, Q, _ => Q a b
  | exc x, b, _, E => E x b
  | stuck, _, _, _ => False
  | choose _ _, 0, _, _ => False
  | choose n k, b + 1, Q, E => ∀ i, i < n → (k i).wpB b Q E
  | begun k, b, Q, E => b = lim + 1 ∧ k.wpB lim Q E
theorem wpB_mono {α : Type} {Q Q' : α → Nat → Prop} {E E' : Ex → Nat → Prop} (hQ : ∀ a b, Q a b → Q' a b) (hE : ∀ x b, E x b → E' x b) : ∀ (m : M α) (b : Nat), m.wpB b Q E → m.wpB b Q' E'
  | ret a, b, h => hQ a b h
  | exc x, b, h => hE x b h
  | stuck, _, h => h.elim
  | choose _ _, 0, h => h.elim
  | choose _ k, b + 1, h => fun i hi => wpB_mono hQ hE (k i) b (h i hi)
  | begun k, _, h => ⟨h.1, wpB_mono hQ hE k lim h.2⟩
theorem wpB_bind {α β : Type} {Q : β → Nat → Prop} {E : Ex → Nat → Prop} {f : α → M β} : ∀ (m : M α) (b : Nat), (m.bind f).wpB b Q E ↔ m.wpB b (fun a c => (f a).wpB c Q E) E
  | ret _, _ => Iff.rfl
  | exc _, _ => Iff.rfl
  | stuck, _ => Iff.rfl
  | choose _ _, 0 => Iff.rfl
  | choose _ k, b + 1 => forall_congr' fun i => forall_congr' fun _ => wpB_bind (k i) b
  | begun k, _ => and_congr_right' (wpB_bind k lim)
/-- nothing may be raised -/
def noX {α : Type} : M α → M α
  | ret a => ret a
  | exc _ => stuck
  | stuck => stuck
  | choose n k => choose n fun i => (k i).noX
  | begun k => begun k.noX
theorem wpB_noX {α : Type} {Q : α → Nat → Prop} {E E' : Ex → Nat → Prop} : ∀ (m : M α) (b : Nat), m.noX.wpB b Q E → m.wpB b Q E'
  | ret _, _, h => h
  | exc _, _, h => h.elim
  | stuck, _, h => h
  | choose _ _, 0, h => h
  | choose _ k, b + 1, h => fun i hi => wpB_noX (k i) b (h i hi)
  | begun k, _, h => ⟨h.1, wpB_noX k lim h.2⟩
/-- at most so many choices -/
def fin {α : Type} : M α → Nat → Prop
  | ret _, _ => True
  | exc _, _ => True
  | stuck, _ => True
  | choose _ _, 0 => False
  | choose n k, b + 1 => ∀ i, i < n → (k i).fin b
  | begun k, b => b = lim + 1 ∧ k.fin lim
theorem wpB_of {α : Type} {Q : α → Prop} {E : Ex → Prop} : ∀ (m : M α) (b : Nat), m.fin b → m.wp Q E → m.wpB b (fun a _ => Q a) (fun x _ => E x)
  | ret _, _, _, h => h
  | exc _, _, _, h => h
  | stuck, _, _, h => h
  | choose _ _, 0, f, _ => f.elim
  | choose _ k, b + 1, f, h => fun i hi => wpB_of (k i) b (f i hi) (h i hi)
  | begun k, _, f, h => ⟨f.1, wpB_of k lim f.2 h⟩
theorem wp_bind {α β : Type} {Q : β → Prop} {E : Ex → Prop} {f : α → M β} : ∀ (m : M α), (m.bind f).wp Q E ↔ m.wp (fun a => (f a).wp Q E) E
  | ret _ => Iff.rfl
  | exc _ => Iff.rfl
  | stuck => Iff.rfl
  | choose _ k => forall_congr' fun i => forall_congr' fun _ => wp_bind (k i)
  | begun k => wp_bind k
end M

/-- what a law's text is proved over: the written part, the tables of code objects, the own classes and their fields -/
structure Lx where
  K : PySem.W.Frag
  T : List (Addr × Str)
  cA : Nat → Addr
  cF : Nat → List Str

/-- the ghost: what is frozen for good, the law's own m -/
structure Gh where
  F : Hp
  mu : Option Addr
  bud : Nat

def keyD : Key → D
  | .inl i => .int i
  | .inr s => .str s

mutual
inductive Den (L : Lx) (g : Gh) : V → D → Prop
  | non : Den L g .non .non
  | bl (b : Bool) : Den L g (.bl b) (.bl b)
  | int (i : Int) : Den L g (.int i) (.int i)
  | str (s : Str) : Den L g (.str s) (.str s)
  | tup {a : Addr} {vs : List V} {ds : List D} : SqT L.K g.F a vs → DenL L g vs ds → Den L g (.ref a) (.tup ds)
  | lst {a : Addr} {vs : List V} {ds : List D} : g.F a = some (.lst vs) → DenL L g vs ds → Den L g (.ref a) (.lst ds)
  | dK {a : Addr} {ks : List Key} {vs : List V} {ds : List D} : Rd g.F a (.dK (ks.zip vs)) → ks.length = vs.length → DenL L g vs ds → Den L g (.ref a) (.dct ((ks.map keyD).zip ds))
  | dT {a : Addr} {ks : List (List Key)} {vs : List V} {ds : List D} : Rd g.F a (.dT (ks.zip vs)) → ks.length = vs.length → DenL L g vs ds → Den L g (.ref a) (.dct ((ks.map fun k => D.tup (k.map keyD)).zip ds))
  | ins {a c dx : Addr} {n : Nat} {vs : List V} {ds : List D} : g.F a = some (.ins (L.cA n) dx ((L.cF n).zip vs)) → (L.cF n).length = vs.length → DenL L g vs ds → Den L g (.ref a) (.ins n ds)
  | exc {a d : Addr} {n : Nat} {f : Str} {v : V} {x : D} : g.F a = some (exo a (L.cA n) (some d)) → g.F d = some (exd d [(f, v)]) → L.cF n = [f] → Den L g v x → Den L g (.ref a) (.exc n x)
  | ty (n : String) : Den L g (.ty n) (.ty n)
  | clo (n : Nat) : Den L g (.ref (L.cA n)) (.clo n)
  | rnd {a : Addr} : g.mu = some a → Den L g (.ref a) .rnd
  | scr {a : Addr} {ns : List Int} : SqL L.K g.F a (ns.map V.int) → Den L g (.ref a) (.scr ns)
inductive DenL (L : Lx) (g : Gh) : List V → List D → Prop
  | nil : DenL L g [] []
  | cons {v : V} {vs : List V} {d : D} {ds : List D} : Den L g v d → DenL L g vs ds → DenL L g (v :: vs) (d :: ds)
end

section
variable {L : Lx} {g g' : Gh}
theorem sqT_mono {K : PySem.W.Frag} {F F' : Hp} {a : Addr} {vs : List V} (h : ∀ a o, F a = some o → F' a = some o) : SqT K F a vs → SqT K F' a vs
  | .inl (.inl e) => .inl (.inl (h _ _ e))
  | .inl (.inr ⟨o, e⟩) => .inl (.inr ⟨o, h _ _ e⟩)
  | .inr e => .inr e
theorem sqL_mono {K : PySem.W.Frag} {F F' : Hp} {a : Addr} {vs : List V} (h : ∀ a o, F a = some o → F' a = some o) : SqL K F a vs → SqL K F' a vs
  | .inl (.inl e) => .inl (.inl (h _ _ e))
  | .inl (.inr ⟨o, e⟩) => .inl (.inr ⟨o, h _ _ e⟩)
  | .inr e => .inr e
theorem rd_mono {F F' : Hp} {a : Addr} {o : HO} (h : ∀ a o, F a = some o → F' a = some o) : Rd F a o → Rd F' a o
  | .inl e => .inl (h _ _ e)
  | .inr ⟨o, e⟩ => .inr ⟨o, h _ _ e⟩
mutual
theorem Den.mono (h : ∀ a o, g.F a = some o → g'.F a = some o) (hm : ∀ a, g.mu = some a → g'.mu = some a) : ∀ {v : V} {d : D}, Den L g v d → Den L g' v d
  | _, _, .non => .non
  | _, _, .bl b => .bl b
  | _, _, .int i => .int i
  | _, _, .str s => .str s
  | _, _, .tup e l => .tup (sqT_mono h e) (DenL.mono h hm l)
  | _, _, .lst e l => .lst (h _ _ e) (DenL.mono h hm l)
  | _, _, .dK e z l => .dK (rd_mono h e) z (DenL.mono h hm l)
  | _, _, .dT e z l => .dT (rd_mono h e) z (DenL.mono h hm l)
  | _, _, .ins (c := c) e z l => .ins (c := c) (h _ _ e) z (DenL.mono h hm l)
  | _, _, .exc (n := n) a b c l => .exc (n := n) (h _ _ a) (h _ _ b) c (Den.mono h hm l)
  | _, _, .ty n => .ty n
  | _, _, .clo n => .clo n
  | _, _, .rnd e => .rnd (hm _ e)
  | _, _, .scr e => .scr (sqL_mono h e)
theorem DenL.mono (h : ∀ a o, g.F a = some o → g'.F a = some o) (hm : ∀ a, g.mu = some a → g'.mu = some a) : ∀ {vs : List V} {ds : List D}, DenL L g vs ds → DenL L g' vs ds
  | _, _, .nil => .nil
  | _, _, .cons a l => .cons (Den.mono h hm a) (DenL.mono h hm l)
end
theorem DenL.length : ∀ {vs : List V} {ds : List D}, DenL L g vs ds → vs.length = ds.length
  | _, _, .nil => rfl
  | _, _, .cons _ l => congrArg (· + 1) (DenL.length l)
theorem DenL.append : ∀ {vs : List V} {ds : List D} {ws : List V} {es : List D}, DenL L g vs ds → DenL L g ws es → DenL L g (vs ++ ws) (ds ++ es)
  | _, _, _, _, .nil, r => r
  | _, _, _, _, .cons a l, r => .cons a (DenL.append l r)
theorem DenL.get : ∀ {vs : List V} {ds : List D} {i : Nat} {d : D}, DenL L g vs ds → ds[i]? = some d → ∃ v, vs[i]? = some v ∧ Den L g v d
  | _, _, _, _, .nil, e => by simp at e
  | _, _, 0, _, .cons a _, e => by simp at e; subst e; exact ⟨_, rfl, a⟩
  | _, _, i + 1, d, .cons _ l, e => by
    obtain ⟨v, h1, h2⟩ := DenL.get (i := i) (d := d) l (by simpa using e)
    exact ⟨v, by simpa using h1, h2⟩
theorem DenL.get' : ∀ {vs : List V} {ds : List D} {i : Nat} {v : V}, DenL L g vs ds → vs[i]? = some v → ∃ d, ds[i]? = some d ∧ Den L g v d
  | _, _, _, _, .nil, e => by simp at e
  | _, _, 0, _, .cons a _, e => by simp at e; subst e; exact ⟨_, rfl, a⟩
  | _, _, i + 1, v, .cons _ l, e => by
    obtain ⟨d, h1, h2⟩ := DenL.get' (i := i) (v := v) l (by simpa using e)
    exact ⟨d, by simpa using h1, h2⟩
theorem DenL.take : ∀ {vs : List V} {ds : List D} (n : Nat), DenL L g vs ds → DenL L g (vs.take n) (ds.take n)
  | _, _, 0, _ => .nil
  | _, _, _ + 1, .nil => .nil
  | _, _, n + 1, .cons a l => .cons a (DenL.take n l)
theorem DenL.drop : ∀ {vs : List V} {ds : List D} (n : Nat), DenL L g vs ds → DenL L g (vs.drop n) (ds.drop n)
  | _, _, 0, l => l
  | _, _, _ + 1, .nil => .nil
  | _, _, n + 1, .cons _ l => DenL.drop n l
theorem DenL.reverse : ∀ {vs : List V} {ds : List D}, DenL L g vs ds → DenL L g vs.reverse ds.reverse
  | _, _, .nil => .nil
  | _, _, .cons a l => by rw [List.reverse_cons, List.reverse_cons]; exact DenL.append (DenL.reverse l) (.cons a .nil)
end

/-! ### the law's m, the steps of a run -/
/-- a stands in m -/
def InM (mu : Option Addr) (H : Hp) (a : Addr) : Prop := ∃ m, mu = some m ∧ (a = m ∨ ∃ kvs k, H m = some (.dK kvs) ∧ (k, V.ref a) ∈ kvs)
def bitsOk (z : Int) : Prop := z.natAbs < 2 ^ 1048600
def MOk (b : Nat) (H : Hp) (m : Addr) : Prop := ∃ (c l : Addr) (cs ls : List Int) (at_ : Int), H m = some (.dK [(Sum.inr "cells", .ref c), (Sum.inr "left", .ref l), (Sum.inr "at", .int at_)]) ∧
  H c = some (.lst (cs.map V.int)) ∧ H l = some (.lst (ls.map V.int)) ∧ c ≠ l ∧ cs.length ≤ 63 ∧ ls.length ≤ 63 ∧ (∀ z ∈ cs, bitsOk z) ∧ (∀ z ∈ ls, bitsOk z ∧ 0 ≤ z) ∧ 0 ≤ at_ ∧ at_.toNat + b ≤ lim
def RndOk (g : Gh) (H : Hp) : Prop := (g.mu = none → g.bud = lim + 1) ∧ ∀ m, g.mu = some m → MOk g.bud H m

/-- from (g, H) to (g', H'): what is frozen stays, what is not m's stays -/
structure Stp (L : Lx) (g : Gh) (H : Hp) (g' : Gh) (H' : Hp) : Prop where
  le : ∀ a o, g.F a = some o → g'.F a = some o
  mu : ∀ m, g.mu = some m → g'.mu = some m
  sub : ∀ a o, g'.F a = some o → H' a = some o
  keep : ∀ a o, H a = some o → (∀ ps, o ≠ .tbl ps) → ¬ InM g.mu H a → H' a = some o ∧ ¬ InM g'.mu H' a
  nf : ∀ a, H a ≠ none → H' a ≠ none ∧ (g.F a = none → g'.F a = none)
  nm : ∀ a o, g'.F a = some o → ¬ InM g'.mu H' a
  rnd : RndOk g' H'
  bud : g'.bud ≤ g.bud
  tab : LamX.Tabs L.T H'
end DL
/-! The frame's slots as data, readings of expressions by runs. -/
namespace DL
open PySem PySem.Spec L2

/-- a slot: data, or a list or dict of one's own that is changed -/
inductive B where
  | fz (d : D) | ol (ds : List D) | od (kvs : List (D × D))
abbrev Env := List (Option B)
abbrev IE := Env → M D

section
variable {L : Lx} {g g' g'' : Gh} {H H' H'' : Hp} {σ σ' : L2.St} {Γ : Env}

/-- a dict at a, as data -/
def DctAt (L : Lx) (g : Gh) (H : Hp) (p : Addr) (kvs : List (D × D)) : Prop :=
  (∃ (ks : List Key) (vs : List V) (ds : List D), H p = some (.dK (ks.zip vs)) ∧ ks.length = vs.length ∧ DenL L g vs ds ∧ kvs = (ks.map keyD).zip ds) ∨
  (∃ (ks : List (List Key)) (vs : List V) (ds : List D), H p = some (.dT (ks.zip vs)) ∧ ks.length = vs.length ∧ DenL L g vs ds ∧ kvs = (ks.map fun k => D.tup (k.map keyD)).zip ds)
theorem DctAt.step (h : DctAt L g H a kvs) (e : H' a = H a) (le : ∀ a o, g.F a = some o → g'.F a = some o) (mu : ∀ m, g.mu = some m → g'.mu = some m) : DctAt L g' H' a kvs := by
  rcases h with ⟨ks, vs, ds, h1, h2, h3, h4⟩ | ⟨ks, vs, ds, h1, h2, h3, h4⟩
  · exact .inl ⟨ks, vs, ds, e.trans h1, h2, h3.mono le mu, h4⟩
  · exact .inr ⟨ks, vs, ds, e.trans h1, h2, h3.mono le mu, h4⟩
def Bind1 (L : Lx) (g : Gh) (H : Hp) (x : Option V) : B → Prop
  | .fz d => ∃ v, x = some v ∧ Den L g v d
  | .ol ds => ∃ p vs, x = some (.ref p) ∧ H p = some (.lst vs) ∧ DenL L g vs ds ∧ g.F p = none ∧ ¬ InM g.mu H p
  | .od kvs => ∃ p, x = some (.ref p) ∧ g.F p = none ∧ ¬ InM g.mu H p ∧ DctAt L g H p kvs
def B.own : B → Bool
  | .fz _ => false
  | _ => true

structure Rep (L : Lx) (Γ : Env) (g : Gh) (σ : L2.St) (H : Hp) : Prop where
  sub : ∀ a o, g.F a = some o → H a = some o
  rnd : RndOk g H
  tab : LamX.Tabs L.T H
  loc : ∀ (i : Nat) (b : B), Γ[i]? = some (some b) → ∃ x, σ[i]? = some x ∧ Bind1 L g H x b
  dis : ∀ (i j : Nat) (b c : B) (p : Addr), Γ[i]? = some (some b) → Γ[j]? = some (some c) → b.own = true → c.own = true → σ[i]? = some (some (.ref p)) → σ[j]? = some (some (.ref p)) → i = j
  nF : ∀ a o, g.F a = some o → ¬ InM g.mu H a
  len : Γ.length = σ.length

theorem Stp.refl (r : Rep L Γ g σ H) : Stp L g H g H :=
  ⟨fun _ _ e => e, fun _ e => e, r.sub, fun _ _ e _ n => ⟨e, n⟩, fun _ n => ⟨n, fun e => e⟩, r.nF, r.rnd, Nat.le_refl _, r.tab⟩
theorem Stp.trans (a : Stp L g H g' H') (b : Stp L g' H' g'' H'') : Stp L g H g'' H'' :=
  ⟨fun x o e => b.le x o (a.le x o e), fun m e => b.mu m (a.mu m e), b.sub, fun x o e n h => let ⟨e1, h1⟩ := a.keep x o e n h; b.keep x o e1 n h1,
   fun x e => let ⟨e1, h1⟩ := a.nf x e; let ⟨e2, h2⟩ := b.nf x e1; ⟨e2, fun q => h2 (h1 q)⟩, b.nm, b.rnd, Nat.le_trans b.bud a.bud, b.tab⟩
theorem Bind1.step {x : Option V} {b : B} (h : Bind1 L g H x b) (s : Stp L g H g' H') : Bind1 L g' H' x b := by
  cases b with
  | fz d => obtain ⟨v, e, h⟩ := h; exact ⟨v, e, h.mono s.le s.mu⟩
  | ol ds =>
    obtain ⟨p, vs, e, hp, hd, hf, hm⟩ := h
    obtain ⟨e1, m1⟩ := s.keep p _ hp (fun _ z => nomatch z) hm
    exact ⟨p, vs, e, e1, hd.mono s.le s.mu, (s.nf p (by rw [hp]; simp)).2 hf, m1⟩
  | od kvs =>
    obtain ⟨p, e, hf, hm, hd⟩ := h
    have hp : ∃ o, H p = some o ∧ ∀ ps, o ≠ .tbl ps := by
      rcases hd with ⟨_, _, _, h1, _⟩ | ⟨_, _, _, h1, _⟩
      · exact ⟨_, h1, fun _ z => nomatch z⟩
      · exact ⟨_, h1, fun _ z => nomatch z⟩
    obtain ⟨o, h1, h2⟩ := hp
    obtain ⟨e1, m1⟩ := s.keep p _ h1 h2 hm
    exact ⟨p, e, (s.nf p (by rw [h1]; simp)).2 hf, m1, hd.step (e1.trans h1.symm) s.le s.mu⟩
theorem Rep.step (r : Rep L Γ g σ H) (s : Stp L g H g' H') : Rep L Γ g' σ H' :=
  ⟨s.sub, s.rnd, s.tab, fun i b e => let ⟨x, e1, h⟩ := r.loc i b e; ⟨x, e1, h.step s⟩, r.dis, s.nm, r.len⟩

/-- a value to be looked at: frozen data, or a list or dict of one's own -/
def Vw (L : Lx) (g : Gh) (H : Hp) (v : V) (d : D) : Prop :=
  Den L g v d ∨ (∃ p vs ds, v = .ref p ∧ d = .lst ds ∧ H p = some (.lst vs) ∧ DenL L g vs ds ∧ ¬ InM g.mu H p) ∨ (∃ p kvs, v = .ref p ∧ d = .dct kvs ∧ ¬ InM g.mu H p ∧ DctAt L g H p kvs)
theorem Vw.step {v : V} {d : D} (h : Vw L g H v d) (s : Stp L g H g' H') : Vw L g' H' v d := by
  rcases h with h | ⟨p, vs, ds, e1, e2, h1, h2, h3⟩ | ⟨p, kvs, e1, e2, hm, hd⟩
  · exact .inl (h.mono s.le s.mu)
  · obtain ⟨e, m⟩ := s.keep p _ h1 (fun _ z => nomatch z) h3
    exact .inr (.inl ⟨p, vs, ds, e1, e2, e, h2.mono s.le s.mu, m⟩)
  · have hp : ∃ o, H p = some o ∧ ∀ ps, o ≠ .tbl ps := by
      rcases hd with ⟨_, _, _, h1, _⟩ | ⟨_, _, _, h1, _⟩
      · exact ⟨_, h1, fun _ z => nomatch z⟩
      · exact ⟨_, h1, fun _ z => nomatch z⟩
    obtain ⟨o, h1, h2⟩ := hp
    obtain ⟨e, m⟩ := s.keep p _ h1 h2 hm
    exact .inr (.inr ⟨p, kvs, e1, e2, m, hd.step (e.trans h1.symm) s.le s.mu⟩)

/-- how an exception of a run lies in the hand layer: its class, its own dict -/
def ExAt (L : Lx) (g : Gh) (H : Hp) (x : Ex) (cls : Value) (d : Option Addr) : Prop :=
  cls = .ref (L.cA x.c) ∧ ∃ da f v, d = some da ∧ L.cF x.c = [f] ∧ H da = some (.xd [(f, v)]) ∧ Den L g v x.v
/-- the wish about exceptions, from where the run began -/
def XW (L : Lx) (W : WX) (g : Gh) (σ : L2.St) (H : Hp) (x : Ex) (b : Nat) : Prop :=
  ∀ cls d g' H', Stp L g H g' H' → g'.bud = b → ExAt L g' H' x cls d → W cls d σ H'
/-- what an expression's run says of its value: v says how it is told -/
abbrev TT1 := Lx → Hp → Gh → Hp → V → D → Prop
def Rd1 (L : Lx) (T : TT1) (W : WX) (i : IE) : TE := fun σ H Q => ∃ Γ g, Rep L Γ g σ H ∧
  (i Γ).wpB g.bud (fun d b => ∀ v g' H', Stp L g H g' H' → g'.bud = b → T L H g' H' v d → Q v H') (XW L W g σ H)
abbrev DenT : TT1 := fun L _ g _ v d => Den L g v d
abbrev VwT : TT1 := fun L _ g H v d => Vw L g H v d
/-- a new list of one's own -/
def FrT : TT1 := fun L H₀ g H v d => ∃ p vs ds, v = .ref p ∧ d = .lst ds ∧ H p = some (.lst vs) ∧ DenL L g vs ds ∧ g.F p = none ∧ ¬ InM g.mu H p ∧ H₀ p = none
/-- DE: the expression does what the run says, its value is frozen data; DV: .. is to be looked at -/
def DE (L : Lx) (X : Cx) (i : IE) (e : Expr) : Prop := ∀ W, Takes X W → PE X e (Rd1 L DenT W i)
def DV (L : Lx) (X : Cx) (i : IE) (e : Expr) : Prop := ∀ W, Takes X W → PE X e (Rd1 L VwT W i)
def DF (L : Lx) (X : Cx) (i : IE) (e : Expr) : Prop := ∀ W, Takes X W → PE X e (Rd1 L FrT W i)
theorem Rd1.weak {T T' : TT1} {W : WX} {i : IE} {Q : VK} (h : ∀ H₀ g H v d, T L H₀ g H v d → T' L H₀ g H v d) (r : Rd1 L T' W i σ H Q) : Rd1 L T W i σ H Q := by
  obtain ⟨Γ, g, rp, w⟩ := r
  exact ⟨Γ, g, rp, M.wpB_mono (fun d b k v g' H' s e t => k v g' H' s e (h _ _ _ _ _ t)) (fun _ _ x => x) _ _ w⟩
theorem DE.dv {X : Cx} {i : IE} {e : Expr} (h : DE L X i e) : DV L X i e := fun W tk =>
  ⟨fun pins s σ H Q I r => (h W tk).run pins s σ H Q I (r.weak fun _ _ _ _ _ t => .inl t)⟩
end
end DL
/-! Expressions. -/
namespace DL
open PySem PySem.Spec L2
theorem PE.imp {X : Cx} {e : Expr} {t t' : TE} (h : PE X e t) (k : ∀ σ H Q, t' σ H Q → t σ H Q) : PE X e t' := ⟨fun pins s σ H Q I r => h.run pins s σ H Q I (k _ _ _ r)⟩
section
variable {L : Lx} {X : Cx} {i j : IE} {a b e : Expr} {pos : Pos} {W : WX} {σ : L2.St} {H : Hp} {Q : VK}
theorem XW.of {g g' : Gh} {H' : Hp} {x : Ex} {b : Nat} (h : XW L W g σ H x b) (s : Stp L g H g' H') : XW L W g' σ H' x b := fun cls d g2 H2 s2 e q => h cls d g2 H2 (s.trans s2) e q
/-- what is wanted of a run's value, from (g, H) -/
abbrev Wn (L : Lx) (T : TT1) (g : Gh) (H : Hp) (Q : VK) : D → Nat → Prop := fun d b => ∀ v g' H', Stp L g H g' H' → g'.bud = b → T L H g' H' v d → Q v H'
/-- one run behind another -/
theorem Rd1.go {α : Type} {T : TT1} {Γ : Env} {g : Gh} {f : D → M α} {R : α → Nat → Prop} {Q : VK} (r : Rep L Γ g σ H) (h : ((i Γ).bind f).wpB g.bud R (XW L W g σ H))
    (k : ∀ v H1 d g1, Rep L Γ g1 σ H1 → Stp L g H g1 H1 → T L H g1 H1 v d → (f d).wpB g1.bud R (XW L W g1 σ H1) → Q v H1) : Rd1 L T W i σ H Q := by
  refine ⟨Γ, g, r, M.wpB_mono (fun d b h v g' H' s e t => ?_) (fun _ _ x => x) _ _ ((M.wpB_bind _ _).mp h)⟩
  subst e
  exact k v H' d g' (r.step s) s t (M.wpB_mono (fun _ _ x => x) (fun _ _ x => x.of s) _ _ h)

def iVar (n : Nat) : IE := fun Γ => match Γ[n]? with
  | some (some (.fz d)) => .ret d
  | _ => .stuck
def iUse (n : Nat) : IE := fun Γ => match Γ[n]? with
  | some (some (.fz d)) => .ret d
  | some (some (.ol ds)) => .ret (.lst ds)
  | some (some (.od kvs)) => .ret (.dct kvs)
  | _ => .stuck
def iLit (d : D) : IE := fun _ => .ret d
theorem de_var {n : Nat} {x : Str} (h : ∀ Y : Cx, Y.env = X.env → Y.N = X.N → PE Y (.Name x pos) (tVar n)) : DE L X (iVar n) (.Name x pos) := fun W _ => by
  refine PE.imp (h X rfl rfl) fun σ H Q r => ?_
  obtain ⟨Γ, g, rp, w⟩ := r
  unfold iVar at w
  split at w
  · rename_i d e
    obtain ⟨x, e1, v, e2, h⟩ := rp.loc _ _ e
    subst e2
    exact ⟨v, e1, w v g H (Stp.refl rp) rfl h⟩
  · exact w.elim
theorem dv_use {n : Nat} {x : Str} (h : PE X (.Name x pos) (tVar n)) : DV L X (iUse n) (.Name x pos) := fun W _ => by
  refine PE.imp h fun σ H Q r => ?_
  obtain ⟨Γ, g, rp, w⟩ := r
  unfold iUse at w
  split at w
  · rename_i d e
    obtain ⟨x, e1, v, e2, h⟩ := rp.loc _ _ e
    subst e2
    exact ⟨v, e1, w v g H (Stp.refl rp) rfl (.inl h)⟩
  · rename_i d e
    obtain ⟨x, e1, p, vs, e2, h1, h2, _, h3⟩ := rp.loc _ _ e
    subst e2
    exact ⟨.ref p, e1, w _ g H (Stp.refl rp) rfl (.inr (.inl ⟨p, vs, d, rfl, rfl, h1, h2, h3⟩))⟩
  · rename_i d e
    obtain ⟨x, e1, p, e2, _, h3, h4⟩ := rp.loc _ _ e
    subst e2
    exact ⟨.ref p, e1, w _ g H (Stp.refl rp) rfl (.inr (.inr ⟨p, d, rfl, rfl, h3, h4⟩))⟩
  · exact w.elim
theorem de_c {v : V} {d : D} (h : PE X e (tC v)) (hd : ∀ g, Den L g v d) : DE L X (iLit d) e := fun W _ => by
  refine PE.imp h fun σ H Q r => ?_
  obtain ⟨Γ, g, rp, w⟩ := r
  exact w v g H (Stp.refl rp) rfl (hd g)

/-! argument lists -/
def evs : List IE → Env → M (List D)
  | [], _ => .ret []
  | i :: r, Γ => (i Γ).bind fun d => (evs r Γ).bind fun ds => .ret (d :: ds)
def RdA (L : Lx) (W : WX) (is : List IE) : TA := fun σ H Q => ∃ Γ g, Rep L Γ g σ H ∧
  (evs is Γ).wpB g.bud (fun ds b => ∀ vs g' H', Stp L g H g' H' → g'.bud = b → DenL L g' vs ds → Q vs H') (XW L W g σ H)
def DA (L : Lx) (X : Cx) (is : List IE) (es : List Expr) : Prop := ∀ W, Takes X W → PA X es (RdA L W is)
theorem PA.imp {es : List Expr} {t t' : TA} (h : PA X es t) (k : ∀ σ H Q, t' σ H Q → t σ H Q) : PA X es t' := ⟨fun pos pins s σ H Q I r => h.run pos pins s σ H Q I (k _ _ _ r)⟩
theorem RdA.go {α : Type} {Γ : Env} {g : Gh} {is : List IE} {f : List D → M α} {R : α → Nat → Prop} {Q : List V → Hp → Prop} (r : Rep L Γ g σ H) (h : ((evs is Γ).bind f).wpB g.bud R (XW L W g σ H))
    (k : ∀ vs H1 ds g1, Rep L Γ g1 σ H1 → Stp L g H g1 H1 → DenL L g1 vs ds → (f ds).wpB g1.bud R (XW L W g1 σ H1) → Q vs H1) : RdA L W is σ H Q := by
  refine ⟨Γ, g, r, M.wpB_mono (fun d b h v g' H' s e t => ?_) (fun _ _ x => x) _ _ ((M.wpB_bind _ _).mp h)⟩
  subst e
  exact k v H' d g' (r.step s) s t (M.wpB_mono (fun _ _ x => x) (fun _ _ x => x.of s) _ _ h)
theorem da_nil : DA L X [] [] := fun W _ => PA.imp pa_nil fun σ H Q ⟨Γ, g, rp, w⟩ => w [] g H (Stp.refl rp) rfl .nil
theorem da_cons {is : List IE} {es : List Expr} (h : DE L X i e) (hr : DA L X is es) (hs : starEach (e :: es) X.env = (false, eval e X.env) :: starEach es X.env := by rfl) : DA L X (i :: is) (e :: es) := fun W tk => by
  refine PA.imp (pa_cons (h W tk) (hr W tk) hs) fun σ H Q ⟨Γ, g, rp, w⟩ => ?_
  refine ⟨Γ, g, rp, M.wpB_mono (fun d b h v g1 H1 s e t => ?_) (fun _ _ x => x) _ _ ((M.wpB_bind _ _).mp w)⟩
  subst e
  refine ⟨Γ, g1, rp.step s, M.wpB_mono (fun ds b h vs g2 H2 s2 e2 t2 => ?_) (fun _ _ x => x.of s) _ _ ((M.wpB_bind _ _).mp h)⟩
  exact h (v :: vs) g2 H2 (s.trans s2) e2 (.cons (t.mono s2.le s2.mu) t2)
end
end DL
/-! New objects. -/
namespace DL
open PySem PySem.Spec L2
section
variable {L : Lx} {g : Gh} {H : Hp} {σ : L2.St} {Γ : Env} {p : Addr} {o : HO}
theorem upd_keep {H : Hp} {p b : Addr} {o u : HO} (n : H p = none) (e : H b = some u) : upd H p o b = some u := by rw [upd_ne (ne_of_none e n)]; exact e
theorem InM.there {mu : Option Addr} {H : Hp} {a : Addr} (h : ∀ m, mu = some m → ∃ b, MOk b H m) (i : InM mu H a) : H a ≠ none := by
  obtain ⟨m, e, h1⟩ := i
  obtain ⟨b, c, l, cs, ls, at_, e1, e2, e3, _⟩ := h m e
  rcases h1 with rfl | ⟨kvs, k, e4, hm⟩
  · rw [e1]; simp
  · rw [e1] at e4
    cases e4
    simp only [List.mem_cons, Prod.mk.injEq, V.ref.injEq, List.not_mem_nil, or_false] at hm
    rcases hm with ⟨_, rfl⟩ | ⟨_, rfl⟩ | ⟨_, h⟩
    · rw [e2]; simp
    · rw [e3]; simp
    · cases h
theorem MOk.new {b : Nat} {m : Addr} (n : H p = none) (h : MOk b H m) : MOk b (upd H p o) m := by
  obtain ⟨c, l, cs, ls, at_, e1, e2, e3, r⟩ := h
  exact ⟨c, l, cs, ls, at_, upd_keep n e1, upd_keep n e2, upd_keep n e3, r⟩
theorem InM.new {mu : Option Addr} {a : Addr} (n : H p = none) (h : ∀ m, mu = some m → ∃ b, MOk b H m) (i : InM mu (upd H p o) a) : InM mu H a := by
  obtain ⟨m, e, h1⟩ := i
  refine ⟨m, e, ?_⟩
  rcases h1 with h1 | ⟨kvs, k, e4, hm⟩
  · exact .inl h1
  · obtain ⟨b, c, l, cs, ls, at_, e1, _⟩ := h m e
    rw [upd_keep n e1] at e4
    exact .inr ⟨kvs, k, e1.trans e4, hm⟩
theorem RndOk.ok (r : RndOk g H) : ∀ m, g.mu = some m → ∃ b, MOk b H m := fun m e => ⟨_, r.2 m e⟩
def Gh.put (g : Gh) (p : Addr) (o : HO) : Gh := { g with F := upd g.F p o }
/-- a new object is laid -/
theorem stp_new (r : Rep L Γ g σ H) (n : H p = none) (f : Bool) : Stp L g H (if f then g.put p o else g) (upd H p o) := by
  have nF : g.F p = none := by
    cases e : g.F p with
    | none => rfl
    | some u => rw [r.sub _ _ e] at n; cases n
  have nM : ¬ InM g.mu (upd H p o) p := fun i => (InM.there r.rnd.ok (i.new n r.rnd.ok)) n
  have emu : (if f then g.put p o else g).mu = g.mu := by cases f <;> rfl
  have ebud : (if f then g.put p o else g).bud = g.bud := by cases f <;> rfl
  have hF : ∀ a u, (if f then g.put p o else g).F a = some u → (a = p ∧ u = o) ∨ g.F a = some u := fun a u e => by
    cases f with
    | false => exact .inr e
    | true =>
      by_cases h : a = p
      · subst h
        have e' : upd g.F a o a = some u := e
        rw [upd_same] at e'
        exact .inl ⟨rfl, (Option.some.inj e').symm⟩
      · have e' : upd g.F p o a = some u := e
        rw [upd_ne h] at e'
        exact .inr e'
  refine ⟨fun a u e => ?_, fun m e => emu.trans e, fun a u e => ?_, fun a u e _ nm => ⟨upd_keep n e, fun i => nm (by rw [emu] at i; exact i.new n r.rnd.ok)⟩, fun a h => ⟨?_, fun e => ?_⟩, fun a u e i => ?_, ⟨by rw [ebud, emu]; exact r.rnd.1, fun m e => ?_⟩, Nat.le_of_eq ebud, r.tab.ext fun b u e => upd_keep n e⟩
  · cases f with
    | false => exact e
    | true => exact upd_keep nF e
  · rcases hF a u e with ⟨rfl, rfl⟩ | e
    · exact upd_same
    · exact upd_keep n (r.sub _ _ e)
  · by_cases q : a = p
    · rw [q]; rw [upd_same]; simp
    · rw [upd_ne q]; exact h
  · have q : a ≠ p := fun z => h (by rw [z]; exact n)
    cases f with
    | false => exact e
    | true => exact (upd_ne q).trans e
  · rw [emu] at i
    rcases hF a u e with ⟨rfl, rfl⟩ | e
    · exact nM i
    · exact r.nF _ _ e (i.new n r.rnd.ok)
  · rw [emu] at e
    rw [ebud]
    exact (r.rnd.2 m e).new n
theorem stp_put (r : Rep L Γ g σ H) (n : H p = none) : Stp L g H (g.put p o) (upd H p o) := stp_new r n true
theorem put_F : (g.put p o).F p = some o := upd_same

theorem none_back {g' : Gh} {H' : Hp} {p : Addr} (s : Stp L g H g' H') (n : H' p = none) : H p = none := by
  cases e : H p with
  | none => rfl
  | some o => exact absurd n (s.nf p (by rw [e]; simp)).1
theorem nF_of (r : Rep L Γ g σ H) (n : H p = none) : g.F p = none := by
  cases e : g.F p with
  | none => rfl
  | some u => rw [r.sub _ _ e] at n; cases n
/-- a list that was laid just now -/
theorem FrT.new {g1 : Gh} {H1 : Hp} {vs : List V} {ds : List D} (r1 : Rep L Γ g1 σ H1) (s : Stp L g H g1 H1) (n : H1 p = none) (t : DenL L g1 vs ds) : FrT L H g1 (upd H1 p (.lst vs)) (.ref p) (.lst ds) :=
  ⟨p, vs, ds, rfl, rfl, upd_same, t, nF_of r1 n, fun i => (InM.there r1.rnd.ok (i.new n r1.rnd.ok)) n, none_back s n⟩
/-- it is frozen -/
theorem stp_frz {H₀ : Hp} {g₀ : Gh} {v : V} {d : D} (s : Stp L g₀ H₀ g H) (t : FrT L H₀ g H v d) : ∃ g', Stp L g₀ H₀ g' H ∧ g'.bud = g.bud ∧ Den L g' v d := by
  obtain ⟨p, vs, ds, rfl, rfl, h1, h2, h3, h4, h5⟩ := t
  have le : ∀ a o, g.F a = some o → (g.put p (.lst vs)).F a = some o := fun a o e => upd_keep h3 e
  have hF : ∀ a u, (g.put p (.lst vs)).F a = some u → (a = p ∧ u = .lst vs) ∨ g.F a = some u := fun a u e => by
    by_cases h : a = p
    · subst h
      have e' : upd g.F a (.lst vs) a = some u := e
      rw [upd_same] at e'
      exact .inl ⟨rfl, (Option.some.inj e').symm⟩
    · have e' : upd g.F p (.lst vs) a = some u := e
      rw [upd_ne h] at e'
      exact .inr e'
  refine ⟨g.put p (.lst vs), ⟨fun a o e => le a o (s.le a o e), s.mu, fun a o e => ?_, s.keep, fun a n => ⟨(s.nf a n).1, fun e => ?_⟩, fun a o e => ?_, s.rnd, s.bud, s.tab⟩, rfl, .lst put_F (h2.mono le fun _ e => e)⟩
  · rcases hF a o e with ⟨rfl, rfl⟩ | e
    · exact h1
    · exact s.sub _ _ e
  · have q : a ≠ p := fun z => n (by rw [z]; exact h5)
    exact (upd_ne q).trans ((s.nf a n).2 e)
  · rcases hF a o e with ⟨rfl, rfl⟩ | e
    · exact h4
    · exact s.nm _ _ e
theorem DF.de {X : Cx} {i : IE} {e : Expr} (h : DF L X i e) : DE L X i e := fun W tk => by
  refine PE.imp (h W tk) fun σ H Q ⟨Γ, g, rp, w⟩ => ⟨Γ, g, rp, M.wpB_mono (fun d b k v g' H' s e t => ?_) (fun _ _ x => x) _ _ w⟩
  obtain ⟨g2, s2, e2, t2⟩ := stp_frz s t
  exact k v g2 H' s2 (e2.trans e) t2

/-! displays -/
variable {X : Cx} {W : WX} {is : List IE} {es : List Expr} {pos : Pos}
def iTup (is : List IE) : IE := fun Γ => (evs is Γ).bind fun ds => if ds.length ≤ sizeLine then .ret (.tup ds) else .stuck
def iLst (is : List IE) : IE := fun Γ => (evs is Γ).bind fun ds => if ds.length ≤ sizeLine then .ret (.lst ds) else .stuck
theorem de_tup {x1} (h : DA L X is es) : DE L X (iTup is) (.Tuple es x1 pos) := fun W tk => by
  refine PE.imp (pe_tup (h W tk)) fun σ H Q ⟨Γ, g, rp, w⟩ => RdA.go rp w fun xs H1 ds g1 r1 s t w => ?_

  split at w
  · rename_i z
    refine ⟨by rw [t.length]; exact z, fun p n => w _ _ _ (s.trans (stp_put r1 n)) rfl (.tup (.inl (.inl put_F)) ?_)⟩
    exact t.mono (stp_put r1 n).le (stp_put (o := .tup xs) r1 n).mu
  · exact w.elim
theorem df_lst (h : DA L X is es) : DF L X (iLst is) (.List es pos) := fun W tk => by
  refine PE.imp (pe_lst (h W tk)) fun σ H Q ⟨Γ, g, rp, w⟩ => RdA.go rp w fun xs H1 ds g1 r1 s t w => ?_
  split at w
  · rename_i z
    refine ⟨by rw [t.length]; exact z, fun p n => w _ _ _ (s.trans (stp_new r1 n false)) rfl (FrT.new r1 s n t)⟩
  · exact w.elim
end
end DL
/-! Operators. -/
namespace DL
open PySem PySem.Spec L2

mutual
def D.py : D → PyData
  | .non => .none
  | .bl b => .bool b
  | .int i => .int i
  | .str s => .str s
  | .tup xs => .tuple (D.pyL xs)
  | .lst xs => .list (D.pyL xs)
  | .dct _ | .ins _ _ | .exc _ _ | .ty _ | .clo _ | .rnd | .scr _ => .none
def D.pyL : List D → List PyData
  | [] => []
  | x :: r => D.py x :: D.pyL r
end
mutual
def D.pl : D → Bool
  | .non | .bl _ | .int _ | .str _ => true
  | .tup xs | .lst xs => D.plL xs
  | .dct _ | .ins _ _ | .exc _ _ | .ty _ | .clo _ | .rnd | .scr _ => false
def D.plL : List D → Bool
  | [] => true
  | x :: r => D.pl x && D.plL r
end
mutual
def D.dep : D → Nat
  | .tup xs | .lst xs => D.depL xs + 1
  | .non | .bl _ | .int _ | .str _ | .dct _ | .ins _ _ | .exc _ _ | .ty _ | .clo _ | .rnd | .scr _ => 0
def D.depL : List D → Nat
  | [] => 0
  | x :: r => max (D.dep x) (D.depL r)
end
mutual
theorem D.plain_py : ∀ d : D, d.pl = true → d.py.plain = true
  | .non, _ | .bl _, _ | .int _, _ | .str _, _ => rfl
  | .tup xs, h => by simp only [D.py, PyData.plain]; exact D.plain_pyL xs (by simpa only [D.pl] using h)
  | .lst xs, h => by simp only [D.py, PyData.plain]; exact D.plain_pyL xs (by simpa only [D.pl] using h)
  | .dct _, h | .ins _ _, h | .exc _ _, h | .ty _, h | .clo _, h | .rnd, h | .scr _, h => by simp only [D.pl] at h; cases h
theorem D.plain_pyL : ∀ ds : List D, D.plL ds = true → PyData.plainAll (D.pyL ds) = true
  | [], _ => rfl
  | x :: r, h => by
    simp only [D.plL, Bool.and_eq_true] at h
    simp only [D.pyL, PyData.plainAll, D.plain_py x h.1, D.plain_pyL r h.2, Bool.and_self]
end
mutual
theorem D.depth_py : ∀ d : D, d.py.depth = d.dep
  | .non | .bl _ | .int _ | .str _ | .dct _ | .ins _ _ | .exc _ _ | .ty _ | .clo _ | .rnd | .scr _ => by simp only [D.py, PyData.depth, D.dep]
  | .tup xs => by simp only [D.py, PyData.depth, D.dep, D.depth_pyL xs]
  | .lst xs => by simp only [D.py, PyData.depth, D.dep, D.depth_pyL xs]
theorem D.depth_pyL : ∀ ds : List D, PyData.depthAll (D.pyL ds) = D.depL ds
  | [] => rfl
  | x :: r => by simp only [D.pyL, PyData.depthAll, D.depL, D.depth_py x, D.depth_pyL r]
end

section
variable {L : Lx} {X : Cx} {g : Gh} {H : Hp} {σ : L2.St} {Γ : Env}
theorem rd_sub {F H : Hp} {a : Addr} {o : HO} (h : ∀ a o, F a = some o → H a = some o) (r : Rd F a o) : Rd H a o := rd_mono h r
mutual
theorem Den.dp (sub : ∀ a o, g.F a = some o → H a = some o) : ∀ {v : V} {d : D}, Den L g v d → d.pl = true → Dp L.K H v d.py
  | _, _, .non, _ => .non
  | _, _, .bl b, _ => .bl b
  | _, _, .int i, _ => .int i
  | _, _, .str s, _ => .str s
  | _, _, .tup e l, h => by simp only [D.py]; exact .tup (sqT_mono sub e) (DenL.dp sub l (by simpa only [D.pl] using h))
  | _, _, .lst e l, h => by simp only [D.py]; exact (.lst (.inl (.inl (sub _ _ e))) (DenL.dp sub l (by simpa only [D.pl] using h)))
  | _, _, .dK _ _ _, h => by simp only [D.pl] at h; cases h
  | _, _, .dT _ _ _, h => by simp only [D.pl] at h; cases h
  | _, _, .ins _ _ _, h => by simp only [D.pl] at h; cases h
  | _, _, .exc _ _ _ _, h => by simp only [D.pl] at h; cases h
  | _, _, .ty _, h => by simp only [D.pl] at h; cases h
  | _, _, .clo _, h => by simp only [D.pl] at h; cases h
  | _, _, .rnd _, h => by simp only [D.pl] at h; cases h
  | _, _, .scr _, h => by simp only [D.pl] at h; cases h
theorem DenL.dp (sub : ∀ a o, g.F a = some o → H a = some o) : ∀ {vs : List V} {ds : List D}, DenL L g vs ds → D.plL ds = true → DpAll L.K H vs (D.pyL ds)
  | _, _, .nil, _ => .nil
  | _, _, .cons a l, h => by
    simp only [D.plL, Bool.and_eq_true] at h
    exact .cons (Den.dp sub a h.1) (DenL.dp sub l h.2)
end
theorem Vw.dp (sub : ∀ a o, g.F a = some o → H a = some o) {v : V} {d : D} (h : Vw L g H v d) (p : d.pl = true) : Dp L.K H v d.py := by
  rcases h with h | ⟨q, vs, ds, rfl, rfl, h1, h2, _⟩ | ⟨q, kvs, rfl, rfl, _, _⟩
  · exact h.dp sub p
  · simp only [D.py]
    exact .lst (.inl (.inl h1)) (h2.dp sub (by simpa only [D.pl] using p))
  · simp only [D.pl] at p
    cases p

/-- a two-place operation on values, by what it says of data; it raises nothing -/
def RdO (L : Lx) (f : D → D → Option D) : R2 := fun x y H Q => ∃ Γ g σ dx dy d, Rep L Γ g σ H ∧ Vw L g H x dx ∧ Vw L g H y dy ∧ f dx dy = some d ∧ Wn L DenT g H Q d g.bud
def OpD (L : Lx) (X : Cx) (s : Value → Value → Sem Value) (f : D → D → Option D) : Prop := OpR X s (RdO L f)
def orD (f f' : D → D → Option D) : D → D → Option D := fun x y => match f x y with
  | some d => some d
  | none => f' x y
theorem OpD.or {s : Value → Value → Sem Value} {f f' : D → D → Option D} (h : OpD L X s f) (h' : OpD L X s f') : OpD L X s (orD f f') := by
  intro pins st σ H x y v u Q I rx ry ⟨Γ, g, σ', dx, dy, d, rp, vx, vy, e, w⟩
  unfold orD at e
  split at e
  · rename_i d' e'
    cases e
    exact h pins st σ H x y v u Q I rx ry ⟨Γ, g, σ', dx, dy, d, rp, vx, vy, e', w⟩
  · exact h' pins st σ H x y v u Q I rx ry ⟨Γ, g, σ', dx, dy, d, rp, vx, vy, e, w⟩
def iOp (f : D → D → Option D) (i j : IE) : IE := fun Γ => (i Γ).bind fun x => (j Γ).bind fun y => match f x y with
  | some d => .ret d
  | none => .stuck
theorem Rd1.op {T T' : TT1} {i j : IE} {f : D → D → Option D} {W : WX} {Q : VK} (hT : ∀ H₀ g H v d, T L H₀ g H v d → Vw L g H v d) (hT' : ∀ H₀ g H v d, T' L H₀ g H v d → Vw L g H v d) (h : Rd1 L DenT W (iOp f i j) σ H Q) : tOp (RdO L f) (Rd1 L T W i) (Rd1 L T' W j) σ H Q := by
  obtain ⟨Γ, g, rp, w⟩ := h
  refine Rd1.go rp w fun x H1 dx g1 r1 s1 t1 w => Rd1.go r1 w fun y H2 dy g2 r2 s2 t2 w => ?_
  skip
  split at w
  · rename_i d e
    exact ⟨Γ, g2, σ, dx, dy, d, r2, (hT _ _ _ _ _ t1).step s2, hT' _ _ _ _ _ t2, e, fun v g' H' s eb t => w v g' H' (s1.trans (s2.trans s)) eb t⟩
  · exact w.elim
theorem de_bin {o : Operator} {f : D → D → Option D} {i j : IE} {a b : Expr} {pos : Pos} (ho : OpD L X (binaryOp o) f) (ha : DV L X i a) (hb : DV L X j b) : DE L X (iOp f i j) (.BinOp a o b pos) := fun W tk =>
  PE.imp (pe_op ho (ha W tk) (hb W tk)) fun σ H Q h => h.op (fun _ _ _ _ _ t => t) fun _ _ _ _ _ t => t
theorem de_cmp {o : CmpOp} {f : D → D → Option D} {i j : IE} {a b : Expr} {pos : Pos} (ho : OpD L X (compareOp o) f) (ha : DV L X i a) (hb : DV L X j b) (hm : behindInMarks o b = false) : DE L X (iOp f i j) (.Compare a [o] [b] pos) := fun W tk =>
  PE.imp (pe_cmpR ho (ha W tk) (hb W tk) hm) fun σ H Q h => h.op (fun _ _ _ _ _ t => t) fun _ _ _ _ _ t => t

/-! the operations -/
theorem Vw.int {v : V} {i : Int} (h : Vw L g H v (.int i)) : v = .int i := by
  rcases h with h | ⟨_, _, _, _, e, _⟩ | ⟨_, _, _, e, _⟩
  · cases h; rfl
  · cases e
  · cases e
theorem Vw.str {v : V} {i : Str} (h : Vw L g H v (.str i)) : v = .str i := by
  rcases h with h | ⟨_, _, _, _, e, _⟩ | ⟨_, _, _, e, _⟩
  · cases h; rfl
  · cases e
  · cases e
theorem Vw.bl {v : V} {i : Bool} (h : Vw L g H v (.bl i)) : v = .bl i := by
  rcases h with h | ⟨_, _, _, _, e, _⟩ | ⟨_, _, _, e, _⟩
  · cases h; rfl
  · cases e
  · cases e
theorem Vw.tup {v : V} {ds : List D} (sub : ∀ a o, g.F a = some o → H a = some o) (h : Vw L g H v (.tup ds)) : ∃ a vs, v = .ref a ∧ SqT L.K H a vs ∧ DenL L g vs ds ∧ Den L g v (.tup ds) := by
  rcases h with h | ⟨_, _, _, _, e, _⟩ | ⟨_, _, _, e, _⟩
  · cases id h with
    | tup e l => exact ⟨_, _, rfl, sqT_mono sub e, l, h⟩
  · cases e
  · cases e
theorem Vw.lst {v : V} {ds : List D} (sub : ∀ a o, g.F a = some o → H a = some o) (h : Vw L g H v (.lst ds)) : ∃ a vs, v = .ref a ∧ H a = some (.lst vs) ∧ DenL L g vs ds := by
  rcases h with h | ⟨p, vs, ds', rfl, e, h1, h2, _⟩ | ⟨_, _, _, e, _⟩
  · cases id h with
    | lst e l => exact ⟨_, _, rfl, sub _ _ e, l⟩
  · cases e
    exact ⟨p, vs, rfl, h1, h2⟩
  · cases e
def fII (c : Int → Int → Bool) (k : Int → Int → D) : D → D → Option D
  | .int i, .int j => if c i j then some (k i j) else none
  | _, _ => none
theorem opd_ii {s : Value → Value → Sem Value} {C : Int → Int → Prop} {k : Int → Int → V} {kd : Int → Int → D} {c : Int → Int → Bool} (h : OpR X s (rI C k)) (hc : ∀ i j, c i j = true → C i j) (hk : ∀ g i j, Den L g (k i j) (kd i j)) : OpD L X s (fII c kd) := by
  intro pins st σ H x y v u Q I rx ry ⟨Γ, g, σ', dx, dy, d, rp, vx, vy, e, w⟩
  unfold fII at e
  split at e
  · split at e
    · rename_i z
      cases e
      cases vx.int
      cases vy.int
      exact h pins st σ H _ _ v u Q I rx ry ⟨_, _, rfl, rfl, hc _ _ z, w _ g H (Stp.refl rp) rfl (hk g _ _)⟩
    · cases e
  · cases e

def fAddI := fII (fun _ _ => true) fun i j => .int (i + j)
def fSubI := fII (fun _ _ => true) fun i j => .int (i - j)
theorem od_addI : OpD L X (binaryOp .Add) fAddI := opd_ii (C := fun _ _ => True) (k := fun i j => .int (i + j)) (fun pins s σ H x y v u Q I rx ry ⟨i, j, e1, e2, _, q⟩ => op_add pins s σ H x y v u Q I rx ry ⟨i, j, e1, e2, q⟩) (fun _ _ _ => trivial) fun _ _ _ => .int _
theorem od_subI : OpD L X (binaryOp .Sub) fSubI := opd_ii (C := fun _ _ => True) (k := fun i j => .int (i - j)) (fun pins s σ H x y v u Q I rx ry ⟨i, j, e1, e2, _, q⟩ => op_sub pins s σ H x y v u Q I rx ry ⟨i, j, e1, e2, q⟩) (fun _ _ _ => trivial) fun _ _ _ => .int _
def fMulI := fII (fun i j => decide (i.natAbs.log2 + j.natAbs.log2 < 1000000)) fun i j => .int (i * j)
theorem od_mulI : OpD L X (binaryOp .Mult) fMulI := opd_ii op_mulW (fun _ _ h => by simpa [CMulW] using h) fun _ _ _ => .int _
def fDivI := fII (fun _ j => decide (0 < j) && decide (j.natAbs.log2 < 9000)) fun i j => .int (i / j)
theorem od_divI : OpD L X (binaryOp .FloorDiv) fDivI := opd_ii op_fdivW (fun _ _ h => by simpa [CDivW] using h) fun _ _ _ => .int _
def fModI := fII (fun _ j => decide (0 < j)) fun i j => .int (i % j)
theorem od_modI : OpD L X (binaryOp .Mod) fModI := opd_ii op_mod (fun _ _ h => of_decide_eq_true h) fun _ _ _ => .int _
def fLtI := fII (fun _ _ => true) fun i j => .bl (decide (i < j))
def fLeI := fII (fun _ _ => true) fun i j => .bl (decide (i ≤ j))
def fGtI := fII (fun _ _ => true) fun i j => .bl (decide (j < i))
def fGeI := fII (fun _ _ => true) fun i j => .bl (decide (j ≤ i))
theorem od_ltI : OpD L X (compareOp .Lt) fLtI := opd_ii (C := fun _ _ => True) (k := fun i j => .bl (decide (i < j))) (fun pins s σ H x y v u Q I rx ry ⟨i, j, e1, e2, _, q⟩ => op_lt pins s σ H x y v u Q I rx ry ⟨i, j, e1, e2, q⟩) (fun _ _ _ => trivial) fun _ _ _ => .bl _
theorem od_leI : OpD L X (compareOp .LtE) fLeI := opd_ii (C := fun _ _ => True) (k := fun i j => .bl (decide (i ≤ j))) (fun pins s σ H x y v u Q I rx ry ⟨i, j, e1, e2, _, q⟩ => op_le pins s σ H x y v u Q I rx ry ⟨i, j, e1, e2, q⟩) (fun _ _ _ => trivial) fun _ _ _ => .bl _
theorem od_gtI : OpD L X (compareOp .Gt) fGtI := opd_ii (C := fun _ _ => True) (k := fun i j => .bl (decide (j < i))) (fun pins s σ H x y v u Q I rx ry ⟨i, j, e1, e2, _, q⟩ => op_gt pins s σ H x y v u Q I rx ry ⟨i, j, e1, e2, q⟩) (fun _ _ _ => trivial) fun _ _ _ => .bl _
theorem od_geI : OpD L X (compareOp .GtE) fGeI := opd_ii (C := fun _ _ => True) (k := fun i j => .bl (decide (j ≤ i))) (fun pins s σ H x y v u Q I rx ry ⟨i, j, e1, e2, _, q⟩ => op_ge pins s σ H x y v u Q I rx ry ⟨i, j, e1, e2, q⟩) (fun _ _ _ => trivial) fun _ _ _ => .bl _
def fAddS : D → D → Option D
  | .str x, .str y => if x.length + y.length ≤ sizeLine then some (.str (x ++ y)) else none
  | _, _ => none
theorem od_addS : OpD L X (binaryOp .Add) fAddS := by
  intro pins st σ H x y v u Q I rx ry ⟨Γ, g, σ', dx, dy, d, rp, vx, vy, e, w⟩
  unfold fAddS at e
  split at e
  · split at e
    · rename_i z
      cases e
      cases vx.str
      cases vy.str
      exact op_add_str pins st σ H _ _ v u Q I rx ry ⟨_, _, rfl, rfl, z, w _ g H (Stp.refl rp) rfl (.str _)⟩
    · cases e
  · cases e
def fAddL : D → D → Option D
  | .lst x, .lst y => if x.length + y.length ≤ sizeLine then some (.lst (x ++ y)) else none
  | _, _ => none
theorem od_addL : OpD L X (binaryOp .Add) fAddL := by
  intro pins st σ H x y v u Q I rx ry ⟨Γ, g, σ', dx, dy, d, rp, vx, vy, e, w⟩
  unfold fAddL at e
  split at e
  · split at e
    · rename_i z
      cases e
      obtain ⟨a, vs, rfl, h1, l1⟩ := vx.lst rp.sub
      obtain ⟨b, ws, rfl, h2, l2⟩ := vy.lst rp.sub
      refine op_cat pins st σ H _ _ v u Q I rx ry ⟨a, b, vs, ws, rfl, rfl, h1, h2, by rw [l1.length, l2.length]; exact z, fun p n => ?_⟩
      have s := stp_put (o := .lst (vs ++ ws)) rp n
      exact w _ _ _ s rfl (.lst put_F ((l1.append l2).mono s.le s.mu))
    · cases e
  · cases e
def fAddT : D → D → Option D
  | .tup x, .tup y => if x.length + y.length ≤ sizeLine then some (.tup (x ++ y)) else none
  | _, _ => none
theorem od_addT (hK : X.K = L.K) : OpD L X (binaryOp .Add) fAddT := by
  intro pins st σ H x y v u Q I rx ry ⟨Γ, g, σ', dx, dy, d, rp, vx, vy, e, w⟩
  unfold fAddT at e
  split at e
  · split at e
    · rename_i z
      cases e
      obtain ⟨a, vs, rfl, h1, l1, d1⟩ := vx.tup rp.sub
      obtain ⟨b, ws, rfl, h2, l2, d2⟩ := vy.tup rp.sub
      rw [← hK] at h1 h2
      refine op_catA pins st σ H _ _ v u Q I rx ry ⟨a, b, vs, ws, rfl, rfl, h1, h2, by rw [l1.length, l2.length]; exact z, fun q => ?_, fun _ q => ?_, fun _ _ p n => ?_⟩
      · subst q
        cases l1
        exact w _ g H (Stp.refl rp) rfl d2
      · subst q
        cases l2
        rw [List.append_nil] at w
        exact w _ g H (Stp.refl rp) rfl d1
      · have s := stp_put (o := .tup (vs ++ ws)) rp n
        exact w _ _ _ s rfl (.tup (.inl (.inl put_F)) ((l1.append l2).mono s.le s.mu))
    · cases e
  · cases e
/-- == of data -/
def dEq (x y : D) : Bool := PyData.eqv x.py y.py
def okEq (x y : D) : Bool := x.pl && y.pl && decide (min x.dep y.dep ≤ 60)
def fEqD (x y : D) : Option D := if okEq x y then some (.bl (dEq x y)) else none
def fNeD (x y : D) : Option D := if okEq x y then some (.bl (!dEq x y)) else none
theorem od_eqD (hK : X.K = L.K) (hu : X.A.units + 64 < cLine) : OpD L X (compareOp .Eq) fEqD := by
  intro pins st σ H x y v u Q I rx ry ⟨Γ, g, σ', dx, dy, d, rp, vx, vy, e, w⟩
  unfold fEqD at e
  split at e
  · rename_i z
    cases e
    unfold okEq at z
    simp only [Bool.and_eq_true, decide_eq_true_eq] at z
    obtain ⟨as, r1⟩ := Dp.reads I dx.py x v (hK ▸ vx.dp rp.sub z.1.1) rx
    obtain ⟨bs, r2⟩ := Dp.reads I dy.py y u (hK ▸ vy.dp rp.sub z.1.2) ry
    exact SeqAt.eq_plain r1 r2 (D.plain_py _ z.1.1) (D.plain_py _ z.1.2) (by rw [D.depth_py, D.depth_py]; omega) ⟨.bl _, H, I, rfl, w _ g H (Stp.refl rp) rfl (.bl _)⟩
  · cases e
theorem od_neD (hK : X.K = L.K) (hu : X.A.units + 64 < cLine) : OpD L X (compareOp .NotEq) fNeD := by
  intro pins st σ H x y v u Q I rx ry ⟨Γ, g, σ', dx, dy, d, rp, vx, vy, e, w⟩
  unfold fNeD at e
  split at e
  · rename_i z
    cases e
    unfold okEq at z
    simp only [Bool.and_eq_true, decide_eq_true_eq] at z
    obtain ⟨as, r1⟩ := Dp.reads I dx.py x v (hK ▸ vx.dp rp.sub z.1.1) rx
    obtain ⟨bs, r2⟩ := Dp.reads I dy.py y u (hK ▸ vy.dp rp.sub z.1.2) ry
    exact SeqAt.ne_plain r1 r2 (D.plain_py _ z.1.1) (D.plain_py _ z.1.2) (by rw [D.depth_py, D.depth_py]; omega) ⟨.bl _, H, I, rfl, w _ g H (Stp.refl rp) rfl (.bl _)⟩
  · cases e
end
end DL
/-! Statements. -/
namespace DL
open PySem PySem.Spec L2

inductive Fl where
  | nx (Γ : Env) | bk (Γ : Env) | ct (Γ : Env) | rt (d : D)
abbrev IS := Env → M Fl
abbrev IT := Env → M Bool
/-- the ghost grows -/
structure FLe (g g' : Gh) : Prop where
  F : ∀ a o, g.F a = some o → g'.F a = some o
  mu : ∀ m, g.mu = some m → g'.mu = some m
theorem FLe.refl (g : Gh) : FLe g g := ⟨fun _ _ e => e, fun _ e => e⟩
theorem FLe.trans {g g' g'' : Gh} (a : FLe g g') (b : FLe g' g'') : FLe g g'' := ⟨fun x o e => b.F x o (a.F x o e), fun m e => b.mu m (a.mu m e)⟩
section
variable {L : Lx} {X : Cx} {g0 g g' : Gh} {H0 H H' : Hp} {σ σ' : L2.St} {Γ Γ' : Env} {W : WX}
theorem Stp.fle (s : Stp L g H g' H') : FLe g g' := ⟨s.le, s.mu⟩

structure RepS (L : Lx) (g0 : Gh) (H0 : Hp) (Γ : Env) (g : Gh) (σ : L2.St) (H : Hp) : Prop where
  rep : Rep L Γ g σ H
  base : Stp L g0 H0 g H
  new : ∀ (i : Nat) (b : B) (p : Addr), Γ[i]? = some (some b) → b.own = true → σ[i]? = some (some (.ref p)) → H0 p = none
theorem RepS.step (r : RepS L g0 H0 Γ g σ H) (s : Stp L g H g' H') : RepS L g0 H0 Γ g' σ H' := ⟨r.rep.step s, r.base.trans s, r.new⟩
theorem set_at {n : Nat} {d : D} {i : Nat} {b : B} {v : V} (hl : Γ.length = σ.length) (e : (Γ.set n (some (.fz d)))[i]? = some (some b)) :
    (i = n ∧ b = .fz d ∧ (σ.set n (some v))[i]? = some (some v)) ∨ (i ≠ n ∧ Γ[i]? = some (some b) ∧ (σ.set n (some v))[i]? = σ[i]?) := by
  by_cases h : i = n
  · subst h
    by_cases hl' : i < Γ.length
    · rw [List.getElem?_set_self hl'] at e
      cases e
      exact .inl ⟨rfl, rfl, List.getElem?_set_self (by rw [← hl]; exact hl')⟩
    · rw [List.getElem?_eq_none (by simpa using hl')] at e; cases e
  · rw [List.getElem?_set_ne (Ne.symm h)] at e
    exact .inr ⟨h, e, List.getElem?_set_ne (Ne.symm h)⟩
/-- a slot is given frozen data -/
theorem Rep.set {n : Nat} {v : V} {d : D} (r : Rep L Γ g σ H) (h : Den L g v d) : Rep L (Γ.set n (some (.fz d))) g (σ.set n (some v)) H := by
  refine ⟨r.sub, r.rnd, r.tab, fun i b e => ?_, fun i j b c p e1 e2 o1 o2 s1 s2 => ?_, r.nF, by rw [List.length_set, List.length_set]; exact r.len⟩
  · rcases set_at (v := v) r.len e with ⟨rfl, rfl, s⟩ | ⟨_, e, s⟩
    · exact ⟨_, s, v, rfl, h⟩
    · rw [s]; exact r.loc i b e
  · rcases set_at (v := v) r.len e1 with ⟨_, rfl, _⟩ | ⟨_, e1, t1⟩
    · cases o1
    rcases set_at (v := v) r.len e2 with ⟨_, rfl, _⟩ | ⟨_, e2, t2⟩
    · cases o2
    exact r.dis i j b c p e1 e2 o1 o2 (t1 ▸ s1) (t2 ▸ s2)
theorem RepS.set {n : Nat} {v : V} {d : D} (r : RepS L g0 H0 Γ g σ H) (h : Den L g v d) : RepS L g0 H0 (Γ.set n (some (.fz d))) g (σ.set n (some v)) H :=
  ⟨r.rep.set h, r.base, fun i b p e o s => by
    rcases set_at (v := v) r.rep.len e with ⟨_, rfl, _⟩ | ⟨_, e, t⟩
    · cases o
    · exact r.new i b p e o (t ▸ s)⟩

/-- what is wanted behind a statement's run; gs: the ghost where it began -/
def FlT (L : Lx) (g0 : Gh) (H0 : Hp) (gs : Gh) (Dn : Ends) : Fl → Nat → Prop
  | .nx Γ, b => ∀ g σ H, RepS L g0 H0 Γ g σ H → FLe gs g → g.bud = b → Dn.nx σ H
  | .bk Γ, b => ∀ g σ H, RepS L g0 H0 Γ g σ H → FLe gs g → g.bud = b → Dn.bk σ H
  | .ct Γ, b => ∀ g σ H, RepS L g0 H0 Γ g σ H → FLe gs g → g.bud = b → Dn.ct σ H
  | .rt d, b => ∀ g v H, Stp L g0 H0 g H → g.bud = b → Den L g v d → Dn.rt v H
theorem FlT.of {gs gs' : Gh} {Dn : Ends} {fl : Fl} {b : Nat} (h : FlT L g0 H0 gs Dn fl b) (f : FLe gs gs') : FlT L g0 H0 gs' Dn fl b := by
  cases fl with
  | nx Γ => exact fun g σ H r k e => h g σ H r (f.trans k) e
  | bk Γ => exact fun g σ H r k e => h g σ H r (f.trans k) e
  | ct Γ => exact fun g σ H r k e => h g σ H r (f.trans k) e
  | rt d => exact h
def XS (L : Lx) (W : WX) (g0 : Gh) (H0 : Hp) (x : Ex) (b : Nat) : Prop := ∀ cls d g σ H, Stp L g0 H0 g H → g.bud = b → ExAt L g H x cls d → W cls d σ H
def RdS (L : Lx) (W : WX) (g0 : Gh) (H0 : Hp) (s : IS) : TS := fun Dn σ H => ∃ Γ g, RepS L g0 H0 Γ g σ H ∧ (s Γ).wpB g.bud (FlT L g0 H0 g Dn) (XS L W g0 H0)
def DS (L : Lx) (X : Cx) (s : IS) (st : Stmt) : Prop := ∀ W g0 H0, Takes X W → PS X st (RdS L W g0 H0 s)
def DSs (L : Lx) (X : Cx) (s : IS) (sts : List Stmt) : Prop := ∀ W g0 H0, Takes X W → PSs X sts (RdS L W g0 H0 s)
theorem PS.imp {st : Stmt} {t t' : TS} (h : PS X st t) (k : ∀ Dn σ H, t' Dn σ H → t Dn σ H) : PS X st t' := ⟨fun pins s σ H Dn I r => h.run pins s σ H Dn I (k _ _ _ r)⟩
theorem PSs.imp {st : List Stmt} {t t' : TS} (h : PSs X st t) (k : ∀ Dn σ H, t' Dn σ H → t Dn σ H) : PSs X st t' := ⟨fun pins s σ H Dn I r => h.run pins s σ H Dn I (k _ _ _ r)⟩
theorem XS.xw {x : Ex} {b : Nat} (s : Stp L g0 H0 g H) (h : XS L W g0 H0 x b) : XW L W g σ H x b := fun cls d g' H' s' e q => h cls d g' σ H' (s.trans s') e q
/-- an expression's run, then on -/
theorem Rd1.goS {T : TT1} {i : IE} {f : D → M Fl} {R : Fl → Nat → Prop} {Q : VK} (r : RepS L g0 H0 Γ g σ H) (h : ((i Γ).bind f).wpB g.bud R (XS L W g0 H0))
    (k : ∀ v H1 d g1, RepS L g0 H0 Γ g1 σ H1 → Stp L g H g1 H1 → T L H g1 H1 v d → (f d).wpB g1.bud R (XS L W g0 H0) → Q v H1) : Rd1 L T W i σ H Q := by
  refine ⟨Γ, g, r.rep, M.wpB_mono (fun d b h v g' H' s e t => ?_) (fun _ _ x => x.xw r.base) _ _ ((M.wpB_bind _ _).mp h)⟩
  subst e
  exact k v H' d g' (r.step s) s t h

/-! small statements -/
variable {e : Expr} {i : IE} {pos : Pos} {s t : IS} {st : Stmt} {sts : List Stmt}
def sSet (n : Nat) (i : IE) : IS := fun Γ => (i Γ).bind fun d => .ret (.nx (Γ.set n (some (.fz d))))
def sRet (i : IE) : IS := fun Γ => (i Γ).bind fun d => .ret (.rt d)
def sExpr (i : IE) : IS := fun Γ => (i Γ).bind fun _ => .ret (.nx Γ)
def sPass : IS := fun Γ => .ret (.nx Γ)
def sSeq (s t : IS) : IS := fun Γ => (s Γ).bind fun fl => match fl with
  | .nx Γ' => t Γ'
  | f => .ret f
theorem ds_set {n : Nat} {x : Str} {pos' : Pos} (hN : X.N.Nodup) (hi : X.N[n]? = some x) (hx : Loc X.env.scope x) (h : DE L X i e) (hs : swapsWith e (some (.Name x pos')) pos.line X.env = pure false := by rfl)
    (hf : X.fn x = true ∨ X.env.scope.names.lookup x = some .local := by first | exact .inl rfl | exact .inr rfl) : DS L X (sSet n i) (.Assign [.Name x pos'] e pos) := fun W g0 H0 tk => by
  refine PS.imp (ps_set hN hi hx (h W tk) hs hf) fun Dn σ H ⟨Γ, g, r, w⟩ => Rd1.goS r w fun v H1 d g1 r1 s t w => ?_
  exact w g1 _ H1 (r1.set t) s.fle rfl
theorem ds_ret (h : DE L X i e) : DS L X (sRet i) (.Return (some e) pos) := fun W g0 H0 tk => by
  refine PS.imp (ps_ret (h W tk)) fun Dn σ H ⟨Γ, g, r, w⟩ => Rd1.goS r w fun v H1 d g1 r1 s t w => ?_
  exact w g1 v H1 r1.base rfl t
def sRetN : IS := fun _ => .ret (.rt .non)
theorem ds_retN : DS L X sRetN (.Return none pos) := fun W g0 H0 tk => PS.imp ps_retN fun Dn σ H ⟨Γ, g, r, w⟩ => w g .non H r.base rfl .non
theorem ds_expr (h : DV L X i e) (hs : swapsWith e none pos.line X.env = pure false := by rfl) : DS L X (sExpr i) (.Expr e pos) := fun W g0 H0 tk => by
  refine PS.imp (ps_expr (h W tk) hs) fun Dn σ H ⟨Γ, g, r, w⟩ => Rd1.goS r w fun v H1 d g1 r1 s t w => ?_
  exact w g1 σ H1 r1 s.fle rfl
theorem ds_pass : DS L X sPass (.Pass pos) := fun W g0 H0 tk => PS.imp ps_pass fun Dn σ H ⟨Γ, g, r, w⟩ => w g σ H r (FLe.refl g) rfl
theorem ds_doc {x j} {pos pos' : Pos} : DS L X sPass (.Expr (.Constant (.str x) j pos) pos') := fun W g0 H0 tk => PS.imp ps_doc fun Dn σ H ⟨Γ, g, r, w⟩ => w g σ H r (FLe.refl g) rfl
theorem dss_nil : DSs L X sPass [] := fun W g0 H0 tk => PSs.imp pss_nil fun Dn σ H ⟨Γ, g, r, w⟩ => w g σ H r (FLe.refl g) rfl
theorem dss_one (h : DS L X s st) : DSs L X s [st] := fun W g0 H0 tk => pss_one (h W g0 H0 tk)
theorem dss_cons (h : DS L X s st) (hr : DSs L X t sts) : DSs L X (sSeq s t) (st :: sts) := fun W g0 H0 tk => by
  refine PSs.imp (pss_cons (h W g0 H0 tk) (hr W g0 H0 tk)) fun Dn σ H ⟨Γ, g, r, w⟩ => ⟨Γ, g, r, M.wpB_mono (fun fl b k => ?_) (fun _ _ x => x) _ _ ((M.wpB_bind _ _).mp w)⟩
  cases fl with
  | nx Γ' =>
    intro g' σ' H' r' f e
    subst e
    exact ⟨Γ', g', r', M.wpB_mono (fun _ _ z => z.of f) (fun _ _ x => x) _ _ k⟩
  | bk Γ' => exact k
  | ct Γ' => exact k
  | rt d => exact k
def sBrk : IS := fun Γ => .ret (.bk Γ)
def sCnt : IS := fun Γ => .ret (.ct Γ)
theorem ds_brk : DS L X sBrk (.Break pos) := fun W g0 H0 tk => PS.imp ps_break fun Dn σ H ⟨Γ, g, r, w⟩ => w g σ H r (FLe.refl g) rfl
theorem ds_cnt : DS L X sCnt (.Continue pos) := fun W g0 H0 tk => PS.imp ps_continue fun Dn σ H ⟨Γ, g, r, w⟩ => w g σ H r (FLe.refl g) rfl

/-! tests -/
def RdT (L : Lx) (W : WX) (t : IT) : TT := fun σ H Q => ∃ Γ g, Rep L Γ g σ H ∧ (t Γ).wpB g.bud (fun c b => ∀ g' H', Stp L g H g' H' → g'.bud = b → Q c H') (XW L W g σ H)
def DT (L : Lx) (X : Cx) (t : IT) (e : Expr) : Prop := ∀ W, Takes X W → PT X e (RdT L W t)
theorem PT.imp {e : Expr} {t t' : TT} (h : PT X e t) (k : ∀ σ H Q, t' σ H Q → t σ H Q) : PT X e t' := ⟨fun pins s σ H Q I r => h.run pins s σ H Q I (k _ _ _ r)⟩
def asB (i : IE) : IT := fun Γ => (i Γ).bind fun d => match d with
  | .bl k => .ret k
  | _ => .stuck
theorem dt_val (h : DE L X i e) (he : ∀ whole, isTrue e X.env whole = (do let v ← whole; standAt e.pos; holding [v] (truthy v)) := by intro _; rfl) : DT L X (asB i) e := fun W tk => by
  refine PT.imp (pt_val (h W tk) he) fun σ H Q ⟨Γ, g, r, w⟩ => Rd1.go r w fun v H1 d g1 r1 s t w => ?_
  cases d with
  | bl k =>
    cases t
    exact ⟨k, rfl, w g1 H1 s rfl⟩
  | _ => exact w.elim
theorem dt_cmp {o : CmpOp} {f : D → D → Option D} {i j : IE} {a b : Expr} (ho : OpD L X (compareOp o) f) (ha : DV L X i a) (hb : DV L X j b) (hm : behindInMarks o b = false) : DT L X (asB (iOp f i j)) (.Compare a [o] [b] pos) := fun W tk => by
  refine PT.imp (pt_cmpR ho (ha W tk) (hb W tk) hm) fun σ H Q ⟨Γ, g, r, w⟩ => Rd1.op (fun _ _ _ _ _ t => t) (fun _ _ _ _ _ t => t) ⟨Γ, g, r, M.wpB_mono (fun d b k v g' H' s e t => ?_) (fun _ _ x => x) _ _ ((M.wpB_bind _ _).mp w)⟩
  cases d with
  | bl c =>
    cases t
    exact ⟨c, rfl, k g' H' s e⟩
  | _ => exact k.elim
def notB (t : IT) : IT := fun Γ => (t Γ).bind fun c => .ret (!c)
theorem dt_not {t : IT} (h : DT L X t e) : DT L X (notB t) (.UnaryOp .Not e pos) := fun W tk =>
  PT.imp (pt_not (h W tk)) fun σ H Q ⟨Γ, g, r, w⟩ => ⟨Γ, g, r, (M.wpB_bind _ _).mp w⟩
def DW (L : Lx) (X : Cx) (t : IT) (e : Expr) : Prop := ∀ W, Takes X W → PW X e (RdT L W t)
theorem PW.imp {e : Expr} {t t' : TT} (h : PW X e t) (k : ∀ σ H Q, t' σ H Q → t σ H Q) : PW X e t' := ⟨fun wh pins s σ H Q I r => h.run wh pins s σ H Q I (k _ _ _ r)⟩
def andB (t u : IT) : IT := fun Γ => (t Γ).bind fun c => if c = true then u Γ else .ret false
def orB (t u : IT) : IT := fun Γ => (t Γ).bind fun c => if c = true then .ret true else u Γ
theorem RdT.go {t : IT} {f : Bool → M Bool} {Q : Bool → Hp → Prop} {R : Bool → Nat → Prop} (r : Rep L Γ g σ H) (h : ((t Γ).bind f).wpB g.bud R (XW L W g σ H))
    (k : ∀ c H1 g1, Rep L Γ g1 σ H1 → Stp L g H g1 H1 → (f c).wpB g1.bud R (XW L W g1 σ H1) → Q c H1) : RdT L W t σ H Q := by
  refine ⟨Γ, g, r, M.wpB_mono (fun c b h g' H' s e => ?_) (fun _ _ x => x) _ _ ((M.wpB_bind _ _).mp h)⟩
  subst e
  exact k c H' g' (r.step s) s (M.wpB_mono (fun _ _ x => x) (fun _ _ x => x.of s) _ _ h)
theorem dw_and1 {t : IT} {a : Expr} (h : DT L X t a) : DW L X t (.BoolOp .And [a] pos) := fun W tk => pw_and1 (h W tk)
theorem dw_or1 {t : IT} {a : Expr} (h : DT L X t a) : DW L X t (.BoolOp .Or [a] pos) := fun W tk => pw_or1 (h W tk)
theorem dw_and {t u : IT} {a b : Expr} {rest : List Expr} (h : DT L X t a) (h2 : DW L X u (.BoolOp .And (b :: rest) pos)) : DW L X (andB t u) (.BoolOp .And (a :: b :: rest) pos) := fun W tk => by
  refine PW.imp (pw_and (h W tk) (h2 W tk)) fun σ H Q ⟨Γ, g, r, w⟩ => RdT.go r w fun c H1 g1 r1 s w => ?_
  cases c with
  | true => exact iteT ⟨Γ, g1, r1, M.wpB_mono (fun c b k g' H' s' e => k g' H' (s.trans s') e) (fun _ _ x => x) _ _ w⟩
  | false => exact iteF (w g1 H1 s rfl)
theorem dw_or {t u : IT} {a b : Expr} {rest : List Expr} (h : DT L X t a) (h2 : DW L X u (.BoolOp .Or (b :: rest) pos)) : DW L X (orB t u) (.BoolOp .Or (a :: b :: rest) pos) := fun W tk => by
  refine PW.imp (pw_or (h W tk) (h2 W tk)) fun σ H Q ⟨Γ, g, r, w⟩ => RdT.go r w fun c H1 g1 r1 s w => ?_
  cases c with
  | false => exact iteF ⟨Γ, g1, r1, M.wpB_mono (fun c b k g' H' s' e => k g' H' (s.trans s') e) (fun _ _ x => x) _ _ w⟩
  | true => exact iteT (w g1 H1 s rfl)
theorem DW.dt {t : IT} (h : DW L X t e) : DT L X t e := fun W tk => (h W tk).pt
/-- if -/
def sIf (c : IT) (s t : IS) : IS := fun Γ => (c Γ).bind fun b => if b = true then s Γ else t Γ
theorem ds_if {c : IT} {ce : Expr} {sa sb : List Stmt} (hc : DT L X c ce) (ha : DSs L X s sa) (hb : DSs L X t sb) : DS L X (sIf c s t) (.If ce sa sb pos) := fun W g0 H0 tk => by
  refine PS.imp (ps_if (hc W tk) (ha W g0 H0 tk) (hb W g0 H0 tk)) fun Dn σ H ⟨Γ, g, r, w⟩ => ⟨Γ, g, r.rep, M.wpB_mono (fun c b k g' H' sp e => ?_) (fun _ _ x => x.xw r.base) _ _ ((M.wpB_bind _ _).mp w)⟩
  subst e
  cases c with
  | true => exact iteT ⟨Γ, g', r.step sp, M.wpB_mono (fun _ _ z => z.of sp.fle) (fun _ _ x => x) _ _ k⟩
  | false => exact iteF ⟨Γ, g', r.step sp, M.wpB_mono (fun _ _ z => z.of sp.fle) (fun _ _ x => x) _ _ k⟩
/-- a if c else b; and, or as values -/
def iIf (c : IT) (i j : IE) : IE := fun Γ => (c Γ).bind fun b => if b = true then i Γ else j Γ
theorem de_if {c : IT} {i j : IE} {ce a b : Expr} (hc : DT L X c ce) (ha : DE L X i a) (hb : DE L X j b) : DE L X (iIf c i j) (.IfExp ce a b pos) := fun W tk => by
  refine PE.imp (pe_ifExp (hc W tk) (ha W tk) (hb W tk)) fun σ H Q ⟨Γ, g, r, w⟩ => ⟨Γ, g, r, M.wpB_mono (fun c b k g' H' s e => ?_) (fun _ _ x => x) _ _ ((M.wpB_bind _ _).mp w)⟩
  subst e
  cases c with
  | true => exact iteT ⟨Γ, g', r.step s, M.wpB_mono (fun d b k v g2 H2 s2 e t => k v g2 H2 (s.trans s2) e t) (fun _ _ x => x.of s) _ _ k⟩
  | false => exact iteF ⟨Γ, g', r.step s, M.wpB_mono (fun d b k v g2 H2 s2 e t => k v g2 H2 (s.trans s2) e t) (fun _ _ x => x.of s) _ _ k⟩
def iAnd (i j : IE) : IE := fun Γ => (asB i Γ).bind fun c => if c = true then j Γ else .ret (.bl false)
def iOr (i j : IE) : IE := fun Γ => (asB i Γ).bind fun c => if c = true then .ret (.bl true) else j Γ
def iNot (i : IE) : IE := fun Γ => (asB i Γ).bind fun c => .ret (.bl (!c))
theorem asB_bind {α : Type} {f : Bool → M α} : ((asB i Γ).bind f) = (i Γ).bind fun d => match d with
  | .bl k => f k
  | _ => .stuck := by
  unfold asB
  generalize i Γ = m
  induction m with
  | ret d => cases d <;> rfl
  | exc x => rfl
  | stuck => rfl
  | choose n k ih => exact congrArg (M.choose n) (funext ih)
  | begun k ih => exact congrArg M.begun ih
theorem de_one {o} {a : Expr} (h : DE L X i a) : DE L X i (.BoolOp o [a] pos) := fun W tk => pe_one (h W tk)
theorem de_and {i j : IE} {a b : Expr} {rest : List Expr} (ha : DE L X i a) (hb : DE L X j (.BoolOp .And (b :: rest) pos)) : DE L X (iAnd i j) (.BoolOp .And (a :: b :: rest) pos) := fun W tk => by
  refine PE.imp (pe_and (ha W tk) (hb W tk)) fun σ H Q ⟨Γ, g, r, w⟩ => ?_
  unfold iAnd at w
  rw [asB_bind] at w
  refine Rd1.go r w fun v H1 d g1 r1 s t w => ?_
  cases d with
  | bl c =>
    cases t
    refine ⟨c, rfl, ?_⟩
    cases c with
    | true => exact iteT ⟨Γ, g1, r1, M.wpB_mono (fun d b k v g2 H2 s2 e t => k v g2 H2 (s.trans s2) e t) (fun _ _ x => x) _ _ w⟩
    | false => exact iteF (w _ g1 H1 s rfl (.bl _))
  | _ => exact w.elim
theorem de_or {i j : IE} {a b : Expr} {rest : List Expr} (ha : DE L X i a) (hb : DE L X j (.BoolOp .Or (b :: rest) pos)) : DE L X (iOr i j) (.BoolOp .Or (a :: b :: rest) pos) := fun W tk => by
  refine PE.imp (pe_or (ha W tk) (hb W tk)) fun σ H Q ⟨Γ, g, r, w⟩ => ?_
  unfold iOr at w
  rw [asB_bind] at w
  refine Rd1.go r w fun v H1 d g1 r1 s t w => ?_
  cases d with
  | bl c =>
    cases t
    refine ⟨c, rfl, ?_⟩
    cases c with
    | false => exact iteF ⟨Γ, g1, r1, M.wpB_mono (fun d b k v g2 H2 s2 e t => k v g2 H2 (s.trans s2) e t) (fun _ _ x => x) _ _ w⟩
    | true => exact iteT (w _ g1 H1 s rfl (.bl _))
  | _ => exact w.elim
theorem de_not {a : Expr} (ha : DE L X i a) : DE L X (iNot i) (.UnaryOp .Not a pos) := fun W tk => by
  refine PE.imp (pe_not (ha W tk)) fun σ H Q ⟨Γ, g, r, w⟩ => ?_
  unfold iNot at w
  rw [asB_bind] at w
  refine Rd1.go r w fun v H1 d g1 r1 s t w => ?_
  cases d with
  | bl c =>
    cases t
    exact ⟨c, rfl, w _ g1 H1 s rfl (.bl _)⟩
  | _ => exact w.elim
end
end DL
/-! Targets, walks, loops, comprehensions. -/
namespace DL
open PySem PySem.Spec L2
section
variable {L : Lx} {X : Cx} {g0 g g' : Gh} {H0 H H' : Hp} {σ σ' : L2.St} {Γ Γ' : Env} {W : WX} {pos : Pos}

/-! targets -/
abbrev IG := D → Env → M Env
def RdG (L : Lx) (W : WX) (g0 : Gh) (H0 : Hp) (t : IG) : TG := fun v σ H Q => ∃ Γ g d, RepS L g0 H0 Γ g σ H ∧ Den L g v d ∧
  (t d Γ).wpB g.bud (fun Γ' b => ∀ g' σ' H', RepS L g0 H0 Γ' g' σ' H' → FLe g g' → g'.bud = b → Q σ' H') (XS L W g0 H0)
def DG (L : Lx) (X : Cx) (t : IG) (e : Expr) : Prop := ∀ W g0 H0, Takes X W → PG X e (RdG L W g0 H0 t)
theorem PG.imp {e : Expr} {t t' : TG} (h : PG X e t) (k : ∀ v σ H Q, t' v σ H Q → t v σ H Q) : PG X e t' := ⟨fun pins s σ H v u Q I r q => h.run pins s σ H v u Q I r (k _ _ _ _ q)⟩
def gN (n : Nat) : IG := fun d Γ => .ret (Γ.set n (some (.fz d)))
theorem dg_name {n : Nat} {x : Str} (hN : X.N.Nodup) (hi : X.N[n]? = some x) (hx : Loc X.env.scope x) (hf : X.fn x = true ∨ X.env.scope.names.lookup x = some .local := by first | exact .inl rfl | exact .inr rfl) : DG L X (gN n) (.Name x pos) := fun W g0 H0 tk =>
  PG.imp (pg_name hN hi hx hf) fun v σ H Q ⟨Γ, g, d, r, t, w⟩ => w g _ H (r.set t) (FLe.refl g) rfl
def gTs : List IG → List D → Env → M Env
  | [], [], Γ => .ret Γ
  | t :: ts, d :: ds, Γ => (t d Γ).bind fun Γ' => gTs ts ds Γ'
  | _, _, _ => .stuck
def gT (ts : List IG) : IG := fun d Γ => match d with
  | .tup ds => if ds.length = ts.length then gTs ts ds Γ else .stuck
  | _ => .stuck
def RdGs (L : Lx) (W : WX) (g0 : Gh) (H0 : Hp) (ts : List IG) : TGs := fun vs σ H Q => ∃ Γ g ds, RepS L g0 H0 Γ g σ H ∧ DenL L g vs ds ∧
  (gTs ts ds Γ).wpB g.bud (fun Γ' b => ∀ g' σ' H', RepS L g0 H0 Γ' g' σ' H' → FLe g g' → g'.bud = b → Q σ' H') (XS L W g0 H0)
def DGs (L : Lx) (X : Cx) (ts : List IG) (es : List Expr) : Prop := ∀ W g0 H0, Takes X W → PGs X es (RdGs L W g0 H0 ts)
theorem PGs.imp {e : List Expr} {t t' : TGs} (h : PGs X e t) (k : ∀ v σ H Q, t' v σ H Q → t v σ H Q) : PGs X e t' := ⟨fun pins s σ H v u Q I r q => h.run pins s σ H v u Q I r (k _ _ _ _ q)⟩
theorem dgs_nil : DGs L X [] [] := fun W g0 H0 tk => PGs.imp pgs_nil fun v σ H Q ⟨Γ, g, ds, r, t, w⟩ => by
  cases ds with
  | nil => cases t; exact ⟨rfl, w g σ H r (FLe.refl g) rfl⟩
  | cons d ds => exact w.elim
theorem dgs_cons {t : IG} {ts : List IG} {e : Expr} {es : List Expr} (h : DG L X t e) (hr : DGs L X ts es)
    (hs : (assignEach (e :: es) X.env).map (·.2) = assign e X.env :: (assignEach es X.env).map (·.2) := by rfl) : DGs L X (t :: ts) (e :: es) := fun W g0 H0 tk => PGs.imp (pgs_cons (h W g0 H0 tk) (hr W g0 H0 tk) hs) fun vs σ H Q ⟨Γ, g, ds, r, l, w⟩ => by
  cases ds with
  | nil => exact w.elim
  | cons d ds =>
    cases l with
    | cons a l =>
      refine ⟨_, _, rfl, Γ, g, d, r, a, M.wpB_mono (fun Γ' b k g' σ' H' r' f e => ?_) (fun _ _ x => x) _ _ ((M.wpB_bind _ _).mp w)⟩
      subst e
      exact ⟨Γ', g', ds, r', l.mono f.F f.mu, M.wpB_mono (fun Γ2 b k g2 σ2 H2 r2 f2 e => k g2 σ2 H2 r2 (f.trans f2) e) (fun _ _ x => x) _ _ k⟩
theorem dg_tup (hK : X.K = L.K) {ts : List IG} {es : List Expr} {k : Nat} (hc : X.calm = true) (h : DGs L X ts es) (hl : ts.length = es.length := by rfl) (hn : (assignEach es X.env).length = es.length := by rfl) (hst : (assignEach es X.env).findIdx? (·.1) = none := by rfl) : DG L X (gT ts) (.Tuple es k pos) := fun W g0 H0 tk =>
  PG.imp (pg_tup hc (h W g0 H0 tk) hn hst) fun v σ H Q ⟨Γ, g, d, r, t, w⟩ => by
  unfold gT at w
  split at w
  · rename_i ds
    split at w
    · rename_i z
      cases t with
      | tup e l => exact ⟨_, _, rfl, hK ▸ sqT_mono r.rep.sub e, by rw [l.length, z, hl], Γ, g, ds, r, l, w⟩
    · exact w.elim
  · exact w.elim
/-- a, b = e -/
def sAsg (t : IG) (i : IE) : IS := fun Γ => (i Γ).bind fun d => (t d Γ).bind fun Γ' => .ret (.nx Γ')
theorem ds_asg {t : IG} {i : IE} {tg e : Expr} (he : DE L X i e) (hg : DG L X t tg) (hs : swapsWithSole [tg] e pos.line X.env = pure false := by rfl) (hw : swappedStores [tg] e X.env = pure none := by rfl)
    (h1 : (assignEach [tg] X.env).map (·.2) = [assign tg X.env] := by rfl) : DS L X (sAsg t i) (.Assign [tg] e pos) := fun W g0 H0 tk => by
  refine PS.imp (ps_asg (he W tk) (hg W g0 H0 tk) hs hw h1) fun Dn σ H ⟨Γ, g, r, w⟩ => Rd1.goS r w fun v H1 d g1 r1 s t w => ?_
  exact ⟨Γ, g1, d, r1, t, M.wpB_mono (fun Γ' b k g' σ' H' r' f e => k g' σ' H' r' (s.fle.trans f) e) (fun _ _ x => x) _ _ ((M.wpB_bind _ _).mp w)⟩
/-- a, b = x, y -/
def sPar (n m : Nat) (i j : IE) : IS := fun Γ => (evs [i, j] Γ).bind fun ds => match ds with
  | [d, e] => .ret (.nx ((Γ.set n (some (.fz d))).set m (some (.fz e))))
  | _ => .stuck
theorem ds_par {n m : Nat} {x y : Str} {i j : IE} {a b : Expr} {px py pt : Pos} {kt k2 pt2} (hc : X.calm = true) (hN : X.N.Nodup) (hi : X.N[n]? = some x) (hj : X.N[m]? = some y) (hij : n ≠ m)
    (hx : X.env.scope.names.lookup x = some .local) (hy : X.env.scope.names.lookup y = some .local) (ha : DA L X [i, j] [a, b])
    (hw : swappedStores [.Tuple [.Name x px, .Name y py] kt pt] (.Tuple [a, b] k2 pt2) X.env = pure (some [x, y]))
    (hs : swapsWithSole [.Tuple [.Name x px, .Name y py] kt pt] (.Tuple [a, b] k2 pt2) pos.line X.env = pure false := by rfl) :
    DS L X (sPar n m i j) (.Assign [.Tuple [.Name x px, .Name y py] kt pt] (.Tuple [a, b] k2 pt2) pos) := fun W g0 H0 tk => by
  refine PS.imp (ps_par hc hN hi hj hij hx hy (ha W tk) hw hs) fun Dn σ H ⟨Γ, g, r, w⟩ => ?_
  refine ⟨Γ, g, r.rep, M.wpB_mono (fun ds b k vs g1 H1 s e t => ?_) (fun _ _ x => x.xw r.base) _ _ ((M.wpB_bind _ _).mp w)⟩
  subst e
  cases t with
  | nil => exact k.elim
  | cons t1 l =>
    cases l with
    | nil => exact k.elim
    | cons t2 l =>
      cases l with
      | nil => exact ⟨_, _, rfl, k g1 _ H1 (((r.step s).set t1).set t2) s.fle rfl⟩
      | cons _ _ => exact k.elim

/-! walks -/
structure Wk (L : Lx) (J : It) (gs : Gh) (ds : List D) : Prop where
  step : ∀ (i : Nat) (d : D) (Γ : Env) (g : Gh) (σ : L2.St) (H : Hp), ds[i]? = some d → Rep L Γ g σ H → FLe gs g → J.go i H ∧ ∀ x H', J.yld i H x H' → ∃ g', Stp L g H g' H' ∧ g'.bud = g.bud ∧ Den L g' x d
  stop : ∀ (Γ : Env) (g : Gh) (σ : L2.St) (H : Hp), Rep L Γ g σ H → FLe gs g → J.stop ds.length H
abbrev II := Env → M (List D)
def RdI (L : Lx) (W : WX) (t : II) : TI := fun σ H R => ∃ Γ g, Rep L Γ g σ H ∧ (t Γ).wpB g.bud (fun ds b => ∀ g' H' J, Stp L g H g' H' → g'.bud = b → Wk L J g' ds → R J H') (XW L W g σ H)
def DI (L : Lx) (X : Cx) (t : II) (tg iter : Expr) : Prop := ∀ W, Takes X W → PI X tg iter (RdI L W t)
theorem PI.imp {tg e : Expr} {t t' : TI} (h : PI X tg e t) (k : ∀ σ H Q, t' σ H Q → t σ H Q) : PI X tg e t' := ⟨fun pins s σ H R I r => h.run pins s σ H R I (k _ _ _ r)⟩
theorem PI.or {tg e : Expr} {t t' : TI} (h : PI X tg e t) (h' : PI X tg e t') : PI X tg e (fun σ H R => t σ H R ∨ t' σ H R) := ⟨fun pins s σ H R I r => r.elim (h.run pins s σ H R I) (h'.run pins s σ H R I)⟩
def itL (d : D) : M (List D) := match d with
  | .lst ds => .ret ds
  | _ => .stuck
def itT (d : D) : M (List D) := match d with
  | .tup ds => .ret ds
  | _ => .stuck
def iiL (i : IE) : II := fun Γ => (i Γ).bind itL
def iiT (i : IE) : II := fun Γ => (i Γ).bind itT
theorem wk_list {a : Addr} {vs : List V} {ds : List D} (h : g.F a = some (.lst vs)) (l : DenL L g vs ds) : Wk L (Itl L.K a) g ds where
  step := fun i d Γ g' σ H e r f => by
    obtain ⟨v, hv, t⟩ := (l.mono f.F f.mu).get e
    have hH := r.sub _ _ (f.F _ _ h)
    refine ⟨⟨vs, v, .inl (.inl hH), hv⟩, fun x H' ⟨e1, y⟩ => ?_⟩
    subst e1
    have e2 := y vs (.inl (.inl hH))
    rw [hv] at e2
    cases e2
    exact ⟨g', Stp.refl r, rfl, t⟩
  stop := fun Γ g' σ H r f => ⟨vs, .inl (.inl (r.sub _ _ (f.F _ _ h))), Nat.le_of_eq l.length⟩
theorem wk_tup {a : Addr} {vs : List V} {ds : List D} (h : SqT L.K g.F a vs) (l : DenL L g vs ds) : Wk L (Itt L.K a) g ds where
  step := fun i d Γ g' σ H e r f => by
    obtain ⟨v, hv, t⟩ := (l.mono f.F f.mu).get e
    have hH := sqT_mono r.sub (sqT_mono f.F h)
    refine ⟨⟨vs, v, hH, hv⟩, fun x H' ⟨e1, y⟩ => ?_⟩
    subst e1
    have e2 := y vs hH
    rw [hv] at e2
    cases e2
    exact ⟨g', Stp.refl r, rfl, t⟩
  stop := fun Γ g' σ H r f => ⟨vs, sqT_mono r.sub (sqT_mono f.F h), Nat.le_of_eq l.length⟩
theorem RdI.go {i : IE} {it : D → M (List D)} {Q : VK} {R : It → Hp → Prop} {Γ : Env} {T : TT1} (r : Rep L Γ g σ H) (h : ((i Γ).bind it).wpB g.bud (fun ds b => ∀ g' H' J, Stp L g H g' H' → g'.bud = b → Wk L J g' ds → R J H') (XW L W g σ H))
    (k : ∀ v H1 d g1, Rep L Γ g1 σ H1 → Stp L g H g1 H1 → T L H g1 H1 v d → (it d).wpB g1.bud (fun ds b => ∀ g' H' J, Stp L g1 H1 g' H' → g'.bud = b → Wk L J g' ds → R J H') (XW L W g1 σ H1) → Q v H1) : Rd1 L T W i σ H Q := by
  refine Rd1.go r h fun v H1 d g1 r1 s t w => k v H1 d g1 r1 s t (M.wpB_mono (fun ds b k g' H' J s' e q => k g' H' J (s.trans s') e q) (fun _ _ x => x) _ _ w)
theorem di_list (hK : X.K = L.K) {i : IE} {tg e : Expr} (h : DE L X i e) : DI L X (iiL i) tg e := fun W tk => by
  refine PI.imp (pi_list (h W tk)) fun σ H R ⟨Γ, g, r, w⟩ => RdI.go (T := DenT) r w fun v H1 d g1 r1 s t w => ?_
  cases d with
  | lst ds =>
    cases id t with
    | lst e l => exact ⟨_, rfl, ⟨_, .inl (.inl (r1.sub _ _ e))⟩, w g1 H1 _ (Stp.refl r1) rfl (hK ▸ wk_list e l)⟩
  | _ => exact w.elim
theorem di_tup (hK : X.K = L.K) {i : IE} {tg e : Expr} (h : DE L X i e) : DI L X (iiT i) tg e := fun W tk => by
  refine PI.imp (pi_tup (h W tk)) fun σ H R ⟨Γ, g, r, w⟩ => RdI.go (T := DenT) r w fun v H1 d g1 r1 s t w => ?_
  cases d with
  | tup ds =>
    cases id t with
    | tup e l => exact ⟨_, rfl, ⟨_, hK ▸ sqT_mono r1.sub e⟩, w g1 H1 _ (Stp.refl r1) rfl (hK ▸ wk_tup e l)⟩
  | _ => exact w.elim
/-- range(n), range(a, b) -/
def rngD (lo : Int) (n : Nat) : List D := (List.range n).map fun k => D.int (lo + (k : Nat))
def iiR1 (i : IE) : II := fun Γ => (evs [i] Γ).bind fun ds => match ds with
  | [.int j] => if decide (-(2 ^ 62) ≤ j) && decide (j < 2 ^ 62) then .ret (rngD 0 j.toNat) else .stuck
  | _ => .stuck
def iiR2 (i j : IE) : II := fun Γ => (evs [i, j] Γ).bind fun ds => match ds with
  | [.int a, .int b] => if decide (-(2 ^ 62) ≤ a) && decide (a < 2 ^ 62) && decide (-(2 ^ 62) ≤ b) && decide (b < 2 ^ 62) then .ret (rngD a (b - a).toNat) else .stuck
  | _ => .stuck
theorem wk_range {lo : Int} {n : Nat} : Wk L (Itr lo n) g (rngD lo n) where
  step := fun i d Γ g' σ H e r f => by
    unfold rngD at e
    rw [List.getElem?_map] at e
    by_cases h : i < n
    · rw [List.getElem?_range h] at e
      cases e
      refine ⟨h, fun x H' ⟨e1, y⟩ => ?_⟩
      subst e1 y
      exact ⟨g', Stp.refl r, rfl, .int _⟩
    · rw [List.getElem?_eq_none (by simpa using h)] at e; cases e
  stop := fun Γ g' σ H r f => by
    show n ≤ (rngD lo n).length
    unfold rngD
    simp
theorem di_range1 {i : IE} {tg a : Expr} {p : Pos} (hg : Gl X "range") (hm : X.mg "range" = none) (ha : DA L X [i] [a]) (hs : starEach [a] X.env = [(false, eval a X.env)] := by rfl) : DI L X (iiR1 i) tg (.Call (.Name "range" p) [a] [] pos) := fun W tk => by
  refine PI.imp (pi_range1 hg hm (ha W tk) hs) fun σ H R ⟨Γ, g, r, w⟩ => RdA.go r w fun vs H1 ds g1 r1 s t w => ?_
  split at w
  · rename_i j
    cases t with
    | cons a l =>
      cases a
      cases l
      split at w
      · rename_i z
        simp only [Bool.and_eq_true, decide_eq_true_eq] at z
        exact ⟨j, rfl, z.1, z.2, w g1 H1 _ s rfl wk_range⟩
      · exact w.elim
  · exact w.elim
theorem di_range2 {i j : IE} {tg a b : Expr} {p : Pos} (hg : Gl X "range") (hm : X.mg "range" = none) (ha : DA L X [i, j] [a, b]) (hs : starEach [a, b] X.env = [(false, eval a X.env), (false, eval b X.env)] := by rfl) (hs2 : starEach [b] X.env = [(false, eval b X.env)] := by rfl) : DI L X (iiR2 i j) tg (.Call (.Name "range" p) [a, b] [] pos) := fun W tk => by
  refine PI.imp (pi_range2 hg hm (ha W tk) hs hs2) fun σ H R ⟨Γ, g, r, w⟩ => RdA.go r w fun vs H1 ds g1 r1 s t w => ?_
  split at w
  · rename_i a b
    cases t with
    | cons x l =>
      cases x
      cases l with
      | cons x l =>
        cases x
        cases l
        split at w
        · rename_i z
          simp only [Bool.and_eq_true, decide_eq_true_eq] at z
          exact ⟨a, b, rfl, ⟨z.1.1.1, z.1.1.2, z.1.2, z.2⟩, w g1 H1 _ s rfl wk_range⟩
        · exact w.elim
  · exact w.elim

/-! for -/
def loop (t : IG) (s : IS) : List D → Env → M Fl
  | [], Γ => .ret (.nx Γ)
  | d :: r, Γ => (t d Γ).bind fun Γ1 => (s Γ1).bind fun fl => match fl with
    | .nx Γ2 => loop t s r Γ2
    | .ct Γ2 => loop t s r Γ2
    | .bk Γ2 => .ret (.nx Γ2)
    | .rt d => .ret (.rt d)
def sFor (t : IG) (it : II) (s : IS) : IS := fun Γ => (it Γ).bind fun ds => loop t s ds Γ
theorem ds_for {t : IG} {it : II} {s : IS} {tg iter : Expr} {body : List Stmt} (hp : PassesOwn (model X.prog X.w) X.A X.env X.xe) (hc : X.calm = true) (hi : DI L X it tg iter) (hg : DG L X t tg) (hb : DSs L X s body)
    (hs : ∀ x, foldedSetIterable iter X.env x = pure x := by intro _; rfl) : DS L X (sFor t it s) (.For tg iter body [] pos) := fun W g0 H0 tk => by
  refine PS.imp (ps_for hp hc (hi W tk) (hg W g0 H0 tk) (hb W g0 H0 tk) hs) fun Dn σ H ⟨Γ, g, r, w⟩ => ?_
  refine ⟨Γ, g, r.rep, M.wpB_mono (fun ds b k g1 H1 J sp e wk => ?_) (fun _ _ x => x.xw r.base) _ _ ((M.wpB_bind _ _).mp w)⟩
  subst e
  refine ⟨fun i m σ H => i ≤ ds.length ∧ m = ds.length - i ∧ ∃ Γ g2, RepS L g0 H0 Γ g2 σ H ∧ FLe g1 g2 ∧ (loop t s (ds.drop i) Γ).wpB g2.bud (FlT L g0 H0 g Dn) (XS L W g0 H0), ⟨ds.length, Nat.zero_le _, by simp, Γ, g1, r.step sp, FLe.refl g1, k⟩, ?_⟩
  rintro i m σ H ⟨hi, rfl, Γ, g2, r2, f2, w2⟩
  by_cases hlt : i < ds.length
  · have ed : ds.drop i = ds[i] :: ds.drop (i + 1) := List.drop_eq_getElem_cons hlt
    rw [ed] at w2
    obtain ⟨go, yl⟩ := wk.step i ds[i] Γ g2 σ H (List.getElem?_eq_getElem hlt) r2.rep f2
    refine .inr ⟨go, fun σ H => ∃ Γ g3, RepS L g0 H0 Γ g3 σ H ∧ FLe g1 g3 ∧ (loop t s (ds.drop (i + 1)) Γ).wpB g3.bud (FlT L g0 H0 g Dn) (XS L W g0 H0), fun σ' H' ⟨Γ', g', r', f', w'⟩ => ⟨ds.length - (i + 1), by omega, hlt, rfl, Γ', g', r', f', w'⟩, fun x H' y => ?_⟩
    obtain ⟨g3, s3, b3, t3⟩ := yl x H' y
    rw [← b3] at w2
    refine ⟨Γ, g3, ds[i], r2.step s3, t3, M.wpB_mono (fun Γ' b k g4 σ4 H4 r4 f4 e4 => ?_) (fun _ _ x => x) _ _ ((M.wpB_bind _ _).mp w2)⟩
    subst e4
    have fl4 : FLe g1 g4 := f2.trans (s3.fle.trans f4)
    refine ⟨Γ', g4, r4, M.wpB_mono (fun fl b k => ?_) (fun _ _ x => x) _ _ ((M.wpB_bind _ _).mp k)⟩
    cases fl with
    | nx Γ5 => exact fun g5 σ5 H5 r5 f5 e5 => ⟨Γ5, g5, r5, fl4.trans f5, by subst e5; exact k⟩
    | ct Γ5 => exact fun g5 σ5 H5 r5 f5 e5 => ⟨Γ5, g5, r5, fl4.trans f5, by subst e5; exact k⟩
    | bk Γ5 => exact fun g5 σ5 H5 r5 f5 e5 => k g5 σ5 H5 r5 (sp.fle.trans (fl4.trans f5)) e5
    | rt d => exact k
  · have e : i = ds.length := by omega
    subst e
    rw [List.drop_length] at w2
    exact .inl ⟨wk.stop Γ g2 σ H r2.rep f2, w2 g2 σ H r2 (sp.fle.trans f2) rfl⟩

/-! comprehensions of one for -/
def wipeE (Γ : Env) : List Nat → Env
  | [] => Γ
  | v :: vs => (wipeE Γ vs).set v none
def lcRun (t : IG) (c : IT) (i : IE) (own : List Nat) (Γ : Env) : List D → List D → M (List D)
  | acc, [] => .ret acc
  | acc, d :: r => (t d (wipeE Γ own)).bind fun Γ1 => (c Γ1).bind fun b => if b = true then (i Γ1).bind fun x => if acc.length < sizeLine then lcRun t c i own Γ (acc ++ [x]) r else .stuck else lcRun t c i own Γ acc r
def iLc (t : IG) (it : II) (c : IT) (i : IE) (own : List Nat) : IE := fun Γ => (it Γ).bind fun ds => (lcRun t c i own Γ [] ds).noX.bind fun acc => .ret (.lst acc)
/-- a comprehension's target: its stores, and what the block keeps -/
def GK (L : Lx) (gt : TG) (t : IG) (own : List Nat) : Prop := ∀ (v : V) (d : D) (Γ : Env) (g : Gh) (σ : L2.St) (H : Hp) (Q : L2.St → Hp → Prop) (E : Ex → Nat → Prop) (b : Nat), Rep L (wipeE Γ own) g (wipe σ own) H → Den L g v d →
  (t d (wipeE Γ own)).wpB b (fun Γ1 c => c = b → ∀ σ1, Rep L Γ1 g σ1 H → wipe σ1 own = wipe σ own → Q σ1 H) E → gt v (wipe σ own) H Q
def cYes : IT := fun _ => .ret true
/-- the tests' reading -/
def TK (L : Lx) (tt : TT) (c : IT) : Prop := ∀ (σ : L2.St) (H : Hp) (Q : Bool → Hp → Prop), RdT L (fun _ _ _ _ => False) c σ H Q → tt σ H Q
theorem tk_yes : TK L tYes cYes := fun σ H Q ⟨Γ, g, r, w⟩ => w g H (Stp.refl r) rfl
theorem xw_false {x : Ex} {b : Nat} (h : XW L (fun _ _ _ _ => False) g σ H x b) (W : WX) (hx : ∃ cls d g' H', Stp L g H g' H' ∧ g'.bud = b ∧ ExAt L g' H' x cls d) : False := by
  obtain ⟨cls, d, g', H', s, e, a⟩ := hx
  exact h cls d g' H' s e a
theorem wipe_rep {own : List Nat} (r : Rep L Γ g σ H) : Rep L (wipeE Γ own) g (wipe σ own) H := by
  induction own with
  | nil => exact r
  | cons n vs ih =>
    have at_ : ∀ (i : Nat) (b : B), ((wipeE Γ vs).set n none)[i]? = some (some b) → i ≠ n ∧ (wipeE Γ vs)[i]? = some (some b) := fun i b e => by
      by_cases h : i = n
      · subst h
        by_cases hl : i < (wipeE Γ vs).length
        · rw [List.getElem?_set_self hl] at e; cases e
        · rw [List.getElem?_eq_none (by simpa using hl)] at e; cases e
      · rw [List.getElem?_set_ne (Ne.symm h)] at e; exact ⟨h, e⟩
    refine ⟨ih.sub, ih.rnd, ih.tab, fun i b e => ?_, fun i j b c p e1 e2 o1 o2 s1 s2 => ?_, ih.nF, ?_⟩
    · obtain ⟨h, e⟩ := at_ i b e
      show ∃ x, ((wipe σ vs).set n none)[i]? = some x ∧ _
      rw [List.getElem?_set_ne (Ne.symm h)]
      exact ih.loc i b e
    · obtain ⟨h1, e1⟩ := at_ i b e1
      obtain ⟨h2, e2⟩ := at_ j c e2
      have s1 : ((wipe σ vs).set n none)[i]? = some (some (.ref p)) := s1
      have s2 : ((wipe σ vs).set n none)[j]? = some (some (.ref p)) := s2
      rw [List.getElem?_set_ne (Ne.symm h1)] at s1
      rw [List.getElem?_set_ne (Ne.symm h2)] at s2
      exact ih.dis i j b c p e1 e2 o1 o2 s1 s2
    · show ((wipeE Γ vs).set n none).length = ((wipe σ vs).set n none).length
      rw [List.length_set, List.length_set]; exact ih.len
/-- the own list that is being made -/
def AccAt (L : Lx) (g : Gh) (H : Hp) (p : Addr) (acc : List D) : Prop := ∃ vs, H p = some (.lst vs) ∧ DenL L g vs acc ∧ g.F p = none ∧ ¬ InM g.mu H p
theorem AccAt.step {p : Addr} {acc : List D} (a : AccAt L g H p acc) (s : Stp L g H g' H') : AccAt L g' H' p acc := by
  obtain ⟨vs, h1, h2, h3, h4⟩ := a
  obtain ⟨e, m⟩ := s.keep p _ h1 (fun _ z => nomatch z) h4
  exact ⟨vs, e, h2.mono s.le s.mu, (s.nf p (by rw [h1]; simp)).2 h3, m⟩
/-- an own list is changed that the run before did not see: from (gs, Hs), where p was free -/
theorem stp_upd {gs : Gh} {Hs : Hp} {p : Addr} {vs ws : List V} (s : Stp L gs Hs g H) (n : Hs p = none) (h1 : H p = some (.lst vs)) (h3 : g.F p = none) (h4 : ¬ InM g.mu H p) : Stp L gs Hs g (upd H p (.lst ws)) := by
  have im : ∀ a, InM g.mu (upd H p (.lst ws)) a → InM g.mu H a := fun a ⟨m, e, h⟩ => by
    refine ⟨m, e, ?_⟩
    rcases h with h | ⟨kvs, k, e4, hm⟩
    · exact .inl h
    · have q : m ≠ p := fun z => by rw [z, upd_same] at e4; cases e4
      rw [upd_ne q] at e4
      exact .inr ⟨kvs, k, e4, hm⟩
  have ne : ∀ a, Hs a ≠ none → a ≠ p := fun a h z => h (by rw [z]; exact n)
  refine ⟨s.le, s.mu, fun a o e => ?_, fun a o e nt nm => ?_, fun a h => ?_, fun a o e i => s.nm a o e (im a i), ⟨s.rnd.1, fun m e => ?_⟩, s.bud, fun q hq => ?_⟩
  · have q : a ≠ p := fun z => by rw [z, h3] at e; cases e
    rw [upd_ne q]; exact s.sub a o e
  · obtain ⟨e1, m1⟩ := s.keep a o e nt nm
    rw [upd_ne (ne a (by rw [e]; simp))]
    exact ⟨e1, fun i => m1 (im a i)⟩
  · rw [upd_ne (ne a h)]; exact s.nf a h
  · obtain ⟨c, l, cs, ls, at_, e1, e2, e3, r⟩ := s.rnd.2 m e
    have q : ∀ a, InM g.mu H a → a ≠ p := fun a i z => h4 (z ▸ i)
    have em : upd H p (.lst ws) m = H m := upd_ne (q m ⟨m, e, .inl rfl⟩)
    have ec : upd H p (.lst ws) c = H c := upd_ne (q c ⟨m, e, .inr ⟨_, Sum.inr "cells", e1, by simp⟩⟩)
    have el : upd H p (.lst ws) l = H l := upd_ne (q l ⟨m, e, .inr ⟨_, Sum.inr "left", e1, by simp⟩⟩)
    exact ⟨c, l, cs, ls, at_, em.trans e1, ec.trans e2, el.trans e3, r⟩
  · obtain ⟨ps, e1, e2, e3⟩ := s.tab q hq
    have n1 : q.1 ≠ p := fun z => by rw [z, h1] at e1; cases e1
    refine ⟨ps, by rw [upd_ne n1]; exact e1, e2, fun pos cv hc => ?_⟩
    obtain ⟨c, z1, z2⟩ := e3 pos cv hc
    have n2 : c ≠ p := fun z => by rw [z, h1] at z2; unfold LamX.CodeO at z2; cases z2
    exact ⟨c, z1, by rw [upd_ne n2]; exact z2⟩
theorem inM_upd {mu : Option Addr} {p : Addr} {ws : List V} {a : Addr} (h : InM mu (upd H p (.lst ws)) a) : InM mu H a := by
  obtain ⟨m, e, h⟩ := h
  refine ⟨m, e, ?_⟩
  rcases h with h | ⟨kvs, k, e4, hm⟩
  · exact .inl h
  · have q : m ≠ p := fun z => by rw [z, upd_same] at e4; cases e4
    rw [upd_ne q] at e4
    exact .inr ⟨kvs, k, e4, hm⟩
theorem acc_upd {p : Addr} {vs : List V} {acc : List D} {v : V} {d : D} (h2 : DenL L g vs acc) (h3 : g.F p = none) (h4 : ¬ InM g.mu H p) (h : Den L g v d) : AccAt L g (upd H p (.lst (vs ++ [v]))) p (acc ++ [d]) :=
  ⟨_, upd_same, h2.append (.cons h .nil), h3, fun i => h4 (inM_upd i)⟩
theorem lc_read {t : IG} {it : II} {c : IT} {i : IE} {own : List Nat} {gt : TG} {tt : TT} {Q : VK} (gk : GK L gt t own) (tk : TK L tt c) (r : Rep L Γ g σ H)
    (w : (iLc t it c i own Γ).wpB g.bud (Wn L FrT g H Q) (XW L W g σ H)) : tLc (RdI L W it) gt tt (Rd1 L DenT (fun _ _ _ _ => False) i) own σ H Q := by
  refine ⟨Γ, g, r, M.wpB_mono (fun ds b k g1 H1 J sp e wk => ?_) (fun _ _ x => x) _ _ ((M.wpB_bind _ _).mp w)⟩
  subst e
  intro Dd nD
  replace k : ((lcRun t c i own Γ [] ds).bind fun acc => M.ret (D.lst acc)).wpB g1.bud (Wn L FrT g H Q) (XW L (fun _ _ _ _ => False) g σ H) := (M.wpB_bind _ _).mpr (M.wpB_noX (Q := fun acc c => Wn L FrT g H Q (.lst acc) c) _ _ ((M.wpB_bind _ _).mp k))
  have r1 := r.step sp
  have s2 : Stp L g1 H1 g1 (upd H1 Dd (.lst [])) := stp_new (o := .lst []) r1 nD false
  have xw : ∀ {g2 : Gh} {H2 : Hp} {σ2 : L2.St} {x : Ex} {b : Nat}, Stp L g1 H1 g2 H2 → XW L (fun _ _ _ _ => False) g σ H x b → XW L (fun _ _ _ _ => False) g2 σ2 H2 x b := fun s h cls d g' H' s' e a => h cls d g' H' (sp.trans (s.trans s')) e a
  have nM0 : ¬ InM g1.mu H1 Dd := fun i => (InM.there r1.rnd.ok i) nD
  refine ⟨fun j m Hj => j ≤ ds.length ∧ m = ds.length - j ∧ ∃ g2 acc, Stp L g1 H1 g2 Hj ∧ AccAt L g2 Hj Dd acc ∧ ((lcRun t c i own Γ acc (ds.drop j)).bind fun acc => M.ret (D.lst acc)).wpB g2.bud (Wn L FrT g H Q) (XW L (fun _ _ _ _ => False) g σ H),
    ⟨ds.length, Nat.zero_le _, by simp, g1, [], s2, ⟨[], upd_same, .nil, nF_of r1 nD, fun i => nM0 (inM_upd i)⟩, k⟩, ?_⟩
  rintro j m Hj ⟨hj, rfl, g2, acc, s, a, w2⟩
  have r2 := r1.step s
  by_cases hlt : j < ds.length
  · have ed : ds.drop j = ds[j] :: ds.drop (j + 1) := List.drop_eq_getElem_cons hlt
    rw [ed] at w2
    obtain ⟨go, yl⟩ := wk.step j ds[j] Γ g2 σ Hj (List.getElem?_eq_getElem hlt) r2 s.fle
    refine .inr ⟨go, fun Hn => ∃ g2 acc, Stp L g1 H1 g2 Hn ∧ AccAt L g2 Hn Dd acc ∧ ((lcRun t c i own Γ acc (ds.drop (j + 1))).bind fun acc => M.ret (D.lst acc)).wpB g2.bud (Wn L FrT g H Q) (XW L (fun _ _ _ _ => False) g σ H), fun H' ⟨g', acc', s', a', w'⟩ => ⟨ds.length - (j + 1), by omega, hlt, rfl, g', acc', s', a', w'⟩, fun x H' y => ?_⟩
    obtain ⟨g3, s3, b3, t3⟩ := yl x H' y
    rw [← b3] at w2
    have s13 := s.trans s3
    have w3 := (M.wpB_bind _ _).mp w2
    refine gk x ds[j] Γ g3 σ H' _ (XW L (fun _ _ _ _ => False) g σ H) g3.bud (wipe_rep (r2.step s3)) t3 (M.wpB_mono (fun Γ1 c' k eb σ1 rp1 wi => ?_) (fun _ _ x => x) _ _ ((M.wpB_bind _ _).mp w3))
    subst eb
    refine ⟨wi, tk σ1 H' _ ⟨Γ1, g3, rp1, M.wpB_mono (fun b c' k g4 H4 s4 e4 => ?_) (fun _ _ x => xw s13 x) _ _ ((M.wpB_bind _ _).mp k)⟩⟩
    subst e4
    have s14 := s13.trans s4
    have a4 := (a.step s3).step s4
    cases b with
    | false => exact iteF ⟨g4, acc, s14, a4, (M.wpB_bind _ _).mpr k⟩
    | true =>
      refine iteT ⟨Γ1, g4, rp1.step s4, M.wpB_mono (fun d b k v g5 H5 s5 e5 t5 => ?_) (fun _ _ x => xw s14 x) _ _ ((M.wpB_bind _ _).mp k)⟩
      subst e5
      split at k
      · rename_i z
        obtain ⟨vs, h1, h2, h3, h4⟩ := a4.step s5
        exact ⟨vs, h1, by rw [h2.length]; exact z, g5, acc ++ [d], stp_upd (s14.trans s5) nD h1 h3 h4, acc_upd h2 h3 h4 t5, (M.wpB_bind _ _).mpr k⟩
      · exact k.elim
  · have e : j = ds.length := by omega
    subst e
    rw [List.drop_length] at w2
    obtain ⟨vs, h1, h2, h3, h4⟩ := a
    exact .inl ⟨wk.stop Γ g2 σ Hj r2 s.fle, w2 (.ref Dd) g2 Hj (sp.trans s) rfl ⟨Dd, vs, acc, rfl, rfl, h1, h2, h3, h4, none_back sp nD⟩⟩
theorem df_lc {t : IG} {it : II} {c : IT} {i : IE} {own : List (Str × Nat)} {gt : TG} {tt : TT} {elt tg iter : Expr} {ifs : List Expr} {scope : Scope} (hc : X.calm = true) (hN : X.N.Nodup) (hi : DI L X it tg iter) (ok : BlkOk X.N X.env.scope scope own)
    (hg : ∀ (s : Shared) (H : Hp) (C : Addr) (cl : List (Str × Addr)) (fp : List Addr), PG (X.blk s H scope (compEnvC scope cl C X.env) fp) tg gt) (gk : GK L gt t (own.map (·.2)))
    (ht : ∀ (s : Shared) (H : Hp) (C : Addr) (cl : List (Str × Addr)) (fp : List Addr), PTs (X.blk s H scope (compEnvC scope cl C X.env) fp) ifs tt) (tk : TK L tt c)
    (he : ∀ (s : Shared) (H : Hp) (C : Addr) (cl : List (Str × Addr)) (fp : List Addr), DE L (X.blk s H scope (compEnvC scope cl C X.env) fp) i elt) (hs : ∀ x, foldedSetIterable iter X.env x = pure x := by intro _; rfl) :
    DF L X (iLc t it c i (own.map (·.2))) (.ListComp elt [⟨tg, iter, ifs, 0⟩] scope pos) := fun W tk' => by
  exact PE.imp (pe_lc hc hN (hi W tk') ok hg ht (fun s H C cl fp => he s H C cl fp _ LamX.takes0) hs) fun σ H Q ⟨Γ, g, r, w⟩ => lc_read gk tk r w
/-- y = [.. for ..], y a plain local -/
theorem ds_setLc {n : Nat} {y : Str} {py spos : Pos} {t : IG} {it : II} {c : IT} {i : IE} {own : List (Str × Nat)} {gt : TG} {tt : TT} {elt tg iter : Expr} {ifs : List Expr} {scope : Scope} (hc : X.calm = true) (hN : X.N.Nodup) (hy : X.N[n]? = some y) (hyl : X.env.scope.names.lookup y = some .local)
    (hsw : swapsWith (.ListComp elt [⟨tg, iter, ifs, 0⟩] scope pos) (some (.Name y py)) spos.line X.env = pure true) (hi : DI L X it tg iter) (ok : BlkOk X.N X.env.scope scope own)
    (hg : ∀ (s : Shared) (H : Hp) (C : Addr) (cl : List (Str × Addr)) (fp : List Addr), PG (X.blk s H scope (compEnvC scope cl C X.env) fp) tg gt) (gk : GK L gt t (own.map (·.2)))
    (ht : ∀ (s : Shared) (H : Hp) (C : Addr) (cl : List (Str × Addr)) (fp : List Addr), PTs (X.blk s H scope (compEnvC scope cl C X.env) fp) ifs tt) (tk : TK L tt c)
    (he : ∀ (s : Shared) (H : Hp) (C : Addr) (cl : List (Str × Addr)) (fp : List Addr), DE L (X.blk s H scope (compEnvC scope cl C X.env) fp) i elt) (hs : ∀ x, foldedSetIterable iter X.env x = pure x := by intro _; rfl) :
    DS L X (sSet n (iLc t it c i (own.map (·.2)))) (.Assign [.Name y py] (.ListComp elt [⟨tg, iter, ifs, 0⟩] scope pos) spos) := fun W g0 H0 tk' => by
  refine PS.imp (ps_setLc hc hN hy hyl hsw (hi W tk') ok hg ht (fun s H C cl fp => he s H C cl fp _ LamX.takes0) hs) fun Dn σ H ⟨Γ, g, r, w⟩ => ?_
  refine lc_read (Q := fun x H1 => gName n x σ H1 Dn.nx) gk tk r.rep (M.wpB_mono (fun d b k v g' H' s e fr => ?_) (fun _ _ x => x.xw r.base) _ _ ((M.wpB_bind _ _).mp w))
  obtain ⟨g2, s2, e2, t2⟩ := stp_frz s fr
  exact k g2 _ H' ((r.step s2).set t2) s2.fle (e2.trans e)
/-- wiping forgets what was stored at a wiped slot -/
theorem wipe_set {n : Nat} {x : Option V} : ∀ {vs : List Nat} {σ : L2.St}, n ∈ vs → wipe (σ.set n x) vs = wipe σ vs := by
  have out : ∀ (vs : List Nat) (σ : L2.St), n ∉ vs → wipe (σ.set n x) vs = (wipe σ vs).set n x := fun vs σ => by
    induction vs with
    | nil => intro _; rfl
    | cons b vs ih =>
      intro hq
      simp only [List.mem_cons, not_or] at hq
      show (wipe (σ.set n x) vs).set b none = ((wipe σ vs).set b none).set n x
      rw [ih hq.2, List.set_comm _ _ hq.1]
  intro vs σ
  induction vs with
  | nil => intro h; cases h
  | cons a vs ih =>
    intro h
    show (wipe (σ.set n x) vs).set a none = (wipe σ vs).set a none
    by_cases q : n ∈ vs
    · rw [ih q]
    · have e : n = a := (List.mem_cons.mp h).resolve_right q
      subst e
      rw [out vs σ q, List.set_set]
theorem wipe_wipe {vs : List Nat} {σ : L2.St} : wipe (wipe σ vs) vs = wipe σ vs := by
  have gen : ∀ (us : List Nat) (τ : L2.St), (∀ x ∈ us, x ∈ vs) → wipe (wipe τ us) vs = wipe τ vs := fun us => by
    induction us with
    | nil => intro τ _; rfl
    | cons a us ih =>
      intro τ hs
      show wipe ((wipe τ us).set a none) vs = wipe τ vs
      rw [wipe_set (hs a List.mem_cons_self), ih τ fun x hx => hs x (List.mem_cons_of_mem _ hx)]
  exact gen vs σ fun _ h => h
theorem gk_name {n : Nat} {own : List Nat} (h : n ∈ own) : GK L (gName n) (gN n) own := fun v d Γ g σ H Q E b r t w =>
  w rfl _ (r.set t) (by rw [wipe_set h, wipe_wipe])
/-- (a, b, ..) with plain names -/
def gNs : List Nat → TGs
  | [] => gNil
  | n :: ns => gCons (gName n) (gNs ns)
theorem gk_tup {ns own : List Nat} (h : ∀ n ∈ ns, n ∈ own) : GK L (gTup L.K ns.length (gNs ns)) (gT (ns.map gN)) own := fun v d Γ g σ H Q E b r t w => by
  unfold gT at w
  split at w
  · rename_i ds
    split at w
    · rename_i z
      rw [List.length_map] at z
      cases t with
      | @tup a vs _ e l =>
        refine ⟨a, vs, rfl, sqT_mono r.sub e, by rw [l.length, z], ?_⟩
        have go : ∀ (ns : List Nat) (vs : List V) (ds : List D) (Γ1 : Env) (σ1 : L2.St), (∀ n ∈ ns, n ∈ own) → DenL L g vs ds → Rep L Γ1 g σ1 H → wipe σ1 own = wipe σ own → (gTs (ns.map gN) ds Γ1).wpB b (fun Γ1 c => c = b → ∀ σ1, Rep L Γ1 g σ1 H → wipe σ1 own = wipe σ own → Q σ1 H) E → gNs ns vs σ1 H Q := fun ns => by
          induction ns with
          | nil =>
            intro vs ds Γ1 σ1 _ l r1 e1 w
            cases l with
            | nil => exact ⟨rfl, w rfl σ1 r1 e1⟩
            | cons _ _ => exact w.elim
          | cons n ns ih =>
            intro vs ds Γ1 σ1 hn l r1 e1 w
            cases l with
            | nil => exact w.elim
            | cons t l => exact ⟨_, _, rfl, ih _ _ _ _ (fun m hm => hn m (List.mem_cons_of_mem _ hm)) l (r1.set t) (by rw [wipe_set (hn n List.mem_cons_self), e1]) w⟩
        exact go ns vs ds _ _ h l r wipe_wipe w
    · exact w.elim
  · exact w.elim
/-- one test -/
theorem tk_one {c : IT} : TK L (RdT L (fun _ _ _ _ => False) c) c := fun σ H Q h => h
end
end DL
/-! Defs and their calls. -/
namespace DL
open PySem PySem.Spec L2
/-- a def's run over data: its slots begin with its arguments -/
def env0 (n : Nat) (ds : List D) : Env := ds.map (fun d => some (.fz d)) ++ List.replicate (n - ds.length) none
def runFn (n : Nat) (body : IS) (ds : List D) : M D := (body (env0 n ds)).bind fun fl => match fl with
  | .rt d => .ret d
  | .nx _ => .ret .non
  | _ => .stuck
section
variable {L : Lx} {X : Cx} {g g' : Gh} {H H' : Hp} {σ : L2.St} {Γ : Env} {W : WX} {pos : Pos}
def XF (L : Lx) (E : XK) (g : Gh) (H : Hp) (x : Ex) (b : Nat) : Prop := ∀ cls d g' H', Stp L g H g' H' → g'.bud = b → ExAt L g' H' x cls d → E cls d H'
/-- a def's promise by its run -/
def SpD (L : Lx) (m : List D → M D) (vs : List V) (H : Hp) (Q : VK) (E : XK) : Prop := ∃ Γ g σ ds, Rep L Γ g σ H ∧ DenL L g vs ds ∧ (m ds).wpB g.bud (Wn L DenT g H Q) (XF L E g H)
/-- at f stands a def whose calls do what m says, from depth k on -/
structure FG (L : Lx) (P : Program) (w : World) (mg : Str → Option Value) (base : Heap) (k : Nat) (f : Addr) (fd : FuncData) (ps : List Str) (m : List D → M D) : Prop where
  go : ∀ (A : Around) (outer : List PySem.Env) (s : Shared) (H : Hp) (args : Args) (us : List Value) (vs : List V) (Q : VK) (E : XK), Room k A → A.guards = some [] → Env0 P w L.K mg base A outer s H → BindsTo s fd args (ps.zip us) → Vals vs us → us.length = ps.length → SpD L m vs H Q E →
    codeAny (model P w) A (.call (.ref f) args) (CR (L2.CX P w) outer P w H s Q E) s
theorem FG.mono {P : Program} {w : World} {mg : Str → Option Value} {base : Heap} {j k : Nat} {f : Addr} {fd : FuncData} {ps : List Str} {m : List D → M D} (F : FG L P w mg base j f fd ps m) (h : j ≤ k) : FG L P w mg base k f fd ps m :=
  ⟨fun A outer s H args us vs Q E hr => F.go A outer s H args us vs Q E (hr.mono h)⟩
theorem rep_start {N : List Str} {ds : List D} {vs : List V} (r : Rep L Γ g σ H) (l : DenL L g vs ds) (hn : vs.length ≤ N.length) : RepS L g H (env0 N.length ds) g (L2.start N vs) H := by
  have at_ : ∀ (i : Nat) (b : B), (env0 N.length ds)[i]? = some (some b) → ∃ d, ds[i]? = some d ∧ b = .fz d := fun i b e => by
    unfold env0 at e
    by_cases h : i < ds.length
    · rw [List.getElem?_append_left (by simpa using h), List.getElem?_map] at e
      cases q : ds[i]? with
      | none => rw [q] at e; cases e
      | some d => rw [q] at e; cases e; exact ⟨d, rfl, rfl⟩
    · rw [List.getElem?_append_right (by simpa using h), List.getElem?_replicate] at e
      split at e <;> cases e
  refine ⟨⟨r.sub, r.rnd, r.tab, fun i b e => ?_, fun i j b c p e1 e2 o1 o2 s1 s2 => ?_, r.nF, ?_⟩, Stp.refl r, fun i b p e o s => ?_⟩
  · obtain ⟨d, hd, rfl⟩ := at_ i b e
    obtain ⟨v, hv, t⟩ := l.get hd
    refine ⟨some v, ?_, v, rfl, t⟩
    unfold L2.start
    rw [List.getElem?_append_left (by rw [List.length_map]; exact (List.getElem?_eq_some_iff.mp hv).1), List.getElem?_map, hv]
    rfl
  · obtain ⟨d, _, rfl⟩ := at_ i b e1
    cases o1
  · unfold env0 L2.start
    rw [List.length_append, List.length_append, List.length_map, List.length_map, List.length_replicate, List.length_replicate, l.length]
  · obtain ⟨d, _, rfl⟩ := at_ i b e
    cases o
/-- a def of the text by its body -/
theorem fg_of {P : Program} {w : World} {mg : Str → Option Value} {base : Heap} {x qual : Str} {st : Stmt} {f : Addr} {fd : FuncData} {N ps : List Str} {k : Nat} {body : IS} (F : Fun L.K x qual st f fd) (S : FnScope N ps (defScope st))
    (hb : ∀ (cdv : Value) (A : Around) (outer : List PySem.Env) (s : Shared) (H : Hp) (E : XK), Room k (A.deeper (PyProof.Rows.envOfC qual (defScope st) s.heap.objs.size f cdv)) → A.guards = some [] →
      DSs L (cxOf (L2.CX P w) P w L.K mg base N qual (defScope st) f cdv A outer s H E) body (defBody st)) : FG L P w mg base (k + 1) f fd ps (runFn N.length body) := by
  refine ⟨fun A outer s H args us vs Q E hr hg e0 bt r hl ⟨Γ, g, σ, ds, rp, l, w⟩ => ?_⟩
  obtain ⟨oc, od, kV, doc, pm, an, cdv, ct, osl, rfl, lk, hcd⟩ := F.ex
  refine LamX.run_ofS lk hcd S hr e0 bt r (r.length.trans hl) fun hr' => ⟨_, hb cdv A outer s H E hr' hg (fun cls d _ H => E cls d H) g H (takes_of rfl rfl rfl rfl), ?_⟩
  have hpl : ps.length ≤ N.length := by have := congrArg List.length S.pre; rw [List.length_take] at this; omega
  refine ⟨env0 N.length ds, g, rep_start rp l (by rw [r.length, hl]; exact hpl), M.wpB_mono (fun fl b k => ?_) (fun _ _ x => fun cls d g σ H s e a => x cls d g H s e a) _ _ ((M.wpB_bind _ _).mp w)⟩
  cases fl with
  | nx Γ' => exact fun g' σ' H' r' _ e => k .non g' H' r'.base e .non
  | rt d => exact fun g' v H' s' e t => k v g' H' s' e t
  | bk Γ' => exact k.elim
  | ct Γ' => exact k.elim

/-! calls -/
variable {k : Nat} {f : Addr} {fd : FuncData} {ps : List Str} {m : List D → M D} {x : Str} {p : Pos} {e : Expr} {es : List Expr} {is : List IE} {i : IE}
def iCall (m : List D → M D) (is : List IE) : IE := fun Γ => (evs is Γ).bind m
theorem run_fg {pins : List (Addr × Obj)} {s : Shared} {Q : VK} {us : List Value} {vs : List V} {args : Args} (F : FG L X.prog X.w X.mg X.base k f fd ps m) (hK : X.K = L.K) (hr : Room k X.A) (hgd : X.A.guards = some []) (tk : Takes X W) (I : Inv X pins σ H s) (r : Vals vs us)
    (hb : BindsTo s fd args (ps.zip us)) (hl : us.length = ps.length) (h : SpD L m vs H Q (WE W σ)) : codeAny (model X.prog X.w) X.A (.call (.ref f) args) (fun r s' => match r with
      | .ok (.ret u) => EP X pins σ Q u s'
      | .ok _ => False
      | .error e => X.xe e s') s := by
  refine codeAny_mono (F.go X.A X.stack s H args us vs Q (WE W σ) hr hgd (hK ▸ I.env0) hb r hl h) fun r s' hq => ?_
  cases r with
  | error e => exact passAt tk σ pins H s e s' I hq
  | ok fl =>
    cases fl with
    | ret u => exact I.after hq
    | next => exact hq
    | brk => exact hq
    | cont => exact hq
theorem spd_of {Γ : Env} {Q : VK} {vs : List V} {ds : List D} (r : Rep L Γ g σ H) (l : DenL L g vs ds) (w : (m ds).wpB g.bud (Wn L DenT g H Q) (XW L W g σ H)) : SpD L m vs H Q (WE W σ) := ⟨Γ, g, σ, ds, r, l, w⟩
theorem call_fg {pins : List (Addr × Obj)} {s : Shared} {Q : VK} {us : List Value} {args : Args} (h : codeAny (model X.prog X.w) X.A (.call (.ref f) args) (fun r s' => match r with
      | .ok (.ret u) => EP X pins σ Q u s'
      | .ok _ => False
      | .error e => X.xe e s') s) (ha : args = ⟨us, []⟩) : wpAny (model X.prog X.w) X.A (call (.ref f) us) (EP X pins σ Q) X.xe s := by
  subst ha
  refine wpAny_call (codeAny_mono h fun r s' hq => ?_)
  cases r with
  | error e => exact hq
  | ok fl => cases fl <;> exact hq
theorem evs_len {Q : List D → Nat → Prop} {E : Ex → Nat → Prop} : ∀ (is : List IE) (b : Nat), (evs is Γ).wpB b Q E → (evs is Γ).wpB b (fun ds c => ds.length = is.length ∧ Q ds c) E := fun is => by
  induction is generalizing Q with
  | nil => intro b h; exact ⟨rfl, h⟩
  | cons i is ih =>
    intro b h
    refine (M.wpB_bind _ _).mpr (M.wpB_mono (fun d c k => ?_) (fun _ _ x => x) _ _ ((M.wpB_bind _ _).mp h))
    exact (M.wpB_bind _ _).mpr (M.wpB_mono (fun ds c k => ⟨congrArg (· + 1) k.1, k.2⟩) (fun _ _ x => x) _ _ (ih _ ((M.wpB_bind _ _).mp k)))
/-- a def's arguments, then its run -/
theorem RdA.call {Γ : Env} {Q : VK} (r : Rep L Γ g σ H) (hn : is.length = ps.length) (w : (iCall m is Γ).wpB g.bud (Wn L DenT g H Q) (XW L W g σ H)) : RdA L W is σ H fun vs H1 => vs.length = ps.length ∧ SpD L m vs H1 Q (WE W σ) := by
  refine ⟨Γ, g, r, M.wpB_mono (fun ds b h vs g' H' s e t => ?_) (fun _ _ x => x) _ _ (evs_len is g.bud ((M.wpB_bind _ _).mp w))⟩
  subst e
  refine ⟨t.length.trans (h.1.trans hn), spd_of (r.step s) t (M.wpB_mono (fun d b k v g2 H2 s2 e t => k v g2 H2 (s.trans s2) e t) (fun _ _ x => x.of s) _ _ h.2)⟩
/-- f(e, ..) -/
theorem de_call (F : FG L X.prog X.w X.mg X.base k f fd ps m) (hK : X.K = L.K) (hr : Room k X.A) (hgd : X.A.guards = some []) (gl : Gl X x) (mf : X.mg x = some (.ref f)) (kp : PySem.W.keepIn X.K (.ref f) = true) (bi : Binds X.K fd ps []) (hn : is.length = ps.length)
    (ha : DA L X is (e :: es)) (nd : (x == ("__debug__" : Str)) = false := by decide) (h1 : starEach (e :: es) X.env = (false, eval e X.env) :: starEach es X.env := by rfl) (h2 : (backTo pos (starEach es X.env)).any (·.1) = false := by rfl) :
    DE L X (iCall m is) (.Call (.Name x p) (e :: es) [] pos) := fun W tk => by
  refine ⟨fun pins s σ H Q I ⟨Γ, g, rp, w⟩ => ?_⟩
  refine wpAny_Call_Name_kw (ld_glob I gl mf (PySem.W.callWith_K (h₀ := X.base) I.ok.mod.kin kp (thn ((ha W tk).run pos pins s σ H _ I (RdA.call rp hn w)) fun us s1 ⟨vs, H1, I1, r, hl, q⟩ => ⟨I1.kIn, ?_⟩) h1 h2) nd)
  have hl2 : us.length = ps.length := by rw [← r.length]; exact hl
  have b := bi s1 us I1.kIn (by rw [List.append_nil]; exact hl2)
  rw [List.append_nil] at b
  exact call_fg (run_fg F hK hr hgd tk I1 r b hl2 q) rfl
end
end DL
/-! Subscripts, slices, membership, built-ins. -/
namespace DL
open PySem PySem.Spec L2
section
variable {L : Lx} {X : Cx} {g g' : Gh} {H H' : Hp} {σ : L2.St} {Γ : Env} {W : WX} {pos : Pos}

/-! a[i] -/
def IxD (L : Lx) (X : Cx) (f : D → D → Option D) : Prop := IxR X (RdO L f)
theorem IxD.or {f f' : D → D → Option D} (h : IxD L X f) (h' : IxD L X f') : IxD L X (orD f f') := by
  intro va sl pins st σ H x y v u Q I rx ry ⟨Γ, g, σ', dx, dy, d, rp, vx, vy, e, w⟩ hs
  unfold orD at e
  split at e
  · rename_i d' e'
    cases e
    exact h va sl pins st σ H x y v u Q I rx ry ⟨Γ, g, σ', dx, dy, d, rp, vx, vy, e', w⟩ hs
  · exact h' va sl pins st σ H x y v u Q I rx ry ⟨Γ, g, σ', dx, dy, d, rp, vx, vy, e, w⟩ hs
theorem DenL.atI {vs : List V} {ds : List D} {i : Int} {d : D} (l : DenL L g vs ds) (e : atI ds i = some d) : ∃ v, L2.atI vs i = some v ∧ Den L g v d := by
  unfold L2.atI at e ⊢
  rw [l.length]
  cases q : ixN ds.length i with
  | none => rw [q] at e; cases e
  | some j =>
    rw [q] at e
    exact l.get (i := j) e
def fIxT : D → D → Option D
  | .tup ds, .int i => atI ds i
  | _, _ => none
def fIxL : D → D → Option D
  | .lst ds, .int i => atI ds i
  | _, _ => none
def fIxS : D → D → Option D
  | .str z, .int i => if z.length ≤ sizeLine then (atI z.cps.toList i).map fun c => .str ⟨#[c]⟩ else none
  | _, _ => none
theorem ixd_tup (hK : X.K = L.K) : IxD L X fIxT := by
  intro va sl pins st σ H x y v u Q I rx ry ⟨Γ, g, σ', dx, dy, d, rp, vx, vy, e, w⟩ hs
  unfold fIxT at e
  split at e
  · obtain ⟨a, vs, rfl, h1, l1, _⟩ := vx.tup rp.sub
    cases vy.int
    obtain ⟨z, hz, t⟩ := l1.atI e
    exact ix_tup va sl pins st σ H _ _ v u Q I rx ry ⟨a, vs, _, z, rfl, rfl, hK ▸ h1, hz, w _ g H (Stp.refl rp) rfl t⟩ hs
  · cases e
theorem ixd_list : IxD L X fIxL := by
  intro va sl pins st σ H x y v u Q I rx ry ⟨Γ, g, σ', dx, dy, d, rp, vx, vy, e, w⟩ hs
  unfold fIxL at e
  split at e
  · obtain ⟨a, vs, rfl, h1, l1⟩ := vx.lst rp.sub
    cases vy.int
    obtain ⟨z, hz, t⟩ := l1.atI e
    exact ix_list va sl pins st σ H _ _ v u Q I rx ry ⟨a, vs, _, z, rfl, rfl, SqL.of h1, hz, w _ g H (Stp.refl rp) rfl t⟩ hs
  · cases e
theorem ixd_str : IxD L X fIxS := by
  intro va sl pins st σ H x y v u Q I rx ry ⟨Γ, g, σ', dx, dy, d, rp, vx, vy, e, w⟩ hs
  cases dx with
  | str z =>
    cases dy with
    | int i =>
      replace e : (if z.length ≤ sizeLine then (L2.atI z.cps.toList i).map fun c => D.str ⟨#[c]⟩ else none) = some d := e
      split at e
      · rename_i hz
        cases vx.str
        cases vy.int
        cases q : L2.atI z.cps.toList i with
        | none => rw [q] at e; cases e
        | some c =>
          rw [q] at e
          cases e
          exact ix_str va sl pins st σ H _ _ v u Q I rx ry ⟨z, i, c, rfl, rfl, hz, q, w _ g H (Stp.refl rp) rfl (.str _)⟩ hs
      · cases e
    | _ => cases e
  | _ => cases dy <;> cases e
theorem de_ix {f : D → D → Option D} {i j : IE} {a b : Expr} (ho : IxD L X f) (ha : DV L X i a) (hb : DV L X j b) (hs : PlainIx b := by exact fun _ _ => rfl) : DE L X (iOp f i j) (.Subscript a b pos) := fun W tk =>
  PE.imp (pe_ix ho (ha W tk) (hb W tk) hs) fun σ H Q h => h.op (fun _ _ _ _ _ t => t) fun _ _ _ _ _ t => t

/-! slices -/
abbrev IO := Env → M (Option Int)
def RdPo (L : Lx) (W : WX) (t : IO) : TO := fun σ H Q => ∃ Γ g, Rep L Γ g σ H ∧ (t Γ).wpB g.bud (fun o b => ∀ g' H', Stp L g H g' H' → g'.bud = b → Q o H') (XW L W g σ H)
def DO (L : Lx) (X : Cx) (t : IO) (e : Option Expr) : Prop := ∀ W, Takes X W → PO X e (RdPo L W t)
theorem PO.imp {e : Option Expr} {t t' : TO} (h : PO X e t) (k : ∀ σ H Q, t' σ H Q → t σ H Q) : PO X e t' := ⟨fun pins s σ H Q I r => h.run pins s σ H Q I (k _ _ _ r)⟩
def oNone : IO := fun _ => .ret none
def oSome (i : IE) : IO := fun Γ => (i Γ).bind fun d => match d with
  | .int k => .ret (some k)
  | _ => .stuck
theorem do_none : DO L X oNone none := fun W tk => PO.imp po_none fun σ H Q ⟨Γ, g, r, w⟩ => w g H (Stp.refl r) rfl
theorem do_some {i : IE} {e : Expr} (h : DE L X i e) : DO L X (oSome i) (some e) := fun W tk => PO.imp (po_some (h W tk)) fun σ H Q ⟨Γ, g, r, w⟩ => Rd1.go r w fun v H1 d g1 r1 s t w => by
  cases d with
  | int k => cases t; exact ⟨k, rfl, w g1 H1 s rfl⟩
  | _ => exact w.elim
def cutD (ds : List D) (lo hi : Option Int) : List D := (ds.drop (HT.sIx ds.length 0 lo)).take (HT.sIx ds.length ds.length hi - HT.sIx ds.length 0 lo)
theorem DenL.cut {vs : List V} {ds : List D} {lo hi : Option Int} (l : DenL L g vs ds) : DenL L g (cutV vs lo hi) (cutD ds lo hi) := by
  unfold cutV cutD
  rw [l.length]
  exact (l.drop _).take _
def RdSl (L : Lx) (T : TT1) (f : D → Option Int → Option Int → Option D) : V → Option Int → Option Int → Hp → VK → Prop := fun x lo hi H Q => ∃ Γ g σ dx d, Rep L Γ g σ H ∧ Vw L g H x dx ∧ f dx lo hi = some d ∧ Wn L T g H Q d g.bud
def SlD (L : Lx) (X : Cx) (T : TT1) (f : D → Option Int → Option Int → Option D) : Prop := SlR X (RdSl L T f)
def iSl (f : D → Option Int → Option Int → Option D) (i : IE) (lo hi : IO) : IE := fun Γ => (i Γ).bind fun x => (lo Γ).bind fun l => (hi Γ).bind fun h => match f x l h with
  | some d => .ret d
  | none => .stuck
theorem RdPo.go {α : Type} {t : IO} {f : Option Int → M α} {R : α → Nat → Prop} {Q : Option Int → Hp → Prop} (r : Rep L Γ g σ H) (h : ((t Γ).bind f).wpB g.bud R (XW L W g σ H))
    (k : ∀ o H1 g1, Rep L Γ g1 σ H1 → Stp L g H g1 H1 → (f o).wpB g1.bud R (XW L W g1 σ H1) → Q o H1) : RdPo L W t σ H Q := by
  refine ⟨Γ, g, r, M.wpB_mono (fun d b h g' H' s e => ?_) (fun _ _ x => x) _ _ ((M.wpB_bind _ _).mp h)⟩
  subst e
  exact k d H' g' (r.step s) s (M.wpB_mono (fun _ _ x => x) (fun _ _ x => x.of s) _ _ h)
theorem Rd1.slc {T : TT1} {f : D → Option Int → Option Int → Option D} {i : IE} {lo hi : IO} {Q : VK} (hT : ∀ {g g1 : Gh} {H H1 H2 : Hp} {g2 : Gh} {v : V} {d : D}, Stp L g H g1 H1 → T L H1 g2 H2 v d → T L H g2 H2 v d) (h : Rd1 L T W (iSl f i lo hi) σ H Q) :
    tSl (RdSl L T f) (Rd1 L VwT W i) (RdPo L W lo) (RdPo L W hi) σ H Q := by
  obtain ⟨Γ, g, rp, w⟩ := h
  refine Rd1.go rp w fun x H1 dx g1 r1 s1 t1 w => RdPo.go r1 w fun l H2 g2 r2 s2 w => RdPo.go r2 w fun h H3 g3 r3 s3 w => ?_
  split at w
  · rename_i d e
    exact ⟨Γ, g3, σ, dx, d, r3, (t1.step s2).step s3, e, fun v g' H' s eb t => w v g' H' (s1.trans (s2.trans (s3.trans s))) eb (hT (s1.trans (s2.trans s3)) t)⟩
  · exact w.elim
theorem de_sl {f : D → Option Int → Option Int → Option D} {i : IE} {lo hi : IO} {a : Expr} {l h : Option Expr} {p2 : Pos} (ho : SlD L X DenT f) (ha : DV L X i a) (hl : DO L X lo l) (hh : DO L X hi h) : DE L X (iSl f i lo hi) (.Subscript a (.Slice l h none p2) pos) := fun W tk =>
  PE.imp (pe_slice ho (ha W tk) (hl W tk) (hh W tk)) fun σ H Q h => h.slc fun _ t => t
theorem df_sl {f : D → Option Int → Option Int → Option D} {i : IE} {lo hi : IO} {a : Expr} {l h : Option Expr} {p2 : Pos} (ho : SlD L X FrT f) (ha : DV L X i a) (hl : DO L X lo l) (hh : DO L X hi h) : DF L X (iSl f i lo hi) (.Subscript a (.Slice l h none p2) pos) := fun W tk =>
  PE.imp (pe_slice ho (ha W tk) (hl W tk) (hh W tk)) fun σ H Q h => h.slc fun s ⟨p, vs, ds, e1, e2, h1, h2, h3, h4, h5⟩ => ⟨p, vs, ds, e1, e2, h1, h2, h3, h4, none_back s h5⟩
def fSlT : D → Option Int → Option Int → Option D
  | .tup ds, lo, hi => some (.tup (cutD ds lo hi))
  | _, _, _ => none
def fSlL : D → Option Int → Option Int → Option D
  | .lst ds, lo, hi => some (.lst (cutD ds lo hi))
  | _, _, _ => none
def fSlS : D → Option Int → Option Int → Option D
  | .str z, lo, hi => if z.length ≤ sizeLine then some (.str (cutS z lo hi)) else none
  | _, _, _ => none
def orSl (f f' : D → Option Int → Option Int → Option D) : D → Option Int → Option Int → Option D := fun x l h => match f x l h with
  | some d => some d
  | none => f' x l h
theorem SlD.or {T : TT1} {f f' : D → Option Int → Option Int → Option D} (h : SlD L X T f) (h' : SlD L X T f') : SlD L X T (orSl f f') := by
  intro pins st σ H x v vl vu lo hi sl Q I rx hs pl pu ⟨Γ, g, σ', dx, d, rp, vx, e, w⟩
  unfold orSl at e
  split at e
  · rename_i d' e'
    cases e
    exact h pins st σ H x v vl vu lo hi sl Q I rx hs pl pu ⟨Γ, g, σ', dx, d, rp, vx, e', w⟩
  · exact h' pins st σ H x v vl vu lo hi sl Q I rx hs pl pu ⟨Γ, g, σ', dx, d, rp, vx, e, w⟩
theorem sld_str : SlD L X DenT fSlS := by
  intro pins st σ H x v vl vu lo hi sl Q I rx hs pl pu ⟨Γ, g, σ', dx, d, rp, vx, e, w⟩
  cases dx with
  | str z =>
    replace e : (if z.length ≤ sizeLine then some (D.str (cutS z lo hi)) else none) = some d := e
    split at e
    · rename_i hz
      cases e
      cases vx.str
      exact sl_str pins st σ H _ v vl vu lo hi sl Q I rx hs pl pu ⟨z, rfl, hz, w _ g H (Stp.refl rp) rfl (.str _)⟩
    · cases e
  | _ => cases e
theorem cutD_all {ds : List D} {lo hi : Option Int} (h : HT.sIx ds.length 0 lo = 0 ∧ HT.sIx ds.length ds.length hi = ds.length) : cutD ds lo hi = ds := by
  unfold cutD
  rw [h.1, h.2, List.drop_zero, Nat.sub_zero, List.take_length]
theorem sld_tup (hK : X.K = L.K) : SlD L X DenT fSlT := by
  intro pins st σ H x v vl vu lo hi sl Q I rx hs pl pu ⟨Γ, g, σ', dx, d, rp, vx, e, w⟩
  unfold fSlT at e
  split at e
  · cases e
    obtain ⟨a, vs, rfl, h1, l1, d1⟩ := vx.tup rp.sub
    refine sl_tupA pins st σ H _ v vl vu lo hi sl Q I rx hs pl pu ⟨a, vs, rfl, hK ▸ h1, fun z => ?_, fun _ p n => ?_⟩
    · rw [l1.length] at z
      rw [cutD_all z] at w
      exact w _ g H (Stp.refl rp) rfl d1
    · have s := stp_put (o := .tup (cutV vs lo hi)) rp n
      exact w _ _ _ s rfl (.tup (.inl (.inl put_F)) (l1.cut.mono s.le s.mu))
  · cases e
theorem sld_list : SlD L X FrT fSlL := by
  intro pins st σ H x v vl vu lo hi sl Q I rx hs pl pu ⟨Γ, g, σ', dx, d, rp, vx, e, w⟩
  unfold fSlL at e
  split at e
  · cases e
    obtain ⟨a, vs, rfl, h1, l1⟩ := vx.lst rp.sub
    refine L2.sl_list pins st σ H _ v vl vu lo hi sl Q I rx hs pl pu ⟨a, vs, rfl, SqL.of h1, fun p n => ?_⟩
    exact w _ _ _ (stp_new (o := .lst (cutV vs lo hi)) rp n false) rfl (FrT.new rp (Stp.refl rp) n l1.cut)
  · cases e
theorem SlD.frz {f : D → Option Int → Option Int → Option D} (h : SlD L X FrT f) : SlD L X DenT f := by
  intro pins st σ H x v vl vu lo hi sl Q I rx hs pl pu ⟨Γ, g, σ', dx, d, rp, vx, e, w⟩
  refine h pins st σ H x v vl vu lo hi sl Q I rx hs pl pu ⟨Γ, g, σ', dx, d, rp, vx, e, fun v g' H' s eb fr => ?_⟩
  obtain ⟨g2, s2, e2, t2⟩ := stp_frz s fr
  exact w v g2 H' s2 (e2.trans eb) t2

/-! x in xs -/
def okIn (x : D) (ds : List D) : Bool := x.pl && D.plL ds && decide (min (D.depL ds) x.dep ≤ 60)
def dIn (x : D) (ds : List D) : Bool := ds.any fun y => dEq y x
theorem any_py (x : D) : ∀ ds : List D, ((D.pyL ds).any fun y => PyData.eqv y x.py) = dIn x ds
  | [] => rfl
  | d :: ds => by
    show (PyData.eqv d.py x.py || (D.pyL ds).any fun y => PyData.eqv y x.py) = (dEq d x || ds.any fun y => dEq y x)
    rw [any_py x ds]
    rfl
def itemsD : D → Option (List D)
  | .lst ds => some ds
  | .tup ds => some ds
  | _ => none
def fIn (neg : Bool) (x y : D) : Option D := match itemsD y with
  | some ds => if okIn x ds then some (.bl (if neg then !dIn x ds else dIn x ds)) else none
  | none => none
theorem od_in (hK : X.K = L.K) (hu : X.A.units + 65 < cLine) : OpD L X (compareOp .In) (fIn false) := by
  intro pins st σ H x y v u Q I rx ry ⟨Γ, g, σ', dx, dy, d, rp, vx, vy, e, w⟩
  unfold fIn at e
  split at e
  · rename_i ds q
    split at e
    · rename_i z
      cases e
      unfold okIn at z
      simp only [Bool.and_eq_true, decide_eq_true_eq] at z
      have py : dy.pl = true := by
        cases dy <;> simp only [itemsD, Option.some.injEq, reduceCtorEq] at q
        · subst q; simp only [D.pl]; exact z.1.2
        · subst q; simp only [D.pl]; exact z.1.2
      obtain ⟨as, r1⟩ := Dp.reads I dx.py x v (hK ▸ vx.dp rp.sub z.1.1) rx
      obtain ⟨bs, r2⟩ := Dp.reads I dy.py y u (hK ▸ vy.dp rp.sub py) ry
      have fin : EP X pins σ Q (.bool ((D.pyL ds).any fun y => PyData.eqv y dx.py)) st := ⟨.bl _, H, I, by rw [any_py]; rfl, w _ g H (Stp.refl rp) rfl (.bl _)⟩
      have room : X.A.units + 1 + min (PyData.depthAll (D.pyL ds)) dx.py.depth < cLine := by rw [D.depth_pyL, D.depth_py]; omega
      cases dy <;> simp only [itemsD, Option.some.injEq, reduceCtorEq] at q
      · subst q
        simp only [D.py] at r2
        exact SeqAt.in_tuple_data r2 r1 (D.plain_pyL _ z.1.2) (D.plain_py _ z.1.1) room fin
      · subst q
        simp only [D.py] at r2
        exact SeqAt.in_list_data r2 r1 (D.plain_pyL _ z.1.2) (D.plain_py _ z.1.1) room fin
    · cases e
  · cases e
theorem od_notIn (hK : X.K = L.K) (hu : X.A.units + 65 < cLine) : OpD L X (compareOp .NotIn) (fIn true) := by
  intro pins st σ H x y v u Q I rx ry ⟨Γ, g, σ', dx, dy, d, rp, vx, vy, e, w⟩
  unfold fIn at e
  split at e
  · rename_i ds q
    split at e
    · rename_i z
      cases e
      unfold okIn at z
      simp only [Bool.and_eq_true, decide_eq_true_eq] at z
      have py : dy.pl = true := by
        cases dy <;> simp only [itemsD, Option.some.injEq, reduceCtorEq] at q
        · subst q; simp only [D.pl]; exact z.1.2
        · subst q; simp only [D.pl]; exact z.1.2
      obtain ⟨as, r1⟩ := Dp.reads I dx.py x v (hK ▸ vx.dp rp.sub z.1.1) rx
      obtain ⟨bs, r2⟩ := Dp.reads I dy.py y u (hK ▸ vy.dp rp.sub py) ry
      have fin : EP X pins σ Q (.bool (!(D.pyL ds).any fun y => PyData.eqv y dx.py)) st := ⟨.bl _, H, I, by rw [any_py]; rfl, w _ g H (Stp.refl rp) rfl (.bl _)⟩
      have room : X.A.units + 1 + min (PyData.depthAll (D.pyL ds)) dx.py.depth < cLine := by rw [D.depth_pyL, D.depth_py]; omega
      cases dy <;> simp only [itemsD, Option.some.injEq, reduceCtorEq] at q
      · subst q
        simp only [D.py] at r2
        exact SeqAt.notIn_tuple_data r2 r1 (D.plain_pyL _ z.1.2) (D.plain_py _ z.1.1) room fin
      · subst q
        simp only [D.py] at r2
        exact SeqAt.notIn_list_data r2 r1 (D.plain_pyL _ z.1.2) (D.plain_py _ z.1.1) room fin
    · cases e
  · cases e
/-- one sign in a text -/
def fInS (neg : Bool) : D → D → Option D
  | .str x, .str z => if x.cps.size = 1 then some (.bl (if neg then !decide (x.cps.getD 0 0 ∈ z.cps.toList) else decide (x.cps.getD 0 0 ∈ z.cps.toList))) else none
  | _, _ => none
theorem sign_eq {x : Str} (h : x.cps.size = 1) : x = ⟨#[x.cps.getD 0 0]⟩ := by
  obtain ⟨⟨l⟩⟩ := x
  match l, h with
  | [c], _ => rfl
theorem ins_of {neg : Bool} {dx dy d : D} (e : fInS neg dx dy = some d) : ∃ c z, dx = .str ⟨#[c]⟩ ∧ dy = .str z ∧ d = .bl (if neg then !decide (c ∈ z.cps.toList) else decide (c ∈ z.cps.toList)) := by
  cases dx with
  | str x =>
    cases dy with
    | str z =>
      replace e : (if x.cps.size = 1 then some (D.bl (if neg then !decide (x.cps.getD 0 0 ∈ z.cps.toList) else decide (x.cps.getD 0 0 ∈ z.cps.toList))) else none) = some d := e
      split at e
      · rename_i h
        cases e
        exact ⟨_, z, by rw [← sign_eq h], rfl, rfl⟩
      · cases e
    | _ => cases e
  | _ => cases dy <;> cases e
theorem od_inS : OpD L X (compareOp .In) (fInS false) := by
  intro pins st σ H x y v u Q I rx ry ⟨Γ, g, σ', dx, dy, d, rp, vx, vy, e, w⟩
  obtain ⟨c, z, rfl, rfl, rfl⟩ := ins_of e
  cases vx.str
  cases vy.str
  exact op_in_sign pins st σ H _ _ v u Q I rx ry ⟨_, _, rfl, rfl, w _ g H (Stp.refl rp) rfl (.bl _)⟩
theorem od_notInS : OpD L X (compareOp .NotIn) (fInS true) := by
  intro pins st σ H x y v u Q I rx ry ⟨Γ, g, σ', dx, dy, d, rp, vx, vy, e, w⟩
  obtain ⟨c, z, rfl, rfl, rfl⟩ := ins_of e
  cases vx.str
  cases vy.str
  exact op_notIn_sign pins st σ H _ _ v u Q I rx ry ⟨_, _, rfl, rfl, w _ g H (Stp.refl rp) rfl (.bl _)⟩
/-- is None -/
def fIsN (neg : Bool) : D → D → Option D
  | .non, .non => some (.bl (!neg))
  | .bl _, .non | .int _, .non | .str _, .non | .tup _, .non | .lst _, .non | .dct _, .non | .ins _ _, .non => some (.bl neg)
  | _, _ => none
theorem isn_of {dx dy d : D} {neg : Bool} {x y : V} (vx : Vw L g H x dx) (vy : Vw L g H y dy) (e : fIsN neg dx dy = some d) : y = .non ∧ d = .bl (if neg then !decide (x = .non) else decide (x = .non)) := by
  have hy : dy = .non := by unfold fIsN at e; split at e <;> first | rfl | cases e
  subst hy
  have ey : y = .non := by
    rcases vy with h | ⟨_, _, _, _, e, _⟩ | ⟨_, _, _, e, _⟩
    · cases h; rfl
    · cases e
    · cases e
  refine ⟨ey, ?_⟩
  unfold fIsN at e
  rcases vx with h | ⟨p, _, _, rfl, rfl, _⟩ | ⟨p, _, rfl, rfl, _⟩
  · cases h <;> cases neg <;> simp_all
  · cases neg <;> simp_all
  · cases neg <;> simp_all
theorem od_isN : OpD L X (compareOp .Is) (fIsN false) := by
  intro pins st σ H x y v u Q I rx ry ⟨Γ, g, σ', dx, dy, d, rp, vx, vy, e, w⟩
  obtain ⟨e1, rfl⟩ := isn_of vx vy e
  exact op_isN pins st σ H _ _ v u Q I rx ry ⟨e1, w _ g H (Stp.refl rp) rfl (.bl _)⟩
theorem od_notN : OpD L X (compareOp .IsNot) (fIsN true) := by
  intro pins st σ H x y v u Q I rx ry ⟨Γ, g, σ', dx, dy, d, rp, vx, vy, e, w⟩
  obtain ⟨e1, rfl⟩ := isn_of vx vy e
  exact op_notN pins st σ H _ _ v u Q I rx ry ⟨e1, w _ g H (Stp.refl rp) rfl (.bl _)⟩
end
end DL
/-! Built-in functions and types, called. -/
namespace DL
open PySem PySem.Spec L2
section
variable {L : Lx} {X : Cx} {g g' : Gh} {H H' : Hp} {σ : L2.St} {Γ : Env} {W : WX} {pos : Pos}
inductive VwL (L : Lx) (g : Gh) (H : Hp) : List V → List D → Prop
  | nil : VwL L g H [] []
  | cons {v : V} {vs : List V} {d : D} {ds : List D} : Vw L g H v d → VwL L g H vs ds → VwL L g H (v :: vs) (d :: ds)
def RdAv (L : Lx) (W : WX) (is : List IE) : TA := fun σ H Q => ∃ Γ g, Rep L Γ g σ H ∧
  (evs is Γ).wpB g.bud (fun ds b => ∀ vs g' H', Stp L g H g' H' → g'.bud = b → VwL L g' H' vs ds → Q vs H') (XW L W g σ H)
def DAv (L : Lx) (X : Cx) (is : List IE) (es : List Expr) : Prop := ∀ W, Takes X W → PA X es (RdAv L W is)
theorem dav_nil : DAv L X [] [] := fun W _ => PA.imp pa_nil fun σ H Q ⟨Γ, g, rp, w⟩ => w [] g H (Stp.refl rp) rfl .nil
theorem dav_cons {i : IE} {is : List IE} {e : Expr} {es : List Expr} (h : DV L X i e) (hr : DAv L X is es) (hs : starEach (e :: es) X.env = (false, eval e X.env) :: starEach es X.env := by rfl) : DAv L X (i :: is) (e :: es) := fun W tk => by
  refine PA.imp (pa_cons (h W tk) (hr W tk) hs) fun σ H Q ⟨Γ, g, rp, w⟩ => ?_
  refine ⟨Γ, g, rp, M.wpB_mono (fun d b h v g1 H1 s e t => ?_) (fun _ _ x => x) _ _ ((M.wpB_bind _ _).mp w)⟩
  subst e
  refine ⟨Γ, g1, rp.step s, M.wpB_mono (fun ds b h vs g2 H2 s2 e2 t2 => ?_) (fun _ _ x => x.of s) _ _ ((M.wpB_bind _ _).mp h)⟩
  exact h (v :: vs) g2 H2 (s.trans s2) e2 (.cons (t.step s2) t2)
theorem RdAv.go {α : Type} {is : List IE} {f : List D → M α} {R : α → Nat → Prop} {Q : List V → Hp → Prop} (r : Rep L Γ g σ H) (h : ((evs is Γ).bind f).wpB g.bud R (XW L W g σ H))
    (k : ∀ vs H1 ds g1, Rep L Γ g1 σ H1 → Stp L g H g1 H1 → VwL L g1 H1 vs ds → (f ds).wpB g1.bud R (XW L W g1 σ H1) → Q vs H1) : RdAv L W is σ H Q := by
  refine ⟨Γ, g, r, M.wpB_mono (fun d b h v g' H' s e t => ?_) (fun _ _ x => x) _ _ ((M.wpB_bind _ _).mp h)⟩
  subst e
  exact k v H' d g' (r.step s) s t (M.wpB_mono (fun _ _ x => x) (fun _ _ x => x.of s) _ _ h)
/-- a built-in's call on values, by what it says of data -/
def RdC (L : Lx) (T : TT1) (f : List D → Option D) : List V → Hp → VK → Prop := fun vs H Q => ∃ Γ g σ ds d, Rep L Γ g σ H ∧ VwL L g H vs ds ∧ f ds = some d ∧ Wn L T g H Q d g.bud
def CaD (L : Lx) (X : Cx) (T : TT1) (v : Value) (f : List D → Option D) : Prop := CallR X v (RdC L T f)
def orC (f f' : List D → Option D) : List D → Option D := fun x => match f x with
  | some d => some d
  | none => f' x
theorem CaD.or {T : TT1} {v : Value} {f f' : List D → Option D} (h : CaD L X T v f) (h' : CaD L X T v f') : CaD L X T v (orC f f') := by
  intro pins st σ H xs us Q I r ⟨Γ, g, σ', ds, d, rp, vs, e, w⟩
  unfold orC at e
  split at e
  · rename_i d' e'
    cases e
    exact h pins st σ H xs us Q I r ⟨Γ, g, σ', ds, d, rp, vs, e', w⟩
  · exact h' pins st σ H xs us Q I r ⟨Γ, g, σ', ds, d, rp, vs, e, w⟩
theorem CaD.frz {v : Value} {f : List D → Option D} (h : CaD L X FrT v f) : CaD L X DenT v f := by
  intro pins st σ H xs us Q I r ⟨Γ, g, σ', ds, d, rp, vs, e, w⟩
  refine h pins st σ H xs us Q I r ⟨Γ, g, σ', ds, d, rp, vs, e, fun v g' H' s eb fr => ?_⟩
  obtain ⟨g2, s2, e2, t2⟩ := stp_frz s fr
  exact w v g2 H' s2 (e2.trans eb) t2
def iBi (f : List D → Option D) (is : List IE) : IE := fun Γ => (evs is Γ).bind fun ds => match f ds with
  | some d => .ret d
  | none => .stuck
theorem RdAv.bi {T : TT1} {f : List D → Option D} {is : List IE} {Q : VK} (hT : ∀ {g g1 : Gh} {H H1 H2 : Hp} {g2 : Gh} {v : V} {d : D}, Stp L g H g1 H1 → T L H1 g2 H2 v d → T L H g2 H2 v d) (h : Rd1 L T W (iBi f is) σ H Q) : RdAv L W is σ H fun vs H1 => RdC L T f vs H1 Q := by
  obtain ⟨Γ, g, rp, w⟩ := h
  refine RdAv.go rp w fun vs H1 ds g1 r1 s1 t1 w => ?_
  split at w
  · rename_i d e
    exact ⟨Γ, g1, σ, ds, d, r1, t1, e, fun v g' H' s eb t => w v g' H' (s1.trans s) eb (hT s1 t)⟩
  · exact w.elim
theorem frT_back {g g1 g2 : Gh} {H H1 H2 : Hp} {v : V} {d : D} (s : Stp L g H g1 H1) : FrT L H1 g2 H2 v d → FrT L H g2 H2 v d := fun ⟨p, vs, ds, e1, e2, h1, h2, h3, h4, h5⟩ => ⟨p, vs, ds, e1, e2, h1, h2, h3, h4, none_back s h5⟩
section
variable {x : Str} {p : Pos} {e : Expr} {es : List Expr} {is : List IE} {id : String} {f : List D → Option D}
theorem de_bi (ho : CaD L X DenT (.builtin id) f) (gl : Gl X x) (mn : X.mg x = none) (bv : bootBuiltins x = some (.builtin id)) (ha : DAv L X is (e :: es)) (n1 : x ≠ "__name__" := by decide) (n2 : (x == ("__debug__" : Str)) = false := by decide)
    (h1 : starEach (e :: es) X.env = (false, eval e X.env) :: starEach es X.env := by rfl) (h2 : (backTo pos (starEach es X.env)).any (·.1) = false := by rfl) : DE L X (iBi f is) (.Call (.Name x p) (e :: es) [] pos) := fun W tk =>
  PE.imp (pe_callB ho gl mn bv (ha W tk) n1 n2 h1 h2) fun σ H Q h => RdAv.bi (fun _ t => t) h
theorem df_bi (ho : CaD L X FrT (.builtin id) f) (gl : Gl X x) (mn : X.mg x = none) (bv : bootBuiltins x = some (.builtin id)) (ha : DAv L X is (e :: es)) (n1 : x ≠ "__name__" := by decide) (n2 : (x == ("__debug__" : Str)) = false := by decide)
    (h1 : starEach (e :: es) X.env = (false, eval e X.env) :: starEach es X.env := by rfl) (h2 : (backTo pos (starEach es X.env)).any (·.1) = false := by rfl) : DF L X (iBi f is) (.Call (.Name x p) (e :: es) [] pos) := fun W tk =>
  PE.imp (pe_callB ho gl mn bv (ha W tk) n1 n2 h1 h2) fun σ H Q h => RdAv.bi frT_back h
theorem de_ty (ho : CaD L X DenT (.type id) f) (gl : Gl X x) (mn : X.mg x = none) (bv : bootBuiltins x = some (.type id)) (ha : DAv L X is (e :: es)) (n1 : x ≠ "__name__" := by decide) (n2 : (x == ("__debug__" : Str)) = false := by decide)
    (h1 : starEach (e :: es) X.env = (false, eval e X.env) :: starEach es X.env := by rfl) (h2 : (backTo pos (starEach es X.env)).any (·.1) = false := by rfl) : DE L X (iBi f is) (.Call (.Name x p) (e :: es) [] pos) := fun W tk =>
  PE.imp (pe_callTy ho gl mn bv (ha W tk) n1 n2 h1 h2) fun σ H Q h => RdAv.bi (fun _ t => t) h
theorem df_ty (ho : CaD L X FrT (.type id) f) (gl : Gl X x) (mn : X.mg x = none) (bv : bootBuiltins x = some (.type id)) (ha : DAv L X is (e :: es)) (n1 : x ≠ "__name__" := by decide) (n2 : (x == ("__debug__" : Str)) = false := by decide)
    (h1 : starEach (e :: es) X.env = (false, eval e X.env) :: starEach es X.env := by rfl) (h2 : (backTo pos (starEach es X.env)).any (·.1) = false := by rfl) : DF L X (iBi f is) (.Call (.Name x p) (e :: es) [] pos) := fun W tk =>
  PE.imp (pe_callTy ho gl mn bv (ha W tk) n1 n2 h1 h2) fun σ H Q h => RdAv.bi frT_back h
end

/-! the built-ins -/
theorem VwL.one {vs : List V} {d : D} (h : VwL L g H vs [d]) : ∃ v, vs = [v] ∧ Vw L g H v d := by
  cases h with
  | cons a l => cases l; exact ⟨_, rfl, a⟩
theorem VwL.two {vs : List V} {d e : D} (h : VwL L g H vs [d, e]) : ∃ v u, vs = [v, u] ∧ Vw L g H v d ∧ Vw L g H u e := by
  cases h with
  | cons a l => cases l with
    | cons b l => cases l; exact ⟨_, _, rfl, a, b⟩
def fLen : List D → Option D
  | [.str z] => if z.length ≤ sizeLine then some (.int z.length) else none
  | [.lst ds] => some (.int ds.length)
  | [.tup ds] => some (.int ds.length)
  | [.scr ns] => some (.int ns.length)
  | _ => none
theorem ca_len (hK : X.K = L.K) : CaD L X DenT (.builtin "len") fLen := by
  intro pins st σ H xs us Q I r ⟨Γ, g, σ', ds, d, rp, vs, e, w⟩
  unfold fLen at e
  split at e
  · split at e
    · rename_i z hz
      cases e
      obtain ⟨v, rfl, a⟩ := vs.one
      cases a.str
      exact call_len pins st σ H _ us Q I r ⟨_, z.length, rfl, ⟨hz, rfl⟩, w _ g H (Stp.refl rp) rfl (.int _)⟩
    · cases e
  · rename_i ds
    cases e
    obtain ⟨v, rfl, a⟩ := vs.one
    obtain ⟨p, ws, rfl, h1, l1⟩ := a.lst rp.sub
    exact call_len pins st σ H _ us Q I r ⟨_, ds.length, rfl, .inl ⟨ws, SqL.of h1, l1.length.symm⟩, w _ g H (Stp.refl rp) rfl (.int _)⟩
  · rename_i ds
    cases e
    obtain ⟨v, rfl, a⟩ := vs.one
    obtain ⟨p, ws, rfl, h1, l1, _⟩ := a.tup rp.sub
    exact call_len pins st σ H _ us Q I r ⟨_, ds.length, rfl, .inr ⟨ws, hK ▸ h1, l1.length.symm⟩, w _ g H (Stp.refl rp) rfl (.int _)⟩
  · rename_i ns
    cases e
    obtain ⟨v, rfl, a⟩ := vs.one
    rcases a with h | ⟨_, _, _, _, e, _⟩ | ⟨_, _, _, e, _⟩
    · cases h with
      | scr h => exact call_len pins st σ H _ us Q I r ⟨_, ns.length, rfl, .inl ⟨_, hK ▸ sqL_mono rp.sub h, by rw [List.length_map]⟩, w _ g H (Stp.refl rp) rfl (.int _)⟩
    · cases e
    · cases e
  · cases e
def fInt : List D → Option D
  | [.int i] => some (.int i)
  | [.bl k] => some (.int (if k then 1 else 0))
  | _ => none
theorem ca_int : CaD L X DenT (.type "int") fInt := by
  intro pins st σ H xs us Q I r ⟨Γ, g, σ', ds, d, rp, vs, e, w⟩
  unfold fInt at e
  split at e
  · cases e
    obtain ⟨v, rfl, a⟩ := vs.one
    cases a.int
    exact call_int1 pins st σ H _ us Q I r (.inl ⟨_, rfl, w _ g H (Stp.refl rp) rfl (.int _)⟩)
  · cases e
    obtain ⟨v, rfl, a⟩ := vs.one
    cases a.bl
    exact call_int1 pins st σ H _ us Q I r (.inr ⟨_, rfl, w _ g H (Stp.refl rp) rfl (.int _)⟩)
  · cases e
def fMin2 : List D → Option D
  | [.int i, .int j] => some (.int (if j < i then j else i))
  | _ => none
def fMax2 : List D → Option D
  | [.int i, .int j] => some (.int (if j > i then j else i))
  | _ => none
theorem ca_min2 (hc : X.calm = true) : CaD L X DenT (.builtin "min") fMin2 := by
  intro pins st σ H xs us Q I r ⟨Γ, g, σ', ds, d, rp, vs, e, w⟩
  unfold fMin2 at e
  split at e
  · cases e
    obtain ⟨v, u, rfl, a, b⟩ := vs.two
    cases a.int
    cases b.int
    exact call_min2 hc pins st σ H _ us Q I r ⟨_, _, rfl, w _ g H (Stp.refl rp) rfl (.int _)⟩
  · cases e
theorem ca_max2 (hc : X.calm = true) : CaD L X DenT (.builtin "max") fMax2 := by
  intro pins st σ H xs us Q I r ⟨Γ, g, σ', ds, d, rp, vs, e, w⟩
  unfold fMax2 at e
  split at e
  · cases e
    obtain ⟨v, u, rfl, a, b⟩ := vs.two
    cases a.int
    cases b.int
    exact call_max2 hc pins st σ H _ us Q I r ⟨_, _, rfl, w _ g H (Stp.refl rp) rfl (.int _)⟩
  · cases e
/-- tuple(xs), list(xs) -/
def fTuple : List D → Option D
  | [.lst ds] => some (.tup ds)
  | [.tup ds] => some (.tup ds)
  | _ => none
theorem ca_tuple (hK : X.K = L.K) : CaD L X DenT (.type "tuple") fTuple := by
  intro pins st σ H xs us Q I r ⟨Γ, g, σ', ds, d, rp, vs, e, w⟩
  unfold fTuple at e
  split at e
  · rename_i ds
    cases e
    obtain ⟨v, rfl, a⟩ := vs.one
    obtain ⟨p, ws, rfl, h1, l1⟩ := a.lst rp.sub
    refine call_tuple_of pins st σ H _ us Q I r ⟨p, ws, rfl, .inl ⟨SqL.of h1, fun q n => ?_⟩⟩
    have s := stp_put (o := .tup ws) rp n
    exact w _ _ _ s rfl (.tup (.inl (.inl put_F)) (l1.mono s.le s.mu))
  · rename_i ds
    cases e
    obtain ⟨v, rfl, a⟩ := vs.one
    obtain ⟨p, ws, rfl, h1, l1, t⟩ := a.tup rp.sub
    exact call_tuple_of pins st σ H _ us Q I r ⟨p, ws, rfl, .inr ⟨hK ▸ h1, w _ g H (Stp.refl rp) rfl t⟩⟩
  · cases e
def fList : List D → Option D
  | [.lst ds] => some (.lst ds)
  | [.tup ds] => some (.lst ds)
  | _ => none
theorem ca_list (hK : X.K = L.K) : CaD L X FrT (.type "list") fList := by
  intro pins st σ H xs us Q I r ⟨Γ, g, σ', ds, d, rp, vs, e, w⟩
  have fin : ∀ {ws : List V} {ds : List D} {q : Addr}, DenL L g ws ds → H q = none → Wn L FrT g H Q (.lst ds) g.bud → Q (.ref q) (upd H q (.lst ws)) := fun {ws ds q} l n w =>
    w _ g _ (stp_new (o := .lst ws) rp n false) rfl (FrT.new rp (Stp.refl rp) n l)
  unfold fList at e
  split at e
  · rename_i ds
    cases e
    obtain ⟨v, rfl, a⟩ := vs.one
    obtain ⟨p, ws, rfl, h1, l1⟩ := a.lst rp.sub
    exact call_list_of pins st σ H _ us Q I r ⟨p, ws, rfl, .inl (SqL.of h1), fun q n => fin l1 n w⟩
  · rename_i ds
    cases e
    obtain ⟨v, rfl, a⟩ := vs.one
    obtain ⟨p, ws, rfl, h1, l1, _⟩ := a.tup rp.sub
    exact call_list_of pins st σ H _ us Q I r ⟨p, ws, rfl, .inr (hK ▸ h1), fun q n => fin l1 n w⟩
  · cases e
/-- all(xs), any(xs) of truth values -/
def boolsD : List D → Option (List Bool)
  | [] => some []
  | .bl b :: r => (boolsD r).map (b :: ·)
  | _ => none
theorem DenL.bools : ∀ {vs : List V} {ds : List D} {bs : List Bool}, DenL L g vs ds → boolsD ds = some bs → vs = bs.map V.bl
  | _, _, bs, .nil, e => by cases e; rfl
  | _, _, bs, .cons (d := d) a l, e => by
    cases a with
    | bl b =>
      unfold boolsD at e
      cases q : boolsD _ with
      | none => rw [q] at e; cases e
      | some cs =>
        rw [q] at e
        cases e
        rw [l.bools q]
        rfl
    | _ => cases e
def fAll : List D → Option D
  | [.lst ds] => (boolsD ds).map fun bs => .bl (bs.all id)
  | _ => none
theorem ca_all (hc : X.calm = true) : CaD L X DenT (.builtin "all") fAll := by
  intro pins st σ H xs us Q I r ⟨Γ, g, σ', ds, d, rp, vs, e, w⟩
  unfold fAll at e
  split at e
  · rename_i ds
    obtain ⟨v, rfl, a⟩ := vs.one
    obtain ⟨p, ws, rfl, h1, l1⟩ := a.lst rp.sub
    cases q : boolsD ds with
    | none => rw [q] at e; cases e
    | some bs =>
      rw [q] at e
      cases e
      exact cr_all hc pins st σ H _ us Q I r ⟨p, bs, rfl, by rw [← l1.bools q]; exact SqL.of h1, w _ g H (Stp.refl rp) rfl (.bl _)⟩
  · cases e
end
end DL
/-! Lists of one's own, changed in place. -/
namespace DL
open PySem PySem.Spec L2
section
variable {L : Lx} {X : Cx} {g0 g g' : Gh} {H0 H H' : Hp} {σ σ' : L2.St} {Γ Γ' : Env} {W : WX} {pos : Pos}
/-- the frame's data where a list of one's own is changed -/
theorem RepS.upd {n : Nat} {p : Addr} {ds ds' : List D} {vs vs' : List V} (r : RepS L g0 H0 Γ g σ H) (en : Γ[n]? = some (some (.ol ds))) (es : σ[n]? = some (some (.ref p))) (h1 : H p = some (.lst vs)) (h3 : g.F p = none) (h4 : ¬ InM g.mu H p)
    (l : DenL L g vs' ds') : RepS L g0 H0 (Γ.set n (some (.ol ds'))) g σ (L2.upd H p (.lst vs')) := by
  have n0 : H0 p = none := r.new n _ p en rfl es
  have hl : n < Γ.length := (List.getElem?_eq_some_iff.mp en).1
  have s := stp_upd (ws := vs') r.base n0 h1 h3 h4
  have at_ : ∀ (i : Nat) (b : B), (Γ.set n (some (.ol ds')))[i]? = some (some b) → (i = n ∧ b = .ol ds') ∨ (i ≠ n ∧ Γ[i]? = some (some b)) := fun i b e => by
    by_cases h : i = n
    · subst h
      rw [List.getElem?_set_self hl] at e
      cases e
      exact .inl ⟨rfl, rfl⟩
    · rw [List.getElem?_set_ne (Ne.symm h)] at e
      exact .inr ⟨h, e⟩
  refine ⟨⟨s.sub, s.rnd, s.tab, fun i b e => ?_, fun i j b c q e1 e2 o1 o2 s1 s2 => ?_, s.nm, by rw [List.length_set]; exact r.rep.len⟩, s, fun i b q e o sq => ?_⟩
  · rcases at_ i b e with ⟨rfl, rfl⟩ | ⟨hi, e⟩
    · exact ⟨_, es, p, vs', rfl, upd_same, l, h3, fun z => h4 (inM_upd z)⟩
    · obtain ⟨x, ex, hb⟩ := r.rep.loc i b e
      refine ⟨x, ex, ?_⟩
      cases b with
      | fz d => exact hb
      | ol es' =>
        obtain ⟨q, ws, rfl, a1, a2, a3, a4⟩ := hb
        have nq : q ≠ p := fun z => hi (r.rep.dis i n _ _ p e en rfl rfl (z ▸ ex) es)
        exact ⟨q, ws, rfl, by rw [upd_ne nq]; exact a1, a2, a3, fun z => a4 (inM_upd z)⟩
      | od kvs =>
        obtain ⟨q, rfl, a1, a2, a3⟩ := hb
        have nq : q ≠ p := fun z => hi (r.rep.dis i n _ _ p e en rfl rfl (z ▸ ex) es)
        exact ⟨q, rfl, a1, fun z => a2 (inM_upd z), a3.step (upd_ne nq) (fun _ _ e => e) fun _ e => e⟩
  · have f : ∀ (i : Nat) (b : B), (Γ.set n (some (.ol ds')))[i]? = some (some b) → b.own = true → ∃ b', Γ[i]? = some (some b') ∧ b'.own = true := fun i b e o => by
      rcases at_ i b e with ⟨rfl, rfl⟩ | ⟨_, e⟩
      · exact ⟨_, en, rfl⟩
      · exact ⟨b, e, o⟩
    obtain ⟨b', e1', o1'⟩ := f i b e1 o1
    obtain ⟨c', e2', o2'⟩ := f j c e2 o2
    exact r.rep.dis i j b' c' q e1' e2' o1' o2' s1 s2
  · rcases at_ i b e with ⟨rfl, rfl⟩ | ⟨_, e⟩
    · rw [es] at sq
      cases sq
      exact n0
    · exact r.new i b q e o sq
/-- a slot is given a new list of one's own -/
theorem RepS.setOwn {n : Nat} {v : V} {ds : List D} {g1 : Gh} {H1 : Hp} (r0 : RepS L g0 H0 Γ g σ H) (s : Stp L g H g1 H1) (h : FrT L H g1 H1 v (.lst ds)) : RepS L g0 H0 (Γ.set n (some (.ol ds))) g1 (σ.set n (some v)) H1 := by
  obtain ⟨p, vs, ds', rfl, e, h1, h2, h3, h4, h5⟩ := h
  cases e
  have r := r0.step s
  have at_ : ∀ (i : Nat) (b : B), (Γ.set n (some (.ol ds)))[i]? = some (some b) → (i = n ∧ b = .ol ds ∧ (σ.set n (some (.ref p)))[i]? = some (some (.ref p))) ∨ (i ≠ n ∧ Γ[i]? = some (some b) ∧ (σ.set n (some (.ref p)))[i]? = σ[i]?) := fun i b e => by
    by_cases h : i = n
    · subst h
      by_cases hl : i < Γ.length
      · rw [List.getElem?_set_self hl] at e
        cases e
        exact .inl ⟨rfl, rfl, List.getElem?_set_self (by rw [← r.rep.len]; exact hl)⟩
      · rw [List.getElem?_eq_none (by simpa using hl)] at e; cases e
    · rw [List.getElem?_set_ne (Ne.symm h)] at e
      exact .inr ⟨h, e, List.getElem?_set_ne (Ne.symm h)⟩
  have old : ∀ (i : Nat) (b : B) (q : Addr), Γ[i]? = some (some b) → b.own = true → σ[i]? = some (some (.ref q)) → q ≠ p := fun i b q e o sq z => by
    subst z
    obtain ⟨x, ex, hb⟩ := r0.rep.loc i b e
    rw [sq] at ex
    cases ex
    cases b with
    | fz d => cases o
    | ol es' => obtain ⟨q, ws, e1, a1, _⟩ := hb; cases e1; rw [h5] at a1; cases a1
    | od kvs => obtain ⟨q, e1, _, _, a3⟩ := hb; cases e1; rcases a3 with ⟨_, _, _, a, _⟩ | ⟨_, _, _, a, _⟩ <;> rw [h5] at a <;> cases a
  refine ⟨⟨r.rep.sub, r.rep.rnd, r.rep.tab, fun i b e => ?_, fun i j b c q e1 e2 o1 o2 s1 s2 => ?_, r.rep.nF, by rw [List.length_set, List.length_set]; exact r.rep.len⟩, r.base, fun i b q e o sq => ?_⟩
  · rcases at_ i b e with ⟨rfl, rfl, t⟩ | ⟨_, e, t⟩
    · exact ⟨_, t, p, vs, rfl, h1, h2, h3, h4⟩
    · rw [t]; exact r.rep.loc i b e
  · rcases at_ i b e1 with ⟨i1, b1, t1⟩ | ⟨n1, f1, t1⟩
    · rcases at_ j c e2 with ⟨j1, c1, t2⟩ | ⟨n2, f2, t2⟩
      · exact i1.trans j1.symm
      · rw [t1] at s1
        cases s1
        rw [t2] at s2
        exact absurd rfl (old j c p f2 o2 s2)
    · rw [t1] at s1
      rcases at_ j c e2 with ⟨j1, c1, t2⟩ | ⟨n2, f2, t2⟩
      · rw [t2] at s2
        cases s2
        exact absurd rfl (old i b p f1 o1 s1)
      · rw [t2] at s2
        exact r.rep.dis i j b c q f1 f2 o1 o2 s1 s2
  · rcases at_ i b e with ⟨rfl, rfl, t⟩ | ⟨_, e, t⟩
    · rw [t] at sq
      cases sq
      exact none_back r0.base h5
    · exact r.new i b q e o (t ▸ sq)

variable {e : Expr} {i : IE}
def sOwn (n : Nat) (i : IE) : IS := fun Γ => (i Γ).bind fun d => match d with
  | .lst ds => .ret (.nx (Γ.set n (some (.ol ds))))
  | _ => .stuck
theorem ds_own {n : Nat} {x : Str} {pos' : Pos} (hN : X.N.Nodup) (hi : X.N[n]? = some x) (hx : Loc X.env.scope x) (h : DF L X i e) (hs : swapsWith e (some (.Name x pos')) pos.line X.env = pure false := by rfl)
    (hf : X.fn x = true ∨ X.env.scope.names.lookup x = some .local := by first | exact .inl rfl | exact .inr rfl) : DS L X (sOwn n i) (.Assign [.Name x pos'] e pos) := fun W g0 H0 tk => by
  refine PS.imp (ps_set hN hi hx (h W tk) hs hf) fun Dn σ H ⟨Γ, g, r, w⟩ => Rd1.goS r w fun v H1 d g1 r1 s t w => ?_
  cases d with
  | lst ds => exact w g1 _ H1 (r.setOwn s t) s.fle rfl
  | _ => exact w.elim
/-- x.append(e), x a local list of one's own -/
def sApp (n : Nat) (i : IE) : IS := fun Γ => match Γ[n]? with
  | some (some (.ol ds)) => (i Γ).bind fun d => if ds.length < sizeLine then .ret (.nx (Γ.set n (some (.ol (ds ++ [d]))))) else .stuck
  | _ => .stuck
theorem ds_app {n : Nat} {e : Expr} (h : ∀ W, Takes X W → PE X e (tBM X.K "list" rAppend (tVar n) (tCons (Rd1 L DenT W i) tNil))) (hs : swapsWith e none pos.line X.env = pure false := by rfl) :
    DS L X (sApp n i) (.Expr e pos) := fun W g0 H0 tk => by
  refine PS.imp (ps_expr (h W tk) hs) fun Dn σ H ⟨Γ, g, r, w⟩ => ?_
  unfold sApp at w
  split at w
  · rename_i ds en
    obtain ⟨xv, es, p, vs, e2, h1, h2, h3, h4⟩ := r.rep.loc _ _ en
    subst e2
    refine ⟨.ref p, es, .inl ⟨rfl, vs, .inl (.inl h1)⟩, Rd1.goS r w fun v H1 d g1 r1 s t w => ?_⟩
    split at w
    · rename_i z
      obtain ⟨e1, m1⟩ := s.keep p _ h1 (fun _ z => nomatch z) h4
      have f1 := (s.nf p (by rw [h1]; simp)).2 h3
      have l1 := h2.mono s.le s.mu
      exact ⟨p, vs, v, rfl, rfl, e1, by rw [h2.length]; exact z, w g1 σ _ (r1.upd en es e1 f1 m1 (l1.append (.cons t .nil))) s.fle rfl⟩
    · exact w.elim
  · exact w.elim
/-- x.extend(ys) -/
def sExt (n : Nat) (i : IE) : IS := fun Γ => match Γ[n]? with
  | some (some (.ol ds)) => (i Γ).bind fun d => match d with
    | .lst es => if ds.length + es.length ≤ sizeLine then .ret (.nx (Γ.set n (some (.ol (ds ++ es))))) else .stuck
    | _ => .stuck
  | _ => .stuck
theorem ds_ext {n : Nat} {e : Expr} (h : ∀ W, Takes X W → PE X e (tBM X.K "list" rExtend (tVar n) (tCons (Rd1 L DenT W i) tNil))) (hs : swapsWith e none pos.line X.env = pure false := by rfl) :
    DS L X (sExt n i) (.Expr e pos) := fun W g0 H0 tk => by
  refine PS.imp (ps_expr (h W tk) hs) fun Dn σ H ⟨Γ, g, r, w⟩ => ?_
  unfold sExt at w
  split at w
  · rename_i ds en
    obtain ⟨xv, es, p, vs, e2, h1, h2, h3, h4⟩ := r.rep.loc _ _ en
    subst e2
    refine ⟨.ref p, es, .inl ⟨rfl, vs, .inl (.inl h1)⟩, Rd1.goS r w fun v H1 d g1 r1 s t w => ?_⟩
    obtain ⟨e1, m1⟩ := s.keep p _ h1 (fun _ z => nomatch z) h4
    have f1 := (s.nf p (by rw [h1]; simp)).2 h3
    have l1 := h2.mono s.le s.mu
    cases d with
    | lst us =>
      replace w : (if ds.length + us.length ≤ sizeLine then M.ret (Fl.nx (Γ.set n (some (.ol (ds ++ us))))) else M.stuck).wpB g1.bud (FlT L g0 H0 g Dn) (XS L W g0 H0) := w
      split at w
      · rename_i z
        cases id t with
        | @lst b ws _ eb lb =>
          exact ⟨p, b, vs, ws, rfl, rfl, e1, r1.rep.sub _ _ eb, by rw [h2.length, lb.length]; exact z, w g1 σ _ (r1.upd en es e1 f1 m1 (l1.append lb)) s.fle rfl⟩
      · exact w.elim
    | _ => exact w.elim
  · exact w.elim
/-- return x, x a list of one's own; x is data from now on -/
def sRetOwn (n : Nat) : IS := fun Γ => match Γ[n]? with
  | some (some (.ol ds)) => .ret (.rt (.lst ds))
  | _ => .stuck
theorem RepS.frzL {n : Nat} {ds : List D} (r : RepS L g0 H0 Γ g σ H) (en : Γ[n]? = some (some (.ol ds))) : ∃ v g1, σ[n]? = some (some v) ∧ RepS L g0 H0 (Γ.set n (some (.fz (.lst ds)))) g1 σ H ∧ FLe g g1 ∧ g1.bud = g.bud ∧ Den L g1 v (.lst ds) := by
  obtain ⟨xv, es, p, vs, e2, h1, h2, h3, h4⟩ := r.rep.loc _ _ en
  subst e2
  have n0 : H0 p = none := r.new n _ p en rfl es
  have le : ∀ a o, g.F a = some o → (g.put p (.lst vs)).F a = some o := fun a o e => upd_keep h3 e
  have hF : ∀ a u, (g.put p (.lst vs)).F a = some u → (a = p ∧ u = .lst vs) ∨ g.F a = some u := fun a u e => by
    by_cases h : a = p
    · subst h
      have e' : L2.upd g.F a (.lst vs) a = some u := e
      rw [upd_same] at e'
      exact .inl ⟨rfl, (Option.some.inj e').symm⟩
    · have e' : L2.upd g.F p (.lst vs) a = some u := e
      rw [upd_ne h] at e'
      exact .inr e'
  have hl : n < Γ.length := (List.getElem?_eq_some_iff.mp en).1
  have sub : ∀ a o, (g.put p (.lst vs)).F a = some o → H a = some o := fun a o e => by
    rcases hF a o e with ⟨rfl, rfl⟩ | e
    · exact h1
    · exact r.rep.sub a o e
  have nm : ∀ a o, (g.put p (.lst vs)).F a = some o → ¬ InM g.mu H a := fun a o e => by
    rcases hF a o e with ⟨rfl, rfl⟩ | e
    · exact h4
    · exact r.rep.nF a o e
  have dn : Den L (g.put p (.lst vs)) (.ref p) (.lst ds) := .lst put_F (h2.mono le fun _ e => e)
  have at_ : ∀ (i : Nat) (b : B), (Γ.set n (some (.fz (.lst ds))))[i]? = some (some b) → (i = n ∧ b = .fz (.lst ds)) ∨ (i ≠ n ∧ Γ[i]? = some (some b)) := fun i b e => by
    by_cases h : i = n
    · subst h
      rw [List.getElem?_set_self hl] at e
      cases e
      exact .inl ⟨rfl, rfl⟩
    · rw [List.getElem?_set_ne (Ne.symm h)] at e
      exact .inr ⟨h, e⟩
  refine ⟨.ref p, g.put p (.lst vs), es, ⟨⟨sub, r.rep.rnd, r.rep.tab, fun i b e => ?_, fun i j b c q e1 e2 o1 o2 s1 s2 => ?_, nm, by rw [List.length_set]; exact r.rep.len⟩, ⟨fun a o e => le a o (r.base.le a o e), r.base.mu, sub, r.base.keep, fun a hn => ⟨(r.base.nf a hn).1, fun e => ?_⟩, nm, r.base.rnd, r.base.bud, r.base.tab⟩, fun i b q e o sq => ?_⟩, ⟨le, fun _ e => e⟩, rfl, dn⟩
  · rcases at_ i b e with ⟨rfl, rfl⟩ | ⟨hi, e⟩
    · exact ⟨_, es, .ref p, rfl, dn⟩
    · obtain ⟨x, ex, hb⟩ := r.rep.loc i b e
      refine ⟨x, ex, ?_⟩
      have np : ∀ q, x = some (.ref q) → b.own = true → q ≠ p := fun q eq o z => hi (r.rep.dis i n _ _ p e en o rfl (by rw [ex, eq, z]) es)
      have fz : ∀ q, q ≠ p → g.F q = none → (g.put p (.lst vs)).F q = none := fun q nq e => (upd_ne nq).trans e
      cases b with
      | fz d => obtain ⟨v, e1, t⟩ := hb; exact ⟨v, e1, t.mono le fun _ e => e⟩
      | ol es' =>
        obtain ⟨q, ws, rfl, a1, a2, a3, a4⟩ := hb
        exact ⟨q, ws, rfl, a1, a2.mono le (fun _ e => e), fz q (np q rfl rfl) a3, a4⟩
      | od kvs =>
        obtain ⟨q, rfl, a1, a2, a3⟩ := hb
        exact ⟨q, rfl, fz q (np q rfl rfl) a1, a2, a3.step rfl le fun _ e => e⟩
  · rcases at_ i b e1 with ⟨_, rfl⟩ | ⟨_, e1⟩
    · cases o1
    rcases at_ j c e2 with ⟨_, rfl⟩ | ⟨_, e2⟩
    · cases o2
    exact r.rep.dis i j b c q e1 e2 o1 o2 s1 s2
  · have q : a ≠ p := fun z => hn (by rw [z]; exact n0)
    exact (upd_ne q).trans ((r.base.nf a hn).2 e)
  · rcases at_ i b e with ⟨_, rfl⟩ | ⟨_, e⟩
    · cases o
    · exact r.new i b q e o sq
theorem ds_retOwn {n : Nat} {x : Str} {p1 : Pos} (hx : PE X (.Name x p1) (tVar n)) : DS L X (sRetOwn n) (.Return (some (.Name x p1)) pos) := fun W g0 H0 tk => by
  refine PS.imp (ps_ret hx) fun Dn σ H ⟨Γ, g, r, w⟩ => ?_
  unfold sRetOwn at w
  split at w
  · rename_i ds en
    obtain ⟨v, g1, es, r1, _, eb, t⟩ := r.frzL en
    exact ⟨v, es, w g1 v H r1.base eb t⟩
  · exact w.elim
/-- ahead of a statement: a list of one's own is data from now on -/
def sFrz (n : Nat) (s : IS) : IS := fun Γ => match Γ[n]? with
  | some (some (.ol ds)) => s (Γ.set n (some (.fz (.lst ds))))
  | _ => .stuck
theorem ds_frz {n : Nat} {s : IS} {st : Stmt} (h : DS L X s st) : DS L X (sFrz n s) st := fun W g0 H0 tk => by
  refine PS.imp (h W g0 H0 tk) fun Dn σ H ⟨Γ, g, r, w⟩ => ?_
  unfold sFrz at w
  split at w
  · rename_i ds en
    obtain ⟨v, g1, es, r1, f, eb, t⟩ := r.frzL en
    exact ⟨_, g1, r1, by rw [eb]; exact M.wpB_mono (fun _ _ z => z.of f) (fun _ _ x => x) _ _ w⟩
  · exact w.elim
end
end DL
/-! The law's own draws. -/
namespace DL
open PySem PySem.Spec L2
section
variable {L : Lx} {g : Gh} {H H' : Hp} {σ : L2.St} {Γ : Env}
theorem fg_raw {P : Program} {w : World} {mg : Str → Option Value} {base : Heap} {x qual : Str} {st : Stmt} {f : Addr} {fd : FuncData} {N ps : List Str} {k : Nat} {m : List D → M D} (F : Fun L.K x qual st f fd) (S : FnScope N ps (defScope st))
    (hb : ∀ (cdv : Value) (A : Around) (outer : List PySem.Env) (s : Shared) (H : Hp) (E : XK) (vs : List V) (Q : VK), Room k (A.deeper (PyProof.Rows.envOfC qual (defScope st) s.heap.objs.size f cdv)) → SpD L m vs H Q E → vs.length = ps.length →
      ∃ t, PSs (cxOf (L2.CX P w) P w L.K mg base N qual (defScope st) f cdv A outer s H E) (defBody st) t ∧ t { nx := fun _ H' => Q .non H', rt := Q } (L2.start N vs) H) : FG L P w mg base (k + 1) f fd ps m := by
  refine ⟨fun A outer s H args us vs Q E hr hg e0 bt r hl sp => ?_⟩
  obtain ⟨oc, od, kV, doc, pm, an, cdv, ct, osl, rfl, lk, hcd⟩ := F.ex
  exact LamX.run_ofS lk hcd S hr e0 bt r (r.length.trans hl) fun hr' => hb cdv A outer s H E vs Q hr' sp (r.length.trans hl)

/-- m as it stands, from the heap H at the entry -/
structure MS (am c l : Addr) (cs : List Int) (H : Hp) (l' : Addr) (ls : List Int) (at_ : Int) (H' : Hp) : Prop where
  atM : H' am = some (.dK [(Sum.inr "cells", .ref c), (Sum.inr "left", .ref l'), (Sum.inr "at", .int at_)])
  atC : H' c = some (.lst (cs.map V.int))
  atL : H' l' = some (.lst (ls.map V.int))
  ncl : c ≠ l'
  old : ∃ zs, H' l = some (.lst zs)
  new : l' = l ∨ H l' = none
  keep : ∀ a o, H a = some o → a ≠ am → a ≠ l → H' a = some o
theorem MS.stp {am c l l' : Addr} {cs ls ls' : List Int} {at0 at_ : Int} {b : Nat} (r : Rep L Γ g σ H) (hm : g.mu = some am) (e1 : H am = some (.dK [(Sum.inr "cells", .ref c), (Sum.inr "left", .ref l), (Sum.inr "at", .int at0)])) (e2 : H c = some (.lst (cs.map V.int))) (e3 : H l = some (.lst (ls.map V.int)))
    (s : MS am c l cs H l' ls' at_ H') (ok : MOk b H' am) (hb : b ≤ g.bud) : Stp L g H { g with bud := b } H' := by
  have inm : ∀ a, a = am ∨ a = c ∨ a = l → InM g.mu H a := fun a h => by
    refine ⟨am, hm, ?_⟩
    rcases h with h | h | h
    · exact .inl h
    · exact .inr ⟨_, Sum.inr "cells", e1, by simp [h]⟩
    · exact .inr ⟨_, Sum.inr "left", e1, by simp [h]⟩
  have back : ∀ a, H a ≠ none → InM g.mu H' a → InM g.mu H a := fun a ha ⟨m', em, h⟩ => by
    rw [hm] at em
    cases em
    rcases h with h | ⟨kvs, k, e, h⟩
    · exact inm a (.inl h)
    · rw [s.atM] at e
      cases e
      simp only [List.mem_cons, Prod.mk.injEq, V.ref.injEq, List.not_mem_nil, or_false] at h
      rcases h with ⟨_, h⟩ | ⟨_, h⟩ | ⟨_, h⟩
      · exact inm a (.inr (.inl h))
      · rcases s.new with z | z
        · exact inm a (.inr (.inr (h.trans z)))
        · exact absurd (h ▸ z) ha
      · cases h
  have kp : ∀ a o, H a = some o → ¬ InM g.mu H a → H' a = some o := fun a o e n => s.keep a o e (fun z => n (inm a (.inl z))) fun z => n (inm a (.inr (.inr z)))
  refine ⟨fun _ _ e => e, fun _ e => e, fun a o e => kp a o (r.sub a o e) (r.nF a o e), fun a o e _ n => ⟨kp a o e n, fun z => n (back a (by rw [e]; simp) z)⟩, fun a h => ⟨?_, fun e => e⟩, fun a o e z => r.nF a o e (back a (by rw [r.sub a o e]; simp) z), ⟨(fun e => by (rw [hm] at e; cases e)), fun m' em => ?_⟩, hb, fun q hq => ?_⟩
  · by_cases z : InM g.mu H a
    · obtain ⟨m', em, h⟩ := z
      rw [hm] at em
      cases em
      rcases h with h | ⟨kvs, k, e, h⟩
      · rw [h, s.atM]; simp
      · rw [e1] at e
        cases e
        simp only [List.mem_cons, Prod.mk.injEq, V.ref.injEq, List.not_mem_nil, or_false] at h
        rcases h with ⟨_, h⟩ | ⟨_, h⟩ | ⟨_, h⟩
        · rw [h, s.atC]; simp
        · obtain ⟨zs, hz⟩ := s.old
          rw [h, hz]; simp
        · cases h
    · cases e : H a with
      | none => exact absurd e h
      | some o => rw [kp a o e z]; simp
  · rw [hm] at em
    cases em
    exact ok
  · obtain ⟨ps, a1, a2, a3⟩ := r.tab q hq
    refine ⟨ps, s.keep _ _ a1 (fun z => ?_) (fun z => ?_), a2, fun pos cv hc => ?_⟩
    · rw [z, e1] at a1; cases a1
    · rw [z, e3] at a1; cases a1
    · obtain ⟨c', z1, z2⟩ := a3 pos cv hc
      refine ⟨c', z1, s.keep _ _ z2 (fun z => ?_) (fun z => ?_)⟩
      · rw [z, e1] at z2; unfold LamX.CodeO at z2; cases z2
      · rw [z, e3] at z2; unfold LamX.CodeO at z2; cases z2
end
end DL
namespace DL
open PySem PySem.Spec L2
section
variable {L : Lx} {g : Gh} {H H' H1 : Hp} {σ : L2.St} {Γ : Env} {am c l l' : Addr} {cs ls : List Int} {at_ : Int} {K : PySem.W.Frag} {Q : VK}
theorem ne_cl : ¬ ((Sum.inr "cells" : Key) = (Sum.inr "left" : Key)) := by decide +kernel
theorem ne_ca : ¬ ((Sum.inr "cells" : Key) = (Sum.inr "at" : Key)) := by decide +kernel
theorem ne_la : ¬ ((Sum.inr "left" : Key) = (Sum.inr "at" : Key)) := by decide +kernel
theorem val_c (x y z : V) : valV [((Sum.inr "cells" : Key), x), (Sum.inr "left", y), (Sum.inr "at", z)] (Sum.inr "cells") = some x := by
  unfold valV
  rw [List.find?_cons_of_pos (by exact decide_eq_true rfl)]
  rfl
theorem val_l (x y z : V) : valV [((Sum.inr "cells" : Key), x), (Sum.inr "left", y), (Sum.inr "at", z)] (Sum.inr "left") = some y := by
  unfold valV
  rw [List.find?_cons_of_neg (by simp only [decide_eq_true_eq]; exact ne_cl), List.find?_cons_of_pos (by exact decide_eq_true rfl)]
  rfl
theorem val_a (x y z : V) : valV [((Sum.inr "cells" : Key), x), (Sum.inr "left", y), (Sum.inr "at", z)] (Sum.inr "at") = some z := by
  unfold valV
  rw [List.find?_cons_of_neg (by simp only [decide_eq_true_eq]; exact ne_ca), List.find?_cons_of_neg (by simp only [decide_eq_true_eq]; exact ne_la), List.find?_cons_of_pos (by exact decide_eq_true rfl)]
  rfl
theorem put_l (x y z v : V) : putK [((Sum.inr "cells" : Key), x), (Sum.inr "left", y), (Sum.inr "at", z)] (Sum.inr "left") v = ([(Sum.inr "cells", x), (Sum.inr "left", v), (Sum.inr "at", z)] : List (Key × V)) := by
  unfold putK
  rw [if_pos (by simp)]
  show [if _ then _ else _, if _ then _ else _, if _ then _ else _] = _
  rw [if_neg ne_cl, if_pos rfl, if_neg (fun e => ne_la e.symm)]
theorem put_a (x y z v : V) : putK [((Sum.inr "cells" : Key), x), (Sum.inr "left", y), (Sum.inr "at", z)] (Sum.inr "at") v = ([(Sum.inr "cells", x), (Sum.inr "left", y), (Sum.inr "at", v)] : List (Key × V)) := by
  unfold putK
  rw [if_pos (by simp)]
  show [if _ then _ else _, if _ then _ else _, if _ then _ else _] = _
  rw [if_neg ne_ca, if_neg ne_la, if_pos rfl]
theorem MS.lay {p : Addr} {o : HO} (s : MS am c l cs H l' ls at_ H1) (n : H1 p = none) : MS am c l cs H l' ls at_ (upd H1 p o) :=
  ⟨upd_keep n s.atM, upd_keep n s.atC, upd_keep n s.atL, s.ncl, let ⟨z, e⟩ := s.old; ⟨z, upd_keep n e⟩, s.new, fun a u e h1 h2 => upd_keep n (s.keep a u e h1 h2)⟩
theorem rd_l (s : MS am c l cs H l' ls at_ H1) (e : σ[0]? = some (some (.ref am))) (q : Q (.ref l') H1) : tDGet (tVar 0) (tC (.str "left")) σ H1 Q :=
  ⟨_, e, am, .ref l', rfl, by have := DGet.k (k := Sum.inr "left") s.atM; rw [val_l] at this; exact this, q⟩
theorem rd_c (s : MS am c l cs H l' ls at_ H1) (e : σ[0]? = some (some (.ref am))) (q : Q (.ref c) H1) : tDGet (tVar 0) (tC (.str "cells")) σ H1 Q :=
  ⟨_, e, am, .ref c, rfl, by have := DGet.k (k := Sum.inr "cells") s.atM; rw [val_c] at this; exact this, q⟩
theorem rd_a (s : MS am c l cs H l' ls at_ H1) (e : σ[0]? = some (some (.ref am))) (q : Q (.int at_) H1) : tDGet (tVar 0) (tC (.str "at")) σ H1 Q :=
  ⟨_, e, am, .int at_, rfl, by have := DGet.k (k := Sum.inr "at") s.atM; rw [val_a] at this; exact this, q⟩
theorem dp_ints (H : Hp) : ∀ zs : List Int, DpAll K H (zs.map V.int) (zs.map PyData.int)
  | [] => .nil
  | z :: zs => .cons (.int z) (dp_ints H zs)
theorem shaped_ints (zs : List Int) : SeqAt.shaped (.list (zs.map .int)) = true := by
  have a : ∀ zs : List Int, PyData.canLayAll0 (zs.map .int) = true := fun zs => by
    induction zs with
    | nil => rfl
    | cons z zs ih => rw [List.map_cons, PyData.canLayAll0, ih]; rfl
  unfold SeqAt.shaped
  rw [Bool.and_eq_true, decide_eq_true_eq]
  refine ⟨by rw [PyData.canLay0]; exact a zs, ?_⟩
  have b : ∀ zs : List Int, PyData.depthAll (zs.map .int) = 0 := fun zs => by
    induction zs with
    | nil => rfl
    | cons z zs ih => rw [List.map_cons, PyData.depthAll, ih]; rfl
  rw [PyData.depth, b]
  decide
theorem eqv_nil (zs : List Int) : PyData.eqv (.list (zs.map .int)) (.list []) = decide (zs = []) := by
  cases zs with
  | nil => rfl
  | cons z zs => simp [PyData.eqv, PyData.eqvAll]
/-- xs != [] of a list of ints -/
theorem ne_nil {a p : Addr} {zs : List Int} (e : H1 a = some (.lst (zs.map V.int))) (n : H1 p = none) (q : Q (.bl (!decide (zs = []))) (upd H1 p (.lst []))) : rNeD K (.ref a) (.ref p) (upd H1 p (.lst [])) Q :=
  ⟨.list (zs.map .int), .list [], .lst (SqL.of (upd_keep n e)) (dp_ints _ zs), .lst (SqL.of upd_same) .nil, shaped_ints zs, by decide +kernel, by rw [eqv_nil]; exact q⟩
theorem MS.ne (s : MS am c l cs H l' ls at_ H1) : am ≠ c ∧ am ≠ l' ∧ am ≠ l := by
  refine ⟨fun z => ?_, fun z => ?_, fun z => ?_⟩
  · have := s.atC; rw [← z, s.atM] at this; cases this
  · have := s.atL; rw [← z, s.atM] at this; cases this
  · obtain ⟨zs, e⟩ := s.old; rw [← z, s.atM] at e; cases e
theorem MS.setAt (s : MS am c l cs H l' ls at_ H1) (b : Int) : MS am c l cs H l' ls b (upd H1 am (.dK (putK [((Sum.inr "cells" : Key), V.ref c), (Sum.inr "left", V.ref l'), (Sum.inr "at", V.int at_)] (Sum.inr "at") (V.int b)))) := by
  obtain ⟨n1, n2, n3⟩ := s.ne
  refine ⟨by rw [upd_same, put_a], by rw [upd_ne n1.symm]; exact s.atC, by rw [upd_ne n2.symm]; exact s.atL, s.ncl, ?_, s.new, fun a o e h1 h2 => by rw [upd_ne h1]; exact s.keep a o e h1 h2⟩
  obtain ⟨zs, e⟩ := s.old
  exact ⟨zs, by rw [upd_ne n3.symm]; exact e⟩
theorem MS.setLeft {p : Addr} {zs : List Int} (s : MS am c l cs H l' ls at_ H1) (e : H1 p = some (.lst (zs.map V.int))) (n : H p = none) (nc : c ≠ p) :
    MS am c l cs H p zs at_ (upd H1 am (.dK (putK [((Sum.inr "cells" : Key), V.ref c), (Sum.inr "left", V.ref l'), (Sum.inr "at", V.int at_)] (Sum.inr "left") (V.ref p)))) := by
  obtain ⟨n1, n2, n3⟩ := s.ne
  have np : p ≠ am := fun z => by rw [z, s.atM] at e; cases e
  refine ⟨by rw [upd_same, put_l], by rw [upd_ne n1.symm]; exact s.atC, by rw [upd_ne np]; exact e, nc, ?_, .inr n, fun a o e h1 h2 => by rw [upd_ne h1]; exact s.keep a o e h1 h2⟩
  obtain ⟨zs, e⟩ := s.old
  exact ⟨zs, by rw [upd_ne n3.symm]; exact e⟩
theorem MS.setItem {zs : List Int} (s : MS am c l cs H l' ls at_ H1) : MS am c l cs H l' zs at_ (upd H1 l' (.lst (zs.map V.int))) := by
  obtain ⟨n1, n2, n3⟩ := s.ne
  refine ⟨by rw [upd_ne n2]; exact s.atM, by rw [upd_ne s.ncl]; exact s.atC, upd_same, s.ncl, ?_, s.new, fun a o e h1 h2 => ?_⟩
  · by_cases z : l = l'
    · exact ⟨_, by rw [z, upd_same]⟩
    · obtain ⟨ws, e⟩ := s.old
      exact ⟨ws, by rw [upd_ne z]; exact e⟩
  · have q : a ≠ l' := fun z => by
      rcases s.new with w | w
      · exact h2 (z.trans w)
      · rw [z, w] at e; cases e
    rw [upd_ne q]; exact s.keep a o e h1 h2
theorem lim_abs {z : Int} (h0 : 0 ≤ z) (h : z.toNat ≤ lim + 1) : z.natAbs < 2 ^ 100001 := by
  have e : (2 : Nat) ^ 100001 = 2 ^ 100000 + 2 ^ 100000 := by rw [Nat.pow_succ]; omega
  have p : 1 < (2 : Nat) ^ 100000 := Nat.one_lt_two_pow (by decide)
  unfold lim at h
  rw [e]
  omega
theorem at_ints {zs : List Int} {i : Int} (h0 : 0 ≤ i) (h1 : i < zs.length) : ∃ z ∈ zs, atI (zs.map V.int) i = some (.int z) := by
  have hl : i.toNat < zs.length := by omega
  refine ⟨zs[i.toNat], List.getElem_mem hl, ?_⟩
  have := atI_nat (xs := zs.map V.int) (j := i.toNat) (v := .int zs[i.toNat]) (by rw [List.getElem?_map, List.getElem?_eq_getElem hl]; rfl)
  rw [show ((i.toNat : Nat) : Int) = i by omega] at this
  exact this
end
end DL
/-! Own exceptions: made, by position and by the field's name. -/
namespace PySem
namespace DLX
open PySem.W PySem.Calls PyProof.Rows PySem.HandSPX
open Builtin Builtin.ObjectAttr
section
variable {prog : Program} {w : World} {A : Around} {E : Value → Shared → Prop} {R : Result → Shared → Prop} {h : Heap} {g : Array GenState} {d : Drawn} {t : Nat} {os : OsState}
variable {nm q : Str} {C N : Addr} {bs bm bmB : List Value} {hdct : Bool} {sn : List Str} {sub : List Value} {ab : Bool} {col : Option Bool} {dd : Option Addr} {k0 k1 k2 k3 k5 : Option Value} {B newId initId : String}
theorem checkK {M : Model} (F : ExcBaseFacts B newId initId bmB) (hT : ∀ X : String, bm.contains (.type X) = bmB.contains (.type X)) {rest : List Value} {f : Str} {v : Value} {Q : Unit → Shared → Prop}
    (hC : h.get? C = some (excClassObj nm q C N bs bm hdct sn sub ab col dd k0 k1 k2 k3 k5 newId)) (hq : Q () ⟨h, g, d, t, os⟩) : wpAny M A (checkBuiltinCall newId ⟨.ref C :: rest, [(f, v)]⟩) Q E ⟨h, g, d, t, os⟩ := by
  have hcont : (Value.ref C :: bm).contains (.type B) = true := by rw [List.contains_cons, hT, F.hasB, Bool.or_true]
  have hstar := F.noStar
  simp only [checkBuiltinCall, F.newKind, F.newSplit, F.newRow]
  repeat (first
    | refine wpAny_loadPart_at hC ?_
    | (refine wpAny_isSubtype_exc hC ?_; rw [hcont])
    | refine wpAny_staticBase_exc hC ?_
    | refine wpAny_madeBy_exc hC ?_
    | simp only [bne_self_eq_false, Bool.false_eq_true, if_false]
    | wp_step)
  exact hq
theorem newK (F : ExcBaseFacts B newId initId bmB) (hT : ∀ X : String, bm.contains (.type X) = bmB.contains (.type X)) {rest : List Value} {f : Str} {v : Value}
    (hC : h.get? C = some (excClassObj nm q C N bs bm hdct sn sub ab col dd k0 k1 k2 k3 k5 newId))
    (hq : R (.ok (.ret (.ref (h.objs.size + 1)))) ⟨(h.push (kdv_tup rest)).push (excO C h.objs.size), g, d, t, os⟩) (hrest : rest.length ≤ sizeLine) :
    codeAny (model prog w) A (.builtin newId ⟨.ref C :: rest, [(f, v)]⟩) R ⟨h, g, d, t, os⟩ := by
  have he := F.ends
  have cB : (Value.ref C :: bm).contains (.type B) = true := by rw [List.contains_cons, hT, F.hasB, Bool.or_true]
  have cA : (Value.ref C :: bm).contains (.type "AttributeError") = false := by rw [List.contains_cons, hT, F.noAttr]; rfl
  have cN : (Value.ref C :: bm).contains (.type "NameError") = false := by rw [List.contains_cons, hT, F.noName]; rfl
  refine codeAny_builtinAt F.entry ?_
  unfold Builtin.«BaseException.__new__»
  refine wpAt_bind ?_
  show wpAt _ _ _ (stack >>= _) _ _ _
  refine wpAt_bind (wpAt_stack fun p below => wpAt_of_wpAny ?_)
  wp_walk
  refine wpAt_of_wpAny ?_
  rw [F.owner]
  repeat (first
    | with_reducible refine wpAny_madeHere_exc F.canon hC ?_
    | with_reducible refine wpAny_loadPart_at hC ?_
    | (with_reducible refine wpAny_isSubtype_exc hC ?_; first | rw [cB] | rw [cA] | rw [cN])
    | wp_step)
  show R _ _
  rw [Heap.size_push]
  exact hq
theorem typeK (F : ExcBaseFacts B newId initId bmB) (hT : ∀ X : String, bm.contains (.type X) = bmB.contains (.type X)) {rest : List Value} {fI : Addr} {f : Str} {v : Value} {Q : Fin → Shared → Prop}
    (hC : h.get? C = some (excClassObj nm q C N bs bm hdct sn sub ab col dd k0 k1 k2 k3 k5 newId))
    (hi : W.Looks (model prog w) h (typeLookup (.ref C) "__init__") (some (.ref fI))) (hb : ∀ self, W.Looks (model prog w) h (bindSpecial (.ref fI) self) (.ref fI, [self])) (hrest : rest.length ≤ sizeLine)
    (hq : codeAny (model prog w) A (.call (.ref fI) ⟨.ref (h.objs.size + 1) :: rest, [(f, v)]⟩)
      (fun r s' => match r with
        | .ok (.ret v) => v = .none ∧ Q (.done (.ret (.ref (h.objs.size + 1)))) s'
        | .ok _ => False
        | .error e => E e s') ⟨(h.push (kdv_tup rest)).push (excO C h.objs.size), g, d, t, os⟩) :
    wpAny (model prog w) A (Builtin.«type.__call__» ⟨.ref C :: rest, [(f, v)]⟩) Q E ⟨h, g, d, t, os⟩ := by
  repeat (first | with_reducible refine wpAny_loadPart_at hC ?_ | with_reducible refine wpAny_madeBy_exc hC ?_ | wp_step)
  refine codeAny_call_builtin_code (Code.quiet_builtin _ F.quiet) (checkK F hT hC ?_)
  refine newK F hT hC ?_ hrest
  show wpAny _ _ _ _ _ _
  have k : ∀ b o, h.get? b = some o → ((h.push (kdv_tup rest)).push (excO C h.objs.size)).get? b = some o := fun b o e =>
    Heap.get?_push_of_some _ (Heap.get?_push_of_some _ e)
  have c1 := k _ _ hC
  have gt : ((h.push (kdv_tup rest)).push (excO C h.objs.size)).get? (h.objs.size + 1) = some (excO C h.objs.size) := by heap_get
  have cc : (Value.ref C :: bm).contains (.ref C) = true := by simp
  have i1 := hi.keeps k
  have b1 := (hb (.ref (h.objs.size + 1))).keeps k
  unfold isInstance
  repeat (first
    | with_reducible refine wpAny_loadPart_at gt ?_
    | (with_reducible refine wpAny_isSubtype_exc c1 ?_; rw [cc])
    | wp_step)
  show wpAny _ _ (typeLookup (.ref C) _) _ _ _
  refine i1.at ?_
  refine wpAny_holding (wpAny_bind (b1.at ?_))
  refine wpAny_bind (wpAny_call (codeAny_mono hq fun r s' z => ?_))
  cases r with
  | error e => exact z
  | ok fl =>
    cases fl with
    | ret u =>
      have z2 : u = Value.none ∧ Q (.done (.ret (.ref (h.objs.size + 1)))) s' := z
      clear z
      obtain ⟨e, z⟩ := z2
      subst e
      first
        | exact wpAny_pure (wpAny_pure z)
        | (wp_walk; exact z)
    | next => exact False.elim z
    | brk => exact False.elim z
    | cont => exact False.elim z
theorem callK (F : ExcBaseFacts B newId initId bmB) (hT : ∀ X : String, bm.contains (.type X) = bmB.contains (.type X)) {rest : List Value} {fI : Addr} {f : Str} {v : Value}
    (hC : h.get? C = some (excClassObj nm q C N bs bm hdct sn sub ab col dd k0 k1 k2 k3 k5 newId))
    (hi : W.Looks (model prog w) h (typeLookup (.ref C) "__init__") (some (.ref fI))) (hb : ∀ self, W.Looks (model prog w) h (bindSpecial (.ref fI) self) (.ref fI, [self])) (hrest : rest.length ≤ sizeLine)
    (hq : codeAny (model prog w) (A.under (.builtin "type.__call__" ⟨.ref C :: rest, [(f, v)]⟩)) (.call (.ref fI) ⟨.ref (h.objs.size + 1) :: rest, [(f, v)]⟩) (W.InitBack (h.objs.size + 1) R)
      ⟨(h.push (kdv_tup rest)).push (excO C h.objs.size), g, d, t, os⟩) :
    codeAny (model prog w) A (.call (.ref C) ⟨rest, [(f, v)]⟩) R ⟨h, g, d, t, os⟩ := by
  have f1 := tc_lookup
  have f2 := tc_bind (.ref C)
  have ht : (⟨h, g, d, t, os⟩ : Shared).TypeIs (.ref C) "type" := ⟨_, hC, rfl⟩
  refine codeAny_of_tree ?_
  show wpAny _ _ (callAny (.ref C) _) _ _ _
  repeat (any_goals (first | assumption | with_reducible refine wpAny_loadPart_at hC ?_ | wp_step))
  refine ⟨rfl, ?_⟩
  refine codeAny_call_builtin_at (Code.quiet_builtin _ (by decide +kernel)) entry_typeCall (wpAny_check_type_call_sub hC (typeK F hT hC hi hb hrest ?_))
  refine codeAny_mono hq fun r s' z => ?_
  rcases r with e | (v | _ | _ | _) <;> exact z
end
end DLX
end PySem
namespace PySem
namespace DLX
open PySem.W PySem.Calls PyProof.Rows PySem.HandSPX
/-! ### def __init__(self, f): self.f = f -/
def xA (f : Str) (p1 p2 : Pos) : Arguments := ⟨[], [{ arg := "self", annotation := none, pos := p1 }, { arg := f, annotation := none, pos := p2 }], none, [], [], none, []⟩
def xB (f : Str) (q1 q2 q3 q4 : Pos) : List Stmt := [.Assign [.Attribute (.Name "self" q1) f q2] (.Name f q3) q4]
def xS (f : Str) : Scope := { kind := .function, names := [(PySem.Str.ofString "self", .local), (f, .local)], isGenerator := false, isCoroutine := false, more := [] }
/-- the class at C, its __init__ at fI, its field f -/
structure ExT (K : Frag) (C fI : Addr) (f qn : Str) (B newId initId : String) (bmB : List Value) : Prop where
  FB : ExcBaseFacts B newId initId bmB
  SF : StoreFacts B bmB "object.__setattr__" "object"
  q : excInitIn K C bmB newId = true
  ov : excOver K C bmB = true
  tk : takerIn K C f = some none
  sa : findIn K (.ref C) "__setattr__" = some (some (.builtin "object.__setattr__"))
  ga : findIn K (.ref C) "__getattribute__" = some (some (.builtin "BaseException.__getattribute__"))
  gg : findIn K (.ref C) "__getattr__" = some none
  noN : findIn K (.ref C) f = some none
  iC : findIn K (.ref C) "__init__" = some (some (.ref fI))
  tI : typeIn K (.ref fI) = some (.type "function")
  kC : keepIn K (.ref C) = true
  exC : subIn K (.ref C) (.type "BaseException") = some true
  tyC : typeIn K (.ref C) = some (.type "type")
  hdC : hasDictIn K C = true
  hf : f = "value" ∨ f = "place" ∨ f = "line" ∨ f = "most"
  hqn : (qn.length ≤ 200)
  fn : ∃ (oc : Value) (od : Option Addr) (kV doc pm : Value) (an : Option Addr) (cdv ct : Value) (osl : Array (Option Value)) (p1 p2 q1 q2 q3 q4 : Pos),
    K.lookup fI = some ⟨oc, od, .func (fnOf "__init__" qn (xA f p1 p2) (xB f q1 q2 q3 q4) (xS f) .none kV doc pm an cdv ct), osl⟩ ∧ codeIn K cdv qn = true
theorem ldX {M : Model} {s : Shared} {name : Str} {scope : Scope} {L a : Addr} {cd : Value} {m : Str → Option Value} {x : Str} {pos : Pos} {v : Value} {Q : Value → Shared → Prop} {A : Around} {E : Value → Shared → Prop}
    (hn : s.heap.Ns L m) (hv : m x = some v) (h : Q v s) (hk : scope.kind = .function := by rfl) (hl : (envOfC name scope L a cd).kindOf x = some .local := by rfl) (hd : (x == ("__debug__" : Str)) = false := by decide) :
    wpAny M A (eval (.Name x pos) (envOfC name scope L a cd)) Q E s := wpAny_Name (wpAny_loadName_local hk hl hn hv h) hd
open Builtin Builtin.ObjectAttr
/-- what __init__ leaves of an exception at x -/
structure IEnd (h h' : Heap) (f : Str) (x C dx t1 : Addr) (v : Value) : Prop where
  keep : ∀ b o, b ≠ x → h.get? b = some o → h'.get? b = some o
  obj : h'.get? x = some { cls := .ref C, dict := some dx, data := .fields #[.ref t1, .none, .none, .none, .bool false, .none] }
  dbig : h.objs.size ≤ dx
  dne : dx ≠ x
  ns : h'.Ns1 dx (fun y => if y = f then some v else none)
section
variable {prog : Program} {w : World} {A : Around} {E : Value → Shared → Prop} {R : Result → Shared → Prop} {s : Shared} {K : Frag} {C fI : Addr} {f qn : Str} {B newId initId : String} {bmB : List Value}
theorem x_osa (T : ExT K C fI f qn B newId initId bmB) {x t0 : Addr} {v : Value} {tk : Tok} {R : Result → Shared → Prop} (X : K.In s.heap) (hx : s.heap.get? x = some (excO C t0))
    (hq : ∀ h' t' dx, IEnd s.heap h' f x C dx t0 v → R (.ok (.ret .none)) { s with heap := h', toks := t' }) :
    codeAny (model prog w) A (.call (.builtin "object.__setattr__") ⟨[.ref x, .str f tk, v], []⟩) R s := by
  refine osa_openX (od := none) T.SF X ⟨hx, rfl, rfl, trivial⟩ T.ov T.tk fun b => ?_
  obtain ⟨cd, hc, hd'⟩ := any_some T.hdC
  obtain ⟨hp, g, d, t, os⟩ := s
  have hxs : x ≠ hp.objs.size := Nat.ne_of_lt (Heap.lt_size hx)
  refine wpAny_bind (wpAny_pure (wpAny_bind (instanceDict_exc (c2 := .none) hx (looks_clsIn X hc) hd' ?_)))
  show wpAny _ _ (storeInDict hp.objs.size (.str f tk) f v) _ _ _
  refine store_in_new (g := g) (d := d) (os := os) ?_ fun h' tk' hn' hs => ?_
  · exact ⟨_, #[], _, (Heap.get?_update_ne _ _ _ _ hxs.symm).trans (Heap.get?_push_at rfl rfl), rfl, fun e he => absurd he (by simp), fun _ => rfl⟩
  · have hx₁ : (hp.push (dictOf [] 0)).get? x = some (excO C t0) := Heap.get?_push_of_some _ hx
    refine hq h' tk' hp.objs.size ⟨fun b o hb ho => ?_, ?_, Nat.le_refl _, hxs.symm, hn'⟩
    · refine (hs.2 b (Nat.ne_of_lt (Heap.lt_size ho))).trans ?_
      exact (Heap.get?_update_ne _ _ _ _ hb).trans (Heap.get?_push_of_some _ ho)
    · exact (hs.2 x hxs).trans (Heap.get?_update_self _ hx₁ rfl)
def xArgs (f : Str) (first : List Value) (v : Value) (kw : Bool) : Args := if kw then ⟨first, [(f, v)]⟩ else ⟨first ++ [v], []⟩
theorem x_init (T : ExT K C fI f qn B newId initId bmB) (kw : Bool) {x t0 : Addr} {v : Value} (X : K.In s.heap) (hlim : s.heap.NoLimit) (hx : s.heap.get? x = some (excO C t0)) (hroom : A.depth < recursionLimit)
    (hq : ∀ h' tk dx, IEnd s.heap h' f x C dx t0 v → R (.ok (.ret .none)) { s with heap := h', toks := tk }) :
    codeAny (model prog w) A (.call (.ref fI) (xArgs f [.ref x] v kw)) R s := by
  obtain ⟨oc, od, kV, doc, pm, an, cdv, ct, osl, p1, p2, q1, q2, q3, q4, ho, hcd⟩ := T.fn
  have key : ∀ (s₁ : Shared) (args : Args), args = xArgs f [.ref x] v kw → BindsTo s₁ (fnOf "__init__" qn (xA f p1 p2) (xB f q1 q2 q3 q4) (xS f) .none kV doc pm an cdv ct) args [("self", .ref x), (f, v)] := by
    intro s₁ args e
    subst e
    rcases T.hf with rfl | rfl | rfl | rfl <;> cases kw <;> exact BindsTo.of_eq (by first | rfl | with_unfolding_all rfl)
  refine Att.call_fn (binds := [("self", .ref x), (f, v)]) X hlim ho hcd hroom (key s _ rfl) (by rcases T.hf with rfl | rfl | rfl | rfl <;> first | rfl | decide | with_unfolding_all rfl) (fun s₁ IC => ?_) rfl rfl rfl
  obtain ⟨h₁, tk₁, rfl⟩ := IC.toInCall.same
  have k : ∀ b o, s.heap.get? b = some o → h₁.get? b = some o := IC.toInCall.keep
  have hn := IC.toInCall.ns
  have hxL : s.heap.objs.size ≠ x := Nat.ne_of_gt (Heap.lt_size hx)
  have X₁ : K.In h₁ := X.keeps k
  have hx₁ := k _ _ hx
  show wpAny _ _ (execs _ _) _ _ _
  refine wpAny_execs_cons (plainObj_wpAny_Assign_Attribute ?_ (by rcases T.hf with rfl | rfl | rfl | rfl <;> rfl))
  refine ldX (v := v) hn (by rcases T.hf with rfl | rfl | rfl | rfl <;> first | rfl | with_unfolding_all rfl | kernel_rfl) (ldX (v := .ref x) hn (by rcases T.hf with rfl | rfl | rfl | rfl <;> first | rfl | with_unfolding_all rfl | kernel_rfl) ?_ rfl (by rcases T.hf with rfl | rfl | rfl | rfl <;> rfl))
    rfl (by rcases T.hf with rfl | rfl | rfl | rfl <;> rfl) (by rcases T.hf with rfl | rfl | rfl | rfl <;> decide)
  refine set_plain X₁ (ox := excO C t0) (od := none) ⟨hx₁, rfl, rfl, trivial⟩ T.sa ?_
  refine x_osa (s := { s with heap := h₁, toks := tk₁ + 1 }) T X₁ hx₁ fun h₃ tk₃ dx IE => ?_
  have z : s.heap.objs.size ≤ h₁.objs.size := Nat.le_of_lt hn.lt
  show wpAny _ _ (execs _ _) _ _ _
  exact wpAny_execs_nil (hq h₃ tk₃ dx ⟨fun b o hb e => IE.keep b o hb (k b o e), IE.obj, Nat.le_trans z IE.dbig, IE.dne, IE.ns⟩)
/-- a made exception at e -/
structure XMade (h h' : Heap) (f : Str) (e C d t1 : Addr) (v : Value) : Prop where
  keep : ∀ b o, h.get? b = some o → h'.get? b = some o
  new : h.objs.size ≤ e
  obj : h'.get? e = some { cls := .ref C, dict := some d, data := .fields #[.ref t1, .none, .none, .none, .bool false, .none] }
  dbig : h.objs.size ≤ d
  dne : d ≠ e
  ns : h'.Ns1 d (fun y => if y = f then some v else none)
theorem x_made (T : ExT K C fI f qn B newId initId bmB) (kw : Bool) {v : Value} (X : K.In s.heap) (hlim : s.heap.NoLimit) (hroom : A.depth + 1 < recursionLimit)
    (hq : ∀ h' tk e d t1, XMade s.heap h' f e C d t1 v → R (.ok (.ret (.ref e))) { s with heap := h', toks := tk }) : codeAny (model prog w) A (.call (.ref C) (xArgs f [] v kw)) R s := by
  obtain ⟨nm, N', qn', bs, bm, hdct, sn, sub, ab, col, dd, k0, k1, k2, k3, k5, hC, hT⟩ := excInit_of X T.q
  obtain ⟨hp, g, dr, tk, os⟩ := s
  have go : ∀ (rest : List Value) (A' : Around), A'.depth < recursionLimit → codeAny (model prog w) A' (.call (.ref fI) (xArgs f [.ref (hp.objs.size + 1)] v kw)) (W.InitBack (hp.objs.size + 1) R) ⟨(hp.push (kdv_tup rest)).push (excO C hp.objs.size), g, dr, tk, os⟩ := fun rest A' hd => by
    have k : ∀ b o, hp.get? b = some o → ((hp.push (kdv_tup rest)).push (excO C hp.objs.size)).get? b = some o := fun b o e => Heap.get?_push_of_some _ (Heap.get?_push_of_some _ e)
    have hget : ((hp.push (kdv_tup rest)).push (excO C hp.objs.size)).get? (hp.objs.size + 1) = some (excO C hp.objs.size) := by heap_get
    refine x_init (s := ⟨(hp.push (kdv_tup rest)).push (excO C hp.objs.size), g, dr, tk, os⟩) T kw (X.keeps k) (hlim.keeps k) hget hd fun h' tk' dx IE => ?_
    have z : hp.objs.size + 1 + 1 ≤ dx := by
      have q := IE.dbig
      rw [Heap.size_push, Heap.size_push] at q
      exact q
    refine ⟨rfl, hq h' tk' (hp.objs.size + 1) dx _ ⟨fun b o e => IE.keep b o (Nat.ne_of_lt (Nat.lt_succ_of_lt (Heap.lt_size e))) (k b o e), Nat.le_succ _, IE.obj, Nat.le_trans (Nat.le_trans (Nat.le_succ _) (Nat.le_succ _)) z, IE.dne, IE.ns⟩⟩
  cases kw with
  | false =>
    exact call_own T.FB hT hC (looks_findIn X T.iC) (fun self => bind_fn X self T.tI) (by show 1 ≤ sizeLine; rw [sizeLine_eq]; decide) (go [v] _ hroom)
  | true =>
    exact callK T.FB hT hC (looks_findIn X T.iC) (fun self => bind_fn X self T.tI) (by show 0 ≤ sizeLine; rw [sizeLine_eq]; decide) (go [] _ hroom)
end
end DLX
end PySem
/-! Own exceptions as values. -/
namespace DL
open PySem PySem.Spec L2
section
variable {L : Lx} {X : Cx} {g g' : Gh} {H H' H1 : Hp} {σ : L2.St} {Γ : Env} {W : WX} {pos : Pos} {pins : List (Addr × Obj)} {s : Shared}
variable {C fI : Addr} {f qn : Str} {B newId initId : String} {bmB : List Value}
/-- the new exception, tracked -/
theorem x_inv {h' : Heap} {t' : Nat} {e d t1 : Addr} {y : V} {u : Value} (I : Inv X pins σ H s) (M : PySem.DLX.XMade s.heap h' f e C d t1 u) (ry : RelV y u) :
    H e = none ∧ H d = none ∧ Inv X pins σ (upd (upd H d (exd d [(f, y)])) e (exo e C (some d))) { s with heap := h', toks := t' } := by
  have nd : H d = none := I.hok.fresh M.dbig
  have ne : H e = none := I.hok.fresh M.new
  have z1 : ∀ {b : Addr} {o : Obj}, s.heap.get? b = some o → b ≠ d := fun {b o} q => Nat.ne_of_lt (Nat.lt_of_lt_of_le (Heap.lt_size q) M.dbig)
  have z2 : ∀ {b : Addr} {o : Obj}, s.heap.get? b = some o → b ≠ e := fun {b o} q => Nat.ne_of_lt (Nat.lt_of_lt_of_le (Heap.lt_size q) M.new)
  have two : ∀ {b : Addr} {o : HO}, H b = some o → upd (upd H d (exd d [(f, y)])) e (exo e C (some d)) b = some o := fun {b o} q => by
    rw [upd_ne (ne_of_none q ne), upd_ne (ne_of_none q nd)]; exact q
  have U : Un X.fs [] H (upd (upd H d (exd d [(f, y)])) e (exo e C (some d))) s.heap h' := {
    keep := fun b o q n _ _ => M.keep b o q
    slot := fun b o q n _ _ => ⟨o.slots, M.keep b o q⟩
    free := fun b o q n _ => by rw [upd_ne (z2 q), upd_ne (z1 q)]; exact n
    there := fun b o q _ => ⟨o, M.keep b o q⟩
    tups := fun b xs q => two q
    frzs := fun b o v q => two q
    tbls := fun b ps q => ⟨#[], by rw [two q]; simp⟩ }
  refine ⟨ne, nd, I.un (t' := t') U fun b o q => ?_⟩
  by_cases hb : b = e
  · subst hb
    rw [upd_same] at q
    cases q
    exact exo_ok M.obj
  · rw [upd_ne hb] at q
    by_cases hd : b = d
    · subst hd
      rw [upd_same] at q
      cases q
      exact exd_ok M.ns (relO_put (fs := []) ry fun g => True.intro)
    · rw [upd_ne hd] at q
      exact (I.hok b o q).stay (fun c v _ z => M.keep c v z) (fun c hc => two hc) (fun c xs hc => two hc)
/-- C(e), C(f = e): a new exception -/
def tExv (f : Str) (C : Addr) (ta : TA) : TE := fun σ H Q => ta σ H fun vs H1 => ∃ v, vs = [v] ∧ ∀ a d, H1 a = none → H1 d = none → d ≠ a → Q (.ref a) (upd (upd H1 d (exd d [(f, v)])) a (exo a C (some d)))
theorem call_exv (T : PySem.DLX.ExT X.K C fI f qn B newId initId bmB) (kw : Bool) (hr : X.A.depth + 1 < recursionLimit) (I : Inv X pins σ H s) {y : V} {u : Value} (ry : RelV y u) {Q : VK}
    (q : ∀ a d, H a = none → H d = none → d ≠ a → Q (.ref a) (upd (upd H d (exd d [(f, y)])) a (exo a C (some d)))) :
    codeAny (model X.prog X.w) X.A (.call (.ref C) (PySem.DLX.xArgs f [] u kw)) (fun r s' => match r with
      | .ok (.ret u) => EP X pins σ Q u s'
      | .ok _ => False
      | .error e => X.xe e s') s := by
  refine PySem.DLX.x_made T kw I.kIn I.nolimit hr fun h' tk e d t1 M => ?_
  obtain ⟨ne, nd, J⟩ := x_inv (t' := tk) I M ry
  exact ⟨.ref e, _, J, rfl, q e d ne nd M.dne⟩
theorem pe_exv {x : Str} {a : Expr} {ta : TA} {p : Pos} (T : PySem.DLX.ExT X.K C fI f qn B newId initId bmB) (hr : X.A.depth + 1 < recursionLimit) (hg : Gl X x) (gC : X.mg x = some (.ref C)) (ha : PA X [a] ta)
    (hdb : (x == ("__debug__" : Str)) = false := by decide) (he : starEach (a :: []) X.env = (false, eval a X.env) :: starEach [] X.env := by rfl) (hpl : (backTo pos (starEach [] X.env)).any (·.1) = false := by rfl) :
    PE X (.Call (.Name x p) [a] [] pos) (tExv f C ta) := by
  refine ⟨fun pins s σ H Q I h => ?_⟩
  refine wpAny_Call_Name_kw (ld_glob I hg gC ?_ hdb)
  refine PySem.W.callWith_K (h₀ := X.base) I.ok.mod.kin T.kC (thn (ha.run pos pins s σ H _ I h) fun us s1 ⟨vs, H1, I1, r1, v, ev, q1⟩ => ⟨I1.kIn, ?_⟩) he hpl
  subst ev
  cases r1 with
  | cons rv rn =>
    cases rn
    exact wpAny_call (codeAny_mono (call_exv T false hr I1 rv q1) fun r s' z => by
      cases r with
      | error e => exact z
      | ok fl => cases fl <;> exact z)
theorem pe_exvK {x : Str} {a : Expr} {ta : TA} {p kpos : Pos} (T : PySem.DLX.ExT X.K C fI f qn B newId initId bmB) (hr : X.A.depth + 1 < recursionLimit) (hg : Gl X x) (gC : X.mg x = some (.ref C)) (hkw : PK X [⟨some f, a, kpos⟩] ta)
    (hall : (backToKw pos (keywordEach [⟨some f, a, kpos⟩] X.env)).all (·.1.isSome) = true := by rfl) (hks : (backToKw pos (keywordEach [⟨some f, a, kpos⟩] X.env)).filterMap (·.1) = [f] := by rfl) (hdb : (x == ("__debug__" : Str)) = false := by decide)
    (hpl : ((backTo pos (starEach [] X.env)).any (·.1) || (backToKw pos (keywordEach [⟨some f, a, kpos⟩] X.env)).any (·.1.isNone)) = false := by rfl) :
    PE X (.Call (.Name x p) [] [⟨some f, a, kpos⟩] pos) (tExv f C ta) := by
  refine ⟨fun pins s σ H Q I h => ?_⟩
  refine wpAny_Call_Name_kw (ld_glob I hg gC ?_ hdb)
  refine PySem.W.callWith_KW0 (h₀ := X.base) I.ok.mod.kin T.kC hall ?_ hpl
  refine thn (hkw.run pos pins s σ H _ I h) fun ws s2 ⟨zs, H2, I2, rz, v, ev, q2⟩ => ⟨I2.kIn, ?_⟩
  rw [hks]
  subst ev
  cases rz with
  | cons rv rn =>
    cases rn
    exact wpAny_call (codeAny_mono (call_exv T true hr I2 rv q2) fun r s' z => by
      cases r with
      | error e => exact z
      | ok fl => cases fl <;> exact z)
end
end DL
/-! isinstance of own exceptions that have their dict. -/
namespace PySem
namespace DLX
open PySem PySem.Spec PySem.Calls PyProof.Rows PySem.W
section
variable {prog : Program} {w : World} {A : Around} {E : Value → Shared → Prop} {s : Shared} {K : Frag} {x D : Addr} {ox : Obj} {od : Option Obj}
theorem find_data {C : Addr} {name : Str} {a g : Value} (hc : (clsIn K C).isSome = true) (ha : findIn K (.ref C) name = some (some a)) (hg : specialIn K a "__get__" = some (some g)) (ht : takesIn K a = some true) : findObj K C od name = some (.bind g a) := by
  obtain ⟨cd, hc⟩ := Option.isSome_iff_exists.mp hc
  simp only [findObj, hc, ha, hg, ht, Option.bind_some]
theorem cls_some {K : Frag} {D : Addr} (h : hasDictIn K D = true) : (clsIn K D).isSome = true := by
  obtain ⟨cd, hc, _⟩ := any_some h
  rw [hc]
  rfl
theorem class_of_exc {Q : Option Value → Shared → Prop} (c : L2.ExcC K D) (X : K.In s.heap) (I : InstAt s.heap x ox D od) (h : Q (some (.ref D)) { s with toks := s.toks + 1 }) : wpAny (model prog w) A (getAttr? (.ref x) "__class__") Q E s := by
  have hf : findObj K D od "__class__" = some (.bind (.builtin "getset_descriptor.__get__") (.builtin "object.__class__")) := find_data (cls_some c.hd) c.ha c.hn c.ht
  obtain ⟨hp, g, d, t, os⟩ := s
  have l0 := I.type (M := model prog w)
  have l1 := looks_findIn (M := model prog w) X c.hg
  have l2 := looks_findIn (M := model prog w) X c.hk
  have l3 := looks_find (M := model prog w) X I hf
  have below : Looks (model prog w) hp (isInstance (.ref x) (.type "BaseException")) true := l0.andThen (looks_subIn X c.hs)
  have e1 : (Value.builtin "BaseException.__getattribute__" == Value.builtin "object.__getattribute__") = false := by decide +kernel
  have e2 : (onTheHeap (Value.ref D) && Value.builtin "BaseException.__getattribute__" == Value.builtin "object.__getattribute__") = false := by
    rw [e1]; rfl
  have e3 : (false && onTheHeap (Value.builtin "BaseException.__getattribute__")) = false := rfl
  unfold getAttr? getAttrBy? getAttrBy
  refine wpAny_bind (wpAny_mkText (wpAny_bind (wpAny_attempt (wpAny_holding (wpAny_bind (l0.at (wpAny_bind (l1.at ?_))))))))
  show wpAny _ _ (if (onTheHeap (Value.ref D) && Value.builtin "BaseException.__getattribute__" == Value.builtin "object.__getattribute__") = true then _ else _) _ _ _
  rw [e2, if_neg Bool.false_ne_true]
  unfold getAttrByItsOwn hookBefore
  refine wpAny_bind ?_
  rw [if_pos (show onTheHeap (Value.ref D) = true from rfl)]
  refine l2.at (wpAny_bind (wpAny_attempt (wpAny_holding ?_)))
  unfold callGetattribute
  rw [e3, if_neg Bool.false_ne_true]
  unfold boundAndCalled
  rw [PySem.F.excAttr_ValueError.ga.bind (.ref x)]
  refine wpAny_bind (wpAny_pure ?_)
  show wpAny _ _ (call (.builtin "BaseException.__getattribute__") [.ref x, .str "__class__" t]) _ _ _
  refine wpAny_call (codeAny_call_builtin PySem.F.excAttr_ValueError.ga.plain PySem.F.entry_bexc_ga ?_)
  refine @check_slot (model prog w) _ _ ⟨hp, g, d, t + 1, os⟩ "BaseException.__getattribute__" "BaseException" "__getattribute__" (.ref x) [.str "__class__" t] [] _ (by decide +kernel) (by decide +kernel) below
    (PySem.F.args_bexc_ga (.ref x) (.str "__class__" t)) ?_
  unfold Builtin.«object.__getattribute__»
  refine wpAny_bind (wpAny_of_eq (a := ((Value.ref x : Value), [Value.str "__class__" t])) (by first | rfl | (simp only [slotArgs]; rfl)) ?_)
  refine wpAny_bind (wpAny_pure (wpAny_bind (l0.at (wpAny_bind (l3.at ?_)))))
  show wpAny _ _ (holding [Value.builtin "object.__class__"] (call (.builtin "getset_descriptor.__get__") [.builtin "object.__class__", .ref x, .ref D]) >>= ret) _ _ _
  refine wpAny_bind (wpAny_holding (wpAny_call (class_get (s := ⟨hp, g, d, t + 1, os⟩) (ox := ox) (od := od) X I c.hm (wpAny_pure ?_))))
  show wpAny _ _ (handedOut (.ref D)) _ _ _
  rw [handedOut_of (v := .ref D) rfl]
  first
    | exact wpAny_pure (wpAny_pure h)
    | exact wpAny_pure h
    | exact wpAny_pure (wpAny_bind (wpAny_pure (wpAny_pure h)))
theorem at_type {K : Frag} {D : Addr} (h : hasDictIn K D = true) : ∃ c dd cd sl, K.lookup D = some ⟨c, dd, .cls cd, sl⟩ := by
  have q := cls_some h
  unfold clsIn at q
  split at q
  · rename_i c' d' cd' sl' ho
    exact ⟨_, _, _, _, ho⟩
  · cases q
theorem kitx_exc (c : L2.ExcC K D) : KitX K (.ref x) (.ref D) (fun h => InstAt h x ox D od) where
  ty := fun _ _ _ I => I.type
  it := fun M h X _ => by
    obtain ⟨cc, dd, cd, sl, ho⟩ := at_type c.hd
    intro A' Q' E' s' k q
    unfold isType loadHead
    exact wpAny_bind (wpAny_loadPart (k _ _ (X _ _ ho)) (wpAny_pure q))
  ne := fun h tp dd its n sl X htp => (handS_kitx_exc (x := x) (ox := ox) c.hg c.hk c.hs c.hd c.ha c.hn c.ht c.hm).ne h tp dd its n sl X htp
  ca := fun X I k => class_of_exc c X I k
end
end DLX
end PySem
/-! Own exceptions as data; isinstance; repr. -/
namespace DL
open PySem PySem.Spec L2
section
variable {L : Lx} {X : Cx} {g g' : Gh} {H H' H1 : Hp} {σ : L2.St} {Γ : Env} {W : WX} {pos p : Pos} {i : IE}
variable {C fI : Addr} {f qn : Str} {B newId initId : String} {bmB : List Value} {n : Nat} {x : Str} {a : Expr}
/-- C(e): the exception n -/
def iMk (n : Nat) (i : IE) : IE := fun Γ => (i Γ).bind fun d => .ret (.exc n d)
theorem rd_exv {Q : VK} (hC : L.cA n = C) (hf : L.cF n = [f]) (h : Rd1 L DenT W (iMk n i) σ H Q) : tExv f C (tCons (Rd1 L DenT W i) tNil) σ H Q := by
  obtain ⟨Γ, g, rp, w⟩ := h
  refine Rd1.go rp w fun v H1 d g1 r1 s t w => ⟨v, rfl, fun a d na nd ne => ?_⟩
  have s1 := stp_put (o := exd d [(f, v)]) r1 nd
  have na' : upd H1 d (exd d [(f, v)]) a = none := by rw [upd_ne (Ne.symm ne)]; exact na
  have r2 := r1.step s1
  have s2 := stp_put (o := exo a C (some d)) r2 na'
  refine w (.ref a) _ _ (s.trans (s1.trans s2)) rfl ?_
  refine .exc (f := f) (d := d) (v := v) (by rw [hC]; exact put_F) (s2.le _ _ put_F) hf (t.mono (s1.trans s2).le (s1.trans s2).mu)
theorem de_exv (T : PySem.DLX.ExT X.K C fI f qn B newId initId bmB) (hC : L.cA n = C) (hf : L.cF n = [f]) (hr : X.A.depth + 1 < recursionLimit) (hg : Gl X x) (gC : X.mg x = some (.ref C)) (h : DE L X i a)
    (hdb : (x == ("__debug__" : Str)) = false := by decide) (he : starEach (a :: []) X.env = (false, eval a X.env) :: starEach [] X.env := by rfl) (hpl : (backTo pos (starEach [] X.env)).any (·.1) = false := by rfl) :
    DE L X (iMk n i) (.Call (.Name x p) [a] [] pos) := fun W tk => PE.imp (pe_exv T hr hg gC (pa_cons (h W tk) pa_nil he) hdb he hpl) fun σ H Q h => rd_exv hC hf h
theorem de_exvK {kpos : Pos} (T : PySem.DLX.ExT X.K C fI f qn B newId initId bmB) (hC : L.cA n = C) (hf : L.cF n = [f]) (hr : X.A.depth + 1 < recursionLimit) (hg : Gl X x) (gC : X.mg x = some (.ref C)) (h : DE L X i a)
    (hall : (backToKw pos (keywordEach [⟨some f, a, kpos⟩] X.env)).all (·.1.isSome) = true := by rfl) (hks : (backToKw pos (keywordEach [⟨some f, a, kpos⟩] X.env)).filterMap (·.1) = [f] := by rfl) (hdb : (x == ("__debug__" : Str)) = false := by decide)
    (hpl : ((backTo pos (starEach [] X.env)).any (·.1) || (backToKw pos (keywordEach [⟨some f, a, kpos⟩] X.env)).any (·.1.isNone)) = false := by rfl) :
    DE L X (iMk n i) (.Call (.Name x p) [] [⟨some f, a, kpos⟩] pos) := fun W tk => PE.imp (pe_exvK T hr hg gC (pk_cons (h W tk) pk_nil) hall hks hdb hpl) fun σ H Q h => rd_exv hC hf h
/-! ### its field -/
def tXat (K : PySem.W.Frag) (f : Str) (te : TE) : TE := fun σ H Q => te σ H fun x H1 => ∃ a C d v, x = .ref a ∧ H1 a = some (exo a C (some d)) ∧ H1 d = some (exd d [(f, v)]) ∧ XfC K C ∧ PySem.W.findIn K (.ref C) f = some none ∧ Q v H1
theorem pe_xat {e : Expr} {te : TE} (he : PE X e te) (hb : attributeBase e f X.env (eval e X.env) = eval e X.env := by rfl) : PE X (.Attribute e f pos) (tXat X.K f te) := by
  refine ⟨fun pins s σ H Q I h => ?_⟩
  refine attr_of hb (thn (he.run pins s σ H _ I h) fun u s1 hh => ?_)
  obtain ⟨x, H1, I1, rx, a, C, d, v, ex, e1, e2, T, hno, q⟩ := hh
  subst ex
  obtain rfl : u = Value.ref a := rx
  obtain ⟨t1, ho⟩ := exo_at I1.hok e1
  obtain ⟨mA, hns, hr⟩ := exd_at I1.hok e2
  obtain ⟨od, hod, hl⟩ := lookIn_ns hns
  obtain ⟨u, hu, ru⟩ := RelO.some_of (v := v) (o := mA f) (by
    have := hr f
    rw [lookup_put, if_pos rfl] at this
    exact this)
  have J : PySem.W.InstAt s1.heap a { cls := .ref C, dict := some d, data := .fields #[.ref t1, .none, .none, .none, .bool false, .none] } C (some od) := ⟨ho, rfl, rfl, hod⟩
  exact HandSPX.exc_get I1.kIn J T.ga T.gg T.exC (PySem.W.findObj_own T.hdC hno rfl (by rw [hl, hu])) (handed_of ru) ⟨v, H1, I1.tok _, ru, q⟩
/-- x.f of an exception -/
def iXat (ok : Nat → Bool) (i : IE) : IE := fun Γ => (i Γ).bind fun d => match d with
  | .exc n v => if ok n = true then .ret v else .stuck
  | _ => .stuck
theorem de_xat {ok : Nat → Bool} {e : Expr} (h : DE L X i e) (hK : X.K = L.K) (hx : ∀ n, ok n = true → L.cF n = [f] ∧ XfC L.K (L.cA n) ∧ PySem.W.findIn L.K (.ref (L.cA n)) f = some none) (hb : attributeBase e f X.env (eval e X.env) = eval e X.env := by rfl) :
    DE L X (iXat ok i) (.Attribute e f pos) := fun W tk => PE.imp (pe_xat (h W tk) hb) fun σ H Q ⟨Γ, g, rp, w⟩ => by
  refine Rd1.go rp w fun v H1 d g1 r1 s t w => ?_
  split at w
  · rename_i n d
    split at w
    · rename_i hn
      obtain ⟨h1, h2, h3⟩ := hx n hn
      cases t with
      | exc e1 e2 e3 t =>
        rw [h1] at e3
        cases e3
        exact ⟨_, _, _, _, rfl, r1.sub _ _ e1, r1.sub _ _ e2, hK ▸ h2, hK ▸ h3, w _ g1 H1 s rfl t⟩
    · exact w.elim
  · exact w.elim
/-! ### isinstance -/
abbrev TyK := String ⊕ Nat
def Lx.tv (L : Lx) : TyK → Value
  | .inl t => .type t
  | .inr n => .ref (L.cA n)
def D.ck : D → Option TyK
  | .ty n => some (.inl n)
  | .clo n => some (.inr n)
  | _ => none
def D.bk : D → Option String
  | .non => some "NoneType" | .bl _ => some "bool" | .int _ => some "int" | .str _ => some "str" | .tup _ => some "tuple" | .lst _ => some "list"
  | _ => none
def isTab (tb : List (String × TyK × Bool)) (te : List (Nat × TyK × Bool)) (d c : D) : Option Bool := match c.ck with
  | none => none
  | some k => match d with
    | .exc n _ => (te.find? fun e => decide (e.1 = n) && decide (e.2.1 = k)).map (·.2.2)
    | d => match d.bk with
      | some t => (tb.find? fun e => decide (e.1 = t) && decide (e.2.1 = k)).map (·.2.2)
      | none => none
def isAny (S : D → Option Bool) : List D → Option Bool
  | [] => some false
  | c :: cs => match S c with
    | some true => some true
    | some false => isAny S cs
    | none => none
def fIsi (S : D → D → Option Bool) : List D → Option D
  | [x, .tup (c :: cs)] => (isAny (S x) (c :: cs)).map .bl
  | [x, .tup []] => none
  | [x, c] => (S x c).map .bl
  | _ => none
/-- what is known of the type of x -/
theorem kit_vw (hK : X.K = L.K) {pins : List (Addr × Obj)} {s : Shared} {v : V} {u : Value} {d : D} {t : String} {σ2 : L2.St} (rp : Rep L Γ g σ H) (I : Inv X pins σ2 H s) (rx : RelV v u) (vx : Vw L g H v d) (e : d.bk = some t) :
    ∃ P : Heap → Prop, PySem.W.KitX X.K u (.type t) P ∧ P s.heap ∧ u ≠ .builtin "__main__.__loader__#opaque" := by
  refine kit_of I rx ?_
  rcases vx with h | ⟨q, vs, ds, rfl, rfl, h1, h2, _⟩ | ⟨q, kvs, rfl, rfl, _, _⟩
  · cases h with
    | non => cases e; exact .base .non
    | bl b => cases e; exact .base (.bl b)
    | int i => cases e; exact .base (.int i)
    | str s => cases e; exact .base (.str s)
    | tup h l =>
      cases e
      rcases h with h | ⟨o, its, m, h, c, _⟩
      · rcases h with h | ⟨o, h⟩
        · exact .base (.tup (rp.sub _ _ h))
        · exact .fTuple (rp.sub _ _ h)
      · exact .kTuple (hK ▸ h) c
    | lst h l => cases e; exact .base (.lst (rp.sub _ _ h))
    | dK _ _ _ => cases e
    | dT _ _ _ => cases e
    | ins _ _ _ => cases e
    | exc _ _ _ _ => cases e
    | ty _ => cases e
    | clo _ => cases e
    | rnd _ => cases e
    | scr _ => cases e
  · cases e; exact .base (.lst h1)
  · cases e
/-- the type of a value, as isinstance asks of it -/
def KitOf (X : Cx) (s : Shared) (u t : Value) : Prop := ∃ P : Heap → Prop, PySem.W.KitX X.K u t P ∧ P s.heap ∧ u ≠ .builtin "__main__.__loader__#opaque"
structure TabOk (L : Lx) (tb : List (String × TyK × Bool)) (te : List (Nat × TyK × Bool)) : Prop where
  b : ∀ e ∈ tb, PySem.W.kitOne L.K (.type e.1) (L.tv e.2.1) = some e.2.2
  e : ∀ e ∈ te, ExcC L.K (L.cA e.1) ∧ PySem.W.kitOne L.K (.ref (L.cA e.1)) (L.tv e.2.1) = some e.2.2
/-- the type of x, with all answers of the tables -/
theorem kit_tab {tb : List (String × TyK × Bool)} {te : List (Nat × TyK × Bool)} (ok : TabOk L tb te) (hK : X.K = L.K) {pins : List (Addr × Obj)} {s : Shared} {v : V} {u : Value} {d : D} {σ2 : L2.St} (rp : Rep L Γ g σ H) (I : Inv X pins σ2 H s) (rx : RelV v u) (vx : Vw L g H v d) :
    (∃ t, KitOf X s u t ∧ ∀ c k b, c.ck = some k → isTab tb te d c = some b → PySem.W.kitOne X.K t (L.tv k) = some b) ∨ ∀ c, isTab tb te d c = none := by
  by_cases hx : ∃ n y, d = .exc n y
  · obtain ⟨n, y, rfl⟩ := hx
    by_cases hc : ∃ e ∈ te, e.1 = n
    · refine .inl ⟨.ref (L.cA n), ?_, fun c k b hk h => ?_⟩
      · obtain ⟨e, he, rfl⟩ := hc
        have xc := (ok.e e he).1
        rcases vx with h | ⟨_, _, _, _, e, _⟩ | ⟨_, _, _, e, _⟩
        · cases h with
          | @exc a d n f v x e1 e2 e3 t =>
            obtain rfl : u = Value.ref a := rx
            obtain ⟨t1, ho⟩ := exo_at I.hok (rp.sub _ _ e1)
            obtain ⟨mA, hns, hr⟩ := exd_at I.hok (rp.sub _ _ e2)
            obtain ⟨od, hod, hl⟩ := lookIn_ns hns
            exact ⟨_, PySem.DLX.kitx_exc (x := a) (od := some od) (hK ▸ xc), ⟨ho, rfl, rfl, hod⟩, fun z => nomatch z⟩
        · cases e
        · cases e
      · unfold isTab at h
        rw [hk] at h
        simp only at h
        obtain ⟨e, h1, rfl⟩ := Option.map_eq_some_iff.mp h
        have h2 := List.find?_some h1
        simp only [Bool.and_eq_true, decide_eq_true_eq] at h2
        have := (ok.e e (List.mem_of_find?_eq_some h1)).2
        rw [h2.1, h2.2] at this
        exact hK ▸ this
    · refine .inr fun c => ?_
      unfold isTab
      split
      · rfl
      · simp only [Option.map_eq_none_iff, List.find?_eq_none, Bool.and_eq_true, decide_eq_true_eq, not_and]
        exact fun e he h => absurd ⟨e, he, h⟩ hc
  · have hd : ∀ c k, c.ck = some k → isTab tb te d c = match d.bk with
        | some t => (tb.find? fun e => decide (e.1 = t) && decide (e.2.1 = k)).map (·.2.2)
        | none => none := fun c k hk => by
      unfold isTab
      rw [hk]
      cases d <;> first | rfl | exact absurd ⟨_, _, rfl⟩ hx
    cases hb : d.bk with
    | none =>
      refine .inr fun c => ?_
      cases hk : c.ck with
      | none => unfold isTab; rw [hk]
      | some k => rw [hd c k hk, hb]
    | some t =>
      refine .inl ⟨.type t, kit_vw hK rp I rx vx hb, fun c k b hk h => ?_⟩
      rw [hd c k hk, hb] at h
      simp only at h
      obtain ⟨e, h1, rfl⟩ := Option.map_eq_some_iff.mp h
      have h2 := List.find?_some h1
      simp only [Bool.and_eq_true, decide_eq_true_eq] at h2
      have := ok.b e (List.mem_of_find?_eq_some h1)
      rw [h2.1, h2.2] at this
      exact hK ▸ this
theorem ck_val {v : V} {u : Value} {c : D} {k : TyK} (h : c.ck = some k) (t : Den L g v c) (r : RelV v u) : u = L.tv k := by
  cases t <;> cases h
  · exact r
  · exact r
theorem tab_ck {tb : List (String × TyK × Bool)} {te : List (Nat × TyK × Bool)} {d c : D} {b : Bool} (h : isTab tb te d c = some b) : ∃ k, c.ck = some k := by
  unfold isTab at h
  split at h
  · cases h
  · exact ⟨_, by assumption⟩
theorem any_kit {tb : List (String × TyK × Bool)} {te : List (Nat × TyK × Bool)} {d : D} {t : Value} (hc : ∀ c k b, c.ck = some k → isTab tb te d c = some b → PySem.W.kitOne X.K t (L.tv k) = some b) : ∀ (cs : List D) (vs : List V) (us : List Value) (b : Bool), DenL L g vs cs → Vals vs us → isAny (isTab tb te d) cs = some b →
    PySem.W.kitAny X.K t us = some b := fun cs => by
  induction cs with
  | nil =>
    intro vs us b l r h
    cases l
    cases r
    cases h
    exact kitAny_nil
  | cons c cs ih =>
    intro vs us b l r h
    cases l with
    | cons tl l =>
      cases r with
      | cons rv r =>
        unfold isAny at h
        split at h
        · rename_i e
          cases h
          obtain ⟨k, hk⟩ := tab_ck e
          have eu := ck_val hk tl rv
          subst eu
          exact kitAny_cons (hc c k true hk e) (fun z => nomatch z) (fun _ => rfl)
        · rename_i e
          obtain ⟨k, hk⟩ := tab_ck e
          have eu := ck_val hk tl rv
          subst eu
          exact kitAny_cons (hc c k false hk e) (fun _ => ih _ _ b l r h) (fun z => nomatch z)
        · cases h
theorem ca_isi {tb : List (String × TyK × Bool)} {te : List (Nat × TyK × Bool)} (ok : TabOk L tb te) (hK : X.K = L.K) : CaD L X DenT (.builtin "isinstance") (fIsi (isTab tb te)) := by
  intro pins st σ H xs us Q I r ⟨Γ, g, σ', ds, d, rp, vs, e, w⟩
  unfold fIsi at e
  split at e
  · rename_i x c cs
    obtain ⟨b, hb, rfl⟩ := Option.map_eq_some_iff.mp e
    obtain ⟨v1, v2, rfl, a1, a2⟩ := vs.two
    obtain ⟨u1, u2, rfl, r1, r2⟩ := vals2 r
    obtain ⟨q, ws, rfl, h1, l1, _⟩ := a2.tup rp.sub
    cases (show u2 = Value.ref q from r2)
    obtain ⟨its, rv, ⟨o, ho, hc, n, hd⟩, _⟩ := I.tuple (hK ▸ h1)
    rcases kit_tab ok hK rp I r1 a1 with ⟨t, ⟨P, Z, p, hx⟩, hk⟩ | hn
    · obtain ⟨oc, od, dt, sl⟩ := o
      simp only at hc hd
      subst hc hd
      exact PySem.W.kia_tup Z I.kIn p ho (any_kit hk _ _ _ _ l1 rv hb) hx fun tk => ⟨.bl b, H, I.tok tk, rfl, w _ g H (Stp.refl rp) rfl (.bl b)⟩
    · unfold isAny at hb
      rw [hn c] at hb
      cases hb
  · cases e
  · rename_i x c _ _
    obtain ⟨b, hb, rfl⟩ := Option.map_eq_some_iff.mp e
    obtain ⟨v1, v2, rfl, a1, a2⟩ := vs.two
    obtain ⟨u1, u2, rfl, r1, r2⟩ := vals2 r
    obtain ⟨k, hk⟩ := tab_ck hb
    rcases kit_tab ok hK rp I r1 a1 with ⟨t, ⟨P, Z, p, hx⟩, hq⟩ | hn
    · have eu : u2 = L.tv k := by
        rcases a2 with h | ⟨_, _, _, _, e, _⟩ | ⟨_, _, _, e, _⟩
        · exact ck_val hk h r2
        · subst e; cases hk
        · subst e; cases hk
      subst eu
      exact PySem.W.kia_one Z I.kIn p (hq c k b hk hb) hx fun tk => ⟨.bl b, H, I.tok tk, rfl, w _ g H (Stp.refl rp) rfl (.bl b)⟩
    · rw [hn c] at hb
      cases hb
  · cases e
/-! ### class names -/
theorem de_own {x : Str} {n : Nat} (hg : Gl X x) (hm : X.mg x = some (.ref (L.cA n))) (hd : (x == ("__debug__" : Str)) = false := by decide) : DE L X (iLit (.clo n)) (.Name x pos) := de_c (pe_glob (v := .ref (L.cA n)) hg hm rfl hd) fun g => .clo n
theorem de_type {x : Str} {t : String} (hg : Gl X x) (hm : X.mg x = none) (hv : bootBuiltins x = some (.type t)) (hn : x ≠ "__name__" := by decide) (hd : (x == ("__debug__" : Str)) = false := by decide) : DE L X (iLit (.ty t)) (.Name x pos) :=
  de_c (pe_bltn (v := .ty t) hg hm hv rfl hn hd) fun g => .ty t
/-! ### repr -/
def D.shw : D → Option PyData
  | .dct [] => some (.dict [])
  | d => if d.pl = true then some d.py else none
def fRepr : List D → Option D
  | [d] => match d.shw with
    | some z => if z.showable = true ∧ z.depth ≤ 20 ∧ z.shown.length ≤ sizeLine then some (.str z.shown) else none
    | none => none
  | _ => none
mutual
theorem D.noDict : ∀ d : D, d.pl = true → d.py.hasDict = false
  | .non, _ | .bl _, _ | .int _, _ | .str _, _ => rfl
  | .tup xs, h => by simp only [D.py, PyData.hasDict]; exact D.noDictL xs (by simpa only [D.pl] using h)
  | .lst xs, h => by simp only [D.py, PyData.hasDict]; exact D.noDictL xs (by simpa only [D.pl] using h)
  | .dct _, h | .ins _ _, h | .exc _ _, h | .ty _, h | .clo _, h | .rnd, h | .scr _, h => by simp only [D.pl] at h; cases h
theorem D.noDictL : ∀ ds : List D, D.plL ds = true → PyData.hasDictAll (D.pyL ds) = false
  | [], _ => rfl
  | x :: r, h => by
    simp only [D.plL, Bool.and_eq_true] at h
    simp only [D.pyL, PyData.hasDictAll, D.noDict x h.1, D.noDictL r h.2, Bool.or_self]
end
theorem vw_reads (hK : X.K = L.K) {pins : List (Addr × Obj)} {s : Shared} {v : V} {u : Value} {d : D} {z : PyData} {σ2 : L2.St} (rp : Rep L Γ g σ H) (I : Inv X pins σ2 H s) (rx : RelV v u) (vx : Vw L g H v d) (h : d.shw = some z) :
    ∃ as, Reads s.heap u z as ∧ (z.hasDict = true → sysModules ∉ as) := by
  unfold D.shw at h
  split at h
  · cases h
    have go : ∀ q, (Rd H q (.dK []) ∨ Rd H q (.dT [])) → ∃ as, Reads s.heap (.ref q) (.dict []) as ∧ (sysModules ∉ as) := fun q hq => by
      rcases hq with hq | hq
      · obtain ⟨_, hd, vs, r0, dd⟩ := dk_rd I.hok hq
        cases r0
        obtain ⟨o, es, ep, ho, hx, hdat, _, hp, _⟩ := dd
        obtain ⟨es⟩ := es
        cases hp
        exact ⟨_, Reads.dict ho hx.1 hdat .nil .nil, by simpa using fun z => by rw [← z] at hd; simp at hd⟩
      · obtain ⟨_, hd, xs, r0, o, es, ep, ho, hx, hdat, hp, _⟩ := dt_rd I.hok hq
        cases r0
        obtain ⟨es⟩ := es
        cases (show es = [] from hp)
        exact ⟨_, Reads.dict ho hx.1 hdat .nil .nil, by simpa using fun z => by rw [← z] at hd; simp at hd⟩
    have zl : ∀ {α β γ : Type} {ks : List α} {ws : List γ} {ds : List D} {f : α → D}, ks.length = ws.length → ws.length = ds.length → [] = (ks.map f).zip ds → ks = [] ∧ ws = [] := fun {α β γ ks ws ds f} h1 h2 h3 => by
      cases ks with
      | nil => exact ⟨rfl, List.eq_nil_of_length_eq_zero h1.symm⟩
      | cons k ks =>
        cases ds with
        | nil => rw [h2] at h1; simp at h1
        | cons d ds => simp at h3
    rcases vx with h | ⟨q, vs, ds, rfl, e, h1, h2, _⟩ | ⟨q, kvs, rfl, e, _, hd⟩
    · generalize hz : D.dct [] = d at h
      cases h with
      | dK e1 e2 e3 =>
        obtain ⟨rfl, rfl⟩ := zl (β := Nat) e2 e3.length (D.dct.inj hz)
        cases rx
        obtain ⟨as, r, hs⟩ := go _ (.inl (rd_sub rp.sub e1))
        exact ⟨as, r, fun _ => hs⟩
      | dT e1 e2 e3 =>
        obtain ⟨rfl, rfl⟩ := zl (β := Nat) e2 e3.length (D.dct.inj hz)
        cases rx
        obtain ⟨as, r, hs⟩ := go _ (.inr (rd_sub rp.sub e1))
        exact ⟨as, r, fun _ => hs⟩
      | _ => cases hz
    · cases e
    · cases e
      cases rx
      rcases hd with ⟨ks, ws, ds, e1, e2, e3, e4⟩ | ⟨ks, ws, ds, e1, e2, e3, e4⟩
      · obtain ⟨rfl, rfl⟩ := zl (β := Nat) e2 e3.length e4
        obtain ⟨as, r, hs⟩ := go _ (.inl (.inl e1))
        exact ⟨as, r, fun _ => hs⟩
      · obtain ⟨rfl, rfl⟩ := zl (β := Nat) e2 e3.length e4
        obtain ⟨as, r, hs⟩ := go _ (.inr (.inl e1))
        exact ⟨as, r, fun _ => hs⟩
  · split at h
    · rename_i hp
      cases h
      have dp := vx.dp rp.sub hp
      obtain ⟨as, r⟩ := Dp.reads I d.py v u (hK ▸ dp) rx
      refine ⟨as, r, fun q => ?_⟩
      rw [D.noDict d hp] at q
      cases q
    · cases h
theorem ca_repr (hK : X.K = L.K) (hgd : X.A.guards = some []) (hu : X.A.units + 64 < cLine) : CaD L X DenT (.builtin "repr") fRepr := by
  intro pins st σ H xs us Q I r ⟨Γ, g, σ', ds, d, rp, vs, e, w⟩
  unfold fRepr at e
  split at e
  · split at e
    · rename_i z hz
      split at e
      · rename_i hs
        cases e
        obtain ⟨v, rfl, a⟩ := vs.one
        obtain ⟨u, rfl, rv⟩ := vals1 r
        obtain ⟨as, rd, hsm⟩ := vw_reads hK rp I rv a hz
        have fin : ∀ (h' : Heap) (t : Tok) (tk : Nat), (∀ b o, st.heap.get? b = some o → h'.get? b = some o) → EP X pins σ Q (.str z.shown t) { st with heap := h', toks := tk } := fun h' t tk hk =>
          ⟨.str z.shown, H, I.kept (t' := tk) hk, ⟨t, rfl⟩, w _ g H (Stp.refl rp) rfl (.str _)⟩
        have ref : ∀ q, u = .ref q → wpAny (model X.prog X.w) X.A (call (.builtin "repr") [u]) (EP X pins σ Q) X.xe st := fun q hq => by
          subst hq
          exact repr_of_reads' rd hs.1 hsm hgd (by omega) (fun b o e => e) (fun h' t tk hk => fin h' t tk hk) hs.2.2
        cases rd with
        | none => exact PySem.P.repr_of_none (fin _ _ _ fun b o e => e)
        | bool b => exact PySem.P.repr_of_bool (fin _ _ _ fun b o e => e)
        | int i t => exact PySem.P.repr_of_int (of_decide_eq_true hs.1) (fin _ _ _ fun b o e => e)
        | str x t => exact PySem.P.repr_of_str (fin _ _ _ fun b o e => e) hs.2.2
        | list => exact ref _ rfl
        | tuple => exact ref _ rfl
        | dict => exact ref _ rfl
      · cases e
    · cases e
  · cases e
end
end DL
/-! enumerate, {}. -/
namespace DL
open PySem PySem.Spec L2
section
variable {L : Lx} {X : Cx} {g g' : Gh} {H H' H1 : Hp} {σ : L2.St} {Γ : Env} {W : WX} {pos p : Pos} {i : IE}
def enumD (ds : List D) : List D := (List.range ds.length).map fun k => D.tup [.int (k : Nat), ds.getD k .non]
def iiEn (i : IE) : II := fun Γ => (evs [i] Γ).bind fun ds => match ds with
  | [.lst ds] => .ret (enumD ds)
  | _ => .stuck
theorem wk_enum {a : Addr} {vs : List V} {ds : List D} (h : g.F a = some (.lst vs)) (l : DenL L g vs ds) : Wk L (Ite L.K a) g (enumD ds) where
  step := fun i d Γ g' σ H e r f => by
    unfold enumD at e
    rw [List.getElem?_map] at e
    by_cases hi : i < ds.length
    · rw [List.getElem?_range hi] at e
      cases e
      have e2 : ds[i]? = some ds[i] := List.getElem?_eq_getElem hi
      obtain ⟨v, hv, t⟩ := (l.mono f.F f.mu).get e2
      have hH := r.sub _ _ (f.F _ _ h)
      refine ⟨⟨vs, v, .inl (.inl hH), hv⟩, fun x H' ⟨T, y, ex, nT, eH, q⟩ => ?_⟩
      subst ex eH
      have e3 := q vs (.inl (.inl hH))
      rw [hv] at e3
      cases e3
      refine ⟨g'.put T (.tup [.int (i : Nat), v]), stp_put r nT, rfl, .tup (.inl (.inl put_F)) (.cons (.int _) (.cons ?_ .nil))⟩
      rw [List.getD_eq_getElem?_getD, e2]
      exact t.mono (stp_put (o := .tup [.int (i : Nat), v]) r nT).le (stp_put (o := .tup [.int (i : Nat), v]) r nT).mu
    · rw [List.getElem?_eq_none (by simpa using hi)] at e; cases e
  stop := fun Γ g' σ H r f => ⟨vs, .inl (.inl (r.sub _ _ (f.F _ _ h))), by unfold enumD; rw [List.length_map, List.length_range]; exact Nat.le_of_eq l.length⟩
theorem di_enum (hK : X.K = L.K) {i : IE} {e : Expr} {elts : List Expr} {kk : Nat} {tpos : Pos} (hg : Gl X "enumerate") (hm : X.mg "enumerate" = none) (ha : DA L X [i] [e]) (hs : starEach [e] X.env = [(false, eval e X.env)] := by rfl) :
    DI L X (iiEn i) (.Tuple elts kk tpos) (.Call (.Name "enumerate" p) [e] [] pos) := fun W tk => by
  refine PI.imp (pi_enum hg hm (ha W tk) hs) fun σ H R ⟨Γ, g, r, w⟩ => RdA.go r w fun vs H1 ds g1 r1 s t w => ?_
  split at w
  · rename_i ds
    cases t with
    | cons a l =>
      cases a with
      | lst e l2 =>
        cases l
        exact ⟨_, _, rfl, .inl (.inl (r1.sub _ _ e)), w g1 H1 _ s rfl (hK ▸ wk_enum e l2)⟩
  · exact w.elim
theorem de_dnew : DE L X (iLit (.dct [])) (.Dict [] [] pos) := fun W tk => PE.imp pe_dnewK fun σ H Q ⟨Γ, g, rp, w⟩ => fun p n => by
  refine w (.ref p) _ _ (stp_put (o := .dK []) rp n) rfl ?_
  exact .dK (ks := []) (vs := []) (ds := []) (.inl put_F) rfl .nil
def RdOF (L : Lx) (f : D → D → Option D) : R2 := fun x y H Q => ∃ Γ g σ dx dy d, Rep L Γ g σ H ∧ Vw L g H x dx ∧ Vw L g H y dy ∧ f dx dy = some d ∧ Wn L FrT g H Q d g.bud
theorem of_addL : OpR X (binaryOp .Add) (RdOF L fAddL) := by
  intro pins st σ H x y v u Q I rx ry ⟨Γ, g, σ', dx, dy, d, rp, vx, vy, e, w⟩
  unfold fAddL at e
  split at e
  · split at e
    · rename_i z
      cases e
      obtain ⟨a, vs, rfl, h1, l1⟩ := vx.lst rp.sub
      obtain ⟨b, ws, rfl, h2, l2⟩ := vy.lst rp.sub
      refine op_cat pins st σ H _ _ v u Q I rx ry ⟨a, b, vs, ws, rfl, rfl, h1, h2, by rw [l1.length, l2.length]; exact z, fun p n => ?_⟩
      exact w _ _ _ (stp_new rp n false) rfl (FrT.new rp (Stp.refl rp) n (l1.append l2))
    · cases e
  · cases e
theorem df_addL {i j : IE} {a b : Expr} (ha : DV L X i a) (hb : DV L X j b) : DF L X (iOp fAddL i j) (.BinOp a .Add b pos) := fun W tk => PE.imp (pe_op of_addL (ha W tk) (hb W tk)) fun σ H Q ⟨Γ, g, rp, w⟩ => by
  refine Rd1.go rp w fun x H1 dx g1 r1 s1 t1 w => Rd1.go r1 w fun y H2 dy g2 r2 s2 t2 w => ?_
  split at w
  · rename_i d e
    exact ⟨Γ, g2, σ, dx, dy, d, r2, t1.step s2, t2, e, fun v g' H' s eb t => w v g' H' (s1.trans (s2.trans s)) eb (frT_back (s1.trans s2) t)⟩
  · exact w.elim
def fPowI := fII (fun i j => decide (0 ≤ j) && (decide (j ≤ 1000000) && decide (i.natAbs < 2 ^ 64))) fun i j => .int (i ^ j.toNat)
theorem od_powI : OpD L X (binaryOp .Pow) fPowI := opd_ii op_pow (fun _ _ h => by
  simp only [Bool.and_eq_true, decide_eq_true_eq] at h
  exact ⟨h.1, h.2.1, h.2.2⟩) fun _ _ _ => .int _
/-- -e -/
def iNeg (i : IE) : IE := fun Γ => (i Γ).bind fun d => match d with
  | .int z => .ret (.int (-z))
  | _ => .stuck
theorem de_neg {i : IE} {a : Expr} (h : DE L X i a) : DE L X (iNeg i) (.UnaryOp .USub a pos) := fun W tk => PE.imp (pe_un un_neg (h W tk)) fun σ H Q ⟨Γ, g, rp, w⟩ => by
  refine Rd1.go rp w fun x H1 dx g1 r1 s1 t1 w => ?_
  split at w
  · rename_i z
    cases t1
    exact ⟨z, rfl, w _ g1 H1 s1 rfl (.int _)⟩
  · exact w.elim
end
end DL
/-! The end: the law called by the claim's caller. -/
namespace DL
open PySem PySem.Spec PyProof.Rows L2
/-- the promise of a law's def at the entry -/
theorem spd_law {L : Lx} {m : List D → M D} {H : Hp} {a : Addr} {ns : List Int} (hT : L.T = []) (hS : SqL L.K H a (ns.map V.int)) (hm : (m [.scr ns]).wpB (lim + 1) (fun d _ => d = .bl true) (fun _ _ => False)) :
    SpD L m [.ref a] H (fun v _ => v = .bl true) fun _ _ _ => False := by
  refine ⟨[], ⟨H, none, lim + 1⟩, [], [.scr ns], ⟨fun _ _ e => e, ⟨fun _ => rfl, fun m e => (by cases e)⟩, fun p hp => (by rw [hT] at hp; cases hp), fun i b e => (by simp at e), fun i j b c p e => (by simp at e), fun b o e i => ?_, rfl⟩, .cons (.scr hS) .nil, ?_⟩
  · obtain ⟨m, e, _⟩ := i
    cases e
  · refine M.wpB_mono (fun d b e v g' H' s eb t => ?_) (fun _ _ f => f.elim) _ _ hm
    subst e
    cases t
    rfl
theorem law_callG {L : Lx} {P : Program} {w : World} {mg mb : Str → Option Value} {k : Nat} {fa a : Addr} {fd : FuncData} {x : Str} {m : List D → M D} {s₁ : Shared} {vs : List Value} {ns : List Int} (hT : L.T = [])
    (KX : L.K.In s₁.heap) (hns : s₁.heap.Ns mainGlobals mg) (hb : s₁.heap.Ns builtinsNs mb) (hbb : ∀ x : Str, x ≠ "__name__" → mb x = bootBuiltins x) (hlim : s₁.heap.NoLimit) (hg : s₁.gens = #[])
    (ha : s₁.heap.get? a = some { cls := .type "list", data := .seq vs.toArray }) (hi : IntsAre vs ns) (hl : ns.length ≤ sizeLine) (hr : Room k callerA)
    (F : ∀ base : Heap, L.K.In base → base.Ns mainGlobals mg → FG L P w mg base k fa fd [x] m) (hbind : ∀ (s : Shared) (u : Value), BindsTo s fd ⟨[u], []⟩ [(x, u)])
    (hm : (m [.scr ns]).wpB (lim + 1) (fun d _ => d = .bl true) (fun _ _ => False)) :
    codeAny (model P w) callerA (.call (.ref fa) ⟨[.ref a], []⟩) (fun r s' => r = .ok (.ret (.bool true)) ∧ OldK s₁.heap s'.heap ∧ s'.os = s₁.os ∧ AllBare s'.gens) s₁ := by
  have rv := vals_ints hi
  have core : ∀ H : Hp, Only H → SqL L.K H a (ns.map V.int) → HOk P w H s₁.heap → (∀ b, H b ≠ none → b = a) → (H a ≠ none → L.K.lookup a = none) →
      codeAny (model P w) callerA (.call (.ref fa) ⟨[.ref a], []⟩) (fun r s' => r = .ok (.ret (.bool true)) ∧ OldK s₁.heap s'.heap ∧ s'.os = s₁.os ∧ AllBare s'.gens) s₁ := by
    intro H hO hS hok hA hK
    have here : ∀ {b : Addr}, H b ≠ none → b = a := fun {b} h => hA b h
    have notA : ∀ {b : Addr} {o : Obj} {es : Array DictEntry} {ep : Nat}, s₁.heap.get? b = some o → o.data = .dict es ep → H b = none := fun {b o es ep} e d => by
      by_cases q : H b = none
      · exact q
      · have e' := here q
        subst e'
        rw [ha] at e
        cases e
        have d' : Data.seq vs.toArray _ = Data.dict es ep := d
        cases d'
    have nsK : ∀ {b : Addr} {m : Str → Option Value}, s₁.heap.Ns b m → (hidT s₁.heap H).Ns b m := fun {b m} ⟨o, es, ep, e, d, r⟩ => ⟨o, es, ep, hidT_get e (notA e d), d, r⟩
    have inK : L.K.In (hidT s₁.heap H) := fun b o e => hidT_get (KX b o e) (by
      by_cases q : H b = none
      · exact q
      · have e' := here q
        subst e'
        rw [hK q] at e
        cases e)
    have hM : Mod L.K mg (hidT s₁.heap H) := ⟨inK, nsK hns, ⟨mb, nsK hb, hbb⟩, let ⟨mc, h1, h2⟩ := hlim; ⟨mc, nsK h1, h2⟩⟩
    have e0 : Env0 P w L.K mg (hidT s₁.heap H) callerA [] s₁ H :=
      ⟨rfl, hM, fun b o e => of_hidT e, Nat.le_of_eq (hidT_size _ _), trivial, fun b hb => absurd (show b ∈ ([] : List Addr) from hb) (by simp), hok, .of_eq hg⟩
    refine codeAny_mono ((F _ inK (nsK hns)).go callerA [] s₁ H ⟨[.ref a], []⟩ [.ref a] [.ref a] _ _ hr rfl e0 (hbind s₁ (.ref a)) (.cons rfl .nil) rfl (spd_law hT hS hm)) fun r s' h => ?_
    cases r with
    | error e =>
      obtain ⟨_, _, _, _, _, _, _, _, _, _, _, _, z⟩ := h
      exact z.elim
    | ok fl =>
      cases fl with
      | next => exact False.elim h
      | brk => exact False.elim h
      | cont => exact False.elim h
      | ret u =>
        obtain ⟨v, H', os, bare, un, hok', r', q⟩ := h
        have q' : v = .bl true := q
        subst q'
        obtain rfl : u = Value.bool true := r'
        refine ⟨rfl, OldK.of_keep fun b o e => ?_, os, bare⟩
        cases q : H b with
        | none => exact un.keep b o e q (fun z => absurd (show b ∈ ([] : List Addr) from z) (by simp)) (by simp)
        | some u =>
          rcases hO b with z | ⟨ob, xs, z⟩
          · rw [q] at z
            cases z
          · obtain ⟨e1, _⟩ := hok b _ z
            obtain ⟨e2, _⟩ := hok' b _ (un.frzs b ob _ z)
            rw [e] at e1
            cases e1
            exact e2
  have fits : vs.toArray.size ≤ sizeLine := by
    rw [List.size_toArray, hi.length]
    exact hl
  cases hk : L.K.lookup a with
  | some o =>
    have e := KX a o hk
    rw [ha] at e
    cases e
    refine core (fun _ => none) (fun _ => .inl rfl) (.inr ⟨_, vs.toArray, _, hk, rfl, rfl, rfl, fits, by simpa using rv⟩) (fun b u z => ?_) (fun b z => absurd rfl z) fun z => absurd rfl z
    have z' : (none : Option HO) = some u := z
    cases z'
  | none =>
    have at_ : ∀ b, b ≠ a → (if b = a then some (HO.frz { cls := .type "list", data := .seq vs.toArray } (.lst (ns.map V.int))) else none) = none := fun b h => if_neg h
    refine core (fun b => if b = a then some (.frz { cls := .type "list", data := .seq vs.toArray } (.lst (ns.map V.int))) else none) (fun b => ?_) (.inl (.inr ⟨{ cls := .type "list", data := .seq vs.toArray }, if_pos rfl⟩)) (fun b u z => ?_) (fun b z => ?_) fun _ => hk
    · by_cases h : b = a
      · exact .inr ⟨_, _, if_pos h⟩
      · exact .inl (at_ b h)
    · by_cases h : b = a
      · have z' := (if_pos h).symm.trans z
        cases z'
        subst h
        exact ⟨ha, by rw [List.length_map]; exact hl, vs, _, rv, ha⟩
      · exact absurd ((at_ b h).symm.trans z) (by simp)
    · by_cases h : b = a
      · exact h
      · exact absurd (at_ b h) z
end DL
namespace DLH
open PySem PySem.Spec PyProof.Rows L2
/-! ### a hook with conditions of one's own -/
abbrev AlX : Type := Bool × He.AlD
def obsX (n : Nat) (xb : PySem.W.Frag → Bool) (fa : List He.Fa) (fn : List He.DefD) (g : Addr → Option Obj) : AlX := (xb (He.frG g (He.asD g n)), He.obsD fa fn (He.frG g (He.asD g n)))
def hookX (n : Nat) (xb : PySem.W.Frag → Bool) (fa : List He.Fa) (fn : List He.DefD) : PySem.W.Hook where
  α := AlX
  obs := fun s => obsX n xb fa fn s.heap.get?
  val := fun _ => (true, He.valD fn)
  says := fun _ h => ∃ K : PySem.W.Frag, K.In h ∧ xb K = true ∧ He.SaysD fa fn K
  of := fun _ s e => ⟨He.frG s.heap.get? (He.asD s.heap.get? n), He.frG_in, congrArg (fun z : AlX => z.1) e, congrArg (fun z : AlX => z.2) e⟩
  keeps := fun _ _ _ ⟨K, hK, b, c⟩ k => ⟨K, PySem.W.Frag.In.keeps hK k, b, c⟩
theorem obsX_eq {n : Nat} {xb : PySem.W.Frag → Bool} {fa : List He.Fa} {fn : List He.DefD} {g : Addr → Option Obj} {s : Shared} (h : ∀ a, g a = s.heap.get? a) : obsX n xb fa fn g = (hookX n xb fa fn).obs s := by
  have e : g = s.heap.get? := funext h
  rw [e] <;> rfl
theorem fun_of {K : PySem.W.Frag} {x qual : Str} {st : Stmt} {f : Addr} {fd : FuncData} (F : FunD K x qual (defArgs st) (defBody st) (defScope st) [] [] f fd) : Fun K x qual st f fd := by
  obtain ⟨oc, od, dV, kV, doc, pm, an, cdv, ct, osl, rfl, lk, hcd, hD, hK⟩ := F.ex
  rcases hD with ⟨_, rfl⟩ | ⟨e, _⟩
  · exact ⟨⟨oc, od, kV, doc, pm, an, cdv, ct, osl, rfl, lk, hcd⟩, F.kp⟩
  · exact absurd rfl e
/-- what the top must show of an own exception class -/
def exB (K : PySem.W.Frag) (C : Addr) (f : Str) (bm : List Value) (newId : String) : Bool :=
  PySem.W.excInitIn K C bm newId && (PySem.W.excOver K C bm && (decide (PySem.W.takerIn K C f = some none) && (He.eqO (PySem.W.findIn K (.ref C) "__setattr__") (some (some (.builtin "object.__setattr__"))) &&
  (He.eqO (PySem.W.findIn K (.ref C) "__getattribute__") (some (some (.builtin "BaseException.__getattribute__"))) && (He.eqO (PySem.W.findIn K (.ref C) "__getattr__") (some none) && (He.eqO (PySem.W.findIn K (.ref C) f) (some none) &&
  (He.eqO (PySem.W.findIn K (.ref C) "__init__") (some (some (.ref (He.ma K C "__init__")))) && (decide (PySem.W.typeIn K (.ref (He.ma K C "__init__")) = some (.type "function")) && (PySem.W.keepIn K (.ref C) &&
  (decide (PySem.W.subIn K (.ref C) (.type "BaseException") = some true) && (decide (PySem.W.typeIn K (.ref C) = some (.type "type")) && PySem.W.hasDictIn K C)))))))))))
def icB (K : PySem.W.Frag) (C : Addr) : Bool :=
  He.eqO (PySem.W.findIn K (.ref C) "__getattribute__") (some (some (.builtin "BaseException.__getattribute__"))) && (He.eqO (PySem.W.findIn K (.ref C) "__getattr__") (some none) && (decide (PySem.W.subIn K (.ref C) (.type "BaseException") = some true) &&
  (PySem.W.hasDictIn K C && (He.eqO (PySem.W.findIn K (.ref C) "__class__") (some (some (.builtin "object.__class__"))) && (He.eqO (PySem.W.specialIn K (.builtin "object.__class__") "__get__") (some (some (.builtin "getset_descriptor.__get__"))) &&
  (decide (PySem.W.takesIn K (.builtin "object.__class__") = some true) && decide (PySem.W.mroIn K C (.type "object") = some true)))))))
theorem icB_ok {K : PySem.W.Frag} {C : Addr} (h : icB K C = true) : ExcC K C := by
  obtain ⟨h1, h⟩ := He.ba h
  obtain ⟨h2, h⟩ := He.ba h
  obtain ⟨h3, h⟩ := He.ba h
  obtain ⟨h4, h⟩ := He.ba h
  obtain ⟨h5, h⟩ := He.ba h
  obtain ⟨h6, h⟩ := He.ba h
  obtain ⟨h7, h8⟩ := He.ba h
  exact ⟨He.eqO_ok h1, He.eqO_ok h2, of_decide_eq_true h3, h4, He.eqO_ok h5, He.eqO_ok h6, of_decide_eq_true h7, of_decide_eq_true h8⟩
theorem exB_ok {K : PySem.W.Frag} {C : Addr} {f qn : Str} {B newId initId : String} {bm : List Value} {fd : FuncData} {p1 p2 q1 q2 q3 q4 : Pos} (FB : ExcBaseFacts B newId initId bm) (SF : StoreFacts B bm "object.__setattr__" "object") (h : exB K C f bm newId = true)
    (hf : f = "value" ∨ f = "place" ∨ f = "line" ∨ f = "most") (hqn : qn.length ≤ 200) (F : FunD K "__init__" qn (PySem.DLX.xA f p1 p2) (PySem.DLX.xB f q1 q2 q3 q4) (PySem.DLX.xS f) [] [] (He.ma K C "__init__") fd) :
    PySem.DLX.ExT K C (He.ma K C "__init__") f qn B newId initId bm := by
  obtain ⟨h1, h⟩ := He.ba h
  obtain ⟨h2, h⟩ := He.ba h
  obtain ⟨h3, h⟩ := He.ba h
  obtain ⟨h4, h⟩ := He.ba h
  obtain ⟨h5, h⟩ := He.ba h
  obtain ⟨h6, h⟩ := He.ba h
  obtain ⟨h7, h⟩ := He.ba h
  obtain ⟨h8, h⟩ := He.ba h
  obtain ⟨h9, h⟩ := He.ba h
  obtain ⟨h10, h⟩ := He.ba h
  obtain ⟨h11, h⟩ := He.ba h
  obtain ⟨h12, h13⟩ := He.ba h
  obtain ⟨oc, od, dV, kV, doc, pm, an, cdv, ct, osl, rfl, lk, hcd, hD, hK⟩ := F.ex
  rcases hD with ⟨_, rfl⟩ | ⟨e, _⟩
  · exact ⟨FB, SF, h1, h2, of_decide_eq_true h3, He.eqO_ok h4, He.eqO_ok h5, He.eqO_ok h6, He.eqO_ok h7, He.eqO_ok h8, of_decide_eq_true h9, h10, of_decide_eq_true h11, of_decide_eq_true h12, h13, hf, hqn, ⟨oc, od, kV, doc, pm, an, cdv, ct, osl, p1, p2, q1, q2, q3, q4, lk, hcd⟩⟩
  · exact absurd rfl e
end DLH
namespace Lw
open PySem PySem.Spec L2 DL
def topS (i : Nat) : Stmt := PySem.Challenge.pw_handedvotes_k70_errors.main.body.getD i (.Pass ⟨0, 0, 0, 0⟩)
abbrev s25 : Stmt := topS 14
theorem sc25 : FnScope ["script", "cell"] ["script"] (defScope s25) := ⟨rfl, rfl, rfl, by decide +kernel, rfl, by decide +kernel, by decide +kernel⟩
instance : DecidablePred bitsOk := fun z => by unfold bitsOk; infer_instance
def mBegun : List D → M D
  | [.scr ns] => if ns.length ≤ 63 ∧ ∀ z ∈ ns, bitsOk z then .begun (.ret .rnd) else .stuck
  | _ => .stuck
theorem iteP {b : Bool} {A B : Prop} (h : b = true) (a : A) : if b = true then A else B := by rw [if_pos h]; exact a
theorem iteN {b : Bool} {A B : Prop} (h : b = false) (a : B) : if b = true then A else B := by rw [h]; simpa using a
theorem merge3 (x y z : V) : mergeK [] [(Sum.inr "cells", x), (Sum.inr "left", y), (Sum.inr "at", z)] = ([(Sum.inr "cells", x), (Sum.inr "left", y), (Sum.inr "at", z)] : List (Key × V)) := by
  have n1 : ¬ ((("cells" : Str)) = "left") := by decide +kernel
  have n2 : ¬ ((("cells" : Str)) = "at") := by decide +kernel
  have n3 : ¬ ((("left" : Str)) = "at") := by decide +kernel
  simp [mergeK, putK, n1, n2, n3]
variable {L : Lx} {P : Program} {w : World} {mg : Str → Option Value} {base : Heap}
theorem f25 {f : Addr} {fd : FuncData} (F : Fun L.K "_law_begun" "_law_begun" s25 f fd) (nlist : mg "list" = none) : FG L P w mg base 2 f fd ["script"] mBegun := by
  refine fg_raw F sc25 fun cdv A outer s H E vs Q hr sp hl => ?_
  obtain ⟨Γ, g, σ, ds, rp, l, wp⟩ := sp
  unfold mBegun at wp
  split at wp
  · rename_i ns
    split at wp
    · rename_i hn
      obtain ⟨a, rfl, hq⟩ : ∃ a, vs = [.ref a] ∧ SqL L.K g.F a (ns.map V.int) := by
        cases l with
        | cons h l =>
          cases h with
          | scr e =>
            cases l
            exact ⟨_, rfl, e⟩
      have hu := hu_of hr
      refine ⟨_, pss_one (ps_ret (pe_disp (pps_cons pe_str (pe_callTy call_list_of (by rfl) nlist (by decide +kernel) (pa_cons (pv 0) pa_nil))
        (pps_cons pe_str (pe_lc (own := [("cell", 1)]) rfl sc25.nd (pi_list (pv 0)) (show BlkOk ["script", "cell"] (defScope s25) _ _ from ⟨rfl, by decide +kernel, by decide +kernel, by decide +kernel, by decide +kernel⟩)
          (fun s H C cl fp => pg_name (i := 1) sc25.nd rfl (.inl rfl)) (fun s H C cl fp => pts_one (pt_cmpR op_ge (pv 1) (pe_op op_pow pe_int pe_int) (nomark _))) (fun s H C cl fp => pv 1))
        (pps_cons pe_str pe_int pps_nil))) rfl rfl (by simp) (by decide))), ?_⟩
      have up : ∀ {H1 : Hp} {x : Addr} {o u : HO}, H1 x = none → ∀ y, H1 y = some u → upd H1 x o y = some u := fun n y e => upd_keep n e
      have memo : g.mu = none := by
        cases q : g.mu with
        | none => rfl
        | some m =>
          obtain ⟨c, l, cs, ls, at_, _, _, _, _, _, _, _, _, h0, h1⟩ := rp.rnd.2 m q
          have := wp.1
          omega
      have fin : ∀ (p c D : Addr) (H2 : Hp), (∀ y o, H y = some o → H2 y = some o) → H p = none → H c = none → H D = none → c ≠ D → H2 p = some (.dK [(Sum.inr "cells", .ref c), (Sum.inr "left", .ref D), (Sum.inr "at", .int 0)]) →
          H2 c = some (.lst (ns.map V.int)) → H2 D = some (.lst ((ns.filter fun z => decide (10 ^ 18 ≤ z)).map V.int)) → Q (.ref p) H2 := fun p c D H2 kp np nc nD ncd e1 e2 e3 => by
        have inm : ∀ y o, H y = some o → ¬ InM (some p) H2 y := fun y o e ⟨m, em, h⟩ => by
          cases em
          rcases h with h | ⟨kvs, k, e', h⟩
          · rw [h, np] at e; cases e
          · rw [e1] at e'
            cases e'
            simp only [List.mem_cons, Prod.mk.injEq, V.ref.injEq, List.not_mem_nil, or_false] at h
            rcases h with ⟨_, h⟩ | ⟨_, h⟩ | ⟨_, h⟩
            · rw [h, nc] at e; cases e
            · rw [h, nD] at e; cases e
            · cases h
        have fl : ∀ z ∈ ns.filter (fun z => decide (10 ^ 18 ≤ z)), bitsOk z ∧ 0 ≤ z := fun z hz => by
          have := List.mem_filter.mp hz
          refine ⟨hn.2 z this.1, ?_⟩
          have h := of_decide_eq_true this.2
          omega
        refine wp.2 (.ref p) { F := g.F, mu := some p, bud := lim } H2 ⟨fun _ _ e => e, fun m e => (by rw [memo] at e; cases e), fun y o e => kp y o (rp.sub y o e), fun y o e _ _ => ⟨kp y o e, inm y o e⟩, fun y h => ⟨?_, fun e => e⟩, fun y o e => inm y o (rp.sub y o e), ⟨fun e => (by cases e), fun m e => ?_⟩, ?_, fun q hq => ?_⟩ rfl (.rnd rfl)
        · cases e : H y with
          | none => exact absurd e h
          | some o => rw [kp y o e]; simp
        · cases e
          exact ⟨c, D, ns, _, 0, e1, e2, e3, ncd, hn.1, Nat.le_trans (List.length_filter_le _ _) hn.1, hn.2, fl, by decide, by simp⟩
        · show lim ≤ g.bud
          rw [wp.1]; omega
        · obtain ⟨ps, a1, a2, a3⟩ := rp.tab q hq
          exact ⟨ps, kp _ _ a1, a2, fun pos cv hc => let ⟨c', z1, z2⟩ := a3 pos cv hc; ⟨c', z1, kp _ _ z2⟩⟩
      intro p np
      have q0 := sqL_mono (K := L.K) (fun y o e => up (o := .dK []) np y (rp.sub y o e)) hq
      refine ⟨_, rfl, a, _, rfl, .inl q0, fun c nc => ?_⟩
      have q1 := sqL_mono (K := L.K) (fun y o e => up (o := .lst (ns.map V.int)) nc y e) q0
      refine ⟨_, rfl, a, rfl, ⟨_, q1⟩, fun D nD => ?_⟩
      refine ⟨fun j m Hj => j ≤ ns.length ∧ m = ns.length - j ∧ Hj D = some (.lst (((ns.take j).filter fun z => decide (10 ^ 18 ≤ z)).map V.int)) ∧ ∀ y o, upd (upd H p (.dK [])) c (.lst (ns.map V.int)) y = some o → Hj y = some o, ⟨_, Nat.zero_le _, rfl, upd_same, fun y o e => up nD y e⟩, ?_⟩
      rintro j m Hj ⟨hj, rfl, eD, kp⟩
      have qj := sqL_mono (K := L.K) kp q1
      by_cases hlt : j < ns.length
      · refine .inr ⟨⟨_, _, qj, by rw [List.getElem?_map, List.getElem?_eq_getElem hlt]; rfl⟩, fun Hn => Hn D = some (.lst (((ns.take (j + 1)).filter fun z => decide (10 ^ 18 ≤ z)).map V.int)) ∧ ∀ y o, upd (upd H p (.dK [])) c (.lst (ns.map V.int)) y = some o → Hn y = some o, fun H' h => ⟨_, by omega, hlt, rfl, h⟩, fun x H' h => ?_⟩
        obtain ⟨rfl, hx⟩ := h
        have ex := hx _ qj
        rw [List.getElem?_map, List.getElem?_eq_getElem hlt] at ex
        cases ex
        have et : ns.take (j + 1) = ns.take j ++ [ns[j]] := List.take_succ_eq_append_getElem hlt
        refine ⟨rfl, _, rfl, _, _, rfl, rfl, ⟨by decide, by decide, by decide⟩, _, _, rfl, rfl, _, rfl, ?_⟩
        by_cases hz : (10 : Int) ^ 18 ≤ ns[j]
        · have et2 : (ns.take (j + 1)).filter (fun z => decide (10 ^ 18 ≤ z)) = (ns.take j).filter (fun z => decide (10 ^ 18 ≤ z)) ++ [ns[j]] := by
            rw [et, List.filter_append, List.filter_cons_of_pos (by exact decide_eq_true hz), List.filter_nil]
          refine iteP (decide_eq_true hz) ⟨_, rfl, _, eD, ?_, ?_, fun y o e => ?_⟩
          · rw [List.length_map]
            exact Nat.lt_of_le_of_lt (List.length_filter_le _ _) (Nat.lt_of_le_of_lt (List.length_take_le _ _) (Nat.lt_of_le_of_lt (Nat.le_trans hj hn.1) (by decide)))
          · rw [et2, List.map_append, upd_same]; rfl
          · have : y ≠ D := fun z => by rw [z, nD] at e; cases e
            rw [upd_ne this]; exact kp y o e
        · have et2 : (ns.take (j + 1)).filter (fun z => decide (10 ^ 18 ≤ z)) = (ns.take j).filter (fun z => decide (10 ^ 18 ≤ z)) := by
            rw [et, List.filter_append, List.filter_cons_of_neg (by rw [decide_eq_false hz]; decide), List.filter_nil, List.append_nil]
          refine iteN (decide_eq_false hz) ⟨?_, kp⟩
          rw [et2]; exact eD
      · have e : j = ns.length := by omega
        subst e
        rw [List.take_length] at eD
        refine .inl ⟨⟨_, qj, by simp⟩, ?_⟩
        have npc : c ≠ p := fun z => by rw [z, upd_same] at nc; cases nc
        have nDc : c ≠ D := fun z => by rw [z, upd_same] at nD; cases nD
        have nDp : D ≠ p := fun z => by rw [z, upd_ne npc.symm, upd_same] at nD; cases nD
        have ncH : H c = none := by rw [upd_ne npc] at nc; exact nc
        have nDH : H D = none := by rw [upd_ne nDc.symm, upd_ne nDp] at nD; exact nD
        have ep := kp p (.dK []) (by rw [upd_ne npc.symm, upd_same])
        refine ⟨ep, [(Sum.inr "cells", .ref c), (Sum.inr "left", .ref D), (Sum.inr "at", .int 0)], rfl, by show 3 ≤ 15; decide, ?_⟩
        rw [merge3]
        refine fin p c D _ (fun y o e => ?_) np ncH nDH nDc upd_same ?_ ?_
        · have n1 : y ≠ p := fun z => by rw [z, np] at e; cases e
          have n2 : y ≠ c := fun z => by rw [z, ncH] at e; cases e
          rw [upd_ne n1]
          exact kp y o (by rw [upd_ne n2, upd_ne n1]; exact e)
        · rw [upd_ne npc]; exact kp c _ upd_same
        · rw [upd_ne nDp]; exact eD
    · exact wp.elim
  · exact wp.elim

abbrev s26 : Stmt := topS 15
theorem sc26 : FnScope ["m", "many", "rest", "at", "bits", "cell", "blend"] ["m", "many"] (defScope s26) := ⟨rfl, rfl, rfl, by decide +kernel, rfl, by decide +kernel, by decide +kernel⟩
def mNext : List D → M D
  | [.rnd, .int n] => if 0 < n ∧ n < 2 ^ 60 then .choose n.toNat fun i => .ret (.int (i : Nat)) else .stuck
  | _ => .stuck
theorem iteT' {α : Type} [DecidableEq α] {x y : α} {A B : Prop} (h : ¬ x = y) (a : A) : if (!decide (x = y)) = true then A else B := by
  rw [decide_eq_false h]
  exact iteT a
theorem iteF' {α : Type} [DecidableEq α] {x y : α} {A B : Prop} (h : x = y) (a : B) : if (!decide (x = y)) = true then A else B := by
  rw [decide_eq_true h]
  exact iteF a
theorem iteFz {z : Int} {A B : Prop} (h : ¬ z = 0) (a : B) : if decide (V.int z = V.int 0) = true then A else B := by
  rw [decide_eq_false (fun e => h (V.int.inj e))]
  exact iteF a
theorem f26 {f : Addr} {fd : FuncData} (F : Fun L.K "_law_next" "_law_next" s26 f fd) (nlen : mg "len" = none) (nint : mg "int" = none) : FG L P w mg base 2 f fd ["m", "many"] mNext := by
  refine fg_raw F sc26 fun cdv A outer s H E vs Q hr sp hl => ?_
  obtain ⟨Γ, g, σ, ds, rp, l, wp⟩ := sp
  unfold mNext at wp
  split at wp
  · rename_i n
    split at wp
    · rename_i hn
      obtain ⟨am, rfl, hm⟩ : ∃ am, vs = [.ref am, .int n] ∧ g.mu = some am := by
        cases l with
        | cons a l =>
          cases a with
          | rnd e =>
            cases l with
            | cons b l =>
              cases b
              cases l
              exact ⟨_, rfl, e⟩
      obtain ⟨c, ll, cs, ls, at0, e1, e2, e3, ncl, hcs, hls, bcs, bls, hat, hbud⟩ := rp.rnd.2 am hm
      have hu := hu_of hr
      obtain ⟨b, eb⟩ : ∃ b, g.bud = b + 1 := by
        cases q : g.bud with
        | zero => rw [q] at wp; exact wp.elim
        | succ b => exact ⟨b, rfl⟩
      rw [eb] at wp
      have hu64 : (A.deeper (PyProof.Rows.envOfC "_law_next" (defScope s26) s.heap.objs.size f cdv)).units + 64 < cLine := hr.units
      refine ⟨_, pss_cons (ps_while (passes_of rfl) (PW.pt (pw_and (pt_cmpR (op_neD hu64) (pe_dget hu (pv 0) pe_str (fun _ _ => rfl)) (pe_lst pa_nil) (nomark _)) (pw_and1 (pt_cmpR op_eq (pe_ix ix_list (pe_dget hu (pv 0) pe_str (fun _ _ => rfl)) pe_int (fun _ _ => rfl)) pe_int (nomark _)))))
          (pss_one (ps_dput hu (pv 0) pe_str (pe_slice sl_list (pe_dget hu (pv 0) pe_str (fun _ _ => rfl)) (po_some pe_int) po_none) rfl)))
        (pss_cons (ps_if (pt_cmpR (op_neD hu64) (pe_dget hu (pv 0) pe_str (fun _ _ => rfl)) (pe_lst pa_nil) (nomark _))
            (pss_cons (ps_set (i := 2) sc26.nd rfl (.inl rfl) (pe_ix ix_list (pe_dget hu (pv 0) pe_str (fun _ _ => rfl)) pe_int (fun _ _ => rfl)))
            (pss_cons (ps_asg (pe_op op_fdivW (pv 2) (pv 1)) (pg_sub (pe_dget hu (pv 0) pe_str (fun _ _ => rfl)) pe_int set_list))
            (pss_one (ps_ret (pe_op op_mod (pe_callTy call_int1 (by rfl) nint (by decide +kernel) (pa_cons (pv 2) pa_nil)) (pv 1)))))) pss_nil)
        (pss_cons (ps_par (i := 3) (j := 4) rfl sc26.nd rfl rfl (by decide) rfl rfl (pa_cons (pe_op op_add (pe_dget hu (pv 0) pe_str (fun _ _ => rfl)) pe_int) (pa_cons (pe_dget hu (pv 0) pe_str (fun _ _ => rfl)) pa_nil)) (by rfl))
        (pss_cons (ps_dput hu (pv 0) pe_str (pv 3) rfl)
        (pss_cons (ps_set (i := 5) sc26.nd rfl (.inl rfl) (pe_ifExp (pt_cmpR (op_neD hu64) (pv 4) (pe_lst pa_nil) (nomark _))
            (pe_callTy call_int1 (by rfl) nint (by decide +kernel) (pa_cons (pe_ix ix_list (pv 4) (pe_op op_mod (pe_callTy call_int1 (by rfl) nint (by decide +kernel) (pa_cons (pe_op op_add (pe_op op_mulW (pv 3) (pv 3)) (pe_op op_fdivW (pv 3) pe_int)) pa_nil)) (pe_callB call_len (by rfl) nlen (by decide +kernel) (pa_cons (pv 4) pa_nil))) (fun _ _ => rfl)) pa_nil)) pe_int))
        (pss_cons (ps_set (i := 6) sc26.nd rfl (.inl rfl) (pe_op op_mod (pe_callTy call_int1 (by rfl) nint (by decide +kernel) (pa_cons (pe_op op_add (pe_op op_add (pe_op op_mul (pv 5) pe_int) (pe_op op_mulW (pv 3) pe_int)) (pe_op op_mulW (pe_op op_mulW pe_int (pv 3)) (pv 3))) pa_nil)) pe_int))
        (pss_one (ps_ret (pe_op op_mod (pe_callTy call_int1 (by rfl) nint (by decide +kernel) (pa_cons (pe_op op_fdivW (pe_op op_mod (pe_callTy call_int1 (by rfl) nint (by decide +kernel) (pa_cons (pe_op op_add (pe_op op_mulW (pv 6) pe_int) (pe_op op_mulW pe_int (pv 3))) pa_nil)) pe_int) pe_int) pa_nil)) (pv 1)))))))))
        , ?_⟩
      have m0 : MS am c ll cs H ll ls at0 H := ⟨e1, e2, e3, ncl, ⟨_, e3⟩, .inl rfl, fun a o e _ _ => e⟩
      have fin : ∀ (l' : Addr) (ls' : List Int) (at_ r : Int) (H1 : Hp), MS am c ll cs H l' ls' at_ H1 → ls'.length ≤ 63 → (∀ z ∈ ls', bitsOk z ∧ 0 ≤ z) → (0 ≤ at_ ∧ at_.toNat + b ≤ lim) → 0 ≤ r → r < n → Q (.int r) H1 := fun l' ls' at_ r H1 s h1 h2 h3 h4 h5 => by
        have ok : MOk b H1 am := ⟨c, l', cs, ls', at_, s.atM, s.atC, s.atL, s.ncl, hcs, h1, bcs, h2, h3.1, h3.2⟩
        have q := wp r.toNat (by omega) (.int r) { g with bud := b } H1 (s.stp rp hm e1 e2 e3 ok (by omega)) rfl
        rw [show ((r.toNat : Nat) : Int) = r by omega] at q
        exact q (.int r)
      refine ⟨fun k σ1 H1 => σ1 = L2.start ["m", "many", "rest", "at", "bits", "cell", "blend"] [V.ref am, V.int n] ∧ ∃ l' ls', k = ls'.length ∧ MS am c ll cs H l' ls' at0 H1 ∧ ls'.length ≤ 63 ∧ ∀ z ∈ ls', bitsOk z ∧ 0 ≤ z, ⟨ls.length, rfl, ll, ls, rfl, m0, hls, bls⟩, ?_⟩
      rintro k σ1 H1 ⟨rfl, l1, ls1, rfl, s1, z1, b1⟩
      refine rd_l s1 rfl ⟨by decide, fun p1 n1 => ne_nil s1.atL n1 ⟨_, rfl, ?_⟩⟩
      have s2 : MS am c ll cs H l1 ls1 at0 (upd H1 p1 (.lst [])) := s1.lay n1
      have n64 : n.natAbs.log2 < 9000 := Nat.lt_trans (Nat.log2_lt (by omega) |>.mpr (show n.natAbs < 2 ^ 60 by omega)) (by decide)
      cases ls1 with
      | nil =>
        refine iteF (rd_l s2 rfl ⟨by decide, fun p2 n2 => ne_nil s2.atL n2 ⟨_, rfl, iteF ?_⟩⟩)
        have s3 := s2.lay (o := .lst []) n2
        refine rd_a s3 rfl ⟨_, _, rfl, rfl, rd_c s3 rfl ⟨_, _, rfl, ?_⟩⟩
        refine ⟨_, rfl, _, rfl, am, _, rfl, DPut.k (k := Sum.inr "at") s3.atM (by show 3 < sizeLine; decide), ?_⟩
        have s4 := s3.setAt (at0 + 1)
        have ha : 0 ≤ at0 + 1 := by omega
        have hb : (at0 + 1).toNat + b ≤ lim := by omega
        have hbits := lim_abs ha (show (at0 + 1).toNat ≤ lim + 1 by omega)
        have big : ∀ (cell : Int) (H2 : Hp), bitsOk cell → MS am c ll cs H l1 [] (at0 + 1) H2 → CMul cell 40692 ∧ CMulW (at0 + 1) 65539 ∧ CMulW 7001 (at0 + 1) ∧ CMulW (7001 * (at0 + 1)) (at0 + 1) ∧ CMulW ((cell * 40692 + (at0 + 1) * 65539 + 7001 * (at0 + 1) * (at0 + 1)) % 2147483399) 48271 ∧ CMulW 1013 (at0 + 1) := fun cell H2 _ _ => by
          have e1 : (7001 : Int).natAbs < 2 ^ 13 := by decide
          have m1 := wide_lt e1 hbits
          have r0 := Int.emod_nonneg (cell * 40692 + (at0 + 1) * 65539 + 7001 * (at0 + 1) * (at0 + 1)) (show (2147483399 : Int) ≠ 0 by decide)
          have r1 := Int.emod_lt_of_pos (cell * 40692 + (at0 + 1) * 65539 + 7001 * (at0 + 1) * (at0 + 1)) (show (0 : Int) < 2147483399 by decide)
          have r2 : ((cell * 40692 + (at0 + 1) * 65539 + 7001 * (at0 + 1) * (at0 + 1)) % 2147483399).natAbs < 2 ^ 32 := by
            have : (2 : Nat) ^ 32 = 4294967296 := by decide
            omega
          exact ⟨.inr ⟨by decide, by decide⟩, wide_mul hbits (show (65539 : Int).natAbs < 2 ^ 17 by decide) (by decide) (by decide) (by decide), wide_mul e1 hbits (by decide) (by decide) (by decide), wide_mul m1 hbits (by decide) (by decide) (by decide),
            wide_mul r2 (show (48271 : Int).natAbs < 2 ^ 16 by decide) (by decide) (by decide) (by decide), wide_mul (show (1013 : Int).natAbs < 2 ^ 10 by decide) hbits (by decide) (by decide) (by decide)⟩
        refine ⟨_, rfl, by decide, fun p3 n3 => ne_nil s4.atC n3 ⟨_, rfl, ?_⟩⟩
        have s5 := s4.lay (o := .lst []) n3
        have wsq : CMulW (at0 + 1) (at0 + 1) := wide_mul hbits hbits (by decide) (by decide) (by decide)
        by_cases hcs0 : cs = []
        · refine iteF' hcs0 ?_
          obtain ⟨q1, q2, q3, q4, q5, q6⟩ := big 5 _ (Nat.lt_of_lt_of_le (show (5 : Int).natAbs < 2 ^ 3 by decide) (Nat.pow_le_pow_right (by decide) (by decide))) s5
          refine ⟨_, rfl, _, _, rfl, rfl, q1, _, rfl, _, _, rfl, rfl, q2, _, _, rfl, rfl, _, rfl, _, _, rfl, rfl, q3, _, rfl, _, _, rfl, rfl, q4, _, _, rfl, rfl, .inl ⟨_, rfl, _, _, rfl, rfl, (by show (0 : Int) < 2147483399; decide), ?_⟩⟩
          refine ⟨_, rfl, _, _, rfl, rfl, q5, _, rfl, _, _, rfl, rfl, q6, _, _, rfl, rfl, .inl ⟨_, rfl, _, _, rfl, rfl, (by show (0 : Int) < 2147483647; decide), _, _, rfl, rfl, ⟨by decide, by decide⟩, .inl ⟨_, rfl, _, rfl, _, _, rfl, rfl, hn.1, ?_⟩⟩⟩
          exact fin l1 [] (at0 + 1) _ _ s5 (by decide) (by intro z hz; cases hz) ⟨ha, hb⟩ (Int.emod_nonneg _ (by omega)) (Int.emod_lt_of_pos _ hn.1)
        · refine iteT' hcs0 ?_
          have lpos : 0 < (cs.length : Int) := by
            have : cs.length ≠ 0 := fun z => hcs0 (List.eq_nil_of_length_eq_zero z)
            omega
          have i0 := Int.emod_nonneg ((at0 + 1) * (at0 + 1) + (at0 + 1) / 2) (show (cs.length : Int) ≠ 0 by omega)
          have i1 := Int.emod_lt_of_pos ((at0 + 1) * (at0 + 1) + (at0 + 1) / 2) lpos
          obtain ⟨z, hz, ez⟩ := at_ints (zs := cs) i0 i1
          obtain ⟨q1, q2, q3, q4, q5, q6⟩ := big z _ (bcs z hz) s5
          refine ⟨_, rfl, _, rfl, _, rfl, _, _, rfl, rfl, wsq, _, rfl, _, _, rfl, rfl, ⟨by decide, by decide⟩, _, _, rfl, rfl, .inl ⟨_, rfl, _, rfl, _, cs.length, rfl, .inl ⟨_, SqL.of s5.atC, by simp⟩, _, _, rfl, rfl, lpos, c, _, _, .int z, rfl, rfl, SqL.of s5.atC, ez, .inl ⟨_, rfl, ?_⟩⟩⟩
          refine ⟨_, rfl, _, _, rfl, rfl, q1, _, rfl, _, _, rfl, rfl, q2, _, _, rfl, rfl, _, rfl, _, _, rfl, rfl, q3, _, rfl, _, _, rfl, rfl, q4, _, _, rfl, rfl, .inl ⟨_, rfl, _, _, rfl, rfl, (by show (0 : Int) < 2147483399; decide), ?_⟩⟩
          refine ⟨_, rfl, _, _, rfl, rfl, q5, _, rfl, _, _, rfl, rfl, q6, _, _, rfl, rfl, .inl ⟨_, rfl, _, _, rfl, rfl, (by show (0 : Int) < 2147483647; decide), _, _, rfl, rfl, ⟨by decide, by decide⟩, .inl ⟨_, rfl, _, rfl, _, _, rfl, rfl, hn.1, ?_⟩⟩⟩
          exact fin l1 [] (at0 + 1) _ _ s5 (by decide) (by intro z hz; cases hz) ⟨ha, hb⟩ (Int.emod_nonneg _ (by omega)) (Int.emod_lt_of_pos _ hn.1)
      | cons z ls1 =>
        have bz := b1 z List.mem_cons_self
        refine iteT (rd_l s2 rfl ⟨l1, _, 0, .int z, rfl, rfl, SqL.of s2.atL, atI_nat (j := 0) rfl, by rfl, _, rfl, ?_⟩)
        by_cases hz : z = 0
        · subst hz
          refine iteT ⟨_, fun σ' H' h => h, ?_⟩
          refine rd_l s2 rfl ⟨1, rfl, l1, _, rfl, SqL.of s2.atL, fun p n2 => ⟨_, rfl, am, _, rfl, DPut.k (k := Sum.inr "left") (upd_keep n2 s2.atM) (by show 3 < sizeLine; decide), ls1.length, Nat.lt_succ_self _, rfl, p, ls1, rfl, ?_, Nat.le_of_succ_le z1, fun z hz => b1 z (List.mem_cons_of_mem _ hz)⟩⟩
          have s3 := s2.lay (o := .lst (cutV ((0 :: ls1).map V.int) (some 1) none)) n2
          have ec : cutV ((0 :: ls1).map V.int) (some 1) none = ls1.map V.int := by
            simp [cutV, HT.sIx, List.take_of_length_le]
          refine s3.setLeft (p := p) (zs := ls1) (by rw [upd_same, ec]) ?_ fun e => ?_
          · cases q : H p with
            | none => rfl
            | some o =>
              have h1 : p ≠ am := fun e => by rw [e, s2.atM] at n2; cases n2
              have h2 : p ≠ ll := fun e => by obtain ⟨zs, e'⟩ := s2.old; rw [e, e'] at n2; cases n2
              rw [s2.keep p o q h1 h2] at n2; cases n2
          · rw [← e, s2.atC] at n2; cases n2
        · refine iteFz hz (rd_l s2 rfl ⟨by decide, fun p2 n2 => ne_nil s2.atL n2 ⟨_, rfl, iteT ?_⟩⟩)
          have s3 := s2.lay (o := .lst []) n2
          refine rd_l s3 rfl ⟨l1, _, 0, .int z, rfl, rfl, SqL.of s3.atL, atI_nat (j := 0) rfl, ?_⟩
          refine ⟨_, rfl, _, rfl, _, _, rfl, rfl, ⟨hn.1, n64⟩, rd_l s3 rfl ⟨l1, _, 0, 0, rfl, rfl, s3.atL, (by unfold ixN; rw [if_pos (by decide), if_pos (by simp only [List.length_map, List.length_cons]; omega)]; rfl), ?_⟩⟩
          have s4 := s3.setItem (zs := (z / n) :: ls1)
          refine ⟨_, rfl, .inl ⟨_, rfl, _, rfl, _, _, rfl, rfl, hn.1, ?_⟩⟩
          have dz : 0 ≤ z / n := Int.ediv_nonneg bz.2 (by omega)
          have dl : z / n ≤ z := Int.ediv_le_self _ bz.2
          exact fin l1 ((z / n) :: ls1) at0 _ _ s4 z1 (fun y hy => by
            rcases List.mem_cons.mp hy with e | hy
            · subst e; exact ⟨wide_le dz dl bz.1, dz⟩
            · exact b1 y (List.mem_cons_of_mem _ hy)) ⟨hat, by omega⟩ (Int.emod_nonneg _ (by omega)) (Int.emod_lt_of_pos _ hn.1)
    · exact wp.elim
  · exact wp.elim

end Lw
namespace Lw
open PySem PySem.Spec L2 DL
variable {L : Lx} {P : Program} {w : World} {mg : Str → Option Value} {base : Heap}

/-! ### words -/
variable {X : Cx}
theorem dvar (n : Nat) {x : Str} {pos : Pos} (hN : X.N[n]? = some x := by rfl) (hv : Vis X.env.scope x := by first | exact Or.inl rfl | exact Or.inr (Or.inl rfl) | exact Or.inr (Or.inr rfl)) (hd : (x == ("__debug__" : Str)) = false := by decide)
    (hcd : (x == ("__classdict__" : Str)) = false := by decide) : DE L X (iVar n) (.Name x pos) := fun W tk => by
  refine PE.imp (pe_var hN hv hd hcd) fun σ H Q r => ?_
  obtain ⟨Γ, g, rp, w⟩ := r
  unfold iVar at w
  split at w
  · rename_i d e
    obtain ⟨x, e1, v, e2, h⟩ := rp.loc _ _ e
    subst e2
    exact ⟨v, e1, w v g H (Stp.refl rp) rfl h⟩
  · exact w.elim
theorem dint {i j pos} : DE L X (iLit (.int i)) (.Constant (.int i) j pos) := de_c pe_int fun _ => .int i
theorem dstr {i : Str} {j pos} : DE L X (iLit (.str i)) (.Constant (.str i) j pos) := de_c pe_str fun _ => .str _
theorem dnon {j pos} : DE L X (iLit .non) (.Constant .none j pos) := de_c pe_non fun _ => .non
theorem dtru {b j pos} : DE L X (iLit (.bl b)) (.Constant (.bool b) j pos) := de_c pe_bl fun _ => .bl b
def fIx := orD fIxT (orD fIxL fIxS)
theorem ixd (hK : X.K = L.K) : IxD L X fIx := (ixd_tup hK).or (ixd_list.or ixd_str)

def tabE : List (Nat × TyK × Bool) := (List.range 11).flatMap fun n => ((List.range 11).map fun k => (n, (Sum.inr k : TyK), decide (n = k))) ++ [(n, .inr 11, decide (n < 10)), (n, .inl "ValueError", decide (n < 10)), (n, .inl "LookupError", false), (n, .inl "OverflowError", decide (n = 10))]
def fIs := fIsi (isTab [] tabE)
/-- what the text's top has written -/
structure Md (L : Lx) (mg : Str → Option Value) (f : Nat → Addr) (fd : Nat → FuncData) (fI : Nat → Addr) : Prop where
  F0 : Fun L.K "_law_begun" "_law_begun" (topS 14) (f 0) (fd 0)
  F1 : Fun L.K "_law_next" "_law_next" (topS 15) (f 1) (fd 1)
  F2 : Fun L.K "_law_value" "_law_value" (topS 16) (f 2) (fd 2)
  F3 : Fun L.K "_law_kinds" "_law_kinds" (topS 17) (f 3) (fd 3)
  F4 : Fun L.K "_law_field" "_law_field" (topS 18) (f 4) (fd 4)
  F5 : Fun L.K "law" "law" (topS 19) (f 5) (fd 5)
  g0 : mg "_law_begun" = some (.ref (f 0))
  g1 : mg "_law_next" = some (.ref (f 1))
  g2 : mg "_law_value" = some (.ref (f 2))
  g3 : mg "_law_kinds" = some (.ref (f 3))
  g4 : mg "_law_field" = some (.ref (f 4))
  k0 : PySem.W.keepIn L.K (.ref (f 0)) = true
  k1 : PySem.W.keepIn L.K (.ref (f 1)) = true
  k2 : PySem.W.keepIn L.K (.ref (f 2)) = true
  k3 : PySem.W.keepIn L.K (.ref (f 3)) = true
  k4 : PySem.W.keepIn L.K (.ref (f 4)) = true
  b0 : Binds L.K (fd 0) ["script"] []
  b1 : Binds L.K (fd 1) ["m", "many"] []
  b2 : Binds L.K (fd 2) ["m"] []
  b3 : Binds L.K (fd 3) ["one"] []
  b4 : Binds L.K (fd 4) ["one"] []
  nlist : mg "list" = none
  nlen : mg "len" = none
  nint : mg "int" = none
  nmin : mg "min" = none
  nrange : mg "range" = none
  nenum : mg "enumerate" = none
  nrepr : mg "repr" = none
  nisi : mg "isinstance" = none
  nVE : mg "ValueError" = none
  nLE : mg "LookupError" = none
  nOE : mg "OverflowError" = none
  tab : TabOk L [] tabE
  c0 : mg "BadNames" = some (.ref (L.cA 0))
  h0 : L.cF 0 = [("value" : Str)]
  x0 : PySem.DLX.ExT L.K (L.cA 0) (fI 0) "value" "BadNames.__init__" "ValueError" "ValueError.__new__" "ValueError.__init__" [.type "ValueError", .type "Exception", .type "BaseException", .type "object"]
  c1 : mg "BadPaper" = some (.ref (L.cA 1))
  h1 : L.cF 1 = [("value" : Str)]
  x1 : PySem.DLX.ExT L.K (L.cA 1) (fI 1) "value" "BadPaper.__init__" "ValueError" "ValueError.__new__" "ValueError.__init__" [.type "ValueError", .type "Exception", .type "BaseException", .type "object"]
  c2 : mg "BadRoll" = some (.ref (L.cA 2))
  h2 : L.cF 2 = [("place" : Str)]
  x2 : PySem.DLX.ExT L.K (L.cA 2) (fI 2) "place" "BadRoll.__init__" "ValueError" "ValueError.__new__" "ValueError.__init__" [.type "ValueError", .type "Exception", .type "BaseException", .type "object"]
  c3 : mg "BadRule" = some (.ref (L.cA 3))
  h3 : L.cF 3 = [("place" : Str)]
  x3 : PySem.DLX.ExT L.K (L.cA 3) (fI 3) "place" "BadRule.__init__" "ValueError" "ValueError.__new__" "ValueError.__init__" [.type "ValueError", .type "Exception", .type "BaseException", .type "object"]
  c4 : mg "BadCourse" = some (.ref (L.cA 4))
  h4 : L.cF 4 = [("value" : Str)]
  x4 : PySem.DLX.ExT L.K (L.cA 4) (fI 4) "value" "BadCourse.__init__" "ValueError" "ValueError.__new__" "ValueError.__init__" [.type "ValueError", .type "Exception", .type "BaseException", .type "object"]
  c5 : mg "BadKinds" = some (.ref (L.cA 5))
  h5 : L.cF 5 = [("value" : Str)]
  x5 : PySem.DLX.ExT L.K (L.cA 5) (fI 5) "value" "BadKinds.__init__" "ValueError" "ValueError.__new__" "ValueError.__init__" [.type "ValueError", .type "Exception", .type "BaseException", .type "object"]
  c6 : mg "BadQuestion" = some (.ref (L.cA 6))
  h6 : L.cF 6 = [("value" : Str)]
  x6 : PySem.DLX.ExT L.K (L.cA 6) (fI 6) "value" "BadQuestion.__init__" "ValueError" "ValueError.__new__" "ValueError.__init__" [.type "ValueError", .type "Exception", .type "BaseException", .type "object"]
  c7 : mg "BadAnswer" = some (.ref (L.cA 7))
  h7 : L.cF 7 = [("place" : Str)]
  x7 : PySem.DLX.ExT L.K (L.cA 7) (fI 7) "place" "BadAnswer.__init__" "ValueError" "ValueError.__new__" "ValueError.__init__" [.type "ValueError", .type "Exception", .type "BaseException", .type "object"]
  c8 : mg "BadNumber" = some (.ref (L.cA 8))
  h8 : L.cF 8 = [("value" : Str)]
  x8 : PySem.DLX.ExT L.K (L.cA 8) (fI 8) "value" "BadNumber.__init__" "ValueError" "ValueError.__new__" "ValueError.__init__" [.type "ValueError", .type "Exception", .type "BaseException", .type "object"]
  c9 : mg "BadText" = some (.ref (L.cA 9))
  h9 : L.cF 9 = [("line" : Str)]
  x9 : PySem.DLX.ExT L.K (L.cA 9) (fI 9) "line" "BadText.__init__" "ValueError" "ValueError.__new__" "ValueError.__init__" [.type "ValueError", .type "Exception", .type "BaseException", .type "object"]
  c10 : mg "TooMany" = some (.ref (L.cA 10))
  h10 : L.cF 10 = [("most" : Str)]
  x10 : PySem.DLX.ExT L.K (L.cA 10) (fI 10) "most" "TooMany.__init__" "OverflowError" "OverflowError.__new__" "OverflowError.__init__" [.type "OverflowError", .type "ArithmeticError", .type "Exception", .type "BaseException", .type "object"]
  c11 : mg "VoteError" = some (.ref (L.cA 11))
variable {f : Nat → Addr} {fd : Nat → FuncData} {fI : Nat → Addr}
theorem xfC_of {K : PySem.W.Frag} {C fI : Addr} {f qn : Str} {B n1 n2 : String} {bm : List Value} (T : PySem.DLX.ExT K C fI f qn B n1 n2 bm) : XfC K C := ⟨T.ga, T.gg, T.exC, T.hdC⟩
theorem dep1 {k : Nat} {A : Around} (hr : Room k A) : A.depth + 1 < recursionLimit := by have := hr.dp; omega

abbrev s2 : Stmt := topS 16
theorem sc2 : FnScope ["m"] ["m"] (defScope s2) := ⟨rfl, rfl, rfl, by decide +kernel, rfl, by decide +kernel, by decide +kernel⟩
def b2 : IS := sRet (iOp fIx (iLst [iLit .non, iLit (.int 0), iLit (.int 5), iNeg (iLit (.int 1)), iLit (.str (PySem.Str.ofString "a")), iLit (.str (PySem.Str.ofString "")), iTup [], iTup [iLit (.int 1), iLit (.int 2)], iLst [], iLit (.dct []), iLit (.bl true), iOp fPowI (iLit (.int 10)) (iLit (.int 30))])
  (iCall mNext [iVar 0, iLit (.int 12)]))
theorem d2 (M : Md L mg f fd fI) {f' : Addr} {cdv : Value} {A : Around} {outer : List PySem.Env} {s : Shared} {H : Hp} {E : XK} (hr : Room 2 (A.deeper (PyProof.Rows.envOfC "_law_value" (defScope s2) s.heap.objs.size f' cdv))) (hg : A.guards = some []) :
    DSs L (cxOf (L2.CX P w) P w L.K mg base ["m"] "_law_value" (defScope s2) f' cdv A outer s H E) b2 (defBody s2) :=
  dss_one (ds_ret (de_ix (ixd rfl) (df_lst (da_cons dnon (da_cons dint (da_cons dint (da_cons (de_neg dint) (da_cons dstr (da_cons dstr (da_cons (de_tup da_nil) (da_cons (de_tup (da_cons dint (da_cons dint da_nil))) (da_cons (df_lst da_nil).de (da_cons de_dnew (da_cons dtru (da_cons (de_bin od_powI dint.dv dint.dv) da_nil))))))))))))).de.dv
    (de_call (f26 M.F1 M.nlen M.nint) rfl hr hg (by rfl) M.g1 M.k1 M.b1 rfl (da_cons (dvar 0) (da_cons dint da_nil))).dv))


abbrev s3 : Stmt := topS 17
theorem sc3 : FnScope ["one", "found"] ["one"] (defScope s3) := ⟨rfl, rfl, rfl, by decide +kernel, rfl, by decide +kernel, by decide +kernel⟩
def b3 : IS := sSeq (sSet 1 (iLst [iBi fIs [iVar 0, iLit (.clo 0)], iBi fIs [iVar 0, iLit (.clo 1)], iBi fIs [iVar 0, iLit (.clo 2)], iBi fIs [iVar 0, iLit (.clo 3)]])) (sSeq (sSet 1 (iOp fAddL (iVar 1) (iLst [iBi fIs [iVar 0, iLit (.clo 4)], iBi fIs [iVar 0, iLit (.clo 5)], iBi fIs [iVar 0, iLit (.clo 6)]])))
  (sSeq (sSet 1 (iOp fAddL (iVar 1) (iLst [iBi fIs [iVar 0, iLit (.clo 7)], iBi fIs [iVar 0, iLit (.clo 8)], iBi fIs [iVar 0, iLit (.clo 9)]]))) (sRet (iOp fAddL (iVar 1) (iLst [iBi fIs [iVar 0, iLit (.clo 10)]])))))
theorem d3 (M : Md L mg f fd fI) {f' : Addr} {cdv : Value} {A : Around} {outer : List PySem.Env} {s : Shared} {H : Hp} {E : XK} (hr : Room 2 (A.deeper (PyProof.Rows.envOfC "_law_kinds" (defScope s3) s.heap.objs.size f' cdv))) (hg : A.guards = some []) :
    DSs L (cxOf (L2.CX P w) P w L.K mg base ["one", "found"] "_law_kinds" (defScope s3) f' cdv A outer s H E) b3 (defBody s3) :=
  dss_cons (ds_set sc3.nd rfl (Or.inl rfl) (df_lst (da_cons (de_bi (ca_isi M.tab rfl) (by rfl) M.nisi (by decide +kernel) (dav_cons (dvar 0).dv (dav_cons (de_own (n := 0) (by rfl) M.c0).dv dav_nil))) (da_cons (de_bi (ca_isi M.tab rfl) (by rfl) M.nisi (by decide +kernel) (dav_cons (dvar 0).dv (dav_cons (de_own (n := 1) (by rfl) M.c1).dv dav_nil))) (da_cons (de_bi (ca_isi M.tab rfl) (by rfl) M.nisi (by decide +kernel) (dav_cons (dvar 0).dv (dav_cons (de_own (n := 2) (by rfl) M.c2).dv dav_nil))) (da_cons (de_bi (ca_isi M.tab rfl) (by rfl) M.nisi (by decide +kernel) (dav_cons (dvar 0).dv (dav_cons (de_own (n := 3) (by rfl) M.c3).dv dav_nil))) da_nil))))).de)
  (dss_cons (ds_set sc3.nd rfl (Or.inl rfl) (de_bin od_addL (dvar 1).dv (df_lst (da_cons (de_bi (ca_isi M.tab rfl) (by rfl) M.nisi (by decide +kernel) (dav_cons (dvar 0).dv (dav_cons (de_own (n := 4) (by rfl) M.c4).dv dav_nil))) (da_cons (de_bi (ca_isi M.tab rfl) (by rfl) M.nisi (by decide +kernel) (dav_cons (dvar 0).dv (dav_cons (de_own (n := 5) (by rfl) M.c5).dv dav_nil))) (da_cons (de_bi (ca_isi M.tab rfl) (by rfl) M.nisi (by decide +kernel) (dav_cons (dvar 0).dv (dav_cons (de_own (n := 6) (by rfl) M.c6).dv dav_nil))) da_nil)))).de.dv))
  (dss_cons (ds_set sc3.nd rfl (Or.inl rfl) (de_bin od_addL (dvar 1).dv (df_lst (da_cons (de_bi (ca_isi M.tab rfl) (by rfl) M.nisi (by decide +kernel) (dav_cons (dvar 0).dv (dav_cons (de_own (n := 7) (by rfl) M.c7).dv dav_nil))) (da_cons (de_bi (ca_isi M.tab rfl) (by rfl) M.nisi (by decide +kernel) (dav_cons (dvar 0).dv (dav_cons (de_own (n := 8) (by rfl) M.c8).dv dav_nil))) (da_cons (de_bi (ca_isi M.tab rfl) (by rfl) M.nisi (by decide +kernel) (dav_cons (dvar 0).dv (dav_cons (de_own (n := 9) (by rfl) M.c9).dv dav_nil))) da_nil)))).de.dv))
  (dss_one (ds_ret (de_bin od_addL (dvar 1).dv (df_lst (da_cons (de_bi (ca_isi M.tab rfl) (by rfl) M.nisi (by decide +kernel) (dav_cons (dvar 0).dv (dav_cons (de_own (n := 10) (by rfl) M.c10).dv dav_nil))) da_nil)).de.dv)))))

def ok2 (n : Nat) : Bool := decide (n ∈ ([2, 3, 7] : List Nat))
theorem okh2 (M : Md L mg f fd fI) : ∀ n, ok2 n = true → L.cF n = [("place" : Str)] ∧ XfC L.K (L.cA n) ∧ PySem.W.findIn L.K (.ref (L.cA n)) "place" = some none := by
  intro n hn
  have h := of_decide_eq_true hn
  simp only [List.mem_cons, List.not_mem_nil, or_false] at h
  rcases h with rfl | rfl | rfl
  · exact ⟨M.h2, xfC_of M.x2, M.x2.noN⟩
  · exact ⟨M.h3, xfC_of M.x3, M.x3.noN⟩
  · exact ⟨M.h7, xfC_of M.x7, M.x7.noN⟩
def ok0 (n : Nat) : Bool := decide (n ∈ ([0, 1, 4, 5, 6, 8] : List Nat))
theorem okh0 (M : Md L mg f fd fI) : ∀ n, ok0 n = true → L.cF n = [("value" : Str)] ∧ XfC L.K (L.cA n) ∧ PySem.W.findIn L.K (.ref (L.cA n)) "value" = some none := by
  intro n hn
  have h := of_decide_eq_true hn
  simp only [List.mem_cons, List.not_mem_nil, or_false] at h
  rcases h with rfl | rfl | rfl | rfl | rfl | rfl
  · exact ⟨M.h0, xfC_of M.x0, M.x0.noN⟩
  · exact ⟨M.h1, xfC_of M.x1, M.x1.noN⟩
  · exact ⟨M.h4, xfC_of M.x4, M.x4.noN⟩
  · exact ⟨M.h5, xfC_of M.x5, M.x5.noN⟩
  · exact ⟨M.h6, xfC_of M.x6, M.x6.noN⟩
  · exact ⟨M.h8, xfC_of M.x8, M.x8.noN⟩
def ok9 (n : Nat) : Bool := decide (n ∈ ([9] : List Nat))
theorem okh9 (M : Md L mg f fd fI) : ∀ n, ok9 n = true → L.cF n = [("line" : Str)] ∧ XfC L.K (L.cA n) ∧ PySem.W.findIn L.K (.ref (L.cA n)) "line" = some none := by
  intro n hn
  have h := of_decide_eq_true hn
  simp only [List.mem_cons, List.not_mem_nil, or_false] at h
  rcases h with rfl
  · exact ⟨M.h9, xfC_of M.x9, M.x9.noN⟩
def ok10 (n : Nat) : Bool := decide (n ∈ ([10] : List Nat))
theorem okh10 (M : Md L mg f fd fI) : ∀ n, ok10 n = true → L.cF n = [("most" : Str)] ∧ XfC L.K (L.cA n) ∧ PySem.W.findIn L.K (.ref (L.cA n)) "most" = some none := by
  intro n hn
  have h := of_decide_eq_true hn
  simp only [List.mem_cons, List.not_mem_nil, or_false] at h
  rcases h with rfl
  · exact ⟨M.h10, xfC_of M.x10, M.x10.noN⟩

abbrev s4 : Stmt := topS 18
theorem sc4 : FnScope ["one"] ["one"] (defScope s4) := ⟨rfl, rfl, rfl, by decide +kernel, rfl, by decide +kernel, by decide +kernel⟩
def b4 : IS := sSeq (sIf (asB (iBi fIs [iVar 0, iTup [iLit (.clo 2), iLit (.clo 3), iLit (.clo 7)]])) (sRet (iXat ok2 (iVar 0))) sPass) (sSeq (sIf (asB (iBi fIs [iVar 0, iTup [iLit (.clo 0), iLit (.clo 1), iLit (.clo 4), iLit (.clo 5), iLit (.clo 6), iLit (.clo 8)]])) (sRet (iXat ok0 (iVar 0))) sPass)
  (sRet (iIf (asB (iBi fIs [iVar 0, iLit (.clo 9)])) (iXat ok9 (iVar 0)) (iXat ok10 (iVar 0)))))
theorem d4 (M : Md L mg f fd fI) {f' : Addr} {cdv : Value} {A : Around} {outer : List PySem.Env} {s : Shared} {H : Hp} {E : XK} (hr : Room 2 (A.deeper (PyProof.Rows.envOfC "_law_field" (defScope s4) s.heap.objs.size f' cdv))) (hg : A.guards = some []) :
    DSs L (cxOf (L2.CX P w) P w L.K mg base ["one"] "_law_field" (defScope s4) f' cdv A outer s H E) b4 (defBody s4) :=
  dss_cons (ds_if (dt_val (de_bi (ca_isi M.tab rfl) (by rfl) M.nisi (by decide +kernel) (dav_cons (dvar 0).dv (dav_cons (de_tup (da_cons (de_own (n := 2) (by rfl) M.c2) (da_cons (de_own (n := 3) (by rfl) M.c3) (da_cons (de_own (n := 7) (by rfl) M.c7) da_nil)))).dv dav_nil)))) (dss_one (ds_ret (de_xat (ok := ok2) (dvar 0) rfl (okh2 M)))) dss_nil)
  (dss_cons (ds_if (dt_val (de_bi (ca_isi M.tab rfl) (by rfl) M.nisi (by decide +kernel) (dav_cons (dvar 0).dv (dav_cons (de_tup (da_cons (de_own (n := 0) (by rfl) M.c0) (da_cons (de_own (n := 1) (by rfl) M.c1) (da_cons (de_own (n := 4) (by rfl) M.c4) (da_cons (de_own (n := 5) (by rfl) M.c5) (da_cons (de_own (n := 6) (by rfl) M.c6) (da_cons (de_own (n := 8) (by rfl) M.c8) da_nil))))))).dv dav_nil)))) (dss_one (ds_ret (de_xat (ok := ok0) (dvar 0) rfl (okh0 M)))) dss_nil)
  (dss_one (ds_ret (de_if (dt_val (de_bi (ca_isi M.tab rfl) (by rfl) M.nisi (by decide +kernel) (dav_cons (dvar 0).dv (dav_cons (de_own (n := 9) (by rfl) M.c9).dv dav_nil)))) (de_xat (ok := ok9) (dvar 0) rfl (okh9 M)) (de_xat (ok := ok10) (dvar 0) rfl (okh10 M))))))

def m2 : List D → M D := runFn 1 b2
def m3 : List D → M D := runFn 2 b3
def m4 : List D → M D := runFn 1 b4
theorem g2 (M : Md L mg f fd fI) : FG L P w mg base 3 (f 2) (fd 2) ["m"] m2 := by
  unfold m2
  exact fg_of (N := ["m"]) (ps := ["m"]) (body := b2) (k := 2) (st := s2) (x := "_law_value") (qual := "_law_value") M.F2 sc2 fun cdv A outer s H E hr hg => d2 M hr hg
theorem g3 (M : Md L mg f fd fI) : FG L P w mg base 3 (f 3) (fd 3) ["one"] m3 := by
  unfold m3
  exact fg_of (N := ["one", "found"]) (ps := ["one"]) (body := b3) (k := 2) (st := s3) (x := "_law_kinds") (qual := "_law_kinds") M.F3 sc3 fun cdv A outer s H E hr hg => d3 M hr hg
theorem g4 (M : Md L mg f fd fI) : FG L P w mg base 3 (f 4) (fd 4) ["one"] m4 := by
  unfold m4
  exact fg_of (N := ["one"]) (ps := ["one"]) (body := b4) (k := 2) (st := s4) (x := "_law_field") (qual := "_law_field") M.F4 sc4 fun cdv A outer s H E hr hg => d4 M hr hg
end Lw
namespace Lw
open PySem PySem.Spec L2 DL
variable {L : Lx} {P : Program} {w : World} {mg : Str → Option Value} {base : Heap} {X : Cx} {f : Nat → Addr} {fd : Nat → FuncData} {fI : Nat → Addr}

theorem duse (n : Nat) {x : Str} {pos : Pos} (hN : X.N[n]? = some x := by rfl) (hv : Vis X.env.scope x := by first | exact Or.inl rfl | exact Or.inr (Or.inl rfl) | exact Or.inr (Or.inr rfl)) (hd : (x == ("__debug__" : Str)) = false := by decide)
    (hcd : (x == ("__classdict__" : Str)) = false := by decide) : DV L X (iUse n) (.Name x pos) := dv_use (pe_var hN hv hd hcd)
abbrev s5 : Stmt := topS 19
theorem sc5 : FnScope ["script", "m", "turn", "q", "some", "far", "at", "one", "told", "k"] ["script"] (defScope s5) := ⟨rfl, rfl, rfl, by decide +kernel, rfl, by decide +kernel, by decide +kernel⟩
def iFd (i : IE) : IE := iCall m4 [i]
def iKd (i : IE) : IE := iCall m3 [i]
def iRp (i : IE) : IE := iBi fRepr [i]
def bIn : IS := sSeq (sIf (orB (asB (iOp fNeD (iRp (iFd (iVar 7))) (iRp (iVar 3)))) (asB (iOp fNeD (iRp (iFd (iOp fIx (iUse 5) (iVar 6)))) (iRp (iVar 3))))) (sRet (iLit (.bl false))) sPass)
  (sSeq (sIf (orB (asB (iOp fNeD (iKd (iVar 7)) (iLc (gN 9) (iiR1 (iLit (.int 11))) cYes (iOp fEqD (iVar 9) (iVar 6)) [9]))) (asB (iOp fNeD (iKd (iOp fIx (iUse 5) (iVar 6))) (iKd (iVar 7))))) (sRet (iLit (.bl false))) sPass)
  (sSeq (sSet 8 (iLst [iBi fIs [iVar 7, iLit (.clo 11)], iBi fIs [iVar 7, iLit (.ty "ValueError")], iBi fIs [iVar 7, iLit (.ty "LookupError")]]))
  (sIf (asB (iOp fNeD (iOp fAddL (iVar 8) (iLst [iBi fIs [iVar 7, iLit (.ty "OverflowError")]])) (iLst [iOp fLtI (iVar 6) (iLit (.int 10)), iOp fLtI (iVar 6) (iLit (.int 10)), iLit (.bl false), iOp fEqD (iVar 6) (iLit (.int 10))]))) (sRet (iLit (.bl false))) sPass)))
def bMk : IS := sSeq (sSet 4 (iLst [iMk 0 (iVar 3), iMk 1 (iVar 3), iMk 2 (iVar 3), iMk 3 (iVar 3), iMk 4 (iVar 3), iMk 5 (iVar 3), iMk 6 (iVar 3)])) (sSeq (sSet 4 (iOp fAddL (iVar 4) (iLst [iMk 7 (iVar 3), iMk 8 (iVar 3), iMk 9 (iVar 3), iMk 10 (iVar 3)]))) (sSeq (sSet 5 (iLst [iMk 0 (iVar 3), iMk 1 (iVar 3), iMk 2 (iVar 3), iMk 3 (iVar 3), iMk 4 (iVar 3)])) (sSeq (sOwn 5 (iOp fAddL (iVar 5) (iLst [iMk 5 (iVar 3), iMk 6 (iVar 3), iMk 7 (iVar 3), iMk 8 (iVar 3), iMk 9 (iVar 3)]))) (sSeq (sApp 5 (iMk 10 (iVar 3)))
  (sFor (gT [gN 6, gN 7]) (iiEn (iVar 4)) bIn)))))
def bTurn : IS := sSeq (sSet 3 (iCall m2 [iVar 1])) bMk
def b5 : IS := sSeq (sSet 1 (iCall mBegun [iVar 0])) (sSeq (sFor (gN 2) (iiR1 (iOp fAddI (iLit (.int 2)) (iBi fMin2 [iBi fLen [iVar 0], iLit (.int 6)]))) bTurn) (sRet (iLit (.bl true))))

theorem d5i (M : Md L mg f fd fI) {f' : Addr} {cdv : Value} {A : Around} {outer : List PySem.Env} {s : Shared} {H : Hp} {E : XK} (hr : Room 3 (A.deeper (PyProof.Rows.envOfC "law" (defScope s5) s.heap.objs.size f' cdv))) (hg : A.guards = some []) :
    DSs L (cxOf (L2.CX P w) P w L.K mg base ["script", "m", "turn", "q", "some", "far", "at", "one", "told", "k"] "law" (defScope s5) f' cdv A outer s H E) b5 (defBody s5) := by
  have hu : (A.deeper (PyProof.Rows.envOfC "law" (defScope s5) s.heap.objs.size f' cdv)).units + 64 < cLine := hr.units
  exact dss_cons (ds_set sc5.nd rfl (Or.inl rfl) (de_call (f25 M.F0 M.nlist) rfl (hr.mono (by decide)) hg (by rfl) M.g0 M.k0 M.b0 rfl (da_cons (dvar 0) da_nil)))
    (dss_cons (ds_for (passes_of rfl) rfl (di_range1 (by rfl) M.nrange (da_cons (de_bin od_addI dint.dv (de_bi (ca_min2 rfl) (by rfl) M.nmin (by decide +kernel) (dav_cons (de_bi (ca_len rfl) (by rfl) M.nlen (by decide +kernel) (dav_cons (dvar 0).dv dav_nil)).dv (dav_cons dint.dv dav_nil))).dv) da_nil)) (dg_name sc5.nd rfl (Or.inl rfl))
      (dss_cons (ds_set sc5.nd rfl (Or.inl rfl) (de_call (g2 M) rfl hr hg (by rfl) M.g2 M.k2 M.b2 rfl (da_cons (dvar 1) da_nil)))
      (dss_cons (ds_set sc5.nd rfl (Or.inl rfl) (df_lst (da_cons (de_exv M.x0 rfl M.h0 (dep1 hr) (by rfl) M.c0 (dvar 3)) (da_cons (de_exv M.x1 rfl M.h1 (dep1 hr) (by rfl) M.c1 (dvar 3)) (da_cons (de_exv M.x2 rfl M.h2 (dep1 hr) (by rfl) M.c2 (dvar 3)) (da_cons (de_exv M.x3 rfl M.h3 (dep1 hr) (by rfl) M.c3 (dvar 3)) (da_cons (de_exv M.x4 rfl M.h4 (dep1 hr) (by rfl) M.c4 (dvar 3)) (da_cons (de_exv M.x5 rfl M.h5 (dep1 hr) (by rfl) M.c5 (dvar 3)) (da_cons (de_exv M.x6 rfl M.h6 (dep1 hr) (by rfl) M.c6 (dvar 3)) da_nil)))))))).de)
      (dss_cons (ds_set sc5.nd rfl (Or.inl rfl) (de_bin od_addL (dvar 4).dv (df_lst (da_cons (de_exv M.x7 rfl M.h7 (dep1 hr) (by rfl) M.c7 (dvar 3)) (da_cons (de_exv M.x8 rfl M.h8 (dep1 hr) (by rfl) M.c8 (dvar 3)) (da_cons (de_exv M.x9 rfl M.h9 (dep1 hr) (by rfl) M.c9 (dvar 3)) (da_cons (de_exv M.x10 rfl M.h10 (dep1 hr) (by rfl) M.c10 (dvar 3)) da_nil))))).de.dv))
      (dss_cons (ds_set sc5.nd rfl (Or.inl rfl) (df_lst (da_cons (de_exvK M.x0 rfl M.h0 (dep1 hr) (by rfl) M.c0 (dvar 3)) (da_cons (de_exvK M.x1 rfl M.h1 (dep1 hr) (by rfl) M.c1 (dvar 3)) (da_cons (de_exvK M.x2 rfl M.h2 (dep1 hr) (by rfl) M.c2 (dvar 3)) (da_cons (de_exvK M.x3 rfl M.h3 (dep1 hr) (by rfl) M.c3 (dvar 3)) (da_cons (de_exvK M.x4 rfl M.h4 (dep1 hr) (by rfl) M.c4 (dvar 3)) da_nil)))))).de)
      (dss_cons (ds_own sc5.nd rfl (Or.inl rfl) (df_addL (dvar 5).dv (df_lst (da_cons (de_exvK M.x5 rfl M.h5 (dep1 hr) (by rfl) M.c5 (dvar 3)) (da_cons (de_exvK M.x6 rfl M.h6 (dep1 hr) (by rfl) M.c6 (dvar 3)) (da_cons (de_exvK M.x7 rfl M.h7 (dep1 hr) (by rfl) M.c7 (dvar 3)) (da_cons (de_exvK M.x8 rfl M.h8 (dep1 hr) (by rfl) M.c8 (dvar 3)) (da_cons (de_exvK M.x9 rfl M.h9 (dep1 hr) (by rfl) M.c9 (dvar 3)) da_nil)))))).de.dv))
      (dss_cons (ds_app (fun W tk => pe_bm PySem.F.plainAttrs_list PySem.F.slot_list_append PySem.F.type_list_append mt_append (pv 5) (pa_cons ((de_exvK M.x10 rfl M.h10 (dep1 hr) (by rfl) M.c10 (dvar 3)) W tk) pa_nil)))
      (dss_one (ds_for (passes_of rfl) rfl (di_enum rfl (by rfl) M.nenum (da_cons (dvar 4) da_nil)) (dg_tup rfl rfl (dgs_cons (dg_name sc5.nd rfl (Or.inr rfl)) (dgs_cons (dg_name sc5.nd rfl (Or.inl rfl)) dgs_nil)))
        (dss_cons (ds_if (dw_or (dt_cmp (od_neD rfl hu) (de_bi (ca_repr rfl hg hu) (by rfl) M.nrepr (by decide +kernel) (dav_cons (de_call (g4 M) rfl hr hg (by rfl) M.g4 M.k4 M.b4 rfl (da_cons (dvar 7) da_nil)).dv dav_nil)).dv (de_bi (ca_repr rfl hg hu) (by rfl) M.nrepr (by decide +kernel) (dav_cons (dvar 3).dv dav_nil)).dv (nomark _)) (dw_or1 (dt_cmp (od_neD rfl hu) (de_bi (ca_repr rfl hg hu) (by rfl) M.nrepr (by decide +kernel) (dav_cons (de_call (g4 M) rfl hr hg (by rfl) M.g4 M.k4 M.b4 rfl (da_cons (de_ix (ixd rfl) (duse 5) (dvar 6).dv) da_nil)).dv dav_nil)).dv (de_bi (ca_repr rfl hg hu) (by rfl) M.nrepr (by decide +kernel) (dav_cons (dvar 3).dv dav_nil)).dv (nomark _)))).dt (dss_one (ds_ret dtru)) dss_nil)
        (dss_cons (ds_if (dw_or (dt_cmp (od_neD rfl hu) (de_call (g3 M) rfl hr hg (by rfl) M.g3 M.k3 M.b3 rfl (da_cons (dvar 7) da_nil)).dv (df_lc (own := [("k", 9)]) rfl sc5.nd (di_range1 (by rfl) M.nrange (da_cons dint da_nil)) (show BlkOk ["script", "m", "turn", "q", "some", "far", "at", "one", "told", "k"] (defScope s5) _ _ from ⟨rfl, by decide +kernel, by decide +kernel, by decide +kernel, by decide +kernel⟩) (fun s H C cl fp => pg_name (i := 9) sc5.nd rfl (.inl rfl)) (gk_name (by decide)) (fun s H C cl fp => pts_nil) tk_yes (fun s H C cl fp => de_cmp (od_eqD rfl hu) (dvar 9).dv (dvar 6).dv (nomark _))).de.dv (nomark _)) (dw_or1 (dt_cmp (od_neD rfl hu) (de_call (g3 M) rfl hr hg (by rfl) M.g3 M.k3 M.b3 rfl (da_cons (de_ix (ixd rfl) (duse 5) (dvar 6).dv) da_nil)).dv (de_call (g3 M) rfl hr hg (by rfl) M.g3 M.k3 M.b3 rfl (da_cons (dvar 7) da_nil)).dv (nomark _)))).dt (dss_one (ds_ret dtru)) dss_nil)
        (dss_cons (ds_set sc5.nd rfl (Or.inl rfl) (df_lst (da_cons (de_bi (ca_isi M.tab rfl) (by rfl) M.nisi (by decide +kernel) (dav_cons (dvar 7).dv (dav_cons (de_own (n := 11) (by rfl) M.c11).dv dav_nil))) (da_cons (de_bi (ca_isi M.tab rfl) (by rfl) M.nisi (by decide +kernel) (dav_cons (dvar 7).dv (dav_cons (de_type (t := "ValueError") (by rfl) M.nVE (by decide +kernel)).dv dav_nil))) (da_cons (de_bi (ca_isi M.tab rfl) (by rfl) M.nisi (by decide +kernel) (dav_cons (dvar 7).dv (dav_cons (de_type (t := "LookupError") (by rfl) M.nLE (by decide +kernel)).dv dav_nil))) da_nil)))).de)
        (dss_one (ds_if (dt_cmp (od_neD rfl hu) (de_bin od_addL (dvar 8).dv (df_lst (da_cons (de_bi (ca_isi M.tab rfl) (by rfl) M.nisi (by decide +kernel) (dav_cons (dvar 7).dv (dav_cons (de_type (t := "OverflowError") (by rfl) M.nOE (by decide +kernel)).dv dav_nil))) da_nil)).de.dv).dv (df_lst (da_cons (de_cmp od_ltI (dvar 6).dv dint.dv (nomark _)) (da_cons (de_cmp od_ltI (dvar 6).dv dint.dv (nomark _)) (da_cons dtru (da_cons (de_cmp (od_eqD rfl hu) (dvar 6).dv dint.dv (nomark _)) da_nil))))).de.dv (nomark _)) (dss_one (ds_ret dtru)) dss_nil))))))))))))))
    (dss_one (ds_ret dtru)))

end Lw
namespace Lw
open PySem PySem.Spec L2 DL
def vals : List D := [.non, .int 0, .int 5, .int (-1), .str (PySem.Str.ofString "a"), .str (PySem.Str.ofString ""), .tup [], .tup [.int 1, .int 2], .lst [], .dct [], .bl true, .int (10 ^ 30)]
def exs (q : D) : List D := (List.range 11).map fun n => .exc n q
/-- the slots behind a turn -/
def aft (s0 q : D) (x2 x9 : Option B) : DL.Env := [some (.fz s0), some (.fz .rnd), x2, some (.fz q), some (.fz (.lst (exs q))), some (.ol (exs q)), some (.fz (.int 10)), some (.fz (.exc 10 q)), some (.fz (.lst [.bl false, .bl false, .bl false])), x9]

theorem turn0 (s0 : D) (x2 x4 x5 x6 x7 x8 x9 : Option B) : bMk [some (.fz s0), some (.fz .rnd), x2, some (.fz (.non)), x4, x5, x6, x7, x8, x9] = .ret (.nx (aft s0 (.non) x2 x9)) := by kernel_rfl
theorem turn1 (s0 : D) (x2 x4 x5 x6 x7 x8 x9 : Option B) : bMk [some (.fz s0), some (.fz .rnd), x2, some (.fz (.int 0)), x4, x5, x6, x7, x8, x9] = .ret (.nx (aft s0 (.int 0) x2 x9)) := by kernel_rfl
theorem turn2 (s0 : D) (x2 x4 x5 x6 x7 x8 x9 : Option B) : bMk [some (.fz s0), some (.fz .rnd), x2, some (.fz (.int 5)), x4, x5, x6, x7, x8, x9] = .ret (.nx (aft s0 (.int 5) x2 x9)) := by kernel_rfl
theorem turn3 (s0 : D) (x2 x4 x5 x6 x7 x8 x9 : Option B) : bMk [some (.fz s0), some (.fz .rnd), x2, some (.fz (.int (-1))), x4, x5, x6, x7, x8, x9] = .ret (.nx (aft s0 (.int (-1)) x2 x9)) := by kernel_rfl
theorem turn4 (s0 : D) (x2 x4 x5 x6 x7 x8 x9 : Option B) : bMk [some (.fz s0), some (.fz .rnd), x2, some (.fz (.str (PySem.Str.ofString "a"))), x4, x5, x6, x7, x8, x9] = .ret (.nx (aft s0 (.str (PySem.Str.ofString "a")) x2 x9)) := by kernel_rfl
theorem turn5 (s0 : D) (x2 x4 x5 x6 x7 x8 x9 : Option B) : bMk [some (.fz s0), some (.fz .rnd), x2, some (.fz (.str (PySem.Str.ofString ""))), x4, x5, x6, x7, x8, x9] = .ret (.nx (aft s0 (.str (PySem.Str.ofString "")) x2 x9)) := by kernel_rfl
theorem turn6 (s0 : D) (x2 x4 x5 x6 x7 x8 x9 : Option B) : bMk [some (.fz s0), some (.fz .rnd), x2, some (.fz (.tup [])), x4, x5, x6, x7, x8, x9] = .ret (.nx (aft s0 (.tup []) x2 x9)) := by kernel_rfl
theorem turn7 (s0 : D) (x2 x4 x5 x6 x7 x8 x9 : Option B) : bMk [some (.fz s0), some (.fz .rnd), x2, some (.fz (.tup [.int 1, .int 2])), x4, x5, x6, x7, x8, x9] = .ret (.nx (aft s0 (.tup [.int 1, .int 2]) x2 x9)) := by kernel_rfl
theorem turn8 (s0 : D) (x2 x4 x5 x6 x7 x8 x9 : Option B) : bMk [some (.fz s0), some (.fz .rnd), x2, some (.fz (.lst [])), x4, x5, x6, x7, x8, x9] = .ret (.nx (aft s0 (.lst []) x2 x9)) := by kernel_rfl
theorem turn9 (s0 : D) (x2 x4 x5 x6 x7 x8 x9 : Option B) : bMk [some (.fz s0), some (.fz .rnd), x2, some (.fz (.dct [])), x4, x5, x6, x7, x8, x9] = .ret (.nx (aft s0 (.dct []) x2 x9)) := by kernel_rfl
theorem turn10 (s0 : D) (x2 x4 x5 x6 x7 x8 x9 : Option B) : bMk [some (.fz s0), some (.fz .rnd), x2, some (.fz (.bl true)), x4, x5, x6, x7, x8, x9] = .ret (.nx (aft s0 (.bl true) x2 x9)) := by kernel_rfl
theorem turn11 (s0 : D) (x2 x4 x5 x6 x7 x8 x9 : Option B) : bMk [some (.fz s0), some (.fz .rnd), x2, some (.fz (.int (10 ^ 30))), x4, x5, x6, x7, x8, x9] = .ret (.nx (aft s0 (.int (10 ^ 30)) x2 x9)) := by kernel_rfl
theorem turn_all {q : D} (h : q ∈ vals) (s0 : D) (x2 x4 x5 x6 x7 x8 x9 : Option B) : bMk [some (.fz s0), some (.fz .rnd), x2, some (.fz q), x4, x5, x6, x7, x8, x9] = .ret (.nx (aft s0 q x2 x9)) := by
  simp only [vals, List.mem_cons, List.not_mem_nil, or_false] at h
  rcases h with rfl | rfl | rfl | rfl | rfl | rfl | rfl | rfl | rfl | rfl | rfl | rfl
  · exact turn0 s0 x2 x4 x5 x6 x7 x8 x9
  · exact turn1 s0 x2 x4 x5 x6 x7 x8 x9
  · exact turn2 s0 x2 x4 x5 x6 x7 x8 x9
  · exact turn3 s0 x2 x4 x5 x6 x7 x8 x9
  · exact turn4 s0 x2 x4 x5 x6 x7 x8 x9
  · exact turn5 s0 x2 x4 x5 x6 x7 x8 x9
  · exact turn6 s0 x2 x4 x5 x6 x7 x8 x9
  · exact turn7 s0 x2 x4 x5 x6 x7 x8 x9
  · exact turn8 s0 x2 x4 x5 x6 x7 x8 x9
  · exact turn9 s0 x2 x4 x5 x6 x7 x8 x9
  · exact turn10 s0 x2 x4 x5 x6 x7 x8 x9
  · exact turn11 s0 x2 x4 x5 x6 x7 x8 x9
end Lw
namespace Lw
open PySem PySem.Spec L2 DL
def kOf : M D → Nat → M D
  | .choose _ k, i => k i
  | _, _ => .stuck
theorem m2_is : m2 [.rnd] = .choose 12 fun i => kOf (m2 [.rnd]) i := by kernel_rfl
theorem ix_val {i : Nat} (h : i < 12) : ∃ q ∈ vals, kOf (m2 [.rnd]) i = .ret q := by
  obtain rfl | rfl | rfl | rfl | rfl | rfl | rfl | rfl | rfl | rfl | rfl | rfl : i = 0 ∨ i = 1 ∨ i = 2 ∨ i = 3 ∨ i = 4 ∨ i = 5 ∨ i = 6 ∨ i = 7 ∨ i = 8 ∨ i = 9 ∨ i = 10 ∨ i = 11 := by omega

  · exact ⟨.non, by simp [vals], by kernel_rfl⟩
  · exact ⟨.int 0, by simp [vals], by kernel_rfl⟩
  · exact ⟨.int 5, by simp [vals], by kernel_rfl⟩
  · exact ⟨.int (-1), by simp [vals], by kernel_rfl⟩
  · exact ⟨.str (PySem.Str.ofString "a"), by simp [vals], by kernel_rfl⟩
  · exact ⟨.str (PySem.Str.ofString ""), by simp [vals], by kernel_rfl⟩
  · exact ⟨.tup [], by simp [vals], by kernel_rfl⟩
  · exact ⟨.tup [.int 1, .int 2], by simp [vals], by kernel_rfl⟩
  · exact ⟨.lst [], by simp [vals], by kernel_rfl⟩
  · exact ⟨.dct [], by simp [vals], by kernel_rfl⟩
  · exact ⟨.bl true, by simp [vals], by kernel_rfl⟩
  · exact ⟨.int (10 ^ 30), by simp [vals], by kernel_rfl⟩
theorem m2_ex : ∃ k : Nat → M D, m2 [.rnd] = .choose 12 k ∧ ∀ i, i < 12 → ∃ q ∈ vals, k i = .ret q := ⟨_, m2_is, fun i h => ix_val h⟩
end Lw
namespace Lw
open PySem PySem.Spec L2 DL
theorem sset_seq {n : Nat} {i : IE} {t : IS} {Γ : DL.Env} {b : Nat} {Q : Fl → Nat → Prop} {E : Ex → Nat → Prop} (h : (i Γ).wpB b (fun d c => (t (Γ.set n (some (.fz d)))).wpB c Q E) E) : (sSeq (sSet n i) t Γ).wpB b Q E := by
  unfold sSeq sSet
  refine (M.wpB_bind _ _).mpr ((M.wpB_bind _ _).mpr (M.wpB_mono (fun d c k => ?_) (fun _ _ x => x) _ _ h))
  exact k
theorem icall1 (m : List D → M D) (a : Option B) (d : D) (r : DL.Env) : iCall m [iVar 1] (a :: some (.fz d) :: r) = m [d] := rfl
theorem icall0 (m : List D → M D) (d : D) (r : DL.Env) : iCall m [iVar 0] (some (.fz d) :: r) = m [d] := rfl
def At (s0 : D) (Γ : DL.Env) : Prop := ∃ x2 x3 x4 x5 x6 x7 x8 x9, Γ = [some (.fz s0), some (.fz .rnd), x2, x3, x4, x5, x6, x7, x8, x9]
theorem wpB_ret {α : Type} {a : α} {b : Nat} {Q : α → Nat → Prop} {E : Ex → Nat → Prop} : (M.ret a).wpB b Q E ↔ Q a b := Iff.rfl
theorem wpB_choose {α : Type} {n : Nat} {k : Nat → M α} {b : Nat} {Q : α → Nat → Prop} {E : Ex → Nat → Prop} (h : ∀ i, i < n → ∃ q, k i = .ret q ∧ Q q b) : (M.choose n k).wpB (b + 1) Q E := fun i hi => by
  obtain ⟨q, e, h⟩ := h i hi
  show (k i).wpB b Q E
  rw [e]
  exact h
theorem at_aft (s0 q : D) (x2 x9 : Option B) : At s0 (aft s0 q x2 x9) := ⟨_, _, _, _, _, _, _, _, rfl⟩
theorem ret_of {m : M Fl} {Γ : DL.Env} {b : Nat} {Q : Fl → Nat → Prop} {E : Ex → Nat → Prop} (e : m = .ret (.nx Γ)) (h : Q (.nx Γ) b) : m.wpB b Q E := by rw [e]; exact h
theorem step_gen (s0 : D) (t : IS) (mm : List D → M D) (hm : ∃ k : Nat → M D, mm [.rnd] = .choose 12 k ∧ ∀ i, i < 12 → ∃ q ∈ vals, k i = .ret q)
    (ht : ∀ q ∈ vals, ∀ x2 x4 x5 x6 x7 x8 x9, t [some (.fz s0), some (.fz .rnd), x2, some (.fz q), x4, x5, x6, x7, x8, x9] = .ret (.nx (aft s0 q x2 x9))) (x2 x3 x4 x5 x6 x7 x8 x9 : Option B) (b : Nat) :
    (sSeq (sSet 3 (iCall mm [iVar 1])) t [some (.fz s0), some (.fz .rnd), x2, x3, x4, x5, x6, x7, x8, x9]).wpB (b + 1) (fun fl c => c = b ∧ ∃ Γ', fl = .nx Γ' ∧ At s0 Γ') (fun _ _ => False) := by
  obtain ⟨k, hk, hv⟩ := hm
  refine sset_seq ?_
  rw [icall1, hk]
  refine wpB_choose fun i hi => ?_
  obtain ⟨q, hq, eq⟩ := hv i hi
  exact ⟨q, eq, ret_of (ht q hq x2 x4 x5 x6 x7 x8 x9) ⟨rfl, _, rfl, at_aft s0 q x2 x9⟩⟩
theorem step_all (s0 : D) (x2 x3 x4 x5 x6 x7 x8 x9 : Option B) (b : Nat) : (bTurn [some (.fz s0), some (.fz .rnd), x2, x3, x4, x5, x6, x7, x8, x9]).wpB (b + 1) (fun fl c => c = b ∧ ∃ Γ', fl = .nx Γ' ∧ At s0 Γ') (fun _ _ => False) := by
  unfold bTurn
  exact step_gen s0 bMk m2 m2_ex (fun q hq x2 x4 x5 x6 x7 x8 x9 => turn_all hq s0 x2 x4 x5 x6 x7 x8 x9) x2 x3 x4 x5 x6 x7 x8 x9 b
theorem loop_all (s0 : D) (t : IS) (ht : ∀ x2 x3 x4 x5 x6 x7 x8 x9 b, (t [some (.fz s0), some (.fz .rnd), x2, x3, x4, x5, x6, x7, x8, x9]).wpB (b + 1) (fun fl c => c = b ∧ ∃ Γ', fl = .nx Γ' ∧ At s0 Γ') (fun _ _ => False)) :
    ∀ (ds : List D) (b : Nat) (Γ : DL.Env), ds.length ≤ b → At s0 Γ → (loop (gN 2) t ds Γ).wpB b (fun fl _ => ∃ Γ', fl = .nx Γ' ∧ At s0 Γ') (fun _ _ => False) := fun ds => by
  induction ds with
  | nil => intro b Γ _ h; exact ⟨Γ, rfl, h⟩
  | cons d ds ih =>
    intro b Γ hb ⟨x2, x3, x4, x5, x6, x7, x8, x9, e⟩
    subst e
    obtain ⟨b, rfl⟩ : ∃ c, b = c + 1 := by
      cases b with
      | zero => simp at hb
      | succ b => exact ⟨b, rfl⟩
    show ((t [some (.fz s0), some (.fz .rnd), some (.fz d), x3, x4, x5, x6, x7, x8, x9]).bind _).wpB _ _ _
    refine (M.wpB_bind _ _).mpr (M.wpB_mono (fun fl c ⟨hc, Γ', e, h⟩ => ?_) (fun _ _ x => x) _ _ (ht _ _ _ _ _ _ _ _ b))
    subst e hc
    exact ih c Γ' (Nat.le_of_succ_le_succ hb) h
def m5 : List D → M D := runFn 10 b5
def itT5 : II := iiR1 (iOp fAddI (iLit (.int 2)) (iBi fMin2 [iBi fLen [iVar 0], iLit (.int 6)]))
theorem it_5 (ns : List Int) (r : DL.Env) : ∃ j : Nat, j ≤ 8 ∧ itT5 (some (.fz (.scr ns)) :: r) = .ret (rngD 0 j) := by
  refine ⟨(2 + (if (6 : Int) < ns.length then 6 else (ns.length : Int))).toNat, ?_, ?_⟩
  · split <;> omega
  · show (if decide (-(2 ^ 62) ≤ 2 + (if (6 : Int) < ns.length then 6 else (ns.length : Int))) && decide (2 + (if (6 : Int) < ns.length then 6 else (ns.length : Int)) < 2 ^ 62) then _ else _) = _
    rw [if_pos]
    simp only [Bool.and_eq_true, decide_eq_true_eq]
    constructor <;> split <;> omega
theorem law_gen (t : IS) (it : II) {ns : List Int} (h1 : ns.length ≤ 63) (h2 : ∀ z ∈ ns, bitsOk z) (hit : ∀ r, ∃ j : Nat, j ≤ 8 ∧ it (some (.fz (.scr ns)) :: r) = .ret (rngD 0 j))
    (ht : ∀ x2 x3 x4 x5 x6 x7 x8 x9 b, (t [some (.fz (.scr ns)), some (.fz .rnd), x2, x3, x4, x5, x6, x7, x8, x9]).wpB (b + 1) (fun fl c => c = b ∧ ∃ Γ', fl = .nx Γ' ∧ At (.scr ns) Γ') (fun _ _ => False)) :
    (runFn 10 (sSeq (sSet 1 (iCall mBegun [iVar 0])) (sSeq (sFor (gN 2) it t) (sRet (iLit (.bl true))))) [.scr ns]).wpB (lim + 1) (fun d _ => d = .bl true) (fun _ _ => False) := by
  unfold runFn
  refine (M.wpB_bind _ _).mpr ?_
  refine sset_seq ?_
  rw [show env0 10 [D.scr ns] = some (.fz (.scr ns)) :: [none, none, none, none, none, none, none, none, none] from rfl, icall0]
  have e1 : mBegun [.scr ns] = .begun (.ret .rnd) := by
    unfold mBegun
    exact if_pos ⟨h1, h2⟩
  rw [e1]
  refine ⟨rfl, ?_⟩
  show (sSeq (sFor (gN 2) it t) (sRet (iLit (.bl true))) (some (.fz (.scr ns)) :: [some (.fz .rnd), none, none, none, none, none, none, none, none])).wpB lim _ _
  obtain ⟨j, hj, e4⟩ := hit [some (.fz .rnd), none, none, none, none, none, none, none, none]
  unfold sSeq sFor
  rw [e4]
  have hl : (rngD 0 j).length ≤ lim := by
    unfold rngD
    rw [List.length_map, List.length_range]
    exact Nat.le_trans hj (by unfold lim; exact Nat.le_trans (by decide : 8 ≤ 2 ^ 3) (Nat.pow_le_pow_right (by decide) (by decide)))
  refine (M.wpB_bind _ _).mpr (M.wpB_mono (fun fl b hfl => ?_) (fun _ _ x => x) _ _ (loop_all (.scr ns) t ht (rngD 0 j) lim _ hl ⟨_, _, _, _, _, _, _, _, rfl⟩))
  obtain ⟨Γ, e, h⟩ := hfl
  subst e
  rfl
theorem law_m {ns : List Int} (h1 : ns.length ≤ 63) (h2 : ∀ z ∈ ns, bitsOk z) : (m5 [.scr ns]).wpB (lim + 1) (fun d _ => d = .bl true) (fun _ _ => False) :=
  law_gen bTurn itT5 h1 h2 (it_5 ns) (step_all (.scr ns))
end Lw
namespace Lw
open PySem PySem.Spec L2 DL DLH
theorem g5 {L : Lx} {P : Program} {w : World} {mg : Str → Option Value} {base : Heap} {f : Nat → Addr} {fd : Nat → FuncData} {fI : Nat → Addr} (M : Md L mg f fd fI) : FG L P w mg base 4 (f 5) (fd 5) ["script"] m5 := by
  unfold m5
  exact fg_of (N := ["script", "m", "turn", "q", "some", "far", "at", "one", "told", "k"]) (ps := ["script"]) (body := b5) (k := 3) (st := s5) (x := "law") (qual := "law") M.F5 sc5 fun cdv A outer s H E hr hg => d5i M hr hg

def clsName : Nat → Str
  | 0 => "BadNames"
  | 1 => "BadPaper"
  | 2 => "BadRoll"
  | 3 => "BadRule"
  | 4 => "BadCourse"
  | 5 => "BadKinds"
  | 6 => "BadQuestion"
  | 7 => "BadAnswer"
  | 8 => "BadNumber"
  | 9 => "BadText"
  | 10 => "TooMany"
  | _ => "VoteError"
def clsFld : Nat → List Str
  | 0 => ["value"]
  | 1 => ["value"]
  | 2 => ["place"]
  | 3 => ["place"]
  | 4 => ["value"]
  | 5 => ["value"]
  | 6 => ["value"]
  | 7 => ["place"]
  | 8 => ["value"]
  | 9 => ["line"]
  | 10 => ["most"]
  | _ => []
def Lk (K : PySem.W.Frag) : Lx := ⟨K, [], fun n => He.ga K (clsName n), clsFld⟩
def initOf (i : Nat) : Stmt := match topS i with
  | .ClassDef (body := body) .. => (body.find? fun s => match s with
    | .FunctionDef .. => true
    | _ => false).getD (.Pass ⟨0, 0, 0, 0⟩)
  | _ => .Pass ⟨0, 0, 0, 0⟩
def dOf (x : Str) (st : Stmt) : He.DefD := ⟨(x, none), x, x, defArgs st, defBody st, defScope st, [], []⟩
def dIn (x q : Str) (st : Stmt) : He.DefD := ⟨(x, some "__init__"), "__init__", q, defArgs st, defBody st, defScope st, [], []⟩

def fn : List He.DefD := [dOf "_law_begun" (topS 14), dOf "_law_next" (topS 15), dOf "_law_value" (topS 16), dOf "_law_kinds" (topS 17), dOf "_law_field" (topS 18), dOf "law" (topS 19), dIn "BadNames" "BadNames.__init__" (initOf 2), dIn "BadPaper" "BadPaper.__init__" (initOf 3), dIn "BadRoll" "BadRoll.__init__" (initOf 4), dIn "BadRule" "BadRule.__init__" (initOf 5), dIn "BadCourse" "BadCourse.__init__" (initOf 6), dIn "BadKinds" "BadKinds.__init__" (initOf 7), dIn "BadQuestion" "BadQuestion.__init__" (initOf 8), dIn "BadAnswer" "BadAnswer.__init__" (initOf 9), dIn "BadNumber" "BadNumber.__init__" (initOf 10), dIn "BadText" "BadText.__init__" (initOf 11), dIn "TooMany" "TooMany.__init__" (initOf 12)]
def fa : List He.Fa := [.glo "_law_begun", .glo "_law_next", .glo "_law_value", .glo "_law_kinds", .glo "_law_field", .glo "law", .free "list", .free "len", .free "int", .free "min", .free "range", .free "enumerate", .free "repr", .free "isinstance", .free "ValueError", .free "LookupError", .free "OverflowError", .glo "BadNames", .glo "BadPaper", .glo "BadRoll", .glo "BadRule", .glo "BadCourse", .glo "BadKinds", .glo "BadQuestion", .glo "BadAnswer", .glo "BadNumber", .glo "BadText", .glo "TooMany", .glo "VoteError"]
def xb (K : PySem.W.Frag) : Bool := (exB K (He.ga K "BadNames") "value" [.type "ValueError", .type "Exception", .type "BaseException", .type "object"] "ValueError.__new__" && (exB K (He.ga K "BadPaper") "value" [.type "ValueError", .type "Exception", .type "BaseException", .type "object"] "ValueError.__new__" && (exB K (He.ga K "BadRoll") "place" [.type "ValueError", .type "Exception", .type "BaseException", .type "object"] "ValueError.__new__" && (exB K (He.ga K "BadRule") "place" [.type "ValueError", .type "Exception", .type "BaseException", .type "object"] "ValueError.__new__" && (exB K (He.ga K "BadCourse") "value" [.type "ValueError", .type "Exception", .type "BaseException", .type "object"] "ValueError.__new__" && (exB K (He.ga K "BadKinds") "value" [.type "ValueError", .type "Exception", .type "BaseException", .type "object"] "ValueError.__new__" && (exB K (He.ga K "BadQuestion") "value" [.type "ValueError", .type "Exception", .type "BaseException", .type "object"] "ValueError.__new__" && (exB K (He.ga K "BadAnswer") "place" [.type "ValueError", .type "Exception", .type "BaseException", .type "object"] "ValueError.__new__" && (exB K (He.ga K "BadNumber") "value" [.type "ValueError", .type "Exception", .type "BaseException", .type "object"] "ValueError.__new__" && (exB K (He.ga K "BadText") "line" [.type "ValueError", .type "Exception", .type "BaseException", .type "object"] "ValueError.__new__" && (exB K (He.ga K "TooMany") "most" [.type "OverflowError", .type "ArithmeticError", .type "Exception", .type "BaseException", .type "object"] "OverflowError.__new__"))))))))))) && (((List.range 11).all fun n => icB K (He.ga K (clsName n))) && tabE.all fun e => decide (PySem.W.kitOne K (.ref ((Lk K).cA e.1)) ((Lk K).tv e.2.1) = some e.2.2))
abbrev R : PySem.W.OpenRow := PySem.W.OpenLaw.row PySem.Challenge.rw_handedvotes_k70_errors
abbrev hk : PySem.W.Hook := hookX 4 xb fa fn
def ob (s : PySem.W.SharedT) : AlX := obsX 4 xb fa fn (HandSHeadRun.getT s)
theorem ob_eq (s : PySem.W.SharedT) : ob s = hk.obs s.abs := obsX_eq (HandSHeadRun.getT_eq s)

def loose : List PySem.Str := ["VoteError", "BadNames", "BadPaper", "BadRoll", "BadRule", "BadCourse", "BadKinds", "BadQuestion", "BadAnswer", "BadNumber", "BadText", "TooMany", "_law_begun", "_law_next", "_law_value", "_law_kinds", "_law_field"]
theorem run (w : World) : HandSHeadRun.RunEq R (PySem.W.view R.prog [19]) hk ob 20000 loose w := by
  intro os
  kernel_rfl
end Lw
namespace Lw
open PySem PySem.Spec L2 DL DLH
theorem bind1 {K : PySem.W.Frag} {x qual p : Str} {params : Arguments} {body : List Stmt} {scope : Scope} {f : Addr} {fd : FuncData} (F : FunD K x qual params body scope [] [] f fd)
    (h : ∀ (kV doc pm : Value) (an : Option Addr) (cdv ct : Value) (u : Value), bindArgs (PySem.W.fnOf x qual params body scope .none kV doc pm an cdv ct) ⟨[u], []⟩ = pure [(p, u)]) : Binds K fd [p] [] :=
  F.bindsN fun kV doc pm an cdv ct us hl => match us, hl with
    | [u], _ => h kV doc pm an cdv ct u
theorem facts {K : PySem.W.Frag} {h : Heap} {mg : Str → Option Value} (X : K.In h) (G : h.Ns mainGlobals mg) (hb : xb K = true) (c : He.SaysD fa fn K) :
    ∃ (f : Nat → Addr) (fd : Nat → FuncData) (fI : Nat → Addr), Md (Lk K) mg f fd fI ∧ f 5 = He.ga K "law" ∧ ∀ (s : Shared) (u : Value), BindsTo s (fd 5) ⟨[u], []⟩ [("script", u)] := by
  unfold xb at hb
  obtain ⟨ha, hb⟩ := He.ba hb
  obtain ⟨e0, ha⟩ := He.ba ha
  obtain ⟨e1, ha⟩ := He.ba ha
  obtain ⟨e2, ha⟩ := He.ba ha
  obtain ⟨e3, ha⟩ := He.ba ha
  obtain ⟨e4, ha⟩ := He.ba ha
  obtain ⟨e5, ha⟩ := He.ba ha
  obtain ⟨e6, ha⟩ := He.ba ha
  obtain ⟨e7, ha⟩ := He.ba ha
  obtain ⟨e8, ha⟩ := He.ba ha
  obtain ⟨e9, e10⟩ := He.ba ha
  obtain ⟨ei, et⟩ := He.ba hb
  obtain ⟨fd0, F0⟩ := c.def_ 0 (d := dOf "_law_begun" (topS 14)) rfl
  obtain ⟨fd1, F1⟩ := c.def_ 1 (d := dOf "_law_next" (topS 15)) rfl
  obtain ⟨fd2, F2⟩ := c.def_ 2 (d := dOf "_law_value" (topS 16)) rfl
  obtain ⟨fd3, F3⟩ := c.def_ 3 (d := dOf "_law_kinds" (topS 17)) rfl
  obtain ⟨fd4, F4⟩ := c.def_ 4 (d := dOf "_law_field" (topS 18)) rfl
  obtain ⟨fd5, F5⟩ := c.def_ 5 (d := dOf "law" (topS 19)) rfl
  obtain ⟨fd6, F6⟩ := c.def_ 6 (d := dIn "BadNames" "BadNames.__init__" (initOf 2)) rfl
  obtain ⟨fd7, F7⟩ := c.def_ 7 (d := dIn "BadPaper" "BadPaper.__init__" (initOf 3)) rfl
  obtain ⟨fd8, F8⟩ := c.def_ 8 (d := dIn "BadRoll" "BadRoll.__init__" (initOf 4)) rfl
  obtain ⟨fd9, F9⟩ := c.def_ 9 (d := dIn "BadRule" "BadRule.__init__" (initOf 5)) rfl
  obtain ⟨fd10, F10⟩ := c.def_ 10 (d := dIn "BadCourse" "BadCourse.__init__" (initOf 6)) rfl
  obtain ⟨fd11, F11⟩ := c.def_ 11 (d := dIn "BadKinds" "BadKinds.__init__" (initOf 7)) rfl
  obtain ⟨fd12, F12⟩ := c.def_ 12 (d := dIn "BadQuestion" "BadQuestion.__init__" (initOf 8)) rfl
  obtain ⟨fd13, F13⟩ := c.def_ 13 (d := dIn "BadAnswer" "BadAnswer.__init__" (initOf 9)) rfl
  obtain ⟨fd14, F14⟩ := c.def_ 14 (d := dIn "BadNumber" "BadNumber.__init__" (initOf 10)) rfl
  obtain ⟨fd15, F15⟩ := c.def_ 15 (d := dIn "BadText" "BadText.__init__" (initOf 11)) rfl
  obtain ⟨fd16, F16⟩ := c.def_ 16 (d := dIn "TooMany" "TooMany.__init__" (initOf 12)) rfl
  refine ⟨fun i => He.ga K (match i with | 0 => "_law_begun" | 1 => "_law_next" | 2 => "_law_value" | 3 => "_law_kinds" | 4 => "_law_field" | _ => "law"), fun i => match i with | 0 => fd0 | 1 => fd1 | 2 => fd2 | 3 => fd3 | 4 => fd4 | _ => fd5, fun n => He.ma K (He.ga K (clsName n)) "__init__", ?_, rfl, ?_⟩
  · exact {
      F0 := fun_of F0
      F1 := fun_of F1
      F2 := fun_of F2
      F3 := fun_of F3
      F4 := fun_of F4
      F5 := fun_of F5
      g0 := He.glo_ok X G (c.fact 0 rfl)
      g1 := He.glo_ok X G (c.fact 1 rfl)
      g2 := He.glo_ok X G (c.fact 2 rfl)
      g3 := He.glo_ok X G (c.fact 3 rfl)
      g4 := He.glo_ok X G (c.fact 4 rfl)
      k0 := F0.kp
      k1 := F1.kp
      k2 := F2.kp
      k3 := F3.kp
      k4 := F4.kp
      b0 := bind1 F0 fun _ _ _ _ _ _ _ => rfl
      b1 := F1.bindsN fun _ _ _ _ _ _ us hl => match us, hl with | [_, _], _ => rfl
      b2 := bind1 F2 fun _ _ _ _ _ _ _ => rfl
      b3 := bind1 F3 fun _ _ _ _ _ _ _ => rfl
      b4 := bind1 F4 fun _ _ _ _ _ _ _ => rfl
      nlist := He.free_ok X G (c.fact 6 rfl)
      nlen := He.free_ok X G (c.fact 7 rfl)
      nint := He.free_ok X G (c.fact 8 rfl)
      nmin := He.free_ok X G (c.fact 9 rfl)
      nrange := He.free_ok X G (c.fact 10 rfl)
      nenum := He.free_ok X G (c.fact 11 rfl)
      nrepr := He.free_ok X G (c.fact 12 rfl)
      nisi := He.free_ok X G (c.fact 13 rfl)
      nVE := He.free_ok X G (c.fact 14 rfl)
      nLE := He.free_ok X G (c.fact 15 rfl)
      nOE := He.free_ok X G (c.fact 16 rfl)
      tab := ⟨fun e he => (by cases he), fun e he => ⟨icB_ok (List.all_eq_true.mp ei e.1 (by
        have h := he
        unfold tabE at h
        simp only [List.mem_flatMap, List.mem_append, List.mem_map, List.mem_cons, List.not_mem_nil, or_false] at h
        obtain ⟨n, hn, h⟩ := h
        rcases h with ⟨k, _, rfl⟩ | rfl | rfl | rfl | rfl <;> exact hn)), of_decide_eq_true (List.all_eq_true.mp et e he)⟩⟩
      c0 := He.glo_ok X G (c.fact 17 rfl)
      h0 := rfl
      x0 := exB_ok (bm := [.type "ValueError", .type "Exception", .type "BaseException", .type "object"]) PySem.F.excBase_ValueError PySem.F.store_ValueError e0 (.inl rfl) (by decide +kernel) F6
      c1 := He.glo_ok X G (c.fact 18 rfl)
      h1 := rfl
      x1 := exB_ok (bm := [.type "ValueError", .type "Exception", .type "BaseException", .type "object"]) PySem.F.excBase_ValueError PySem.F.store_ValueError e1 (.inl rfl) (by decide +kernel) F7
      c2 := He.glo_ok X G (c.fact 19 rfl)
      h2 := rfl
      x2 := exB_ok (bm := [.type "ValueError", .type "Exception", .type "BaseException", .type "object"]) PySem.F.excBase_ValueError PySem.F.store_ValueError e2 (.inr (.inl rfl)) (by decide +kernel) F8
      c3 := He.glo_ok X G (c.fact 20 rfl)
      h3 := rfl
      x3 := exB_ok (bm := [.type "ValueError", .type "Exception", .type "BaseException", .type "object"]) PySem.F.excBase_ValueError PySem.F.store_ValueError e3 (.inr (.inl rfl)) (by decide +kernel) F9
      c4 := He.glo_ok X G (c.fact 21 rfl)
      h4 := rfl
      x4 := exB_ok (bm := [.type "ValueError", .type "Exception", .type "BaseException", .type "object"]) PySem.F.excBase_ValueError PySem.F.store_ValueError e4 (.inl rfl) (by decide +kernel) F10
      c5 := He.glo_ok X G (c.fact 22 rfl)
      h5 := rfl
      x5 := exB_ok (bm := [.type "ValueError", .type "Exception", .type "BaseException", .type "object"]) PySem.F.excBase_ValueError PySem.F.store_ValueError e5 (.inl rfl) (by decide +kernel) F11
      c6 := He.glo_ok X G (c.fact 23 rfl)
      h6 := rfl
      x6 := exB_ok (bm := [.type "ValueError", .type "Exception", .type "BaseException", .type "object"]) PySem.F.excBase_ValueError PySem.F.store_ValueError e6 (.inl rfl) (by decide +kernel) F12
      c7 := He.glo_ok X G (c.fact 24 rfl)
      h7 := rfl
      x7 := exB_ok (bm := [.type "ValueError", .type "Exception", .type "BaseException", .type "object"]) PySem.F.excBase_ValueError PySem.F.store_ValueError e7 (.inr (.inl rfl)) (by decide +kernel) F13
      c8 := He.glo_ok X G (c.fact 25 rfl)
      h8 := rfl
      x8 := exB_ok (bm := [.type "ValueError", .type "Exception", .type "BaseException", .type "object"]) PySem.F.excBase_ValueError PySem.F.store_ValueError e8 (.inl rfl) (by decide +kernel) F14
      c9 := He.glo_ok X G (c.fact 26 rfl)
      h9 := rfl
      x9 := exB_ok (bm := [.type "ValueError", .type "Exception", .type "BaseException", .type "object"]) PySem.F.excBase_ValueError PySem.F.store_ValueError e9 (.inr (.inr (.inl rfl))) (by decide +kernel) F15
      c10 := He.glo_ok X G (c.fact 27 rfl)
      h10 := rfl
      x10 := exB_ok (bm := [.type "OverflowError", .type "ArithmeticError", .type "Exception", .type "BaseException", .type "object"]) PySem.F.excBase_OverflowError PySem.F.store_OverflowError e10 (.inr (.inr (.inr rfl))) (by decide +kernel) F16
      c11 := He.glo_ok X G (c.fact 28 rfl) }
  · exact fun s u => FunD.bindsA (ps := ["script"]) F5 (fun _ _ _ _ _ _ us hl => match us, hl with | [_], _ => rfl) s [u] rfl
end Lw
open PySem PySem.W PySem.Calls PyProof.Rows
theorem Lw.bits_ok {z : Int} (h : Builtin.Int.intBits z ≤ 1048576) : DL.bitsOk z := by
  unfold DL.bitsOk
  by_cases e : z = 0
  · subst e
    exact Nat.pow_pos (by decide)
  · have h2 : z.natAbs.log2 + 1 ≤ 1048576 := by
      unfold Builtin.Int.intBits at h
      rw [if_neg (by simpa using e)] at h
      exact h
    exact Nat.lt_of_lt_of_le Nat.lt_log2_self (Nat.pow_le_pow_right (by decide) (by omega))
theorem PySem.Challenge.cw_handedvotes_k70_errors_holds : PySem.Challenge.rw_handedvotes_k70_errors.Holds := by
  w_on; o_law
  refine HandSHeadRun.head_any (r := OpenLaw.row PySem.Challenge.rw_handedvotes_k70_errors) (q := view (OpenLaw.row PySem.Challenge.rw_handedvotes_k70_errors).prog [19]) (H := Lw.hk) (ob := Lw.ob) (M := 20000) (loose := Lw.loose) (d := HandSHeadRun.topDef (OpenLaw.row PySem.Challenge.rw_handedvotes_k70_errors).prog 19) (kwd := []) Lw.ob_eq
    (by kernel_rfl) (fun s => by kernel_rfl) Lw.run (by kernel_rfl) (by kernel_rfl) (by kernel_rfl) (by rfl) (by first | assumption | decide +kernel) (by decide +kernel) ⟨rfl, rfl, rfl, rfl, rfl, by decide +kernel⟩ ?hw ?hc
  case hw => w_witness2
  case hc =>
    refine Att.attach_callB (l := PySem.Challenge.rw_handedvotes_k70_errors) (n := 63) rfl (by kernel_rfl) fun w s₀ s₁ mg mb fa o pm cd doc a vs ns G Y ho hd hcd hmg hobj hints hlen hbits hg => ?_
    obtain ⟨K, KX, hb, c⟩ := Y
    obtain ⟨f, fd, fI, M, e5, b5⟩ := Lw.facts KX G.T.g hb c
    have hmg2 : mg ("law" : PySem.Str) = some (.ref fa) := by
      have e : (HandSHeadRun.topDef (OpenLaw.row PySem.Challenge.rw_handedvotes_k70_errors).prog 19).name = ("law" : PySem.Str) := by kernel_rfl
      rw [← e]
      exact hmg
    have e := hmg2.symm.trans (He.glo_ok KX G.T.g (c.fact 5 (f := .glo "law") rfl))
    have ea : fa = f 5 := by rw [e5]; exact Value.ref.inj (Option.some.inj e)
    subst ea
    exact DL.law_callG (L := Lw.Lk K) (k := 4) (m := Lw.m5) (x := "script") rfl KX G.T.g G.T.b G.T.builtins G.T.nolimit hg hobj hints (Nat.le_trans hlen (by decide)) ⟨rfl, by decide, by decide⟩ (fun base _ _ => Lw.g5 M) b5
      (Lw.law_m hlen fun z hz => Lw.bits_ok (hbits z hz))
