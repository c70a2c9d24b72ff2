import PyProof.Rows.All
import Wide.All
import OpenK.AllK
import Wide.FinOn
import HandS.ForMost
import HandS.ForExc
import HandS.Wide
import HandS.CallSlots
import HandS.TupSets
import HandS.Lambda
import HandS.Deep
import HandS.IsInst
import HandS.Gcd
import HandS.Style
import HandS.NoneIn
import HandS.Walk
import HandS.ExcOwn
import HandS.CallLocal
import HandS.Conv
import PyProof.IsiStr
import PyProof.FactsAll.object
import HandS.Zip
import HandS.ExcInit
import HandS.SortInts
import PyProof.Draws
import PyProof.EnumMake
import HandS.ExcField
import HandS.HeadHook2
import HandS.ListItems
import HandS.Small
import HandS.RaiseMore
import PyProof.ReprRoads
import HandS.SetFor
import HandS.Strs
import HandS.HeadEnd
import HandS.TryMany
import HandS.Head0
import HandS.Head1
import HandS.Head2
import HandS.HeadHook1
import HandS.EndTab
import HandS.HeadHook3
import HandS.HeadHook4
import HandS.Head3
import PySem.Challenge.RW_quickbythen_k02_whole_comers
set_option Elab.async false
section
set_option Elab.async false
set_option linter.all false
set_option maxRecDepth 100000
/-! Values at any depth, and programs upon them: a layer over HandS. -/
namespace DP
open PySem PySem.Spec PyProof.Rows L2

/-- a value at any depth -/
inductive T where
  | non | bl (b : Bool) | int (i : Int) | str (x : Str)
  | tup (xs : List T) | lst (xs : List T) | dct (kvs : List (Key × T))
  | obj (C : Addr) (fs : List (Str × T)) | fn (a : Addr) | pn (a : Addr) (xs : List T)
  deriving Inhabited

abbrev KF := PySem.W.Frag
abbrev Sg := List (Option V)

mutual
/-- v stands for t, by what the heap F holds -/
inductive Rep (K : KF) (F : Hp) : V → T → Prop
  | non : Rep K F .non .non
  | bl (b : Bool) : Rep K F (.bl b) (.bl b)
  | int (i : Int) : Rep K F (.int i) (.int i)
  | str (x : Str) : Rep K F (.str x) (.str x)
  | tup {a : Addr} {vs : List V} {ts : List T} : SqT K F a vs → Reps K F vs ts → Rep K F (.ref a) (.tup ts)
  | lst {a : Addr} {vs : List V} {ts : List T} : F a = some (.lst vs) → Reps K F vs ts → Rep K F (.ref a) (.lst ts)
  | dct {a : Addr} {vs : List (Key × V)} {ts : List (Key × T)} : F a = some (.dK vs) → RepK K F vs ts → Rep K F (.ref a) (.dct ts)
  | obj {a dx C : Addr} {vs : List (Str × V)} {ts : List (Str × T)} : F a = some (.ins C dx vs) → RepF K F vs ts → Rep K F (.ref a) (.obj C ts)
  | fn {a : Addr} : PySem.W.typeIn K (.ref a) = some (.type "function") → Rep K F (.ref a) (.fn a)
  | pn {a : Addr} {vs : List V} {ts : List T} : F a = some (.lst vs) → Reps K F vs ts → Rep K F (.ref a) (.pn a ts)
inductive Reps (K : KF) (F : Hp) : List V → List T → Prop
  | nil : Reps K F [] []
  | cons {v : V} {vs : List V} {t : T} {ts : List T} : Rep K F v t → Reps K F vs ts → Reps K F (v :: vs) (t :: ts)
inductive RepK (K : KF) (F : Hp) : List (Key × V) → List (Key × T) → Prop
  | nil : RepK K F [] []
  | cons {k : Key} {v : V} {vs : List (Key × V)} {t : T} {ts : List (Key × T)} : Rep K F v t → RepK K F vs ts → RepK K F ((k, v) :: vs) ((k, t) :: ts)
inductive RepF (K : KF) (F : Hp) : List (Str × V) → List (Str × T) → Prop
  | nil : RepF K F [] []
  | cons {k : Str} {v : V} {vs : List (Str × V)} {t : T} {ts : List (Str × T)} : Rep K F v t → RepF K F vs ts → RepF K F ((k, v) :: vs) ((k, t) :: ts)
end

/-- what was known is known -/
abbrev Ext (F F' : Hp) : Prop := Same F F'

mutual
theorem Rep.ext {K : KF} {F F' : Hp} (e : Ext F F') : ∀ {t : T} {v : V}, Rep K F v t → Rep K F' v t
  | _, _, .non => .non
  | _, _, .bl b => .bl b
  | _, _, .int i => .int i
  | _, _, .str x => .str x
  | _, _, .tup (vs := vs) h r => .tup (by
      rcases h with (h | ⟨o, h⟩) | h
      · exact .inl (.inl (e _ _ h))
      · exact .inl (.inr ⟨o, e _ _ h⟩)
      · exact .inr h) (Reps.ext e r)
  | _, _, .lst h r => .lst (e _ _ h) (Reps.ext e r)
  | _, _, .dct h r => .dct (e _ _ h) (RepK.ext e r)
  | _, _, .obj h r => .obj (e _ _ h) (RepF.ext e r)
  | _, _, .fn h => .fn h
  | _, _, .pn h r => .pn (e _ _ h) (Reps.ext e r)
theorem Reps.ext {K : KF} {F F' : Hp} (e : Ext F F') : ∀ {ts : List T} {vs : List V}, Reps K F vs ts → Reps K F' vs ts
  | _, _, .nil => .nil
  | _, _, .cons h r => .cons (Rep.ext e h) (Reps.ext e r)
theorem RepK.ext {K : KF} {F F' : Hp} (e : Ext F F') : ∀ {ts : List (Key × T)} {vs : List (Key × V)}, RepK K F vs ts → RepK K F' vs ts
  | _, _, .nil => .nil
  | _, _, .cons h r => .cons (Rep.ext e h) (RepK.ext e r)
theorem RepF.ext {K : KF} {F F' : Hp} (e : Ext F F') : ∀ {ts : List (Str × T)} {vs : List (Str × V)}, RepF K F vs ts → RepF K F' vs ts
  | _, _, .nil => .nil
  | _, _, .cons h r => .cons (Rep.ext e h) (RepF.ext e r)
end
theorem Reps.length {K : KF} {F : Hp} : ∀ {vs : List V} {ts : List T}, Reps K F vs ts → vs.length = ts.length
  | _, _, .nil => rfl
  | _, _, .cons _ r => by simp [Reps.length r]
theorem Reps.get {K : KF} {F : Hp} : ∀ {vs : List V} {ts : List T} {i : Nat} {v : V}, Reps K F vs ts → vs[i]? = some v → ∃ t, ts[i]? = some t ∧ Rep K F v t
  | _, _, _, _, .nil, e => by simp at e
  | _, _, 0, _, .cons h _, e => by simp at e; subst e; exact ⟨_, rfl, h⟩
  | _, _, i + 1, v, .cons _ r, e => by simpa using Reps.get (i := i) (v := v) r (by simpa using e)
theorem Reps.get' {K : KF} {F : Hp} : ∀ {vs : List V} {ts : List T} {i : Nat} {t : T}, Reps K F vs ts → ts[i]? = some t → ∃ v, vs[i]? = some v ∧ Rep K F v t
  | _, _, _, _, .nil, e => by simp at e
  | _, _, 0, _, .cons h _, e => by simp at e; subst e; exact ⟨_, rfl, h⟩
  | _, _, i + 1, t, .cons _ r, e => by simpa using Reps.get' (i := i) (t := t) r (by simpa using e)
theorem Reps.append {K : KF} {F : Hp} : ∀ {vs ws : List V} {ts us : List T}, Reps K F vs ts → Reps K F ws us → Reps K F (vs ++ ws) (ts ++ us)
  | _, _, _, _, .nil, s => s
  | _, _, _, _, .cons h r, s => .cons h (Reps.append r s)
theorem Reps.take {K : KF} {F : Hp} : ∀ {vs : List V} {ts : List T} (n : Nat), Reps K F vs ts → Reps K F (vs.take n) (ts.take n)
  | _, _, 0, _ => .nil
  | _, _, _ + 1, .nil => .nil
  | _, _, n + 1, .cons h r => .cons h (Reps.take n r)
theorem Reps.drop {K : KF} {F : Hp} : ∀ {vs : List V} {ts : List T} (n : Nat), Reps K F vs ts → Reps K F (vs.drop n) (ts.drop n)
  | _, _, 0, r => r
  | _, _, _ + 1, .nil => .nil
  | _, _, n + 1, .cons _ r => Reps.drop n r
theorem Reps.one {K : KF} {F : Hp} {v : V} {t : T} (h : Rep K F v t) : Reps K F [v] [t] := .cons h .nil

/-! ### programs: draws, errors -/
inductive M (α : Type) where
  | ret (a : α)
  | draw (n : Int) (k : Int → M α)
  | exc (c : Str) (t : T)
  | stuck

def M.bind {α β : Type} : M α → (α → M β) → M β
  | .ret a, f => f a
  | .draw n k, f => .draw n fun d => (k d).bind f
  | .exc c t, _ => .exc c t
  | .stuck, _ => .stuck

/-- all runs with at most b draws end so -/
def M.wp {α : Type} : M α → Nat → (Nat → α → Prop) → (Nat → Str → T → Prop) → Prop
  | .ret a, b, Q, _ => Q b a
  | .draw n k, b, Q, E => 0 < n ∧ 0 < b ∧ ∀ d, 0 ≤ d → d < n → (k d).wp (b - 1) Q E
  | .exc c t, b, _, E => E b c t
  | .stuck, _, _, _ => False

theorem M.wp_mono {α : Type} : ∀ {m : M α} {b : Nat} {Q Q' : Nat → α → Prop} {E E' : Nat → Str → T → Prop}, m.wp b Q E → (∀ b a, Q b a → Q' b a) → (∀ b c t, E b c t → E' b c t) → m.wp b Q' E'
  | .ret _, _, _, _, _, _, h, q, _ => q _ _ h
  | .draw _ k, _, _, _, _, _, h, q, e => ⟨h.1, h.2.1, fun d h1 h2 => M.wp_mono (m := k d) (h.2.2 d h1 h2) q e⟩
  | .exc _ _, _, _, _, _, _, h, _, e => e _ _ _ h
  | .stuck, _, _, _, _, _, h, _, _ => h.elim
theorem M.wp_bind {α β : Type} : ∀ {m : M α} {f : α → M β} {b : Nat} {Q : Nat → β → Prop} {E : Nat → Str → T → Prop}, (m.bind f).wp b Q E ↔ m.wp b (fun b a => (f a).wp b Q E) E
  | .ret _, _, _, _, _ => Iff.rfl
  | .draw n k, f, b, Q, E => by
    show (0 < n ∧ 0 < b ∧ ∀ d, 0 ≤ d → d < n → ((k d).bind f).wp (b - 1) Q E) ↔ (0 < n ∧ 0 < b ∧ ∀ d, 0 ≤ d → d < n → (k d).wp (b - 1) (fun b a => (f a).wp b Q E) E)
    constructor
    · exact fun h => ⟨h.1, h.2.1, fun d h1 h2 => M.wp_bind.mp (h.2.2 d h1 h2)⟩
    · exact fun h => ⟨h.1, h.2.1, fun d h1 h2 => M.wp_bind.mpr (h.2.2 d h1 h2)⟩
  | .exc _ _, _, _, _, _ => Iff.rfl
  | .stuck, _, _, _, _ => Iff.rfl
instance : Monad M where
  pure := .ret
  bind := .bind

/-- a set's members: tuples of ints that are known -/
structure MemP (K : KF) (F : Hp) (L : List (Addr × List Int)) (ks : List (List Int)) : Prop where
  mem : ∀ p ∈ L, SqT K F p.1 (p.2.map V.int)
  perm : (L.map (·.2)).Perm ks
theorem sqT_ext' {K : KF} {F F' : Hp} (e : Ext F F') {a : Addr} {vs : List V} (h : SqT K F a vs) : SqT K F' a vs := by
  rcases h with (h | ⟨o, h⟩) | h
  · exact .inl (.inl (e _ _ h))
  · exact .inl (.inr ⟨o, e _ _ h⟩)
  · exact .inr h
theorem MemP.ext {K : KF} {F F' : Hp} {L : List (Addr × List Int)} {ks : List (List Int)} (m : MemP K F L ks) (e : Ext F F') : MemP K F' L ks := ⟨fun p h => sqT_ext' e (m.mem p h), m.perm⟩

/-! ### a def's state -/
/-- what a slot holds: nothing that is known; a value; a list, a dict of the def's own, which may still change; the stream -/
inductive Sl where
  | any | val (t : T) | own (ts : List T) | ownD (kvs : List (Key × T)) | ownS (ks : List (List Int)) | strm | pin
  deriving Inhabited
abbrev Env' := List Sl

/-- what stays through a def's run: the heap at the entry, what was known of it, the stream's two objects, the errors' classes and fields -/
structure Cn where
  K : KF
  H0 : Hp
  F0 : Hp
  S : Option (Addr × Addr)
  X : Str → Addr × Str
  me : Option Addr
  so : Addr → List (Addr × List Int) → HO
  T : List (Addr × Str) := []

/-- what the def may change besides its own: the stream's two lists, the tables of its lambdas' code -/
def Cn.inS (g : Cn) (a : Addr) : Prop := (∃ s l, g.S = some (s, l) ∧ (a = s ∨ a = l)) ∨ ∃ q, (a, q) ∈ g.T
/-- a table of code: what it tells is known, and bears the name q -/
def TabAt (F H : Hp) (P : Addr) (q : Str) : Prop := ∃ ps : Array Value, H P = some (.tbl ps) ∧ TriplesOk ps.toList ∧ ∀ (pos : Pos) (cv : Value), codeAmong pos ps.toList = some cv → ∃ c, cv = .ref c ∧ F c = some (LamX.CodeO c q)
theorem TabAt.ext {F F' H H' : Hp} {P : Addr} {q : Str} (t : TabAt F H P q) (e : Ext F F') (k : ∀ o, H P = some o → H' P = some o) : TabAt F' H' P q := by
  obtain ⟨ps, h1, h2, h3⟩ := t
  refine ⟨ps, k _ h1, h2, fun pos cv h => ?_⟩
  obtain ⟨c, e1, e2⟩ := h3 pos cv h
  exact ⟨c, e1, e _ _ e2⟩
theorem TabAt.has {F H : Hp} {P : Addr} {q : Str} (t : TabAt F H P q) : ∃ ps, H P = some (.tbl ps) := let ⟨ps, h, _⟩ := t; ⟨ps, h⟩
/-- the stream: the cells that are left, the cell that is drawn from, the number of draws, a mixed number -/
def StreamAt (H : Hp) (s l : Addr) (b : Nat) : Prop := ∃ (ns : List Int) (c n m : Int), H s = some (.lst [.ref l, .int c, .int n, .int m]) ∧ H l = some (.lst (ns.map V.int)) ∧
  0 ≤ c ∧ 0 ≤ n ∧ n + b ≤ 10 ^ 14 ∧ 0 ≤ m ∧ m < 2147483647

inductive SlOk (g : Cn) (F H : Hp) : Option V → Sl → Prop
  | any (v : Option V) : SlOk g F H v .any
  | val {v : V} {t : T} : Rep g.K F v t → SlOk g F H (some v) (.val t)
  | own {a : Addr} {vs : List V} {ts : List T} : H a = some (.lst vs) → F a = none → g.H0 a = none → ¬ g.inS a → Reps g.K F vs ts → SlOk g F H (some (.ref a)) (.own ts)
  | ownD {a : Addr} {vs : List (Key × V)} {ts : List (Key × T)} : H a = some (.dK vs) → F a = none → g.H0 a = none → ¬ g.inS a → RepK g.K F vs ts → SlOk g F H (some (.ref a)) (.ownD ts)
  | ownS {a : Addr} {L : List (Addr × List Int)} {ks : List (List Int)} : H a = some (g.so a L) → F a = none → g.H0 a = none → ¬ g.inS a → MemP g.K F L ks → SlOk g F H (some (.ref a)) (.ownS ks)
  | strm {s l : Addr} : g.S = some (s, l) → SlOk g F H (some (.ref s)) .strm
  | pin {a : Addr} : g.me = some a → SlOk g F H (some (.ref a)) .pin
def Sl.isOwn : Sl → Bool
  | .own _ => true
  | .ownD _ => true
  | .ownS _ => true
  | _ => false

structure SR (g : Cn) (F H : Hp) (σ : Sg) (ρ : Env') (b : Nat) : Prop where
  sub : Ext F H
  f0 : Ext g.F0 F
  keep : ∀ a o, g.H0 a = some o → ¬ g.inS a → H a = some o
  new : ∀ a o, g.H0 a = some o → g.F0 a = none → F a = none
  slots : Paired (SlOk g F H) σ ρ
  dis : ∀ (i j : Nat) (a : Addr) (x y : Sl), i ≠ j → ρ[i]? = some x → ρ[j]? = some y → x.isOwn = true → y.isOwn = true → σ[i]? = some (some (.ref a)) → σ[j]? ≠ some (some (.ref a))
  strm : ∀ s l, g.S = some (s, l) → F s = none ∧ F l = none ∧ s ≠ l ∧ StreamAt H s l b
  tabs : ∀ p q, (p, q) ∈ g.T → F p = none ∧ TabAt F H p q

theorem Paired.get1 {α β : Type} {R : α → β → Prop} : ∀ {xs : List α} {ys : List β} {i : Nat} {y : β}, Paired R xs ys → ys[i]? = some y → ∃ x, xs[i]? = some x ∧ R x y
  | _, _, _, _, .nil, e => by simp at e
  | _, _, 0, _, .cons r _, e => by simp at e; subst e; exact ⟨_, rfl, r⟩
  | _, _, i + 1, y, .cons _ t, e => by simpa using Paired.get1 (i := i) (y := y) t (by simpa using e)
theorem Paired.set2 {α β : Type} {R : α → β → Prop} {x : α} {y : β} (r : R x y) : ∀ {xs : List α} {ys : List β} (i : Nat), Paired R xs ys → Paired R (xs.set i x) (ys.set i y)
  | _, _, _, .nil => .nil
  | _, _, 0, .cons _ t => .cons r t
  | _, _, i + 1, .cons q t => .cons q (Paired.set2 r i t)
theorem Paired.imp2 {α β : Type} {R R' : α → β → Prop} : ∀ {xs : List α} {ys : List β}, Paired R xs ys → (∀ (i : Nat) (x : α) (y : β), xs[i]? = some x → ys[i]? = some y → R x y → R' x y) → Paired R' xs ys
  | _, _, .nil, _ => .nil
  | _, _, .cons r t, f => .cons (f 0 _ _ rfl rfl r) (Paired.imp2 t fun i x y e1 e2 => f (i + 1) x y (by simpa using e1) (by simpa using e2))

theorem SR.there {g : Cn} {F H : Hp} {σ : Sg} {ρ : Env'} {b : Nat} (s : SR g F H σ ρ b) {a : Addr} {o : HO} (h : g.H0 a = some o) : ∃ u, H a = some u := by
  by_cases hs : g.inS a
  · rcases hs with ⟨p, l, e, z⟩ | ⟨q, hq⟩
    · obtain ⟨_, _, _, ns, c, n, m, q1, q2, _⟩ := s.strm p l e
      rcases z with rfl | rfl
      · exact ⟨_, q1⟩
      · exact ⟨_, q2⟩
    · obtain ⟨ps, e⟩ := (s.tabs a q hq).2.has
      exact ⟨_, e⟩
  · exact ⟨_, s.keep a o h hs⟩
theorem SR.fresh {g : Cn} {F H : Hp} {σ : Sg} {ρ : Env'} {b : Nat} (s : SR g F H σ ρ b) {p : Addr} (h : H p = none) : F p = none := s.sub.free h
theorem Ext.upd {F : Hp} {p : Addr} {o : HO} (h : F p = none) : Ext F (upd F p o) := fun a u e => by rw [upd_ne (ne_of_none e h)]; exact e
/-- a new object that is known from now on -/
theorem SR.grow {g : Cn} {F H : Hp} {σ : Sg} {ρ : Env'} {b : Nat} (s : SR g F H σ ρ b) {p : Addr} (o : HO) (h : H p = none) : SR g (upd F p o) (upd H p o) σ ρ b where
  sub := fun a u e => by
    by_cases ha : a = p
    · subst ha; rw [upd_same] at e ⊢; exact e
    · rw [upd_ne ha] at e ⊢; exact s.sub a u e
  f0 := fun a u e => Ext.upd (s.fresh h) a u (s.f0 a u e)
  keep := fun a u e n => by
    have q := s.keep a u e n
    rw [upd_ne (ne_of_none q h)]
    exact q
  new := fun a u e n => by
    obtain ⟨w, q⟩ := s.there e
    rw [upd_ne (ne_of_none q h)]
    exact s.new a u e n
  slots := Paired.imp2 s.slots fun i v x _ _ r => by
    have e := Ext.upd (o := o) (s.fresh h)
    cases r with
    | any v => exact .any v
    | val r => exact .val (r.ext e)
    | own h1 h2 h3 h4 r => exact .own (by rw [upd_ne (ne_of_none h1 h)]; exact h1) (by rw [upd_ne (ne_of_none h1 h)]; exact h2) h3 h4 (r.ext e)
    | ownD h1 h2 h3 h4 r => exact .ownD (by rw [upd_ne (ne_of_none h1 h)]; exact h1) (by rw [upd_ne (ne_of_none h1 h)]; exact h2) h3 h4 (r.ext e)
    | ownS h1 h2 h3 h4 r => exact .ownS (by rw [upd_ne (ne_of_none h1 h)]; exact h1) (by rw [upd_ne (ne_of_none h1 h)]; exact h2) h3 h4 (r.ext e)
    | strm h => exact .strm h
    | pin h => exact .pin h
  dis := s.dis
  strm := fun p1 p2 e => by
    obtain ⟨h1, h2, h3, ns, c, n, m, q1, q2, q3⟩ := s.strm p1 p2 e
    exact ⟨by rw [upd_ne (ne_of_none q1 h)]; exact h1, by rw [upd_ne (ne_of_none q2 h)]; exact h2, h3, ns, c, n, m, by rw [upd_ne (ne_of_none q1 h)]; exact q1, by rw [upd_ne (ne_of_none q2 h)]; exact q2, q3⟩
  tabs := fun p1 q1 e => by
    obtain ⟨h1, h2⟩ := s.tabs p1 q1 e
    obtain ⟨ps, hp⟩ := h2.has
    exact ⟨by rw [upd_ne (ne_of_none hp h)]; exact h1, h2.ext (Ext.upd (s.fresh h)) fun o e => by rw [upd_ne (ne_of_none e h)]; exact e⟩
/-- a new object that is not known (as a list that may still change, ahead of its slot) -/
theorem SR.growU {g : Cn} {F H : Hp} {σ : Sg} {ρ : Env'} {b : Nat} (s : SR g F H σ ρ b) {p : Addr} (o : HO) (h : H p = none) : SR g F (upd H p o) σ ρ b where
  sub := fun a u e => by rw [upd_ne (ne_of_none (s.sub a u e) h)]; exact s.sub a u e
  f0 := s.f0
  keep := fun a u e n => by
    have q := s.keep a u e n
    rw [upd_ne (ne_of_none q h)]
    exact q
  new := s.new
  slots := Paired.imp2 s.slots fun i v x _ _ r => by
    cases r with
    | any v => exact .any v
    | val r => exact .val r
    | own h1 h2 h3 h4 r => exact .own (by rw [upd_ne (ne_of_none h1 h)]; exact h1) h2 h3 h4 r
    | ownD h1 h2 h3 h4 r => exact .ownD (by rw [upd_ne (ne_of_none h1 h)]; exact h1) h2 h3 h4 r
    | ownS h1 h2 h3 h4 r => exact .ownS (by rw [upd_ne (ne_of_none h1 h)]; exact h1) h2 h3 h4 r
    | strm h => exact .strm h
    | pin h => exact .pin h
  dis := s.dis
  strm := fun p1 p2 e => by
    obtain ⟨h1, h2, h3, ns, c, n, m, q1, q2, q3⟩ := s.strm p1 p2 e
    exact ⟨h1, h2, h3, ns, c, n, m, by rw [upd_ne (ne_of_none q1 h)]; exact q1, by rw [upd_ne (ne_of_none q2 h)]; exact q2, q3⟩
  tabs := fun p1 q1 e => by
    obtain ⟨h1, h2⟩ := s.tabs p1 q1 e
    exact ⟨h1, h2.ext (Same.refl _) fun o e => by rw [upd_ne (ne_of_none e h)]; exact e⟩
theorem SR.tabK {g : Cn} {F H F' H' : Hp} {σ : Sg} {ρ : Env'} {b : Nat} (s : SR g F H σ ρ b) (e : Ext F F') (k : ∀ p q, (p, q) ∈ g.T → (∀ o, H p = some o → H' p = some o) ∧ F' p = none) : ∀ p q, (p, q) ∈ g.T → F' p = none ∧ TabAt F' H' p q :=
  fun p q m => ⟨(k p q m).2, (s.tabs p q m).2.ext e (k p q m).1⟩
theorem Cn.tabNe {g : Cn} {p a : Addr} {q : Str} (h : ¬ g.inS a) (m : (p, q) ∈ g.T) : p ≠ a := fun z => h (by rw [← z]; exact .inr ⟨q, m⟩)
theorem Cn.tabIn {g : Cn} {p : Addr} {q : Str} (m : (p, q) ∈ g.T) : g.inS p := .inr ⟨q, m⟩
end DP
end
section
set_option Elab.async false
set_option linter.all false
set_option maxRecDepth 100000
namespace DP
open PySem PySem.Spec PyProof.Rows L2

def OwnAt (σ : Sg) (ρ : Env') (a : Addr) : Prop := ∃ (i : Nat) (x : Sl), ρ[i]? = some x ∧ x.isOwn = true ∧ σ[i]? = some (some (V.ref a))

/-- from (F, H) to (F', H'), the slots being as they are -/
structure Step (g : Cn) (σ : Sg) (ρ : Env') (F H F' H' : Hp) (b : Nat) : Prop where
  ext : Ext F F'
  sr : SR g F' H' σ ρ b
  kp : ∀ a o, H a = some o → ¬ g.inS a → ¬ OwnAt σ ρ a → H' a = some o
  new : ∀ a o, H a = some o → F a = none → F' a = none

section
variable {g : Cn} {σ : Sg} {ρ : Env'} {F H F' H' F1 H1 : Hp} {b b' : Nat}
theorem Step.refl (s : SR g F H σ ρ b) : Step g σ ρ F H F H b := ⟨Same.refl _, s, fun _ _ h _ _ => h, fun _ _ _ h => h⟩
theorem SR.live (s : SR g F H σ ρ b) {a : Addr} (h : g.inS a ∨ OwnAt σ ρ a) : ∃ o, H a = some o := by
  rcases h with (⟨p, l, e, z⟩ | ⟨q, hq⟩) | ⟨i, x, h1, h2, h3⟩
  · obtain ⟨_, _, _, ns, c, n, m, q1, q2, _⟩ := s.strm p l e
    rcases z with rfl | rfl
    · exact ⟨_, q1⟩
    · exact ⟨_, q2⟩
  · obtain ⟨ps, e⟩ := (s.tabs a q hq).2.has
    exact ⟨_, e⟩
  · obtain ⟨v, hv, r⟩ := Paired.get1 s.slots h1
    rw [h3] at hv
    cases hv
    cases r with
    | any v => cases h2
    | val r => cases h2
    | own q _ _ _ _ => exact ⟨_, q⟩
    | ownD q _ _ _ _ => exact ⟨_, q⟩
    | ownS q _ _ _ _ => exact ⟨_, q⟩
    | strm _ => cases h2
    | pin _ => cases h2
theorem Step.trans (s : Step g σ ρ F H F1 H1 b) (t : Step g σ ρ F1 H1 F' H' b') : Step g σ ρ F H F' H' b' :=
  ⟨s.ext.trans t.ext, t.sr, fun a o h n1 n2 => t.kp a o (s.kp a o h n1 n2) n1 n2, fun a o h n => by
    by_cases hs : g.inS a ∨ OwnAt σ ρ a
    · obtain ⟨u, q⟩ := s.sr.live hs
      exact t.new a u q (s.new a o h n)
    · exact t.new a o (s.kp a o h (fun z => hs (.inl z)) fun z => hs (.inr z)) (s.new a o h n)⟩
theorem SR.step (s : SR g F H σ ρ b) {p : Addr} (o : HO) (h : H p = none) : Step g σ ρ F H (upd F p o) (upd H p o) b :=
  ⟨Ext.upd (s.fresh h), s.grow o h, fun a u e _ _ => by rw [upd_ne (ne_of_none e h)]; exact e, fun a u e n => by rw [upd_ne (ne_of_none e h)]; exact n⟩
theorem SR.stepU (s : SR g F H σ ρ b) {p : Addr} (o : HO) (h : H p = none) : Step g σ ρ F H F (upd H p o) b :=
  ⟨Same.refl _, s.growU o h, fun a u e _ _ => by rw [upd_ne (ne_of_none e h)]; exact e, fun a u e n => n⟩
end

/-! ### judgements -/
theorem pe_imp {X : Cx} {e : Expr} {t t' : TE} (h : PE X e t) (i : ∀ σ H Q, t' σ H Q → t σ H Q) : PE X e t' := ⟨fun pins s σ H Q I hw => h.run pins s σ H Q I (i σ H Q hw)⟩
theorem pt_imp {X : Cx} {e : Expr} {t t' : TT} (h : PT X e t) (i : ∀ σ H Q, t' σ H Q → t σ H Q) : PT X e t' := ⟨fun pins s σ H Q I hw => h.run pins s σ H Q I (i σ H Q hw)⟩
theorem pa_imp {X : Cx} {es : List Expr} {t t' : TA} (h : PA X es t) (i : ∀ σ H Q, t' σ H Q → t σ H Q) : PA X es t' := ⟨fun pos pins s σ H Q I hw => h.run pos pins s σ H Q I (i σ H Q hw)⟩
theorem ps_imp {X : Cx} {st : Stmt} {t t' : TS} (h : PS X st t) (i : ∀ D σ H, t' D σ H → t D σ H) : PS X st t' := ⟨fun pins s σ H D I hw => h.run pins s σ H D I (i D σ H hw)⟩
theorem pss_imp {X : Cx} {st : List Stmt} {t t' : TS} (h : PSs X st t) (i : ∀ D σ H, t' D σ H → t D σ H) : PSs X st t' := ⟨fun pins s σ H D I hw => h.run pins s σ H D I (i D σ H hw)⟩

/-- what is wanted of an error that is raised within an expression -/
def EX (g : Cn) (W : WX) (σ : Sg) (ρ : Env') (F H : Hp) : Nat → Str → T → Prop := fun b c t => ∀ d v H' F', Step g σ ρ F H F' H' b → H' d = some (.xd [((g.X c).2, v)]) → Rep g.K F' v t → W (.ref (g.X c).1) (some d) σ H'
theorem EX.step {g : Cn} {W : WX} {σ : Sg} {ρ : Env'} {F H F1 H1 : Hp} {b : Nat} (s : Step g σ ρ F H F1 H1 b) : ∀ b' c t, EX g W σ ρ F H b' c t → EX g W σ ρ F1 H1 b' c t := fun _ _ _ h d v H' F' s1 => h d v H' F' (s.trans s1)

/-- an expression's value -/
def tD (g : Cn) (W : WX) (f : Env' → M T) : TE := fun σ H Q => ∃ ρ F b, SR g F H σ ρ b ∧ (f ρ).wp b (fun b' t => ∀ v H' F', Step g σ ρ F H F' H' b' → Rep g.K F' v t → Q v H') (EX g W σ ρ F H)
/-- a test -/
def tDT (g : Cn) (W : WX) (f : Env' → M Bool) : TT := fun σ H Q => ∃ ρ F b, SR g F H σ ρ b ∧ (f ρ).wp b (fun b' t => ∀ H' F', Step g σ ρ F H F' H' b' → Q t H') (EX g W σ ρ F H)
/-- an argument list -/
def tDA (g : Cn) (W : WX) (f : Env' → M (List T)) : TA := fun σ H Q => ∃ ρ F b, SR g F H σ ρ b ∧ (f ρ).wp b (fun b' ts => ∀ vs H' F', Step g σ ρ F H F' H' b' → Reps g.K F' vs ts → Q vs H') (EX g W σ ρ F H)
/-- the list (true) or tuple of p stands at a, whatever is reckoned meanwhile -/
def Stab (g : Cn) (σ : Sg) (ρ : Env') (F H : Hp) (a : Addr) (p : Bool × List T) : Prop := ∀ F' H' b', Step g σ ρ F H F' H' b' → ∃ vs, (if p.1 = true then H' a = some (.lst vs) else SqT g.K F' a vs) ∧ Reps g.K F' vs p.2
/-- a list (true) or a tuple that is read -/
def tDL (g : Cn) (W : WX) (f : Env' → M (Bool × List T)) : TE := fun σ H Q => ∃ ρ F b, SR g F H σ ρ b ∧ (f ρ).wp b (fun b' t => ∀ a H' F', Step g σ ρ F H F' H' b' → Stab g σ ρ F' H' a t → Q (.ref a) H') (EX g W σ ρ F H)
/-- a new list, not known yet -/
def tDN (g : Cn) (W : WX) (f : Env' → M (List T)) : TE := fun σ H Q => ∃ ρ F b, SR g F H σ ρ b ∧ (f ρ).wp b (fun b' ts => ∀ p vs H1 H' F', Step g σ ρ F H F' H1 b' → H1 p = none → H' = upd H1 p (.lst vs) → Reps g.K F' vs ts → Q (.ref p) H') (EX g W σ ρ F H)

abbrev DE (X : Cx) (g : Cn) (W : WX) (e : Expr) (f : Env' → M T) : Prop := PE X e (tD g W f)
abbrev DT (X : Cx) (g : Cn) (W : WX) (e : Expr) (f : Env' → M Bool) : Prop := PT X e (tDT g W f)
abbrev DA (X : Cx) (g : Cn) (W : WX) (es : List Expr) (f : Env' → M (List T)) : Prop := PA X es (tDA g W f)
abbrev DL (X : Cx) (g : Cn) (W : WX) (e : Expr) (f : Env' → M (Bool × List T)) : Prop := PE X e (tDL g W f)
abbrev DN (X : Cx) (g : Cn) (W : WX) (e : Expr) (f : Env' → M (List T)) : Prop := PE X e (tDN g W f)

/-! ### names, constants -/
def eC (t : T) : Env' → M T := fun _ => .ret t
def eV (i : Nat) : Env' → M T := fun ρ => match ρ[i]? with
  | some (.val t) => .ret t
  | _ => .stuck
def seqT : T → M (Bool × List T)
  | .lst ts => .ret (true, ts)
  | .tup ts => .ret (false, ts)
  | .pn _ ts => .ret (true, ts)
  | _ => .stuck
def eVS (i : Nat) : Env' → M (Bool × List T) := fun ρ => match ρ[i]? with
  | some (.val t) => seqT t
  | some (.own ts) => .ret (true, ts)
  | _ => .stuck
def e1 {α β : Type} (k : α → M β) (f : Env' → M α) : Env' → M β := fun ρ => (f ρ).bind k
def e2 {α β γ : Type} (k : α → β → M γ) (f : Env' → M α) (h : Env' → M β) : Env' → M γ := fun ρ => (f ρ).bind fun a => (h ρ).bind fun b => k a b

section
variable {X : Cx} {g : Cn} {W : WX} {pos : Pos}
theorem Rep.atom {K : KF} {F : Hp} : (∀ b, Rep K F (.bl b) (.bl b)) := fun b => .bl b
theorem de_const {e : Expr} {v : V} {t : T} (h : PE X e (tC v)) (r : ∀ K F, Rep K F v t) : DE X g W e (eC t) := pe_imp h fun σ H Q ⟨ρ, F, b, s, q⟩ => q v H F (Step.refl s) (r _ _)
theorem de_int {i j} : DE X g W (.Constant (.int i) j pos) (eC (.int i)) := de_const pe_int fun _ _ => .int i
theorem de_bl {c j} : DE X g W (.Constant (.bool c) j pos) (eC (.bl c)) := de_const pe_bl fun _ _ => .bl c
theorem de_non {j} : DE X g W (.Constant .none j pos) (eC .non) := de_const pe_non fun _ _ => .non
theorem de_str {x j} : DE X g W (.Constant (.str x) j pos) (eC (.str x)) := de_const pe_str fun _ _ => .str x
theorem de_var {e : Expr} (i : Nat) (h : PE X e (tVar i)) : DE X g W e (eV i) := pe_imp h fun σ H Q ⟨ρ, F, b, s, q⟩ => by
  unfold eV at q
  cases e : ρ[i]? with
  | none => rw [e] at q; exact q.elim
  | some x =>
    rw [e] at q
    obtain ⟨ov, hv, r⟩ := Paired.get1 s.slots e
    cases r with
    | val r => exact ⟨_, hv, q _ H F (Step.refl s) r⟩
    | any v => exact q.elim
    | own _ _ _ _ _ => exact q.elim
    | ownD _ _ _ _ _ => exact q.elim
    | ownS _ _ _ _ _ => exact q.elim
    | strm _ => exact q.elim
    | pin _ => exact q.elim
theorem seq_of {b : Nat} {t : T} {Q : Nat → Bool × List T → Prop} {E : Nat → Str → T → Prop} (h : (seqT t).wp b Q E) : (∃ ts, t = .lst ts ∧ Q b (true, ts)) ∨ (∃ ts, t = .tup ts ∧ Q b (false, ts)) ∨ (∃ a ts, t = .pn a ts ∧ Q b (true, ts)) := by
  cases t <;> first
    | exact .inl ⟨_, rfl, h⟩
    | exact .inr (.inl ⟨_, rfl, h⟩)
    | exact .inr (.inr ⟨_, _, rfl, h⟩)
    | exact h.elim
theorem seq_rep {g : Cn} {σ : Sg} {ρ : Env'} {F H : Hp} {v : V} {t : T} {b : Nat} {Q : Nat → Bool × List T → Prop} {E : Nat → Str → T → Prop} (r : Rep g.K F v t) (h : (seqT t).wp b Q E) :
    ∃ a, ∃ p : Bool × List T, v = .ref a ∧ Stab g σ ρ F H a p ∧ Q b p := by
  rcases seq_of h with ⟨ts, rfl, q⟩ | ⟨ts, rfl, q⟩ | ⟨a, ts, rfl, q⟩
  · cases r with
    | lst h1 h2 => exact ⟨_, (true, ts), rfl, fun F' H' b' s => ⟨_, by rw [if_pos rfl]; exact s.sr.sub _ _ (s.ext _ _ h1), h2.ext s.ext⟩, q⟩
  · cases r with
    | tup h1 h2 =>
      refine ⟨_, (false, ts), rfl, fun F' H' b' s => ⟨_, ?_, h2.ext s.ext⟩, q⟩
      rw [if_neg Bool.false_ne_true]
      rcases h1 with (h | ⟨o, h⟩) | h
      · exact .inl (.inl (s.ext _ _ h))
      · exact .inl (.inr ⟨o, s.ext _ _ h⟩)
      · exact .inr h
  · cases r with
    | pn h1 h2 => exact ⟨_, (true, ts), rfl, fun F' H' b' s => ⟨_, by rw [if_pos rfl]; exact s.sr.sub _ _ (s.ext _ _ h1), h2.ext s.ext⟩, q⟩
theorem dl_var {e : Expr} (i : Nat) (h : PE X e (tVar i)) : DL X g W e (eVS i) := pe_imp h fun σ H Q ⟨ρ, F, b, s, q⟩ => by
  unfold eVS at q
  cases e : ρ[i]? with
  | none => rw [e] at q; exact q.elim
  | some x =>
    rw [e] at q
    obtain ⟨ov, hv, r⟩ := Paired.get1 s.slots e
    cases r with
    | val r =>
      obtain ⟨a, p, rfl, h1, h3⟩ := seq_rep (σ := σ) (ρ := ρ) (H := H) r q
      exact ⟨_, hv, h3 a H F (Step.refl s) h1⟩
    | any v => exact q.elim
    | own h1 h2 h3 h4 h5 =>
      refine ⟨_, hv, q _ H F (Step.refl s) fun F' H' b' st => ?_⟩
      obtain ⟨ov, hv', r'⟩ := Paired.get1 st.sr.slots e
      rw [hv] at hv'
      cases hv'
      cases r' with
      | own z1 z2 z3 z4 z5 => exact ⟨_, by rw [if_pos rfl]; exact z1, z5⟩
    | ownD _ _ _ _ _ => exact q.elim
    | ownS _ _ _ _ _ => exact q.elim
    | strm _ => exact q.elim
    | pin _ => exact q.elim
theorem dl_de {e : Expr} {f : Env' → M T} (h : DE X g W e f) : DL X g W e (e1 seqT f) := pe_imp h fun σ H Q ⟨ρ, F, b, s, q⟩ => ⟨ρ, F, b, s, M.wp_mono (M.wp_bind.mp q) (fun b' t q1 v H' F' st r => by
    obtain ⟨a, p, rfl, h1, h3⟩ := seq_rep (σ := σ) (ρ := ρ) (H := H') r q1
    exact h3 a H' F' st h1) fun _ _ _ h => h⟩
def lstT (ts : List T) : M T := .ret (.lst ts)
/-- a new list as a value -/
theorem de_dn {e : Expr} {f : Env' → M (List T)} (h : DN X g W e f) : DE X g W e (e1 lstT f) := pe_imp h fun σ H Q ⟨ρ, F, b, s, q⟩ => ⟨ρ, F, b, s, M.wp_mono (M.wp_bind.mp q) (fun b' ts q1 p vs H1 H' F' st hp e r => by
    subst e
    have st2 := st.sr.step (.lst vs) hp
    exact q1 _ _ _ (st.trans st2) (.lst upd_same (r.ext st2.ext))) fun _ _ _ h => h⟩
/-- .. as one that is read -/
theorem dl_dn {e : Expr} {f : Env' → M (List T)} (h : DN X g W e f) : DL X g W e (e1 (fun ts => .ret (true, ts)) f) := pe_imp h fun σ H Q ⟨ρ, F, b, s, q⟩ => ⟨ρ, F, b, s, M.wp_mono (M.wp_bind.mp q) (fun b' ts q1 p vs H1 H' F' st hp e r => by
    subst e
    have st2 := st.sr.stepU (.lst vs) hp
    refine q1 p _ _ (st.trans st2) fun F2 H2 b2 s2 => ⟨vs, ?_, r.ext s2.ext⟩
    rw [if_pos rfl]
    refine s2.kp p _ upd_same (fun z => ?_) fun z => ?_
    · obtain ⟨o, h⟩ := st.sr.live (.inl z)
      rw [hp] at h
      cases h
    · obtain ⟨o, h⟩ := st.sr.live (.inr z)
      rw [hp] at h
      cases h) fun _ _ _ h => h⟩

/-! ### two in a row -/
theorem wp2 {α β : Type} {f : Env' → M α} {h : Env' → M β} {γ : Type} {k : α → β → M γ} {ρ : Env'} {b : Nat} {Q : Nat → γ → Prop} {E : Nat → Str → T → Prop} :
    (e2 k f h ρ).wp b Q E ↔ (f ρ).wp b (fun b1 x => (h ρ).wp b1 (fun b2 y => (k x y).wp b2 Q E) E) E := by
  unfold e2
  rw [M.wp_bind]
  constructor
  · exact fun q => M.wp_mono q (fun _ _ z => M.wp_bind.mp z) fun _ _ _ z => z
  · exact fun q => M.wp_mono q (fun _ _ z => M.wp_bind.mpr z) fun _ _ _ z => z
/-- what a binary operation asks -/
def Bin (g : Cn) (W : WX) (r : R2) (k : T → T → M T) : Prop := ∀ (σ : Sg) (ρ : Env') (F H : Hp) (b : Nat) (x y : V) (t u : T) (Q : VK), SR g F H σ ρ b → Rep g.K F x t → Rep g.K F y u →
  (k t u).wp b (fun b' w => ∀ v H' F', Step g σ ρ F H F' H' b' → Rep g.K F' v w → Q v H') (EX g W σ ρ F H) → r x y H Q
theorem de_bin {op : Operator} {r : R2} {k : T → T → M T} {a c : Expr} {fa fc : Env' → M T} (ho : OpR X (binaryOp op) r) (hk : Bin g W r k) (ha : DE X g W a fa) (hc : DE X g W c fc) : DE X g W (.BinOp a op c pos) (e2 k fa fc) :=
  pe_imp (pe_op ho ha hc) fun σ H Q ⟨ρ, F, b, s, q⟩ => ⟨ρ, F, b, s, M.wp_mono (wp2.mp q) (fun b1 t q1 x H1 F1 s1 r1 => ⟨ρ, F1, b1, s1.sr, M.wp_mono q1 (fun b2 u q2 y H2 F2 s2 r2 =>
    hk σ ρ F2 H2 b2 x y t u Q s2.sr (r1.ext s2.ext) r2 (M.wp_mono q2 (fun b3 w q3 v H3 F3 s3 r3 => q3 v H3 F3 ((s1.trans s2).trans s3) r3) fun b' c' t' z => EX.step (s1.trans s2) b' c' t' z)) fun b' c' t' z => EX.step s1 b' c' t' z⟩) fun _ _ _ z => z⟩
theorem de_cmp {op : CmpOp} {r : R2} {k : T → T → M T} {a c : Expr} {fa fc : Env' → M T} (ho : OpR X (compareOp op) r) (hk : Bin g W r k) (ha : DE X g W a fa) (hc : DE X g W c fc) (hm : behindInMarks op c = false) : DE X g W (.Compare a [op] [c] pos) (e2 k fa fc) :=
  pe_imp (pe_cmpR ho ha hc hm) fun σ H Q ⟨ρ, F, b, s, q⟩ => ⟨ρ, F, b, s, M.wp_mono (wp2.mp q) (fun b1 t q1 x H1 F1 s1 r1 => ⟨ρ, F1, b1, s1.sr, M.wp_mono q1 (fun b2 u q2 y H2 F2 s2 r2 =>
    hk σ ρ F2 H2 b2 x y t u Q s2.sr (r1.ext s2.ext) r2 (M.wp_mono q2 (fun b3 w q3 v H3 F3 s3 r3 => q3 v H3 F3 ((s1.trans s2).trans s3) r3) fun b' c' t' z => EX.step (s1.trans s2) b' c' t' z)) fun b' c' t' z => EX.step s1 b' c' t' z⟩) fun _ _ _ z => z⟩
theorem Bin.or {r r' : R2} {k : T → T → M T} (h : ∀ (σ : Sg) (ρ : Env') (F H : Hp) (b : Nat) (x y : V) (t u : T) (Q : VK), SR g F H σ ρ b → Rep g.K F x t → Rep g.K F y u →
  (k t u).wp b (fun b' w => ∀ v H' F', Step g σ ρ F H F' H' b' → Rep g.K F' v w → Q v H') (EX g W σ ρ F H) → r x y H Q ∨ r' x y H Q) : Bin g W (fun x y H Q => r x y H Q ∨ r' x y H Q) k := h
end
end DP
end
section
set_option Elab.async false
set_option linter.all false
set_option maxRecDepth 100000
namespace DP
open PySem PySem.Spec PyProof.Rows L2

/-! ### data -/
mutual
def dataT : T → Option PyData
  | .non => some .none
  | .bl b => some (.bool b)
  | .int i => some (.int i)
  | .str x => some (.str x)
  | .tup ts => (dataTs ts).map .tuple
  | .lst ts => (dataTs ts).map .list
  | _ => none
def dataTs : List T → Option (List PyData)
  | [] => some []
  | t :: ts => (dataT t).bind fun d => (dataTs ts).map fun ds => d :: ds
end
theorem sqT_ext {K : KF} {F H : Hp} {a : Addr} {vs : List V} (e : Ext F H) (h : SqT K F a vs) : SqT K H a vs := by
  rcases h with (h | ⟨o, h⟩) | h
  · exact .inl (.inl (e _ _ h))
  · exact .inl (.inr ⟨o, e _ _ h⟩)
  · exact .inr h
mutual
theorem Rep.dp {K : KF} {F H : Hp} (e : Ext F H) : ∀ {t : T} {v : V} {d : PyData}, Rep K F v t → dataT t = some d → Dp K H v d
  | _, _, _, .non, h => by cases h; exact .non
  | _, _, _, .bl b, h => by cases h; exact .bl b
  | _, _, _, .int i, h => by cases h; exact .int i
  | _, _, _, .str x, h => by cases h; exact .str x
  | _, _, _, .tup (ts := ts) h r, q => by
    unfold dataT at q
    cases z : dataTs ts with
    | none => rw [z] at q; cases q
    | some ds => rw [z] at q; cases q; exact .tup (sqT_ext e h) (Reps.dp e r z)
  | _, _, _, .lst (ts := ts) h r, q => by
    unfold dataT at q
    cases z : dataTs ts with
    | none => rw [z] at q; cases q
    | some ds => rw [z] at q; cases q; exact .lst (SqL.of (e _ _ h)) (Reps.dp e r z)
  | _, _, _, .dct _ _, q => by cases q
  | _, _, _, .obj _ _, q => by cases q
  | _, _, _, .fn _, q => by cases q
  | _, _, _, .pn _ _, q => by cases q
theorem Reps.dp {K : KF} {F H : Hp} (e : Ext F H) : ∀ {ts : List T} {vs : List V} {ds : List PyData}, Reps K F vs ts → dataTs ts = some ds → DpAll K H vs ds
  | _, _, _, .nil, q => by cases q; exact .nil
  | _, _, _, .cons (t := t) (ts := ts) h r, q => by
    unfold dataTs at q
    cases z : dataT t with
    | none => rw [z] at q; cases q
    | some d =>
      rw [z] at q
      cases z2 : dataTs ts with
      | none => rw [z2] at q; cases q
      | some ds => rw [z2] at q; cases q; exact .cons (Rep.dp e h z) (Reps.dp e r z2)
end

/-! ### operations by values -/
theorem if_of {α : Type} {c : Prop} [Decidable c] {m : M α} {b : Nat} {Q : Nat → α → Prop} {E : Nat → Str → T → Prop} (h : (if c then m else M.stuck).wp b Q E) : c ∧ m.wp b Q E := by
  by_cases hc : c
  · rw [if_pos hc] at h; exact ⟨hc, h⟩
  · rw [if_neg hc] at h; exact h.elim
def fit (i : Int) : Bool := decide (i.natAbs.log2 < 8000)
def okLen (n : Nat) : Bool := decide (n ≤ 1000000)
theorem okLen_line {n : Nat} (h : okLen n = true) : n < sizeLine := by
  have h1 := of_decide_eq_true h
  have h2 := sizeLine_eq
  omega
def addT : T → T → M T
  | .int i, .int j => .ret (.int (i + j))
  | .lst xs, .lst ys => if okLen (xs.length + ys.length) = true then .ret (.lst (xs ++ ys)) else .stuck
  | _, _ => .stuck
def subT : T → T → M T
  | .int i, .int j => .ret (.int (i - j))
  | _, _ => .stuck
def mulT : T → T → M T
  | .int i, .int j => if (fit i && fit j) = true then .ret (.int (i * j)) else .stuck
  | _, _ => .stuck
def fdivT : T → T → M T
  | .int i, .int j => if (decide (0 < j) && fit j) = true then .ret (.int (i / j)) else .stuck
  | _, _ => .stuck
def modT : T → T → M T
  | .int i, .int j => if 0 < j then .ret (.int (i % j)) else .stuck
  | _, _ => .stuck
def ltT : T → T → M T
  | .int i, .int j => .ret (.bl (decide (i < j)))
  | _, _ => .stuck
def leT : T → T → M T
  | .int i, .int j => .ret (.bl (decide (i ≤ j)))
  | _, _ => .stuck
def gtT : T → T → M T
  | .int i, .int j => .ret (.bl (decide (j < i)))
  | _, _ => .stuck
def geT : T → T → M T
  | .int i, .int j => .ret (.bl (decide (j ≤ i)))
  | .bl p, .int j => .ret (.bl (decide (j ≤ (if p = true then (1 : Int) else 0))))
  | _, _ => .stuck
def eqT (t u : T) : M T := match dataT t, dataT u with
  | some d, some e => if (SeqAt.shaped d && SeqAt.shaped e) = true then .ret (.bl (PyData.eqv d e)) else .stuck
  | _, _ => .stuck
def neT (t u : T) : M T := match dataT t, dataT u with
  | some d, some e => if (SeqAt.shaped d && SeqAt.shaped e) = true then .ret (.bl (!PyData.eqv d e)) else .stuck
  | _, _ => .stuck
def isNonT : T → Bool
  | .non => true
  | _ => false
def isT : T → T → M T
  | t, .non => .ret (.bl (isNonT t))
  | .bl a, .bl b => .ret (.bl (decide (a = b)))
  | .int _, .bl _ => .ret (.bl false)
  | _, _ => .stuck
def isntT : T → T → M T
  | t, .non => .ret (.bl (!isNonT t))
  | .bl a, .bl b => .ret (.bl (!decide (a = b)))
  | .int _, .bl _ => .ret (.bl true)
  | _, _ => .stuck
theorem isNon_rep {K : KF} {F : Hp} {v : V} {t : T} (r : Rep K F v t) : decide (v = .non) = isNonT t := by
  cases r <;> rfl

section
variable {X : Cx} {g : Cn} {W : WX}
theorem bin_int {C : Int → Int → Prop} {fn : Int → Int → V} {k : T → T → M T}
    (h : ∀ t u b (Q : Nat → T → Prop) (E : Nat → Str → T → Prop), (k t u).wp b Q E → ∃ i j, t = .int i ∧ u = .int j ∧ C i j ∧ ∃ w, (∀ K F, Rep K F (fn i j) w) ∧ Q b w) : Bin g W (rI C fn) k := by
  intro σ ρ F H b x y t u Q s rx ry q
  obtain ⟨i, j, rfl, rfl, c, w, rw', q⟩ := h _ _ _ _ _ q
  cases rx
  cases ry
  exact ⟨i, j, rfl, rfl, c, q _ H F (Step.refl s) (rw' _ _)⟩
theorem bin_int0 {fn : Int → Int → V} {k : T → T → M T}
    (h : ∀ t u b (Q : Nat → T → Prop) (E : Nat → Str → T → Prop), (k t u).wp b Q E → ∃ i j, t = .int i ∧ u = .int j ∧ ∃ w, (∀ K F, Rep K F (fn i j) w) ∧ Q b w) : Bin g W (rI0 fn) k := by
  intro σ ρ F H b x y t u Q s rx ry q
  obtain ⟨i, j, rfl, rfl, w, rw', q⟩ := h _ _ _ _ _ q
  cases rx
  cases ry
  exact ⟨i, j, rfl, rfl, q _ H F (Step.refl s) (rw' _ _)⟩
theorem b_sub : Bin g W (rI0 fun i j => .int (i - j)) subT := bin_int0 fun t u b Q E h => by
  cases t <;> cases u <;> first
    | exact h.elim
    | exact ⟨_, _, rfl, rfl, _, fun _ _ => .int _, h⟩
theorem b_mul : Bin g W (rI CMulW fun i j => .int (i * j)) mulT := bin_int fun t u b Q E h => by
  cases t <;> cases u <;> first
    | exact h.elim
    | (obtain ⟨c, h⟩ := if_of h
       · rw [Bool.and_eq_true] at c
         have h1 := of_decide_eq_true c.1
         have h2 := of_decide_eq_true c.2
         exact ⟨_, _, rfl, rfl, by unfold CMulW; omega, _, fun _ _ => .int _, h⟩)
theorem b_fdiv : Bin g W (rI CDivW fun i j => .int (i / j)) fdivT := bin_int fun t u b Q E h => by
  cases t <;> cases u <;> first
    | exact h.elim
    | (obtain ⟨c, h⟩ := if_of h
       · rw [Bool.and_eq_true] at c
         have h1 := of_decide_eq_true c.1
         have h2 := of_decide_eq_true c.2
         exact ⟨_, _, rfl, rfl, ⟨h1, by omega⟩, _, fun _ _ => .int _, h⟩)
theorem b_mod : Bin g W (rI (fun _ j => 0 < j) fun i j => .int (i % j)) modT := bin_int fun t u b Q E h => by
  cases t <;> cases u <;> first
    | exact h.elim
    | (obtain ⟨c, h⟩ := if_of h
       exact ⟨_, _, rfl, rfl, c, _, fun _ _ => .int _, h⟩)
theorem b_lt : Bin g W (rI0 fun i j => .bl (decide (i < j))) ltT := bin_int0 fun t u b Q E h => by
  cases t <;> cases u <;> first
    | exact h.elim
    | exact ⟨_, _, rfl, rfl, _, fun _ _ => .bl _, h⟩
theorem b_le : Bin g W (rI0 fun i j => .bl (decide (i ≤ j))) leT := bin_int0 fun t u b Q E h => by
  cases t <;> cases u <;> first
    | exact h.elim
    | exact ⟨_, _, rfl, rfl, _, fun _ _ => .bl _, h⟩
theorem b_gt : Bin g W (rI0 fun i j => .bl (decide (j < i))) gtT := bin_int0 fun t u b Q E h => by
  cases t <;> cases u <;> first
    | exact h.elim
    | exact ⟨_, _, rfl, rfl, _, fun _ _ => .bl _, h⟩
theorem gives_ge_bi (p : Bool) (b : Int) (u : Tok) : Gives (Builtin.«int.__ge__» ⟨[.bool p, .int b u], []⟩) (.val (Value.bool ((fun x1 x2 => decide (x1 ≥ x2)) (if p = true then (1 : Int) else 0) b))) :=
  .of_wp fun M A E s Q h => by obtain ⟨hp, g, d, tk, os⟩ := s; wp_walk; exact ⟨_, rfl, h⟩
theorem ge_bi {prog : Program} {w : World} {A : Around} {E : Value → Shared → Prop} {s : Shared} {p : Bool} {j : Int} {u : Tok} {Q : Value → Shared → Prop} (h : Q (.bool (decide (j ≤ (if p = true then (1 : Int) else 0)))) s) : wpAny (model prog w) A (compareOp .GtE (.bool p) (.int j u)) Q E s := by
  show wpAny _ A (richCompare .GtE _ _) Q E s
  exact wpAny_richCompare_left (typeIs_bool' s p) (typeIs_int s j u) (by decide) F.sub_int_bool F.slot_bool_ge
    (call_gives F.slot_bool_ge (typeIs_bool' s p) F.entry_int_ge (F.args_int_ge_2 _ _) (gives_ge_bi p j u) ⟨nofun, h⟩)
def rGeB : R2 := fun x y H Q => ∃ (p : Bool) (j : Int), x = .bl p ∧ y = .int j ∧ Q (.bl (decide (j ≤ (if p = true then (1 : Int) else 0)))) H
theorem op_geB : OpR X (compareOp .GtE) rGeB := by
  intro pins s σ H x y v u Q I rx ry h
  obtain ⟨p, j, rfl, rfl, q⟩ := h
  cases (show v = Value.bool p from rx)
  obtain ⟨t, rfl⟩ := ry
  exact ge_bi ⟨.bl _, H, I, rfl, q⟩
def rGe2 : R2 := fun x y H Q => rI0 (fun i j => .bl (decide (j ≤ i))) x y H Q ∨ rGeB x y H Q
theorem op_ge2 : OpR X (compareOp .GtE) rGe2 := OpR.or op_ge op_geB
theorem b_ge : Bin g W rGe2 geT := by
  intro σ ρ F H b x y t u Q s rx ry q
  cases t with
  | int i =>
    cases u with
    | int j =>
      cases rx; cases ry
      exact .inl ⟨_, _, rfl, rfl, q _ H F (Step.refl s) (.bl _)⟩
    | _ => exact q.elim
  | bl p =>
    cases u with
    | int j =>
      cases rx; cases ry
      exact .inr ⟨_, _, rfl, rfl, q _ H F (Step.refl s) (.bl _)⟩
    | _ => exact q.elim
  | _ => cases u <;> exact q.elim
theorem b_eq : Bin g W (rEqD g.K) eqT := by
  intro σ ρ F H b x y t u Q s rx ry q
  unfold eqT at q
  cases e1 : dataT t with
  | none => rw [e1] at q; exact q.elim
  | some d =>
    cases e2 : dataT u with
    | none => rw [e1, e2] at q; exact q.elim
    | some e =>
      rw [e1, e2] at q
      dsimp only at q
      split at q
      · rename_i c
        rw [Bool.and_eq_true] at c
        exact ⟨d, e, Rep.dp s.sub rx e1, Rep.dp s.sub ry e2, c.1, c.2, q _ H F (Step.refl s) (.bl _)⟩
      · exact q.elim
theorem b_ne : Bin g W (rNeD g.K) neT := by
  intro σ ρ F H b x y t u Q s rx ry q
  unfold neT at q
  cases e1 : dataT t with
  | none => rw [e1] at q; exact q.elim
  | some d =>
    cases e2 : dataT u with
    | none => rw [e1, e2] at q; exact q.elim
    | some e =>
      rw [e1, e2] at q
      dsimp only at q
      split at q
      · rename_i c
        rw [Bool.and_eq_true] at c
        exact ⟨d, e, Rep.dp s.sub rx e1, Rep.dp s.sub ry e2, c.1, c.2, q _ H F (Step.refl s) (.bl _)⟩
      · exact q.elim
def rIsIB : R2 := fun x y H Q => ∃ (i : Int) (b : Bool), x = .int i ∧ y = .bl b ∧ Q (.bl false) H
def rNotIB : R2 := fun x y H Q => ∃ (i : Int) (b : Bool), x = .int i ∧ y = .bl b ∧ Q (.bl true) H
theorem op_isIB : OpR X (compareOp .Is) rIsIB := by
  intro pins s σ H x y v u Q I rx ry h
  obtain ⟨i, b, rfl, rfl, q⟩ := h
  obtain ⟨t, rfl⟩ := rx
  cases (show u = Value.bool b from ry)
  exact wpAny_is_other rfl (fun z => nomatch z) ⟨.bl false, H, I, rfl, q⟩
theorem op_notIB : OpR X (compareOp .IsNot) rNotIB := by
  intro pins s σ H x y v u Q I rx ry h
  obtain ⟨i, b, rfl, rfl, q⟩ := h
  obtain ⟨t, rfl⟩ := rx
  cases (show u = Value.bool b from ry)
  exact wpAny_isNot_other rfl (fun z => nomatch z) ⟨.bl true, H, I, rfl, q⟩
def rIs2 : R2 := fun x y H Q => (y = .non ∧ Q (.bl (decide (x = .non))) H) ∨ (rIsB x y H Q ∨ rIsIB x y H Q)
def rIsnt2 : R2 := fun x y H Q => (y = .non ∧ Q (.bl (!decide (x = .non))) H) ∨ (rNotB x y H Q ∨ rNotIB x y H Q)
theorem op_is2 : OpR X (compareOp .Is) rIs2 := OpR.or op_isN (OpR.or op_isBl op_isIB)
theorem op_isnt2 : OpR X (compareOp .IsNot) rIsnt2 := OpR.or op_notN (OpR.or op_notBl op_notIB)
theorem b_is : Bin g W rIs2 isT := by
  intro σ ρ F H b x y t u Q s rx ry q
  cases u with
  | non =>
    cases ry
    refine .inl ⟨rfl, ?_⟩
    rw [isNon_rep rx]
    cases t <;> exact q _ H F (Step.refl s) (.bl _)
  | bl c =>
    cases ry
    cases t with
    | bl a =>
      cases rx
      exact .inr (.inl ⟨_, _, rfl, rfl, q _ H F (Step.refl s) (.bl _)⟩)
    | int a =>
      cases rx
      exact .inr (.inr ⟨_, _, rfl, rfl, q _ H F (Step.refl s) (.bl _)⟩)
    | _ => exact q.elim
  | _ => cases t <;> exact q.elim
theorem b_isnt : Bin g W rIsnt2 isntT := by
  intro σ ρ F H b x y t u Q s rx ry q
  cases u with
  | non =>
    cases ry
    refine .inl ⟨rfl, ?_⟩
    rw [isNon_rep rx]
    cases t <;> exact q _ H F (Step.refl s) (.bl _)
  | bl c =>
    cases ry
    cases t with
    | bl a =>
      cases rx
      exact .inr (.inl ⟨_, _, rfl, rfl, q _ H F (Step.refl s) (.bl _)⟩)
    | int a =>
      cases rx
      exact .inr (.inr ⟨_, _, rfl, rfl, q _ H F (Step.refl s) (.bl _)⟩)
    | _ => exact q.elim
  | _ => cases t <;> exact q.elim
def rAdd2 : R2 := fun x y H Q => rI0 (fun i j => .int (i + j)) x y H Q ∨ rCat x y H Q
theorem op_add2 : OpR X (binaryOp .Add) rAdd2 := OpR.or op_add op_cat
theorem b_add : Bin g W rAdd2 addT := by
  intro σ ρ F H b x y t u Q s rx ry q
  cases t with
  | int i =>
    cases u with
    | int j => cases rx; cases ry; exact .inl ⟨_, _, rfl, rfl, q _ H F (Step.refl s) (.int _)⟩
    | _ => exact q.elim
  | lst xs =>
    cases u with
    | lst ys =>
      obtain ⟨c, q⟩ := if_of q
      · cases rx with
        | lst h1 r1 =>
          cases ry with
          | lst h2 r2 =>
            refine .inr ⟨_, _, _, _, rfl, rfl, s.sub _ _ h1, s.sub _ _ h2, ?_, fun p hp => ?_⟩
            · rw [r1.length, r2.length]; exact Nat.le_of_lt (okLen_line c)
            · exact q _ _ _ (s.step _ hp) (.lst upd_same ((r1.append r2).ext (s.step _ hp).ext))
    | _ => exact q.elim
  | _ => cases u <;> exact q.elim
variable {k : Nat} {pos : Pos} {a c : Expr} {fa fc : Env' → M T}
theorem de_add (ha : DE X g W a fa) (hc : DE X g W c fc) : DE X g W (.BinOp a .Add c pos) (e2 addT fa fc) := de_bin op_add2 b_add ha hc
theorem de_sub (ha : DE X g W a fa) (hc : DE X g W c fc) : DE X g W (.BinOp a .Sub c pos) (e2 subT fa fc) := de_bin op_sub b_sub ha hc
theorem de_mul (ha : DE X g W a fa) (hc : DE X g W c fc) : DE X g W (.BinOp a .Mult c pos) (e2 mulT fa fc) := de_bin op_mulW b_mul ha hc
theorem de_fdiv (ha : DE X g W a fa) (hc : DE X g W c fc) : DE X g W (.BinOp a .FloorDiv c pos) (e2 fdivT fa fc) := de_bin op_fdivW b_fdiv ha hc
theorem de_mod (ha : DE X g W a fa) (hc : DE X g W c fc) : DE X g W (.BinOp a .Mod c pos) (e2 modT fa fc) := de_bin op_mod b_mod ha hc
theorem de_lt (ha : DE X g W a fa) (hc : DE X g W c fc) : DE X g W (.Compare a [.Lt] [c] pos) (e2 ltT fa fc) := de_cmp op_lt b_lt ha hc (nomark _)
theorem de_le (ha : DE X g W a fa) (hc : DE X g W c fc) : DE X g W (.Compare a [.LtE] [c] pos) (e2 leT fa fc) := de_cmp op_le b_le ha hc (nomark _)
theorem de_gt (ha : DE X g W a fa) (hc : DE X g W c fc) : DE X g W (.Compare a [.Gt] [c] pos) (e2 gtT fa fc) := de_cmp op_gt b_gt ha hc (nomark _)
theorem de_ge (ha : DE X g W a fa) (hc : DE X g W c fc) : DE X g W (.Compare a [.GtE] [c] pos) (e2 geT fa fc) := de_cmp op_ge2 b_ge ha hc (nomark _)
theorem de_eq (hr : Room k X.A) (ha : DE X g W a fa) (hc : DE X g W c fc) (hK : X.K = g.K := by rfl) : DE X g W (.Compare a [.Eq] [c] pos) (e2 eqT fa fc) := de_cmp (op_eqD hr.units) (by rw [hK]; exact b_eq) ha hc (nomark _)
theorem de_ne (hr : Room k X.A) (ha : DE X g W a fa) (hc : DE X g W c fc) (hK : X.K = g.K := by rfl) : DE X g W (.Compare a [.NotEq] [c] pos) (e2 neT fa fc) := de_cmp (op_neD hr.units) (by rw [hK]; exact b_ne) ha hc (nomark _)
theorem de_is (ha : DE X g W a fa) (hc : DE X g W c fc) : DE X g W (.Compare a [.Is] [c] pos) (e2 isT fa fc) := de_cmp op_is2 b_is ha hc (nomark _)
theorem de_isnt (ha : DE X g W a fa) (hc : DE X g W c fc) : DE X g W (.Compare a [.IsNot] [c] pos) (e2 isntT fa fc) := de_cmp op_isnt2 b_isnt ha hc (nomark _)
end

/-! ### truth, and, or, not -/
def boolT : T → M Bool
  | .bl c => .ret c
  | _ => .stuck
theorem boolT_of {b : Nat} {t : T} {Q : Nat → Bool → Prop} {E : Nat → Str → T → Prop} (h : (boolT t).wp b Q E) : ∃ c, t = .bl c ∧ Q b c := by
  cases t <;> first
    | exact ⟨_, rfl, h⟩
    | exact h.elim
def eAnd (f h : Env' → M Bool) : Env' → M Bool := fun ρ => (f ρ).bind fun c => if c = true then h ρ else .ret false
def eOr (f h : Env' → M Bool) : Env' → M Bool := fun ρ => (f ρ).bind fun c => if c = true then .ret true else h ρ
def eNot (f : Env' → M Bool) : Env' → M Bool := fun ρ => (f ρ).bind fun c => .ret (!c)
def eBl (f : Env' → M Bool) : Env' → M T := fun ρ => (f ρ).bind fun c => .ret (.bl c)
def eAndV (f h : Env' → M T) : Env' → M T := fun ρ => (f ρ).bind fun t => (boolT t).bind fun c => if c = true then h ρ else .ret (.bl false)
def eOrV (f h : Env' → M T) : Env' → M T := fun ρ => (f ρ).bind fun t => (boolT t).bind fun c => if c = true then .ret (.bl true) else h ρ
def eNotV (f : Env' → M T) : Env' → M T := fun ρ => (f ρ).bind fun t => (boolT t).bind fun c => .ret (.bl (!c))
def eIf (c : Env' → M Bool) (f h : Env' → M T) : Env' → M T := fun ρ => (c ρ).bind fun b => if b = true then f ρ else h ρ
section
variable {X : Cx} {g : Cn} {W : WX} {k : Nat} {pos : Pos} {a c e : Expr} {rest : List Expr} {fa fc : Env' → M T} {ta tc : Env' → M Bool}
abbrev DW (X : Cx) (g : Cn) (W : WX) (e : Expr) (f : Env' → M Bool) : Prop := PW X e (tDT g W f)
theorem pw_imp {X : Cx} {e : Expr} {t t' : TT} (h : PW X e t) (i : ∀ σ H Q, t' σ H Q → t σ H Q) : PW X e t' := ⟨fun wh pins s σ H Q I hw => h.run wh pins s σ H Q I (i σ H Q hw)⟩
theorem dt_val (h : DE X g W e fa) (he : ∀ whole, isTrue e X.env whole = (do let v ← whole; standAt e.pos; holding [v] (truthy v)) := by intro _; rfl) : DT X g W e (e1 boolT fa) :=
  pt_imp (pt_val h he) fun σ H Q ⟨ρ, F, b, s, q⟩ => ⟨ρ, F, b, s, M.wp_mono (M.wp_bind.mp q) (fun b1 t q1 v H1 F1 s1 r1 => by
    obtain ⟨c, rfl, q2⟩ := boolT_of q1
    cases r1
    exact ⟨c, rfl, q2 H1 F1 s1⟩) fun _ _ _ z => z⟩
/-- a comparison as a test -/
theorem dt_bin {op : CmpOp} {r : R2} {k : T → T → M T} (ho : OpR X (compareOp op) r) (hk : Bin g W r k) (ha : DE X g W a fa) (hc : DE X g W c fc) (hm : behindInMarks op c = false) : DT X g W (.Compare a [op] [c] pos) (e1 boolT (e2 k fa fc)) :=
  pt_imp (pt_cmpR ho ha hc hm) fun σ H Q ⟨ρ, F, b, s, q⟩ => ⟨ρ, F, b, s, M.wp_mono (wp2.mp (M.wp_bind.mp q)) (fun b1 t q1 x H1 F1 s1 r1 => ⟨ρ, F1, b1, s1.sr, M.wp_mono q1 (fun b2 u q2 y H2 F2 s2 r2 =>
    hk σ ρ F2 H2 b2 x y t u _ s2.sr (r1.ext s2.ext) r2 (M.wp_mono q2 (fun b3 w q3 v H3 F3 s3 r3 => by
      obtain ⟨c, rfl, q4⟩ := boolT_of q3
      cases r3
      exact ⟨c, rfl, q4 H3 F3 ((s1.trans s2).trans s3)⟩) fun b' c' t' z => EX.step (s1.trans s2) b' c' t' z)) fun b' c' t' z => EX.step s1 b' c' t' z⟩) fun _ _ _ z => z⟩
theorem dt_lt (ha : DE X g W a fa) (hc : DE X g W c fc) : DT X g W (.Compare a [.Lt] [c] pos) (e1 boolT (e2 ltT fa fc)) := dt_bin op_lt b_lt ha hc (nomark _)
theorem dt_le (ha : DE X g W a fa) (hc : DE X g W c fc) : DT X g W (.Compare a [.LtE] [c] pos) (e1 boolT (e2 leT fa fc)) := dt_bin op_le b_le ha hc (nomark _)
theorem dt_gt (ha : DE X g W a fa) (hc : DE X g W c fc) : DT X g W (.Compare a [.Gt] [c] pos) (e1 boolT (e2 gtT fa fc)) := dt_bin op_gt b_gt ha hc (nomark _)
theorem dt_ge (ha : DE X g W a fa) (hc : DE X g W c fc) : DT X g W (.Compare a [.GtE] [c] pos) (e1 boolT (e2 geT fa fc)) := dt_bin op_ge2 b_ge ha hc (nomark _)
theorem dt_eq (hr : Room k X.A) (ha : DE X g W a fa) (hc : DE X g W c fc) (hK : X.K = g.K := by rfl) : DT X g W (.Compare a [.Eq] [c] pos) (e1 boolT (e2 eqT fa fc)) := dt_bin (op_eqD hr.units) (by rw [hK]; exact b_eq) ha hc (nomark _)
theorem dt_ne (hr : Room k X.A) (ha : DE X g W a fa) (hc : DE X g W c fc) (hK : X.K = g.K := by rfl) : DT X g W (.Compare a [.NotEq] [c] pos) (e1 boolT (e2 neT fa fc)) := dt_bin (op_neD hr.units) (by rw [hK]; exact b_ne) ha hc (nomark _)
theorem dt_is (ha : DE X g W a fa) (hc : DE X g W c fc) : DT X g W (.Compare a [.Is] [c] pos) (e1 boolT (e2 isT fa fc)) := dt_bin op_is2 b_is ha hc (nomark _)
theorem dt_isnt (ha : DE X g W a fa) (hc : DE X g W c fc) : DT X g W (.Compare a [.IsNot] [c] pos) (e1 boolT (e2 isntT fa fc)) := dt_bin op_isnt2 b_isnt ha hc (nomark _)
theorem dw_and1 (h : DT X g W e ta) : DW X g W (.BoolOp .And [e] pos) ta := pw_and1 h
theorem dw_or1 (h : DT X g W e ta) : DW X g W (.BoolOp .Or [e] pos) ta := pw_or1 h
theorem dw_and (h : DT X g W a ta) (h2 : DW X g W (.BoolOp .And (c :: rest) pos) tc) : DW X g W (.BoolOp .And (a :: c :: rest) pos) (eAnd ta tc) :=
  pw_imp (pw_and h h2) fun σ H Q ⟨ρ, F, b, s, q⟩ => ⟨ρ, F, b, s, M.wp_mono (M.wp_bind.mp q) (fun b1 v q1 H1 F1 s1 => by
    cases v with
    | true =>
      rw [if_pos rfl] at q1 ⊢
      exact ⟨ρ, F1, b1, s1.sr, M.wp_mono q1 (fun b2 v2 q2 H2 F2 s2 => q2 H2 F2 (s1.trans s2)) fun b' c' t' z => EX.step s1 b' c' t' z⟩
    | false =>
      rw [if_neg Bool.false_ne_true] at q1 ⊢
      exact q1 H1 F1 s1) fun _ _ _ z => z⟩
theorem dw_or (h : DT X g W a ta) (h2 : DW X g W (.BoolOp .Or (c :: rest) pos) tc) : DW X g W (.BoolOp .Or (a :: c :: rest) pos) (eOr ta tc) :=
  pw_imp (pw_or h h2) fun σ H Q ⟨ρ, F, b, s, q⟩ => ⟨ρ, F, b, s, M.wp_mono (M.wp_bind.mp q) (fun b1 v q1 H1 F1 s1 => by
    cases v with
    | false =>
      rw [if_neg Bool.false_ne_true] at q1 ⊢
      exact ⟨ρ, F1, b1, s1.sr, M.wp_mono q1 (fun b2 v2 q2 H2 F2 s2 => q2 H2 F2 (s1.trans s2)) fun b' c' t' z => EX.step s1 b' c' t' z⟩
    | true =>
      rw [if_pos rfl] at q1 ⊢
      exact q1 H1 F1 s1) fun _ _ _ z => z⟩
theorem dt_w (h : DW X g W e ta) : DT X g W e ta := h.pt
theorem dt_not (h : DT X g W e ta) : DT X g W (.UnaryOp .Not e pos) (eNot ta) := pt_imp (pt_not h) fun σ H Q ⟨ρ, F, b, s, q⟩ => ⟨ρ, F, b, s, M.wp_mono (M.wp_bind.mp q) (fun b1 v q1 H1 F1 s1 => q1 H1 F1 s1) fun _ _ _ z => z⟩
theorem de_one {op} (h : DE X g W e fa) : DE X g W (.BoolOp op [e] pos) fa := pe_one h
theorem de_and (h : DE X g W a fa) (h2 : DE X g W (.BoolOp .And (c :: rest) pos) fc) : DE X g W (.BoolOp .And (a :: c :: rest) pos) (eAndV fa fc) :=
  pe_imp (pe_and h h2) fun σ H Q ⟨ρ, F, b, s, q⟩ => ⟨ρ, F, b, s, M.wp_mono (M.wp_bind.mp q) (fun b1 t q1 v H1 F1 s1 r1 => by
    obtain ⟨d, rfl, q2⟩ := boolT_of (M.wp_bind.mp q1)
    cases r1
    refine ⟨d, rfl, ?_⟩
    cases d with
    | true =>
      rw [if_pos rfl] at q2 ⊢
      exact ⟨ρ, F1, b1, s1.sr, M.wp_mono q2 (fun b2 v2 q2 w H2 F2 s2 => q2 w H2 F2 (s1.trans s2)) fun b' c' t' z => EX.step s1 b' c' t' z⟩
    | false =>
      rw [if_neg Bool.false_ne_true] at q2 ⊢
      exact q2 _ H1 F1 s1 (.bl _)) fun _ _ _ z => z⟩
theorem de_or (h : DE X g W a fa) (h2 : DE X g W (.BoolOp .Or (c :: rest) pos) fc) : DE X g W (.BoolOp .Or (a :: c :: rest) pos) (eOrV fa fc) :=
  pe_imp (pe_or h h2) fun σ H Q ⟨ρ, F, b, s, q⟩ => ⟨ρ, F, b, s, M.wp_mono (M.wp_bind.mp q) (fun b1 t q1 v H1 F1 s1 r1 => by
    obtain ⟨d, rfl, q2⟩ := boolT_of (M.wp_bind.mp q1)
    cases r1
    refine ⟨d, rfl, ?_⟩
    cases d with
    | false =>
      rw [if_neg Bool.false_ne_true] at q2 ⊢
      exact ⟨ρ, F1, b1, s1.sr, M.wp_mono q2 (fun b2 v2 q2 w H2 F2 s2 => q2 w H2 F2 (s1.trans s2)) fun b' c' t' z => EX.step s1 b' c' t' z⟩
    | true =>
      rw [if_pos rfl] at q2 ⊢
      exact q2 _ H1 F1 s1 (.bl _)) fun _ _ _ z => z⟩
theorem de_not (h : DE X g W a fa) : DE X g W (.UnaryOp .Not a pos) (eNotV fa) :=
  pe_imp (pe_not h) fun σ H Q ⟨ρ, F, b, s, q⟩ => ⟨ρ, F, b, s, M.wp_mono (M.wp_bind.mp q) (fun b1 t q1 v H1 F1 s1 r1 => by
    obtain ⟨d, rfl, q2⟩ := boolT_of (M.wp_bind.mp q1)
    cases r1
    exact ⟨d, rfl, q2 _ H1 F1 s1 (.bl _)⟩) fun _ _ _ z => z⟩
theorem de_if (h : DT X g W e ta) (h1 : DE X g W a fa) (h2 : DE X g W c fc) : DE X g W (.IfExp e a c pos) (eIf ta fa fc) :=
  pe_imp (pe_ifExp h h1 h2) fun σ H Q ⟨ρ, F, b, s, q⟩ => ⟨ρ, F, b, s, M.wp_mono (M.wp_bind.mp q) (fun b1 d q1 H1 F1 s1 => by
    cases d with
    | true =>
      rw [if_pos rfl] at q1 ⊢
      exact ⟨ρ, F1, b1, s1.sr, M.wp_mono q1 (fun b2 v2 q2 w H2 F2 s2 => q2 w H2 F2 (s1.trans s2)) fun b' c' t' z => EX.step s1 b' c' t' z⟩
    | false =>
      rw [if_neg Bool.false_ne_true] at q1 ⊢
      exact ⟨ρ, F1, b1, s1.sr, M.wp_mono q1 (fun b2 v2 q2 w H2 F2 s2 => q2 w H2 F2 (s1.trans s2)) fun b' c' t' z => EX.step s1 b' c' t' z⟩) fun _ _ _ z => z⟩
end
end DP
end
section
set_option Elab.async false
set_option linter.all false
set_option maxRecDepth 100000
namespace DP
open PySem PySem.Spec PyProof.Rows L2

/-! ### argument lists, displays -/
def aNil : Env' → M (List T) := fun _ => .ret []
def aCons (f : Env' → M T) (h : Env' → M (List T)) : Env' → M (List T) := e2 (fun t ts => .ret (t :: ts)) f h
def eTup (f : Env' → M (List T)) : Env' → M T := fun ρ => (f ρ).bind fun ts => if okLen ts.length = true then .ret (.tup ts) else .stuck
def nLst (f : Env' → M (List T)) : Env' → M (List T) := fun ρ => (f ρ).bind fun ts => if okLen ts.length = true then .ret ts else .stuck
section
variable {X : Cx} {g : Cn} {W : WX} {k : Nat} {pos : Pos} {a c e : Expr} {es : List Expr} {fa fc : Env' → M T} {fs : Env' → M (List T)} {fl fl2 : Env' → M (Bool × List T)} {fn : Env' → M (List T)}
theorem da_nil : DA X g W [] aNil := pa_imp pa_nil fun σ H Q ⟨ρ, F, b, s, q⟩ => q [] H F (Step.refl s) .nil
theorem da_cons (h : DE X g W e fa) (hs : DA X g W es fs) (hst : starEach (e :: es) X.env = (false, eval e X.env) :: starEach es X.env := by rfl) : DA X g W (e :: es) (aCons fa fs) :=
  pa_imp (pa_cons h hs hst) fun σ H Q ⟨ρ, F, b, s, q⟩ => ⟨ρ, F, b, s, M.wp_mono (wp2.mp q) (fun b1 t q1 x H1 F1 s1 r1 => ⟨ρ, F1, b1, s1.sr, M.wp_mono q1 (fun b2 ts q2 vs H2 F2 s2 r2 =>
    q2 (x :: vs) H2 F2 (s1.trans s2) (.cons (r1.ext s2.ext) r2)) fun b' c' t' z => EX.step s1 b' c' t' z⟩) fun _ _ _ z => z⟩
theorem de_tup {x1} (h : DA X g W es fs) : DE X g W (.Tuple es x1 pos) (eTup fs) :=
  pe_imp (pe_tup h) fun σ H Q ⟨ρ, F, b, s, q⟩ => ⟨ρ, F, b, s, M.wp_mono (M.wp_bind.mp q) (fun b1 ts q1 vs H1 F1 s1 r1 => by
    obtain ⟨c, q2⟩ := if_of q1
    refine ⟨by rw [r1.length]; exact Nat.le_of_lt (okLen_line c), fun p hp => ?_⟩
    have st := s1.sr.step (.tup vs) hp
    exact q2 _ _ _ (s1.trans st) (.tup (SqT.of upd_same) (r1.ext st.ext))) fun _ _ _ z => z⟩
theorem dn_lst (h : DA X g W es fs) : DN X g W (.List es pos) (nLst fs) :=
  pe_imp (pe_lst h) fun σ H Q ⟨ρ, F, b, s, q⟩ => ⟨ρ, F, b, s, M.wp_mono (M.wp_bind.mp q) (fun b1 ts q1 vs H1 F1 s1 r1 => by
    obtain ⟨c, q2⟩ := if_of q1
    exact ⟨by rw [r1.length]; exact Nat.le_of_lt (okLen_line c), fun p hp => q2 p vs H1 _ F1 s1 hp rfl r1⟩) fun _ _ _ z => z⟩

/-! ### items, lengths, parts -/
def ixT (p : Bool × List T) : T → M T
  | .int i => match atI p.2 i with
    | some t => .ret t
    | none => .stuck
  | _ => .stuck
theorem Reps.isEmpty {K : KF} {F : Hp} {vs : List V} {ts : List T} (r : Reps K F vs ts) : vs.isEmpty = ts.isEmpty := by cases r <;> rfl
theorem ixN_len {n m : Nat} {i : Int} (h : n = m) : ixN n i = ixN m i := by rw [h]
theorem atI_rep {K : KF} {F : Hp} {vs : List V} {ts : List T} {i : Int} {t : T} (r : Reps K F vs ts) (h : atI ts i = some t) : ∃ v, atI vs i = some v ∧ Rep K F v t := by
  unfold atI at h ⊢
  rw [ixN_len r.length]
  cases e : ixN ts.length i with
  | none => rw [e] at h; cases h
  | some j =>
    rw [e] at h
    obtain ⟨v, h1, h2⟩ := r.get' (i := j) (t := t) h
    exact ⟨v, h1, h2⟩
theorem seqQ {K : KF} {F H : Hp} {a : Addr} {vs : List V} {p : Bool} (e : Ext F H) (h : if p = true then H a = some (.lst vs) else SqT K F a vs) : SqL K H a vs ∨ SqT K H a vs := by
  cases p with
  | true => rw [if_pos rfl] at h; exact .inl (SqL.of h)
  | false => rw [if_neg Bool.false_ne_true] at h; exact .inr (sqT_ext e h)
theorem Stab.now {g : Cn} {σ : Sg} {ρ : Env'} {F H : Hp} {a : Addr} {p : Bool × List T} {b : Nat} (h : Stab g σ ρ F H a p) (s : SR g F H σ ρ b) : ∃ vs, (SqL g.K H a vs ∨ SqT g.K H a vs) ∧ Reps g.K F vs p.2 := by
  obtain ⟨vs, h1, h2⟩ := h F H b (Step.refl s)
  exact ⟨vs, seqQ s.sub h1, h2⟩
theorem Stab.step {g : Cn} {σ : Sg} {ρ : Env'} {F H F1 H1 : Hp} {a : Addr} {p : Bool × List T} {b : Nat} (h : Stab g σ ρ F H a p) (s : Step g σ ρ F H F1 H1 b) : Stab g σ ρ F1 H1 a p := fun F' H' b' s' => h F' H' b' (s.trans s')
/-- x[i] of a list, a tuple -/
theorem de_ix (ha : DL X g W a fl) (hc : DE X g W c fc) (hs : PlainIx c := by first | exact fun _ _ => rfl | (intro _ _; rfl)) (hK : X.K = g.K := by rfl) : DE X g W (.Subscript a c pos) (e2 ixT fl fc) :=
  pe_imp (pe_ix (ix_list.or ix_tup) ha hc hs) fun σ H Q ⟨ρ, F, b, s, q⟩ => ⟨ρ, F, b, s, M.wp_mono (wp2.mp q) (fun b1 p q1 d H1 F1 s1 h1 => ⟨ρ, F1, b1, s1.sr, M.wp_mono q1 (fun b2 t q2 v H2 F2 s2 r2 => by
    obtain ⟨vs, h2, r3⟩ := (h1.step s2).now s2.sr
    cases t with
    | int i =>
      cases r2
      have q2 : (match atI p.2 i with | some t => M.ret t | none => M.stuck).wp b2 _ _ := q2
      cases e : atI p.2 i with
      | none => rw [e] at q2; exact q2.elim
      | some t =>
        rw [e] at q2
        obtain ⟨v, h3, r4⟩ := atI_rep r3 e
        rcases h2 with h2 | h2
        · exact .inl ⟨_, _, _, _, rfl, rfl, by rw [hK]; exact h2, h3, q2 v H2 F2 (s1.trans s2) r4⟩
        · exact .inr ⟨_, _, _, _, rfl, rfl, by rw [hK]; exact h2, h3, q2 v H2 F2 (s1.trans s2) r4⟩
    | _ => exact q2.elim) fun b' c' t' z => EX.step s1 b' c' t' z⟩) fun _ _ _ z => z⟩
def lenT (p : Bool × List T) : M T := .ret (.int p.2.length)
/-- the reading of a built-in function of one list or tuple -/
theorem de_len {x : Str} {p : Pos} (hg : Gl X x) (hm : X.mg x = none) (hv : bootBuiltins x = some (.builtin "len")) (ha : DL X g W e fl) (hn : x ≠ "__name__" := by decide) (hdb : (x == ("__debug__" : Str)) = false := by decide)
    (he : starEach (e :: []) X.env = (false, eval e X.env) :: starEach [] X.env := by rfl) (hpl : (backTo pos (starEach [] X.env)).any (·.1) = false := by rfl) (hK : X.K = g.K := by rfl) : DE X g W (.Call (.Name x p) [e] [] pos) (e1 lenT fl) :=
  pe_imp (pe_callB call_len_seq hg hm hv (pa_cons ha pa_nil he) hn hdb he hpl) fun σ H Q ⟨ρ, F, b, s, q⟩ => ⟨ρ, F, b, s, M.wp_mono (M.wp_bind.mp q) (fun b1 p q1 d H1 F1 s1 h1 => by
    obtain ⟨vs, h2, r3⟩ := h1.now s1.sr
    refine ⟨d, vs, rfl, by rw [hK]; exact h2, ?_⟩
    have q1 := q1 (.int (p.2.length : Int)) H1 F1 s1 (.int _)
    rw [← r3.length] at q1
    exact q1) fun _ _ _ z => z⟩
/-- a list's, a tuple's truth -/
def truL (p : Bool × List T) : M Bool := .ret (!p.2.isEmpty)
theorem dt_truth (ha : DL X g W e fl) (he : ∀ whole, isTrue e X.env whole = (do let v ← whole; standAt e.pos; holding [v] (truthy v)) := by intro _; rfl) (hK : X.K = g.K := by rfl) : DT X g W e (e1 truL fl) :=
  pt_imp (pt_truth ha he) fun σ H Q ⟨ρ, F, b, s, q⟩ => ⟨ρ, F, b, s, M.wp_mono (M.wp_bind.mp q) (fun b1 p q1 d H1 F1 s1 h1 => by
    obtain ⟨vs, h2, r3⟩ := h1.now s1.sr
    have e : (!vs.isEmpty) = !p.2.isEmpty := by rw [r3.isEmpty]
    refine ⟨!vs.isEmpty, ?_, by rw [e]; exact q1 H1 F1 s1⟩
    rcases h2 with h2 | h2
    · exact .inl ⟨vs, by rw [hK]; exact h2, rfl⟩
    · exact .inr (.inl ⟨vs, by rw [hK]; exact h2, rfl⟩)) fun _ _ _ z => z⟩
/-- x + y, lists -/
def nCat (p q : Bool × List T) : M (List T) := if (p.1 && q.1 && okLen (p.2.length + q.2.length)) = true then .ret (p.2 ++ q.2) else .stuck
theorem dn_cat (ha : DL X g W a fl) (hc : DL X g W c fl2) : DN X g W (.BinOp a .Add c pos) (e2 nCat fl fl2) :=
  pe_imp (pe_op op_cat ha hc) fun σ H Q ⟨ρ, F, b, s, q⟩ => ⟨ρ, F, b, s, M.wp_mono (wp2.mp q) (fun b1 p q1 d H1 F1 s1 h1 => ⟨ρ, F1, b1, s1.sr, M.wp_mono q1 (fun b2 p2 q2 d2 H2 F2 s2 h2 => by
    obtain ⟨c, q3⟩ := if_of q2
    rw [Bool.and_eq_true, Bool.and_eq_true] at c
    obtain ⟨vs, z1, r1⟩ := (h1.step s2) F2 H2 b2 (Step.refl s2.sr)
    obtain ⟨ws, z2, r2⟩ := h2 F2 H2 b2 (Step.refl s2.sr)
    rw [if_pos c.1.1] at z1
    rw [if_pos c.1.2] at z2
    refine ⟨_, _, _, _, rfl, rfl, z1, z2, ?_, fun p hp => q3 p _ H2 _ F2 (s1.trans s2) hp rfl (r1.append r2)⟩
    rw [r1.length, r2.length]
    exact Nat.le_of_lt (okLen_line c.2)) fun b' c' t' z => EX.step s1 b' c' t' z⟩) fun _ _ _ z => z⟩
end
end DP
end
section
set_option Elab.async false
set_option linter.all false
set_option maxRecDepth 100000
namespace DP
open PySem PySem.Spec PyProof.Rows L2

inductive Fl where
  | next (ρ : Env') | ret (t : T) | brk (ρ : Env') | cont (ρ : Env')
def FlOk (g : Cn) (F : Hp) (D : Ends) (b : Nat) : Fl → Prop
  | .next ρ => ∀ σ H F', Ext F F' → SR g F' H σ ρ b → D.nx σ H
  | .ret t => ∀ v σ ρ H F', Ext F F' → SR g F' H σ ρ b → Rep g.K F' v t → D.rt v H
  | .brk ρ => ∀ σ H F', Ext F F' → SR g F' H σ ρ b → D.bk σ H
  | .cont ρ => ∀ σ H F', Ext F F' → SR g F' H σ ρ b → D.ct σ H
def EXs (g : Cn) (W : WX) (F : Hp) : Nat → Str → T → Prop := fun b c t => ∀ d v σ ρ H F', Ext F F' → SR g F' H σ ρ b → H d = some (.xd [((g.X c).2, v)]) → Rep g.K F' v t → W (.ref (g.X c).1) (some d) σ H
theorem FlOk.step {g : Cn} {F F' : Hp} {D : Ends} {b : Nat} (e : Ext F F') : ∀ {fl : Fl}, FlOk g F D b fl → FlOk g F' D b fl
  | .next _, h => fun σ H F2 e2 s => h σ H F2 (e.trans e2) s
  | .ret _, h => fun v σ ρ H F2 e2 s => h v σ ρ H F2 (e.trans e2) s
  | .brk _, h => fun σ H F2 e2 s => h σ H F2 (e.trans e2) s
  | .cont _, h => fun σ H F2 e2 s => h σ H F2 (e.trans e2) s
theorem EXs.step {g : Cn} {W : WX} {F F' : Hp} (e : Ext F F') {b : Nat} {c : Str} {t : T} (h : EXs g W F b c t) : EXs g W F' b c t := fun d v σ ρ H F2 e2 s => h d v σ ρ H F2 (e.trans e2) s
theorem EXs.ex {g : Cn} {W : WX} {σ : Sg} {ρ : Env'} {F H : Hp} {b : Nat} {c : Str} {t : T} (h : EXs g W F b c t) : EX g W σ ρ F H b c t := fun d v H' F' s e r => h d v σ ρ H' F' s.ext s.sr e r
def tDS (g : Cn) (W : WX) (G : Env' → M Fl) : TS := fun D σ H => ∃ ρ F b, SR g F H σ ρ b ∧ (G ρ).wp b (FlOk g F D) (EXs g W F)
abbrev DS (X : Cx) (g : Cn) (W : WX) (st : Stmt) (G : Env' → M Fl) : Prop := PS X st (tDS g W G)
abbrev DSs (X : Cx) (g : Cn) (W : WX) (st : List Stmt) (G : Env' → M Fl) : Prop := PSs X st (tDS g W G)

/-! ### slots stored -/
theorem get_set {α : Type} {xs : List α} {i j : Nat} {x y : α} (h : (xs.set i x)[j]? = some y) : (j = i ∧ x = y ∧ i < xs.length) ∨ (j ≠ i ∧ xs[j]? = some y) := by
  by_cases e : j = i
  · subst e
    rw [List.getElem?_set] at h
    simp at h
    exact .inl ⟨rfl, h.2, h.1⟩
  · rw [List.getElem?_set_ne (Ne.symm e)] at h
    exact .inr ⟨e, h⟩
theorem Paired.setImp {α β : Type} {R R' : α → β → Prop} {y : β} : ∀ {xs : List α} {ys : List β} {i : Nat} {x : α}, Paired R xs ys → xs[i]? = some x → R' x y → (∀ (j : Nat) (v : α) (z : β), j ≠ i → xs[j]? = some v → ys[j]? = some z → R v z → R' v z) → Paired R' xs (ys.set i y)
  | _, _, _, _, .nil, h, _, _ => by simp at h
  | _, _, 0, _, .cons _ t, h, r, f => by
    simp at h
    subst h
    exact .cons r (Paired.imp2 t fun j v z e1 e2 q => f (j + 1) v z (by omega) (by simpa using e1) (by simpa using e2) q)
  | _, _, i + 1, x, .cons q t, h, r, f => .cons (f 0 _ _ (by omega) rfl rfl q) (Paired.setImp (i := i) (x := x) t (by simpa using h) r fun j v z hj e1 e2 q => f (j + 1) v z (by omega) (by simpa using e1) (by simpa using e2) q)
theorem SR.set {g : Cn} {F H : Hp} {σ : Sg} {ρ : Env'} {b : Nat} (s : SR g F H σ ρ b) (i : Nat) {v : Option V} {x : Sl} (h : SlOk g F H v x) (n : x.isOwn = false) : SR g F H (σ.set i v) (ρ.set i x) b :=
  ⟨s.sub, s.f0, s.keep, s.new, Paired.set2 h i s.slots, fun j k a y z jk hy hz oy oz e => by
    rcases get_set hy with ⟨rfl, rfl, _⟩ | ⟨nj, hy⟩
    · rw [n] at oy; cases oy
    · rcases get_set hz with ⟨rfl, rfl, _⟩ | ⟨nk, hz⟩
      · rw [n] at oz; cases oz
      · rw [List.getElem?_set_ne (Ne.symm nj)] at e
        rw [List.getElem?_set_ne (Ne.symm nk)]
        exact s.dis j k a y z jk hy hz oy oz e, s.strm, s.tabs⟩
theorem SR.h0 {g : Cn} {F H : Hp} {σ : Sg} {ρ : Env'} {b : Nat} (s : SR g F H σ ρ b) {p : Addr} (h : H p = none) : g.H0 p = none ∧ ¬ g.inS p ∧ F p = none ∧ ¬ OwnAt σ ρ p := by
  refine ⟨?_, fun z => ?_, s.fresh h, fun z => ?_⟩
  · cases e : g.H0 p with
    | none => rfl
    | some o =>
      obtain ⟨u, q⟩ := s.there e
      rw [h] at q
      cases q
  · obtain ⟨o, q⟩ := s.live (.inl z)
    rw [h] at q
    cases q
  · obtain ⟨o, q⟩ := s.live (.inr z)
    rw [h] at q
    cases q
theorem ownAt_addr {σ : Sg} {ρ : Env'} {i : Nat} {x : Sl} {a : Addr} (h : ρ[i]? = some x) (o : x.isOwn = true) (e : σ[i]? = some (some (V.ref a))) : OwnAt σ ρ a := ⟨i, x, h, o, e⟩
/-- a new list in a slot -/
theorem SR.setOwn {g : Cn} {F H : Hp} {σ : Sg} {ρ : Env'} {b : Nat} (s : SR g F H σ ρ b) (i : Nat) {p : Addr} {vs : List V} {ts : List T} (h : H p = none) (r : Reps g.K F vs ts) : SR g F (upd H p (.lst vs)) (σ.set i (some (.ref p))) (ρ.set i (.own ts)) b := by
  obtain ⟨h0, ns, hf, no⟩ := s.h0 h
  have s1 := s.growU (.lst vs) h
  exact ⟨s1.sub, s1.f0, s1.keep, s1.new, Paired.set2 (.own upd_same hf h0 ns r) i s1.slots, fun j k a y z jk hy hz oy oz e q => by
    rcases get_set hy with ⟨rfl, rfl, _⟩ | ⟨nj, hy'⟩
    · rcases get_set hz with ⟨rfl, rfl, _⟩ | ⟨nk, hz'⟩
      · exact jk rfl
      · rcases get_set e with ⟨_, e1, _⟩ | ⟨nn, _⟩
        · cases e1
          rcases get_set q with ⟨e2, _⟩ | ⟨_, q'⟩
          · exact nk e2
          · exact no (ownAt_addr hz' oz q')
        · exact nn rfl
    · rcases get_set e with ⟨e1, _⟩ | ⟨_, e'⟩
      · exact nj e1
      · rcases get_set hz with ⟨rfl, rfl, _⟩ | ⟨nk, hz'⟩
        · rcases get_set q with ⟨_, e1, _⟩ | ⟨nn, _⟩
          · cases e1
            exact no (ownAt_addr hy' oy e')
          · exact nn rfl
        · rcases get_set q with ⟨e1, _⟩ | ⟨_, q'⟩
          · exact nk e1
          · exact s.dis j k a y z jk hy' hz' oy oz e' q', s1.strm, s1.tabs⟩

def sNext : Env' → M Fl := fun ρ => .ret (.next ρ)
def sSeq (G1 G2 : Env' → M Fl) : Env' → M Fl := fun ρ => (G1 ρ).bind fun fl => match fl with
  | .next ρ' => G2 ρ'
  | .ret t => .ret (.ret t)
  | .brk ρ' => .ret (.brk ρ')
  | .cont ρ' => .ret (.cont ρ')
def sSet (i : Nat) (f : Env' → M T) : Env' → M Fl := fun ρ => (f ρ).bind fun t => .ret (.next (ρ.set i (.val t)))
def sOwn (i : Nat) (f : Env' → M (List T)) : Env' → M Fl := fun ρ => (f ρ).bind fun ts => .ret (.next (ρ.set i (.own ts)))
def sRet (f : Env' → M T) : Env' → M Fl := fun ρ => (f ρ).bind fun t => .ret (.ret t)
def sIf (c : Env' → M Bool) (G1 G2 : Env' → M Fl) : Env' → M Fl := fun ρ => (c ρ).bind fun b => if b = true then G1 ρ else G2 ρ
def sDrop (f : Env' → M T) : Env' → M Fl := fun ρ => (f ρ).bind fun _ => .ret (.next ρ)
def sBrk : Env' → M Fl := fun ρ => .ret (.brk ρ)
def sCont : Env' → M Fl := fun ρ => .ret (.cont ρ)
def sStuck : Env' → M Fl := fun _ => .stuck
/-- a list of the def's own is final from here on -/
def fz (i : Nat) (ρ : Env') : Env' := match ρ[i]? with
  | some (.own ts) => ρ.set i (.val (.lst ts))
  | some (.ownD kvs) => ρ.set i (.val (.dct kvs))
  | _ => ρ
def sFz (i : Nat) (G : Env' → M Fl) : Env' → M Fl := fun ρ => G (fz i ρ)

section
variable {X : Cx} {g : Cn} {W : WX} {k : Nat} {pos : Pos} {c e : Expr} {st : Stmt} {rest body : List Stmt} {f : Env' → M T} {fn : Env' → M (List T)} {tc : Env' → M Bool} {G G1 G2 : Env' → M Fl}
theorem dss_nil : DSs X g W [] sNext := pss_imp pss_nil fun D σ H ⟨ρ, F, b, s, q⟩ => q σ H F (Same.refl _) s
theorem dss_cons (h1 : DS X g W st G1) (h2 : DSs X g W rest G2) : DSs X g W (st :: rest) (sSeq G1 G2) := pss_imp (pss_cons h1 h2) fun D σ H ⟨ρ, F, b, s, q⟩ => ⟨ρ, F, b, s, M.wp_mono (M.wp_bind.mp q) (fun b1 fl q1 => by
  cases fl with
  | next ρ' => exact fun σ' H' F' e s' => ⟨ρ', F', b1, s', M.wp_mono q1 (fun _ _ z => z.step e) fun _ _ _ z => z.step e⟩
  | ret t => exact q1
  | brk ρ' => exact q1
  | cont ρ' => exact q1) fun _ _ _ z => z⟩
theorem dss_one (h1 : DS X g W st G1) : DSs X g W [st] G1 := pss_one h1
theorem ds_pass : DS X g W (.Pass pos) sNext := ps_imp ps_pass fun D σ H ⟨ρ, F, b, s, q⟩ => q σ H F (Same.refl _) s
theorem ds_break : DS X g W (.Break pos) sBrk := ps_imp ps_break fun D σ H ⟨ρ, F, b, s, q⟩ => q σ H F (Same.refl _) s
theorem ds_continue : DS X g W (.Continue pos) sCont := ps_imp ps_continue fun D σ H ⟨ρ, F, b, s, q⟩ => q σ H F (Same.refl _) s
theorem ds_never : DS X g W st sStuck := ps_imp ps_never fun D σ H ⟨ρ, F, b, s, q⟩ => q
theorem ds_ret (he : DE X g W e f) : DS X g W (.Return (some e) pos) (sRet f) := ps_imp (ps_ret he) fun D σ H ⟨ρ, F, b, s, q⟩ => ⟨ρ, F, b, s, M.wp_mono (M.wp_bind.mp q) (fun b1 t q1 v H' F' s1 r => q1 v σ ρ H' F' s1.ext s1.sr r) fun _ _ _ z => z.ex⟩
theorem ds_drop (he : DE X g W e f) (hs : swapsWith e none pos.line X.env = pure false := by rfl) : DS X g W (.Expr e pos) (sDrop f) := ps_imp (ps_expr he hs) fun D σ H ⟨ρ, F, b, s, q⟩ => ⟨ρ, F, b, s, M.wp_mono (M.wp_bind.mp q) (fun b1 t q1 v H' F' s1 r => q1 σ H' F' s1.ext s1.sr) fun _ _ _ z => z.ex⟩
theorem ds_if {a1 a2 : List Stmt} (hc : DT X g W c tc) (h1 : DSs X g W a1 G1) (h2 : DSs X g W a2 G2) : DS X g W (.If c a1 a2 pos) (sIf tc G1 G2) := ps_imp (ps_if hc h1 h2) fun D σ H ⟨ρ, F, b, s, q⟩ => ⟨ρ, F, b, s, M.wp_mono (M.wp_bind.mp q) (fun b1 d q1 H' F' s1 => by
  cases d with
  | true =>
    rw [if_pos rfl] at q1 ⊢
    exact ⟨ρ, F', b1, s1.sr, M.wp_mono q1 (fun _ _ z => z.step s1.ext) fun _ _ _ z => z.step s1.ext⟩
  | false =>
    rw [if_neg Bool.false_ne_true] at q1 ⊢
    exact ⟨ρ, F', b1, s1.sr, M.wp_mono q1 (fun _ _ z => z.step s1.ext) fun _ _ _ z => z.step s1.ext⟩) fun _ _ _ z => z.ex⟩
theorem ds_set {i : Nat} {x : Str} {pos' : Pos} (hN : X.N.Nodup) (hi : X.N[i]? = some x) (hx : Loc X.env.scope x) (he : DE X g W e f) (hs : swapsWith e (some (.Name x pos')) pos.line X.env = pure false := by rfl) (hf : X.fn x = true ∨ X.env.scope.names.lookup x = some .local := by first | exact .inl rfl | exact .inr rfl | assumption) :
    DS X g W (.Assign [.Name x pos'] e pos) (sSet i f) := ps_imp (ps_set hN hi hx he hs hf) fun D σ H ⟨ρ, F, b, s, q⟩ => ⟨ρ, F, b, s, M.wp_mono (M.wp_bind.mp q) (fun b1 t q1 v H' F' s1 r => q1 _ H' F' s1.ext (s1.sr.set i (.val r) rfl)) fun _ _ _ z => z.ex⟩
theorem ds_own {i : Nat} {x : Str} {pos' : Pos} (hN : X.N.Nodup) (hi : X.N[i]? = some x) (hx : Loc X.env.scope x) (he : DN X g W e fn) (hs : swapsWith e (some (.Name x pos')) pos.line X.env = pure false := by rfl) (hf : X.fn x = true ∨ X.env.scope.names.lookup x = some .local := by first | exact .inl rfl | exact .inr rfl | assumption) :
    DS X g W (.Assign [.Name x pos'] e pos) (sOwn i fn) := ps_imp (ps_set hN hi hx he hs hf) fun D σ H ⟨ρ, F, b, s, q⟩ => ⟨ρ, F, b, s, M.wp_mono (M.wp_bind.mp q) (fun b1 ts q1 p vs H1 H' F' s1 hp e r => by
  subst e
  exact q1 _ _ F' s1.ext (s1.sr.setOwn i hp r)) fun _ _ _ z => z.ex⟩
theorem ds_setLc {i : Nat} {y : Str} {py lpos spos : Pos} {elt : Expr} {gs : List Comprehension} {scope : Scope} (h : PS X (.Assign [.Name y py] (.ListComp elt gs scope lpos) spos) (tAsg (tDN g W fn) (gName i))) : DS X g W (.Assign [.Name y py] (.ListComp elt gs scope lpos) spos) (sSet i (e1 lstT fn)) :=
  ps_imp h fun D σ H ⟨ρ, F, b, s, q⟩ => ⟨ρ, F, b, s, M.wp_mono (M.wp_bind.mp (M.wp_bind.mp q)) (fun b1 ts q1 p vs H1 H' F' s1 hp e r => by
  subst e
  have st := s1.sr.step (.lst vs) hp
  exact q1 _ _ _ (s1.ext.trans st.ext) (st.sr.set i (.val (.lst upd_same (r.ext st.ext))) rfl)) fun _ _ _ z => z.ex⟩
theorem ds_ownLc {i : Nat} {y : Str} {py lpos spos : Pos} {elt : Expr} {gs : List Comprehension} {scope : Scope} (h : PS X (.Assign [.Name y py] (.ListComp elt gs scope lpos) spos) (tAsg (tDN g W fn) (gName i))) : DS X g W (.Assign [.Name y py] (.ListComp elt gs scope lpos) spos) (sOwn i fn) :=
  ps_imp h fun D σ H ⟨ρ, F, b, s, q⟩ => ⟨ρ, F, b, s, M.wp_mono (M.wp_bind.mp q) (fun b1 ts q1 p vs H1 H' F' s1 hp e r => by
  subst e
  exact q1 _ _ F' s1.ext (s1.sr.setOwn i hp r)) fun _ _ _ z => z.ex⟩
/-- the ghost step -/
theorem SR.fz {g : Cn} {F H : Hp} {σ : Sg} {ρ : Env'} {b : Nat} (s : SR g F H σ ρ b) (i : Nat) : ∃ F', Ext F F' ∧ SR g F' H σ (fz i ρ) b := by
  unfold DP.fz
  have go : ∀ (a : Addr) (o : HO) (x y : Sl), ρ[i]? = some x → x.isOwn = true → σ[i]? = some (some (.ref a)) → H a = some o → F a = none → g.H0 a = none → ¬ g.inS a → y.isOwn = false → (∀ F', Ext F F' → F' a = some o → SlOk g F' H (some (.ref a)) y) → ∃ F', Ext F F' ∧ SR g F' H σ (ρ.set i y) b := by
    intro a o x y hx ox hv ha hfa h0 ns ny hy
    have e : Ext F (upd F a o) := Ext.upd hfa
    have il : i < ρ.length := (List.getElem?_eq_some_iff.mp hx).1
    refine ⟨upd F a o, e, ⟨fun c u q => ?_, s.f0.trans e, s.keep, fun c u q1 q2 => ?_, ?_, fun j k c z w jk hz hw oz ow e1 => ?_, fun p l q => ?_, s.tabK e fun p q m => ⟨fun _ h => h, by rw [upd_ne (Cn.tabNe ns m)]; exact (s.tabs p q m).1⟩⟩⟩
    · by_cases hc : c = a
      · subst hc; rw [upd_same] at q; cases q; exact ha
      · rw [upd_ne hc] at q; exact s.sub c u q
    · rw [upd_ne (fun z => by subst z; rw [h0] at q1; cases q1)]; exact s.new c u q1 q2
    · refine Paired.setImp (i := i) s.slots hv (hy _ e upd_same) fun j v z hj h1 h2 r => ?_
      have ne : ∀ c : Addr, v = some (.ref c) → z.isOwn = true → c ≠ a := fun c e1 oz z1 => by
        subst z1
        exact s.dis i j c x z (Ne.symm hj) hx h2 ox oz hv (by rw [h1, e1])
      cases r with
      | any v => exact .any v
      | val r => exact .val (r.ext e)
      | own z1 z2 z3 z4 z5 => exact .own z1 (by rw [upd_ne (ne _ rfl rfl)]; exact z2) z3 z4 (z5.ext e)
      | ownD z1 z2 z3 z4 z5 => exact .ownD z1 (by rw [upd_ne (ne _ rfl rfl)]; exact z2) z3 z4 (z5.ext e)
      | ownS z1 z2 z3 z4 z5 => exact .ownS z1 (by rw [upd_ne (ne _ rfl rfl)]; exact z2) z3 z4 (z5.ext e)
      | strm h => exact .strm h
      | pin h => exact .pin h
    · rcases get_set hz with ⟨rfl, rfl, _⟩ | ⟨nj, hz⟩
      · rw [ny] at oz; cases oz
      · rcases get_set hw with ⟨rfl, rfl, _⟩ | ⟨nk, hw⟩
        · rw [ny] at ow; cases ow
        · exact s.dis j k c z w jk hz hw oz ow e1
    · obtain ⟨q1, q2, q3, q4⟩ := s.strm p l q
      refine ⟨by rw [upd_ne (fun z => ns (.inl ⟨p, l, q, .inl z.symm⟩))]; exact q1, by rw [upd_ne (fun z => ns (.inl ⟨p, l, q, .inr z.symm⟩))]; exact q2, q3, q4⟩
  cases hx : ρ[i]? with
  | none => exact ⟨F, Same.refl _, s⟩
  | some x =>
    obtain ⟨v, hv, r⟩ := Paired.get1 s.slots hx
    cases r with
    | any v => exact ⟨F, Same.refl _, s⟩
    | val r => exact ⟨F, Same.refl _, s⟩
    | strm h => exact ⟨F, Same.refl _, s⟩
    | pin a => exact ⟨F, Same.refl _, s⟩
    | own h1 h2 h3 h4 h5 => exact go _ _ _ _ hx rfl hv h1 h2 h3 h4 rfl fun F' e ha => .val (.lst ha (h5.ext e))
    | ownD h1 h2 h3 h4 h5 => exact go _ _ _ _ hx rfl hv h1 h2 h3 h4 rfl fun F' e ha => .val (.dct ha (h5.ext e))
    | ownS _ _ _ _ _ => exact ⟨F, Same.refl _, s⟩
theorem dss_fz (i : Nat) (h : DSs X g W rest G) : DSs X g W rest (sFz i G) := pss_imp h fun D σ H ⟨ρ, F, b, s, q⟩ => by
  obtain ⟨F', e, s'⟩ := s.fz i
  exact ⟨fz i ρ, F', b, s', M.wp_mono q (fun _ _ z => z.step e) fun _ _ _ z => z.step e⟩
end
end DP
end
section
set_option Elab.async false
set_option linter.all false
set_option maxRecDepth 100000
namespace DP
open PySem PySem.Spec PyProof.Rows L2

/-! ### while -/
def whileL (c : Env' → M Bool) (G : Env' → M Fl) : Nat → Env' → M Fl
  | 0, _ => .stuck
  | n + 1, ρ => (c ρ).bind fun b => if b = true then (G ρ).bind fun fl => match fl with
      | .next ρ' => whileL c G n ρ'
      | .cont ρ' => whileL c G n ρ'
      | .brk ρ' => .ret (.next ρ')
      | .ret t => .ret (.ret t)
    else .ret (.next ρ)
def sWhile (n : Nat) (c : Env' → M Bool) (G : Env' → M Fl) : Env' → M Fl := whileL c G n
/-! ### for -/
def forL (bd : T → Env' → Option Env') (G : Env' → M Fl) : List T → Env' → M Fl
  | [], ρ => .ret (.next ρ)
  | t :: ts, ρ => match bd t ρ with
    | none => .stuck
    | some ρ1 => (G ρ1).bind fun fl => match fl with
      | .next ρ' => forL bd G ts ρ'
      | .cont ρ' => forL bd G ts ρ'
      | .brk ρ' => .ret (.next ρ')
      | .ret t => .ret (.ret t)
def sFor (fi : Env' → M (List T)) (bd : T → Env' → Option Env') (G : Env' → M Fl) : Env' → M Fl := fun ρ => (fi ρ).bind fun ts => forL bd G ts ρ

/-- an iterator that gives ts -/
structure Wk (g : Cn) (J : It) (F : Hp) (ts : List T) : Prop where
  go : ∀ (i : Nat) (F2 H : Hp), Ext F F2 → Ext F2 H → i < ts.length → J.go i H
  stop : ∀ (F2 H : Hp), Ext F F2 → Ext F2 H → J.stop ts.length H
  yld : ∀ (i : Nat) (F2 H : Hp) (x : V) (H' : Hp) (t : T), Ext F F2 → Ext F2 H → ts[i]? = some t → J.yld i H x H' → (H' = H ∧ Rep g.K F2 x t) ∨ ∃ p vs us, H p = none ∧ H' = upd H p (.tup vs) ∧ x = .ref p ∧ t = .tup us ∧ Reps g.K F2 vs us
def tDI (g : Cn) (W : WX) (f : Env' → M (List T)) : TI := fun σ H R => ∃ ρ F b, SR g F H σ ρ b ∧ (f ρ).wp b (fun b' ts => ∀ J F' H', Step g σ ρ F H F' H' b' → Wk g J F' ts → R J H') (EX g W σ ρ F H)
abbrev DI (X : Cx) (g : Cn) (W : WX) (tg e : Expr) (f : Env' → M (List T)) : Prop := PI X tg e (tDI g W f)
/-- only slots of vs are other ones -/
def Apart {α : Type} (vs : List Nat) (xs ys : List α) : Prop := xs.length = ys.length ∧ ∀ j, j ∉ vs → xs[j]? = ys[j]?
theorem Apart.refl {α : Type} (vs : List Nat) (xs : List α) : Apart vs xs xs := ⟨rfl, fun _ _ => rfl⟩
theorem Apart.trans {α : Type} {vs ws : List Nat} {xs ys zs : List α} (a : Apart vs xs ys) (b : Apart ws ys zs) : Apart (vs ++ ws) xs zs := ⟨a.1.trans b.1, fun j h => (a.2 j fun z => h (List.mem_append_left _ z)).trans (b.2 j fun z => h (List.mem_append_right _ z))⟩
theorem Apart.set {α : Type} (xs : List α) (i : Nat) (x : α) : Apart [i] xs (xs.set i x) := ⟨by simp, fun j h => by rw [List.getElem?_set_ne (fun z => h (List.mem_singleton.mpr z.symm))]⟩
def NoOwn (vs : List Nat) (ρ : Env') : Prop := ∀ i ∈ vs, ∀ x, ρ[i]? = some x → x.isOwn = false
theorem NoOwn.app {vs ws : List Nat} {ρ ρ' : Env'} (h : NoOwn vs ρ) (a : Apart ws ρ ρ') (h' : NoOwn ws ρ') : NoOwn (vs ++ ws) ρ' := fun i hi x e => by
  by_cases hw : i ∈ ws
  · exact h' i hw x e
  · rw [← a.2 i hw] at e
    exact h i ((List.mem_append.mp hi).resolve_right hw) x e
def tDG (g : Cn) (vs : List Nat) (bd : T → Env' → Option Env') : TG := fun v σ H Q => ∃ ρ F b t, SR g F H σ ρ b ∧ Rep g.K F v t ∧ ∃ ρ', bd t ρ = some ρ' ∧ ∀ σ', SR g F H σ' ρ' b → Apart vs σ σ' → Apart vs ρ ρ' → NoOwn vs ρ' → Q σ' H
abbrev DG (X : Cx) (g : Cn) (vs : List Nat) (tg : Expr) (bd : T → Env' → Option Env') : Prop := PG X tg (tDG g vs bd)

theorem pi_imp {X : Cx} {tg e : Expr} {t t' : TI} (h : PI X tg e t) (i : ∀ σ H R, t' σ H R → t σ H R) : PI X tg e t' := ⟨fun pins s σ H R I hw => h.run pins s σ H R I (i σ H R hw)⟩
theorem pg_imp {X : Cx} {tg : Expr} {t t' : TG} (h : PG X tg t) (i : ∀ v σ H Q, t' v σ H Q → t v σ H Q) : PG X tg t' := ⟨fun pins s σ H v u Q I r hw => h.run pins s σ H v u Q I r (i v σ H Q hw)⟩

section
variable {X : Cx} {g : Cn} {W : WX} {k : Nat} {pos : Pos} {c e tg iter : Expr} {body : List Stmt} {f : Env' → M T} {fi fn : Env' → M (List T)} {tc : Env' → M Bool} {G : Env' → M Fl} {bd : T → Env' → Option Env'} {ws us : List Nat}
theorem ds_while (n : Nat) (hp : PassesOwn (model X.prog X.w) X.A X.env X.xe) (hc : DT X g W c tc) (hb : DSs X g W body G) : DS X g W (.While c body [] pos) (sWhile n tc G) :=
  ps_imp (ps_while hp hc hb) fun D σ H ⟨ρ, F, b, s, q⟩ => by
    refine ⟨fun m σ' H' => ∃ ρ' F' b', Ext F F' ∧ SR g F' H' σ' ρ' b' ∧ (whileL tc G m ρ').wp b' (FlOk g F D) (EXs g W F), ⟨n, ρ, F, b, Same.refl _, s, q⟩, ?_⟩
    rintro m σ1 H1 ⟨ρ1, F1, b1, e1, s1, q1⟩
    cases m with
    | zero => exact q1.elim
    | succ m =>
      refine ⟨ρ1, F1, b1, s1, M.wp_mono (M.wp_bind.mp q1) (fun b2 d q2 H2 F2 s2 => ?_) fun _ _ _ z => (z.step e1).ex⟩
      cases d with
      | false =>
        rw [if_neg Bool.false_ne_true] at q2 ⊢
        exact q2 σ1 H2 F2 (e1.trans s2.ext) s2.sr
      | true =>
        rw [if_pos rfl] at q2 ⊢
        refine ⟨fun σ' H' => ∃ ρ' F' b', Ext F F' ∧ SR g F' H' σ' ρ' b' ∧ (whileL tc G m ρ').wp b' (FlOk g F D) (EXs g W F), fun σ' H' h => ⟨m, Nat.lt_succ_self m, h⟩, ρ1, F2, b2, s2.sr, M.wp_mono (M.wp_bind.mp q2) (fun b3 fl q3 => ?_) fun _ _ _ z => z.step (e1.trans s2.ext)⟩
        cases fl with
        | next ρ' => exact fun σ' H' F' e' s' => ⟨ρ', F', b3, (e1.trans s2.ext).trans e', s', q3⟩
        | cont ρ' => exact fun σ' H' F' e' s' => ⟨ρ', F', b3, (e1.trans s2.ext).trans e', s', q3⟩
        | brk ρ' => exact fun σ' H' F' e' s' => q3 σ' H' F' ((e1.trans s2.ext).trans e') s'
        | ret t => exact fun v σ' ρ' H' F' e' s' => q3 v σ' ρ' H' F' ((e1.trans s2.ext).trans e') s'
theorem ds_for (hp : PassesOwn (model X.prog X.w) X.A X.env X.xe) (hc : X.calm = true) (hi : DI X g W tg iter fi) (hg : DG X g ws tg bd) (hb : DSs X g W body G)
    (hs : ∀ x, foldedSetIterable iter X.env x = pure x := by intro _; rfl) : DS X g W (.For tg iter body [] pos) (sFor fi bd G) :=
  ps_imp (ps_for hp hc hi hg hb hs) fun D σ H ⟨ρ, F, b, s, q⟩ => by
    refine ⟨ρ, F, b, s, M.wp_mono (M.wp_bind.mp q) (fun b1 ts q1 J F1 H1 s1 w => ?_) fun _ _ _ z => z.ex⟩
    refine ⟨fun i m σ' H' => m = ts.length - i ∧ i ≤ ts.length ∧ ∃ ρ' F' b', Ext F1 F' ∧ SR g F' H' σ' ρ' b' ∧ (forL bd G (ts.drop i) ρ').wp b' (FlOk g F D) (EXs g W F), ⟨ts.length, by simp, Nat.zero_le _, ρ, F1, b1, Same.refl _, s1.sr, q1⟩, ?_⟩
    rintro i m σ2 H2 ⟨rfl, hi, ρ2, F2, b2, e2, s2, q2⟩
    by_cases hl : i < ts.length
    · refine .inr ⟨w.go i F2 H2 e2 s2.sub hl, fun σ' H' => ts.length - (i + 1) = ts.length - (i + 1) ∧ i + 1 ≤ ts.length ∧ ∃ ρ' F' b', Ext F1 F' ∧ SR g F' H' σ' ρ' b' ∧ (forL bd G (ts.drop (i + 1)) ρ').wp b' (FlOk g F D) (EXs g W F), fun σ' H' h => ⟨ts.length - (i + 1), by omega, h⟩, fun x H3 y => ?_⟩
      have hd : ts.drop i = ts[i] :: ts.drop (i + 1) := List.drop_eq_getElem_cons hl
      rw [hd] at q2
      have eF : Ext F F2 := s1.ext.trans e2
      cases hb' : bd ts[i] ρ2 with
      | none =>
        have q2 : (match bd ts[i] ρ2 with | none => M.stuck | some ρ1 => (G ρ1).bind _).wp b2 _ _ := q2
        rw [hb'] at q2
        exact q2.elim
      | some ρ3 =>
        have q2 : (match bd ts[i] ρ2 with | none => M.stuck | some ρ1 => (G ρ1).bind _).wp b2 _ _ := q2
        rw [hb'] at q2
        have q3 := M.wp_bind.mp q2
        have fin : ∀ (F4 : Hp), Ext F2 F4 → ∀ (σ4 : Sg) (H4 : Hp), SR g F4 H4 σ4 ρ3 b2 → tDS g W G { D with nx := fun σ' H' => ts.length - (i + 1) = ts.length - (i + 1) ∧ i + 1 ≤ ts.length ∧ ∃ ρ' F' b', Ext F1 F' ∧ SR g F' H' σ' ρ' b' ∧ (forL bd G (ts.drop (i + 1)) ρ').wp b' (FlOk g F D) (EXs g W F), ct := fun σ' H' => ts.length - (i + 1) = ts.length - (i + 1) ∧ i + 1 ≤ ts.length ∧ ∃ ρ' F' b', Ext F1 F' ∧ SR g F' H' σ' ρ' b' ∧ (forL bd G (ts.drop (i + 1)) ρ').wp b' (FlOk g F D) (EXs g W F), bk := D.nx } σ4 H4 := by
          intro F4 e4 σ4 H4 s4
          refine ⟨ρ3, F4, b2, s4, M.wp_mono q3 (fun b5 fl q5 => ?_) fun _ _ _ z => z.step (eF.trans e4)⟩
          cases fl with
          | next ρ' => exact fun σ' H' F' e' s' => ⟨rfl, hl, ρ', F', b5, (e2.trans e4).trans e', s', q5⟩
          | cont ρ' => exact fun σ' H' F' e' s' => ⟨rfl, hl, ρ', F', b5, (e2.trans e4).trans e', s', q5⟩
          | brk ρ' => exact fun σ' H' F' e' s' => q5 σ' H' F' ((eF.trans e4).trans e') s'
          | ret t => exact fun v σ' ρ' H' F' e' s' => q5 v σ' ρ' H' F' ((eF.trans e4).trans e') s'
        rcases w.yld i F2 H2 x H3 ts[i] e2 s2.sub (List.getElem?_eq_getElem hl) y with ⟨rfl, r⟩ | ⟨p, vs, us, hp', rfl, rfl, et, r⟩
        · exact ⟨ρ2, F2, b2, _, s2, r, ρ3, hb', fun σ4 s4 _ _ _ => fin F2 (Same.refl _) σ4 _ s4⟩
        · have st := s2.step (.tup vs) hp'
          refine ⟨ρ2, _, b2, _, st.sr, ?_, ρ3, hb', fun σ4 s4 _ _ _ => fin _ st.ext σ4 _ s4⟩
          rw [et]
          exact .tup (SqT.of upd_same) (r.ext st.ext)
    · have e : i = ts.length := by omega
      subst e
      rw [List.drop_length] at q2
      exact .inl ⟨w.stop F2 H2 e2 s2.sub, q2 σ2 H2 F2 (s1.ext.trans e2) s2⟩

/-! ### targets -/
def bName (i : Nat) : T → Env' → Option Env' := fun t ρ => some (ρ.set i (.val t))
def bSkip : T → Env' → Option Env' := fun _ ρ => some ρ
def bNil : List T → Env' → Option Env'
  | [], ρ => some ρ
  | _, _ => none
def bCons (b : T → Env' → Option Env') (bs : List T → Env' → Option Env') : List T → Env' → Option Env'
  | t :: ts, ρ => (b t ρ).bind (bs ts)
  | _, _ => none
def bTup (bs : List T → Env' → Option Env') : T → Env' → Option Env'
  | .tup ts, ρ => bs ts ρ
  | .lst ts, ρ => bs ts ρ
  | .pn _ ts, ρ => bs ts ρ
  | _, _ => none
def tDGs (g : Cn) (ws : List Nat) (bs : List T → Env' → Option Env') : TGs := fun vs σ H Q => ∃ ρ F b ts, SR g F H σ ρ b ∧ Reps g.K F vs ts ∧ ∃ ρ', bs ts ρ = some ρ' ∧ ∀ σ', SR g F H σ' ρ' b → Apart ws σ σ' → Apart ws ρ ρ' → NoOwn ws ρ' → Q σ' H
abbrev DGs (X : Cx) (g : Cn) (ws : List Nat) (es : List Expr) (bs : List T → Env' → Option Env') : Prop := PGs X es (tDGs g ws bs)
theorem pgs_imp {es : List Expr} {t t' : TGs} (h : PGs X es t) (i : ∀ vs σ H Q, t' vs σ H Q → t vs σ H Q) : PGs X es t' := ⟨fun pins s σ H v u Q I r hw => h.run pins s σ H v u Q I r (i v σ H Q hw)⟩
theorem dg_name {i : Nat} {x : Str} (hN : X.N.Nodup) (hi : X.N[i]? = some x) (hx : Loc X.env.scope x) (hf : X.fn x = true ∨ X.env.scope.names.lookup x = some .local := by first | exact .inl rfl | exact .inr rfl | assumption) : DG X g [i] (.Name x pos) (bName i) :=
  pg_imp (pg_name hN hi hx hf) fun v σ H Q ⟨ρ, F, b, t, s, r, ρ', e, q⟩ => by
    cases e
    exact q _ (s.set i (.val r) rfl) (Apart.set _ _ _) (Apart.set _ _ _) fun j hj x e => by
      cases List.mem_singleton.mp hj
      rcases get_set e with ⟨_, e, _⟩ | ⟨n, _⟩
      · subst e; rfl
      · exact absurd rfl n
theorem dgs_nil : DGs X g [] [] bNil := pgs_imp pgs_nil fun vs σ H Q ⟨ρ, F, b, ts, s, r, ρ', e, q⟩ => by
  cases ts with
  | nil => cases r; cases e; exact ⟨rfl, q _ s (Apart.refl _ _) (Apart.refl _ _) fun _ h => nomatch h⟩
  | cons t ts => cases e
theorem dgs_cons {es : List Expr} {b1 : T → Env' → Option Env'} {bs : List T → Env' → Option Env'} (h1 : DG X g ws e b1) (h2 : DGs X g us es bs)
    (hs : (assignEach (e :: es) X.env).map (·.2) = assign e X.env :: (assignEach es X.env).map (·.2) := by rfl) : DGs X g (ws ++ us) (e :: es) (bCons b1 bs) :=
  pgs_imp (pgs_cons h1 h2 hs) fun vs σ H Q ⟨ρ, F, b, ts, s, r, ρ', e, q⟩ => by
    cases r with
    | nil => cases e
    | @cons v vs t ts r rs =>
      have e : (b1 t ρ).bind (bs ts) = some ρ' := e
      cases z : b1 t ρ with
      | none => rw [z] at e; cases e
      | some ρ1 =>
        rw [z] at e
        exact ⟨v, vs, rfl, ρ, F, b, t, s, r, ρ1, z, fun σ1 s1 a1 a2 n1 => ⟨ρ1, F, b, ts, s1, rs, ρ', e, fun σ2 s2 a3 a4 n2 => q σ2 s2 (a1.trans a3) (a2.trans a4) (n1.app a4 n2)⟩⟩
theorem pg_or {t t' : TG} (h : PG X e t) (h' : PG X e t') : PG X e (fun v σ H Q => t v σ H Q ∨ t' v σ H Q) := ⟨fun pins s σ H v u Q I r hw => hw.elim (h.run pins s σ H v u Q I r) (h'.run pins s σ H v u Q I r)⟩
theorem dg_tup {es : List Expr} {kk n : Nat} {bs : List T → Env' → Option Env'} (hc : X.calm = true) (h : DGs X g ws es bs) (hlen : ∀ ts ρ ρ', bs ts ρ = some ρ' → ts.length = n)
    (hn : (assignEach es X.env).length = n := by rfl) (hst : (assignEach es X.env).findIdx? (·.1) = none := by rfl) (hK : X.K = g.K := by rfl) : DG X g ws (.Tuple es kk pos) (bTup bs) :=
  pg_imp (pg_or (pg_tup hc h hn hst) (pg_unl hc h hn hst)) fun v σ H Q ⟨ρ, F, b, t, s, r, ρ', e, q⟩ => by
    cases t with
    | tup ts =>
      cases r with
      | @tup a vs _ h1 h2 => exact .inl ⟨a, vs, rfl, by rw [hK]; exact sqT_ext s.sub h1, by rw [h2.length]; exact hlen _ _ _ e, ρ, F, b, ts, s, h2, ρ', e, q⟩
    | lst ts =>
      cases r with
      | @lst a vs _ h1 h2 => exact .inr ⟨a, vs, rfl, SqL.of (s.sub _ _ h1), by rw [h2.length]; exact hlen _ _ _ e, ρ, F, b, ts, s, h2, ρ', e, q⟩
    | pn a' ts =>
      cases r with
      | @pn a vs _ h1 h2 => exact .inr ⟨_, vs, rfl, SqL.of (s.sub _ _ h1), by rw [h2.length]; exact hlen _ _ _ e, ρ, F, b, ts, s, h2, ρ', e, q⟩
    | _ => cases e
theorem bNil_len : ∀ (ts : List T) (ρ ρ' : Env'), bNil ts ρ = some ρ' → ts.length = 0
  | [], _, _, _ => rfl
  | _ :: _, _, _, e => by cases e
theorem bCons_len {b : T → Env' → Option Env'} {bs : List T → Env' → Option Env'} {n : Nat} (h : ∀ (ts : List T) (ρ ρ' : Env'), bs ts ρ = some ρ' → ts.length = n) : ∀ (ts : List T) (ρ ρ' : Env'), bCons b bs ts ρ = some ρ' → ts.length = n + 1
  | [], _, _, e => by cases e
  | t :: ts, ρ, ρ', e => by
    have e : (b t ρ).bind (bs ts) = some ρ' := e
    cases z : b t ρ with
    | none => rw [z] at e; cases e
    | some ρ1 =>
      rw [z] at e
      have e : bs ts ρ1 = some ρ' := e
      simp [h ts ρ1 ρ' e]
/-- target = e -/
def sAsg (f : Env' → M T) (bd : T → Env' → Option Env') : Env' → M Fl := fun ρ => (f ρ).bind fun t => match bd t ρ with
  | some ρ' => .ret (.next ρ')
  | none => .stuck
theorem ds_asg (he : DE X g W e f) (hg : DG X g ws tg bd) (hs : swapsWithSole [tg] e pos.line X.env = pure false := by rfl) (hw : swappedStores [tg] e X.env = pure none := by rfl)
    (h1 : (assignEach [tg] X.env).map (·.2) = [assign tg X.env] := by rfl) : DS X g W (.Assign [tg] e pos) (sAsg f bd) :=
  ps_imp (ps_asg he hg hs hw h1) fun D σ H ⟨ρ, F, b, s, q⟩ => ⟨ρ, F, b, s, M.wp_mono (M.wp_bind.mp q) (fun b1 t q1 v H' F' s1 r => by
    cases z : bd t ρ with
    | none => rw [z] at q1; exact q1.elim
    | some ρ' =>
      rw [z] at q1
      exact ⟨ρ, F', b1, t, s1.sr, r, ρ', z, fun σ' s' _ _ _ => q1 σ' H' F' s1.ext s'⟩) fun _ _ _ z => z.ex⟩

/-! ### what is walked -/
def itemsT : T → M (List T)
  | .lst ts => .ret ts
  | .tup ts => .ret ts
  | _ => .stuck
theorem wk_list {a : Addr} {F : Hp} {vs : List V} {ts : List T} (hK : X.K = g.K) (h : F a = some (.lst vs)) (r : Reps g.K F vs ts) : Wk g (Itl X.K a) F ts where
  go := fun i F2 H e1 e2 hi => ⟨vs, vs[i]'(by rw [r.length]; exact hi), SqL.of (e2 _ _ (e1 _ _ h)), by simp [r.length, hi]⟩
  stop := fun F2 H e1 e2 => ⟨vs, SqL.of (e2 _ _ (e1 _ _ h)), by rw [r.length]; exact Nat.le_refl _⟩
  yld := fun i F2 H x H' t e1 e2 ht y => .inl ⟨y.1, by
    obtain ⟨v, hv, rv⟩ := r.get' ht
    have e := y.2 vs (SqL.of (e2 _ _ (e1 _ _ h)))
    rw [hv] at e
    cases e
    exact rv.ext e1⟩
theorem wk_tup {a : Addr} {F : Hp} {vs : List V} {ts : List T} (hK : X.K = g.K) (h : SqT g.K F a vs) (r : Reps g.K F vs ts) : Wk g (Itt X.K a) F ts where
  go := fun i F2 H e1 e2 hi => ⟨vs, vs[i]'(by rw [r.length]; exact hi), by rw [hK]; exact sqT_ext (e1.trans e2) h, by simp [r.length, hi]⟩
  stop := fun F2 H e1 e2 => ⟨vs, by rw [hK]; exact sqT_ext (e1.trans e2) h, by rw [r.length]; exact Nat.le_refl _⟩
  yld := fun i F2 H x H' t e1 e2 ht y => .inl ⟨y.1, by
    obtain ⟨v, hv, rv⟩ := r.get' ht
    have e := y.2 vs (by rw [hK]; exact sqT_ext (e1.trans e2) h)
    rw [hv] at e
    cases e
    exact rv.ext e1⟩
/-- a list or a tuple, by what the expression gives -/
theorem pi_seq {l : Expr} {tl : TE} (hl : PE X l tl) : PI X tg l (fun σ H R => tl σ H fun x H1 => ∃ a, x = .ref a ∧ (((∃ xs, SqL X.K H1 a xs) ∧ R (Itl X.K a) H1) ∨ ((∃ xs, SqT X.K H1 a xs) ∧ R (Itt X.K a) H1))) := by
  refine ⟨fun pins s σ H R I h => thn (hl.run pins s σ H _ I h) fun v s1 hv => ?_⟩
  obtain ⟨x, H1, I1, r1, a, rfl, q⟩ := hv
  cases r1
  have fp : ∀ b ∈ [s1.heap.objs.size], FpOk X pins H1 b := fun b hb => by
    cases List.mem_singleton.mp hb
    exact I1.fpOk (Nat.le_refl _) (I1.hok.fresh (Nat.le_refl _))
  rcases q with ⟨⟨xs, hq⟩, q⟩ | ⟨⟨xs, hq⟩, q⟩
  · obtain ⟨its, rv, p, hz⟩ := I1.list hq
    exact wpAny_pyIter_list p.isList ⟨_, [s1.heap.objs.size], _, _, H1, rfl, I1.kept (t' := s1.toks) fun b o e => Heap.get?_push_of_some _ e, turn_list a _, ⟨_, Heap.get?_push_size _ rfl, rfl, rfl⟩, fp, q⟩
  · obtain ⟨its, rv, p, hz⟩ := I1.tuple hq
    exact wpAny_pyIter_tuple (show s1.heap.IsTuple a its.toArray from p) ⟨_, [s1.heap.objs.size], _, _, H1, rfl, I1.kept (t' := s1.toks) fun b o e => Heap.get?_push_of_some _ e, turn_tuple a _, ⟨_, Heap.get?_push_size _ rfl, rfl, rfl⟩, fp, q⟩
theorem di_seq (h : DE X g W e f) (hK : X.K = g.K := by rfl) : DI X g W tg e (e1 itemsT f) :=
  pi_imp (pi_seq h) fun σ H R ⟨ρ, F, b, s, q⟩ => ⟨ρ, F, b, s, M.wp_mono (M.wp_bind.mp q) (fun b1 t q1 v H' F' s1 r => by
    cases t with
    | lst ts =>
      cases r with
      | @lst a vs _ h1 h2 => exact ⟨a, rfl, .inl ⟨⟨vs, SqL.of (s1.sr.sub _ _ h1)⟩, q1 _ F' H' s1 (wk_list hK h1 h2)⟩⟩
    | tup ts =>
      cases r with
      | @tup a vs _ h1 h2 => exact ⟨a, rfl, .inr ⟨⟨vs, by rw [hK]; exact sqT_ext s1.sr.sub h1⟩, q1 _ F' H' s1 (wk_tup hK h1 h2)⟩⟩
    | _ => exact q1.elim) fun _ _ _ z => z⟩
end
end DP
end
section
set_option Elab.async false
set_option linter.all false
set_option maxRecDepth 100000
namespace DP
open PySem PySem.Spec PyProof.Rows L2

/-! ### what a def promises -/
def inS (S : Option (Addr × Addr)) (a : Addr) : Prop := ∃ s l, S = some (s, l) ∧ (a = s ∨ a = l)
structure After (S : Option (Addr × Addr)) (F H F' H' : Hp) (b : Nat) : Prop where
  ext : Ext F F'
  sub : Ext F' H'
  keep : ∀ a o, H a = some o → ¬ inS S a → H' a = some o
  new : ∀ a o, H a = some o → F a = none → F' a = none
  strm : ∀ s l, S = some (s, l) → StreamAt H' s l b
/-- the parameters: the stream ahead (st), then np values; the value is m's -/
def spD (K : KF) (Xc : Str → Addr × Str) (st : Bool) (np : Nat) (m : List T → M T) : Sp := fun vs H Q E => ∃ S F b vs' ts,
  vs'.length = np ∧ (if st = true then ∃ s l, S = some (s, l) ∧ vs = .ref s :: vs' ∧ F s = none ∧ F l = none ∧ s ≠ l ∧ StreamAt H s l b else S = none ∧ vs = vs') ∧ Ext F H ∧ Reps K F vs' ts ∧
  (m ts).wp b (fun b' t => ∀ v H' F', After S F H F' H' b' → Rep K F' v t → Q v H') (fun b' c t => ∀ d v H' F', After S F H F' H' b' → H' d = some (.xd [((Xc c).2, v)]) → Rep K F' v t → E (.ref (Xc c).1) (some d) H')
/-- the slots at the entry -/
def start' (st : Bool) (n : Nat) (ts : List T) : Env' := (if st = true then [Sl.strm] else []) ++ ts.map Sl.val ++ List.replicate (n - (ts.length + if st = true then 1 else 0)) Sl.any
/-- a def by its body -/
def fnM (st : Bool) (n : Nat) (G : Env' → M Fl) : List T → M T := fun ts => (G (start' st n ts)).bind fun fl => match fl with
  | .ret t => .ret t
  | .next _ => .ret .non
  | _ => .stuck

theorem slots_vals {g : Cn} {F H : Hp} : ∀ {vs : List V} {ts : List T}, Reps g.K F vs ts → Paired (SlOk g F H) (vs.map some) (ts.map Sl.val)
  | _, _, .nil => .nil
  | _, _, .cons h r => .cons (.val h) (slots_vals r)
theorem slots_any {g : Cn} {F H : Hp} : ∀ n : Nat, Paired (SlOk g F H) (List.replicate n (none : Option V)) (List.replicate n Sl.any)
  | 0 => .nil
  | n + 1 => .cons (.any _) (slots_any n)
theorem Paired.app {α β : Type} {R : α → β → Prop} : ∀ {xs zs : List α} {ys ws : List β}, Paired R xs ys → Paired R zs ws → Paired R (xs ++ zs) (ys ++ ws)
  | _, _, _, _, .nil, s => s
  | _, _, _, _, .cons r t, s => .cons r (Paired.app t s)
theorem start_noOwn (st : Bool) (n : Nat) (ts : List T) : ∀ x ∈ start' st n ts, x.isOwn = false := by
  intro x hx
  unfold start' at hx
  rcases List.mem_append.mp hx with hx | hx
  · rcases List.mem_append.mp hx with hx | hx
    · cases st with
      | true => rw [if_pos rfl] at hx; cases List.mem_singleton.mp hx; rfl
      | false => rw [if_neg Bool.false_ne_true] at hx; cases hx
    · obtain ⟨t, _, e⟩ := List.mem_map.mp hx; subst e; rfl
  · rw [(List.mem_replicate.mp hx).2]; rfl

section
variable {P : Program} {w : World} {K : KF} {mg : Str → Option Value} {base : Heap} {Xc : Str → Addr × Str} {st : Bool} {np : Nat} {x qual : Str} {sd : Stmt} {fa : Addr} {fd : FuncData} {N ps : List Str} {k : Nat} {Gb : Env' → M Fl}
/-- THE RULE for a def -/
theorem fn_deep (F : Fun K x qual sd fa fd) (S : FnScope N ps (defScope sd)) (hps : ps.length = np + if st = true then 1 else 0)
    (body : ∀ (cdv : Value) (A : Around) (outer : List Env) (s : Shared) (H : Hp) (E : XK) (F0 : Hp) (S0 : Option (Addr × Addr)), Room k (A.deeper (envOfC qual (defScope sd) s.heap.objs.size fa cdv)) →
      DSs (cxOf (L2.CX P w) P w K mg base N qual (defScope sd) fa cdv A outer s H E) ⟨K, H, F0, S0, Xc, none, SetTO P w, []⟩ (fun cls d _ H => E cls d H) (defBody sd) Gb) : FnOk P w K mg base (L2.CX P w) (k + 1) fa fd ps (spD K Xc st np (fnM st N.length Gb)) := by
  have len : ∀ vs H Q E, spD K Xc st np (fnM st N.length Gb) vs H Q E → vs.length = ps.length := by
    rintro vs H Q E ⟨S, F, b, vs', ts, h1, h2, _⟩
    cases st with
    | true =>
      rw [if_pos rfl] at h2 hps
      obtain ⟨s, l, _, rfl, _⟩ := h2
      rw [List.length_cons, h1, hps]
    | false =>
      rw [if_neg Bool.false_ne_true] at h2 hps
      rw [h2.2, h1, hps]
      rfl
  refine F.okX S len fun cdv A outer s H vs Q E hr h => ?_
  have hlen := len _ _ _ _ h
  obtain ⟨S', F', b, vs', ts, h1, h2, h3, h4, h5⟩ := h
  refine ⟨_, body cdv A outer s H E F' S' hr, start' st N.length ts, F', b, ?_, ?_⟩
  · have hN : ps.length ≤ N.length := by have := congrArg List.length S.pre; rw [List.length_take] at this; omega
    refine ⟨h3, Same.refl _, fun _ _ q _ => q, fun _ _ _ q => q, ?_, fun i j a y z _ hy _ oy _ => ?_, fun p l e => ?_, fun p q m => nomatch m⟩
    · have hz := h4.length
      unfold L2.start start'
      cases st with
      | true =>
        rw [if_pos rfl] at h2 hps
        rw [if_pos rfl, if_pos rfl]
        obtain ⟨p, l, e1, rfl, e3, e4, e5, e6⟩ := h2
        rw [hlen]
        have e : N.length - ps.length = N.length - (ts.length + 1) := by omega
        rw [e]
        exact Paired.app (Paired.app (.cons (.strm e1) .nil) (slots_vals h4)) (slots_any _)
      | false =>
        rw [if_neg Bool.false_ne_true] at h2 hps
        rw [if_neg Bool.false_ne_true, if_neg Bool.false_ne_true]
        obtain ⟨e1, rfl⟩ := h2
        rw [hlen]
        have e : N.length - ps.length = N.length - (ts.length + 0) := by omega
        rw [e]
        exact Paired.app (slots_vals h4) (slots_any _)
    · rw [start_noOwn st _ ts y (List.mem_of_getElem? hy)] at oy
      cases oy
    · cases st with
      | true =>
        rw [if_pos rfl] at h2
        obtain ⟨p', l', e1, rfl, e3, e4, e5, e6⟩ := h2
        have e : S' = some (p, l) := e
        rw [e1] at e
        cases e
        exact ⟨e3, e4, e5, e6⟩
      | false =>
        rw [if_neg Bool.false_ne_true] at h2
        have e : S' = some (p, l) := e
        rw [h2.1] at e
        cases e
  · have aft : ∀ {σ : Sg} {ρ : Env'} {H2 F2 : Hp} {b' : Nat}, SR ⟨K, H, F', S', Xc, none, SetTO P w, []⟩ F2 H2 σ ρ b' → After S' F' H F2 H2 b' := fun {σ ρ H2 F2 b'} s2 => ⟨s2.f0, s2.sub, fun a o h n => s2.keep a o h fun z => z.elim n (fun ⟨_, m⟩ => nomatch m), s2.new, fun p l e => (s2.strm p l e).2.2.2⟩
    have h5 : (fnM st N.length Gb ts).wp b _ _ := h5
    refine M.wp_mono (M.wp_bind.mp h5) (fun b' fl q => ?_) fun b' c t q d v σ ρ H2 F2 _ s2 hd r => q d v H2 F2 (aft s2) hd r
    cases fl with
    | next ρ' => exact fun σ' H2 F2 _ s2 => q .non H2 F2 (aft s2) .non
    | ret t => exact fun v σ' ρ' H2 F2 _ s2 r => q v H2 F2 (aft s2) r
    | brk ρ' => exact q.elim
    | cont ρ' => exact q.elim
end

/-! ### calls -/
def eCall (m : List T → M T) (f : Env' → M (List T)) : Env' → M T := fun ρ => (f ρ).bind m
/-- .. with the stream ahead, which slot i holds -/
def eCallS (i : Nat) (m : List T → M T) (f : Env' → M (List T)) : Env' → M T := fun ρ => match ρ[i]? with
  | some .strm => (f ρ).bind m
  | _ => .stuck
theorem wp_ret_bind {α β : Type} {a : α} {f : α → M β} : (M.ret a).bind f = f a := rfl
theorem M.wp_le {α : Type} : ∀ {m : M α} {b : Nat} {Q : Nat → α → Prop} {E : Nat → Str → T → Prop}, m.wp b Q E → m.wp b (fun b' a => b' ≤ b ∧ Q b' a) (fun b' c t => b' ≤ b ∧ E b' c t)
  | .ret _, _, _, _, h => ⟨Nat.le_refl _, h⟩
  | .draw _ k, b, _, _, h => ⟨h.1, h.2.1, fun d h1 h2 => M.wp_mono (M.wp_le (m := k d) (h.2.2 d h1 h2)) (fun _ _ z => ⟨Nat.le_trans z.1 (Nat.sub_le _ _), z.2⟩) fun _ _ _ z => ⟨Nat.le_trans z.1 (Nat.sub_le _ _), z.2⟩⟩
  | .exc _ _, _, _, _, h => ⟨Nat.le_refl _, h⟩
  | .stuck, _, _, _, h => h.elim
theorem StreamAt.mono {H : Hp} {s l : Addr} {b b' : Nat} (h : StreamAt H s l b) (e : b' ≤ b) : StreamAt H s l b' := by
  obtain ⟨ns, c, n, m, q1, q2, q6, q7, q8, q9, q10⟩ := h
  exact ⟨ns, c, n, m, q1, q2, q6, q7, by omega, q9, q10⟩
section
variable {X : Cx} {g : Cn} {W : WX} {k : Nat} {f : Addr} {fd : FuncData} {ps : List Str} {x : Str} {p pos : Pos} {e : Expr} {es : List Expr} {fs : Env' → M (List T)} {m : List T → M T} {np : Nat}
theorem Step.of_after {S : Option (Addr × Addr)} {σ : Sg} {ρ : Env'} {F H F' H' : Hp} {b b' : Nat} (s : SR g F H σ ρ b) (a : After S F H F' H' b') (hS : S = g.S ∨ (S = none ∧ b' ≤ b)) : Step g σ ρ F H F' H' b' := by
  have kp : ∀ c o, H c = some o → ¬ g.inS c → H' c = some o := fun c o h n => a.keep c o h fun z => by
    rcases hS with e | e
    · rw [e] at z; exact n (.inl z)
    · obtain ⟨_, _, q, _⟩ := z
      rw [e.1] at q
      cases q
  refine ⟨a.ext, ⟨a.sub, s.f0.trans a.ext, fun c o h n => kp c o (s.keep c o h n) n, fun c o h n => ?_, Paired.imp2 s.slots fun i v z _ _ r => ?_, s.dis, fun p l h => ?_, s.tabK a.ext fun p q m => ?_⟩, fun c o h n _ => kp c o h n, a.new⟩
  · obtain ⟨u, q⟩ := s.there h
    exact a.new c u q (s.new c o h n)
  · cases r with
    | any v => exact .any v
    | val r => exact .val (r.ext a.ext)
    | own h1 h2 h3 h4 h5 => exact .own (kp _ _ h1 h4) (a.new _ _ h1 h2) h3 h4 (h5.ext a.ext)
    | ownD h1 h2 h3 h4 h5 => exact .ownD (kp _ _ h1 h4) (a.new _ _ h1 h2) h3 h4 (h5.ext a.ext)
    | ownS h1 h2 h3 h4 h5 => exact .ownS (kp _ _ h1 h4) (a.new _ _ h1 h2) h3 h4 (h5.ext a.ext)
    | strm h => exact .strm h
    | pin h => exact .pin h
  · obtain ⟨h1, h2, h3, h4⟩ := s.strm p l h
    have h4' := h4
    obtain ⟨ns, c, n, z, q1, q2, _⟩ := h4'
    refine ⟨a.new _ _ q1 h1, a.new _ _ q2 h2, h3, ?_⟩
    rcases hS with e | e
    · exact a.strm p l (e.trans h)
    · have k1 := a.keep _ _ q1 fun z => by
        obtain ⟨_, _, q, _⟩ := z
        rw [e.1] at q
        cases q
      have k2 := a.keep _ _ q2 fun z => by
        obtain ⟨_, _, q, _⟩ := z
        rw [e.1] at q
        cases q
      obtain ⟨ns', c', n', m', r1, r2, r3⟩ := h4.mono e.2
      rw [q1] at r1
      cases r1
      rw [q2] at r2
      have e5 := HO.lst.inj (Option.some.inj r2)
      exact ⟨ns', _, _, _, k1, by rw [k2, e5], r3⟩
  · obtain ⟨h1, h2⟩ := s.tabs p q m
    obtain ⟨ps, hp⟩ := h2.has
    refine ⟨fun o e => a.keep p o e fun z => ?_, a.new p _ hp h1⟩
    obtain ⟨s1, l1, e1, e2⟩ := z
    rcases hS with e3 | e3
    · obtain ⟨_, _, _, ns, c, n, mm, q1, q2, _⟩ := s.strm s1 l1 (e3.symm.trans e1)
      rcases e2 with e2 | e2
      · rw [← e2, hp] at q1; cases q1
      · rw [← e2, hp] at q2; cases q2
    · rw [e3.1] at e1; cases e1
/-- the caller's side of a promise -/
theorem call_sp {σ : Sg} {ρ : Env'} {F H : Hp} {b : Nat} {vs : List V} {ts : List T} {Q : VK} (s : SR g F H σ ρ b) (r : Reps g.K F vs ts) (hl : vs.length = np)
    (q : (m ts).wp b (fun b' t => ∀ v H' F', Step g σ ρ F H F' H' b' → Rep g.K F' v t → Q v H') (EX g W σ ρ F H)) : spD g.K g.X false np m vs H Q (WE W σ) :=
  ⟨none, F, b, vs, ts, hl, by rw [if_neg Bool.false_ne_true]; exact ⟨rfl, rfl⟩, s.sub, r, M.wp_mono (M.wp_le q) (fun b' t z v H' F' a rr => z.2 v H' F' (Step.of_after s a (.inr ⟨rfl, z.1⟩)) rr) fun b' c t z d v H' F' a hd rr => z.2 d v H' F' (Step.of_after s a (.inr ⟨rfl, z.1⟩)) hd rr⟩
theorem call_spS {σ : Sg} {ρ : Env'} {F H : Hp} {b : Nat} {p l : Addr} {vs : List V} {ts : List T} {Q : VK} (s : SR g F H σ ρ b) (hS : g.S = some (p, l)) (r : Reps g.K F vs ts) (hl : vs.length = np)
    (q : (m ts).wp b (fun b' t => ∀ v H' F', Step g σ ρ F H F' H' b' → Rep g.K F' v t → Q v H') (EX g W σ ρ F H)) : spD g.K g.X true np m (.ref p :: vs) H Q (WE W σ) := by
  obtain ⟨h1, h2, h3, h4⟩ := s.strm p l hS
  exact ⟨g.S, F, b, vs, ts, hl, by rw [if_pos rfl]; exact ⟨p, l, hS, rfl, h1, h2, h3, h4⟩, s.sub, r, M.wp_mono q (fun b' t z v H' F' a rr => z v H' F' (Step.of_after s a (.inl rfl)) rr) fun b' c t z d v H' F' a hd rr => z d v H' F' (Step.of_after s a (.inl rfl)) hd rr⟩
def aLen (n : Nat) (f : Env' → M (List T)) : Env' → M (List T) := f
theorem aCons_len {f : Env' → M T} {fs : Env' → M (List T)} {n : Nat} (h : ∀ (ρ : Env') (b : Nat) (Q : Nat → List T → Prop) (E : Nat → Str → T → Prop), (fs ρ).wp b Q E → (fs ρ).wp b (fun b ts => ts.length = n ∧ Q b ts) E)
    (ρ : Env') (b : Nat) (Q : Nat → List T → Prop) (E : Nat → Str → T → Prop) (q : (aCons f fs ρ).wp b Q E) : (aCons f fs ρ).wp b (fun b ts => ts.length = n + 1 ∧ Q b ts) E :=
  wp2.mpr (M.wp_mono (wp2.mp q) (fun b1 t z => M.wp_mono (h ρ b1 _ _ z) (fun b2 ts y => ⟨by rw [List.length_cons, y.1], y.2⟩) fun _ _ _ y => y) fun _ _ _ y => y)
theorem aNil_len (ρ : Env') (b : Nat) (Q : Nat → List T → Prop) (E : Nat → Str → T → Prop) (q : (aNil ρ).wp b Q E) : (aNil ρ).wp b (fun b ts => ts.length = 0 ∧ Q b ts) E := ⟨rfl, q⟩
/-- f(e, ..) -/
theorem de_call (F : FnOk X.prog X.w X.K X.mg X.base (L2.CX X.prog X.w) k f fd ps (spD g.K g.X false np m)) (hr : Room k X.A) (tk : Takes X W) (hm : X.mg x = some (.ref f)) (hk : PySem.W.keepIn X.K (.ref f) = true) (hb : Binds X.K fd ps []) (ha : DA X g W (e :: es) fs)
    (hn : ∀ (ρ : Env') (b : Nat) (Q : Nat → List T → Prop) (E : Nat → Str → T → Prop), (fs ρ).wp b Q E → (fs ρ).wp b (fun b ts => ts.length = np ∧ Q b ts) E)
    (hg : Gl X x := by rfl) (hdb : (x == ("__debug__" : Str)) = false := by decide) (he : starEach (e :: es) X.env = (false, eval e X.env) :: starEach es X.env := by rfl) (hpl : (backTo pos (starEach es X.env)).any (·.1) = false := by rfl) :
    DE X g W (.Call (.Name x p) (e :: es) [] pos) (eCall m fs) :=
  pe_imp (pe_callS F hr hg hm hk hb (fun σ => passAt tk σ) ha hdb he hpl) fun σ H Q ⟨ρ, F, b, s, q⟩ => ⟨ρ, F, b, s, M.wp_mono (hn ρ b _ _ (M.wp_bind.mp q)) (fun b1 ts z vs H1 F1 s1 r1 =>
    call_sp s1.sr r1 (by rw [r1.length]; exact z.1) (M.wp_mono z.2 (fun b2 t y v H2 F2 s2 r2 => y v H2 F2 (s1.trans s2) r2) fun b' c t y => EX.step s1 b' c t y)) fun _ _ _ z => z⟩
/-- f(stream, e, ..) -/
theorem de_callS {e0 : Expr} {i : Nat} (F : FnOk X.prog X.w X.K X.mg X.base (L2.CX X.prog X.w) k f fd ps (spD g.K g.X true np m)) (hr : Room k X.A) (tk : Takes X W) (hm : X.mg x = some (.ref f)) (hk : PySem.W.keepIn X.K (.ref f) = true) (hb : Binds X.K fd ps []) (h0 : PE X e0 (tVar i)) (ha : DA X g W es fs)
    (hn : ∀ (ρ : Env') (b : Nat) (Q : Nat → List T → Prop) (E : Nat → Str → T → Prop), (fs ρ).wp b Q E → (fs ρ).wp b (fun b ts => ts.length = np ∧ Q b ts) E)
    (hg : Gl X x := by rfl) (hdb : (x == ("__debug__" : Str)) = false := by decide) (he : starEach (e0 :: es) X.env = (false, eval e0 X.env) :: starEach es X.env := by rfl) (hpl : (backTo pos (starEach es X.env)).any (·.1) = false := by rfl) :
    DE X g W (.Call (.Name x p) (e0 :: es) [] pos) (eCallS i m fs) :=
  pe_imp (pe_callS F hr hg hm hk hb (fun σ => passAt tk σ) (pa_cons h0 ha he) hdb he hpl) fun σ H Q ⟨ρ, F, b, s, q⟩ => by
    have q : (match ρ[i]? with | some .strm => (fs ρ).bind m | _ => .stuck).wp b _ _ := q
    cases e : ρ[i]? with
    | none => rw [e] at q; exact q.elim
    | some sl =>
      rw [e] at q
      obtain ⟨ov, hv, r⟩ := Paired.get1 s.slots e
      cases r with
      | strm hS =>
        refine ⟨_, hv, ρ, F, b, s, M.wp_mono (hn ρ b _ _ (M.wp_bind.mp q)) (fun b1 ts z vs H1 F1 s1 r1 =>
          call_spS s1.sr hS r1 (by rw [r1.length]; exact z.1) (M.wp_mono z.2 (fun b2 t y v H2 F2 s2 r2 => y v H2 F2 (s1.trans s2) r2) fun b' c t y => EX.step s1 b' c t y)) fun _ _ _ z => z⟩
      | any v => exact q.elim
      | pin a => exact q.elim
      | val r => exact q.elim
      | own _ _ _ _ _ => exact q.elim
      | ownD _ _ _ _ _ => exact q.elim
      | ownS _ _ _ _ _ => exact q.elim
end
end DP
end
section
set_option Elab.async false
set_option linter.all false
set_option maxRecDepth 100000
namespace DP
open PySem PySem.Spec PyProof.Rows L2

/-! ### comprehensions -/
def wipeE (ρ : Env') : List Nat → Env'
  | [] => ρ
  | i :: vs => (wipeE ρ vs).set i .any
theorem wipe_apart (σ : Sg) : ∀ vs : List Nat, Apart vs σ (wipe σ vs)
  | [] => Apart.refl _ _
  | i :: vs => by
    have h := wipe_apart σ vs
    show Apart (i :: vs) σ ((wipe σ vs).set i none)
    exact ⟨by rw [List.length_set]; exact h.1, fun j hj => by
      rw [List.getElem?_set_ne (fun z => hj (by rw [z]; exact List.mem_cons_self))]
      exact h.2 j fun z => hj (List.mem_cons_of_mem _ z)⟩
theorem wipeE_apart (ρ : Env') : ∀ vs : List Nat, Apart vs ρ (wipeE ρ vs)
  | [] => Apart.refl _ _
  | i :: vs => by
    have h := wipeE_apart ρ vs
    show Apart (i :: vs) ρ ((wipeE ρ vs).set i .any)
    exact ⟨by rw [List.length_set]; exact h.1, fun j hj => by
      rw [List.getElem?_set_ne (fun z => hj (by rw [z]; exact List.mem_cons_self))]
      exact h.2 j fun z => hj (List.mem_cons_of_mem _ z)⟩
theorem wipe_sr {g : Cn} {F H : Hp} {σ : Sg} {ρ : Env'} {b : Nat} (s : SR g F H σ ρ b) : ∀ vs : List Nat, SR g F H (wipe σ vs) (wipeE ρ vs) b
  | [] => s
  | i :: vs => (wipe_sr s vs).set i (.any _) rfl
theorem wipe_eq {vs : List Nat} {σ σ' : Sg} (h : Apart vs σ σ') : wipe σ' vs = wipe σ vs := by
  apply List.ext_getElem?
  have len : ∀ (σ : Sg) (vs : List Nat), (wipe σ vs).length = σ.length := fun σ vs => wipe_length σ vs
  have inn : ∀ (vs : List Nat) (σ : Sg) (j : Nat), j ∈ vs → j < σ.length → (wipe σ vs)[j]? = some none := by
    intro vs
    induction vs with
    | nil => intro σ j h; cases h
    | cons i vs ih =>
      intro σ j hj hl
      show ((wipe σ vs).set i none)[j]? = some none
      by_cases e : j = i
      · subst e
        rw [List.getElem?_set_self (by rw [len]; exact hl)]
      · rw [List.getElem?_set_ne (Ne.symm e)]
        exact ih σ j ((List.mem_cons.mp hj).resolve_left e) hl
  intro j
  by_cases hj : j ∈ vs
  · by_cases hl : j < σ.length
    · rw [inn vs σ j hj hl, inn vs σ' j hj (by rw [← h.1]; exact hl)]
    · rw [List.getElem?_eq_none (by rw [len]; exact Nat.le_of_not_lt (by rw [← h.1]; exact hl)), List.getElem?_eq_none (by rw [len]; exact Nat.le_of_not_lt hl)]
  · rw [← (wipe_apart σ' vs).2 j hj, ← (wipe_apart σ vs).2 j hj, h.2 j hj]
/-- a step of a block is a step of the def -/
theorem Step.block {g : Cn} {σ σ2 : Sg} {ρ ρ2 : Env'} {F H F' H' : Hp} {b b' : Nat} {vs : List Nat} (s : SR g F H σ ρ b) (a1 : Apart vs σ σ2) (a2 : Apart vs ρ ρ2) (n1 : NoOwn vs ρ) (n2 : NoOwn vs ρ2) (st : Step g σ2 ρ2 F H F' H' b') : Step g σ ρ F H F' H' b' := by
  refine ⟨st.ext, ⟨st.sr.sub, st.sr.f0, st.sr.keep, st.sr.new, ?_, s.dis, st.sr.strm, st.sr.tabs⟩, fun c o h n m => st.kp c o h n fun z => ?_, st.new⟩
  · refine Paired.imp2 s.slots fun j v x h1 h2 r => ?_
    by_cases hj : j ∈ vs
    · have no := n1 j hj x h2
      cases r with
      | any v => exact .any v
      | val r => exact .val (r.ext st.ext)
      | own _ _ _ _ _ => cases no
      | ownD _ _ _ _ _ => cases no
      | ownS _ _ _ _ _ => cases no
      | strm h => exact .strm h
      | pin h => exact .pin h
    · rw [a1.2 j hj] at h1
      rw [a2.2 j hj] at h2
      obtain ⟨v', hv, r'⟩ := Paired.get1 st.sr.slots h2
      rw [h1] at hv
      cases hv
      exact r'
  · obtain ⟨j, x, h1, h2, h3⟩ := z
    by_cases hj : j ∈ vs
    · have q := n2 j hj x h1
      rw [h2] at q
      cases q
    · exact m ⟨j, x, by rw [a2.2 j hj]; exact h1, h2, by rw [a1.2 j hj]; exact h3⟩


def noExc {α : Type} : M α → M α
  | .ret a => .ret a
  | .draw n k => .draw n fun d => noExc (k d)
  | .exc _ _ => .stuck
  | .stuck => .stuck
theorem noExc_wp {α : Type} : ∀ {m : M α} {b : Nat} {Q : Nat → α → Prop} {E : Nat → Str → T → Prop}, (noExc m).wp b Q E → m.wp b Q (fun _ _ _ => False)
  | .ret _, _, _, _, h => h
  | .draw _ k, _, _, _, h => ⟨h.1, h.2.1, fun d h1 h2 => noExc_wp (m := k d) (h.2.2 d h1 h2)⟩
  | .exc _ _, _, _, _, h => h.elim
  | .stuck, _, _, _, h => h.elim
def lcL (vs : List Nat) (bd : T → Env' → Option Env') (c : Env' → M Bool) (f : Env' → M T) (ρ : Env') : List T → List T → M (List T)
  | [], acc => .ret acc
  | t :: ts, acc => match bd t (wipeE ρ vs) with
    | none => .stuck
    | some ρ1 => (noExc (c ρ1)).bind fun b => if b = true then (noExc (f ρ1)).bind fun y => if okLen acc.length = true then lcL vs bd c f ρ ts (acc ++ [y]) else .stuck
      else lcL vs bd c f ρ ts acc
def noOwnB (vs : List Nat) (ρ : Env') : Bool := vs.all fun i => match ρ[i]? with
  | some x => !x.isOwn
  | none => true
theorem noOwnB_of {vs : List Nat} {ρ : Env'} (h : noOwnB vs ρ = true) : NoOwn vs ρ := fun i hi x e => by
  have q := List.all_eq_true.mp h i hi
  rw [e] at q
  cases z : x.isOwn with
  | false => rfl
  | true => simp [z] at q
def nLc (vs : List Nat) (fi : Env' → M (List T)) (bd : T → Env' → Option Env') (c : Env' → M Bool) (f : Env' → M T) : Env' → M (List T) := fun ρ => (fi ρ).bind fun ts => if noOwnB vs ρ = true then lcL vs bd c f ρ ts [] else .stuck
def cYes : Env' → M Bool := fun _ => .ret true
abbrev DTs (X : Cx) (g : Cn) (W : WX) (es : List Expr) (f : Env' → M Bool) : Prop := PTs X es (tDT g W f)
theorem pts_imp {X : Cx} {es : List Expr} {t t' : TT} (h : PTs X es t) (i : ∀ σ H Q, t' σ H Q → t σ H Q) : PTs X es t' := ⟨fun pins s σ H Q I hw => h.run pins s σ H Q I (i σ H Q hw)⟩
/-- no error leaves -/
abbrev W0 : WX := fun _ _ _ _ => False
section
variable {X : Cx} {g : Cn} {W : WX} {pos : Pos} {elt tg iter c : Expr} {ifs : List Expr} {scope : Scope} {own : List (Str × Nat)} {fi : Env' → M (List T)} {bd : T → Env' → Option Env'} {fc : Env' → M Bool} {f : Env' → M T}
theorem dts_nil : DTs X g W [] cYes := pts_imp pts_nil fun σ H Q ⟨ρ, F, b, s, q⟩ => q H F (Step.refl s)
theorem dts_one (h : DT X g W c fc) : DTs X g W [c] fc := pts_one h
theorem SR.but {g : Cn} {F H H' : Hp} {σ : Sg} {ρ : Env'} {b : Nat} {D : Addr} (s : SR g F H σ ρ b) (h : ∀ a, a ≠ D → H' a = H a) (hf : F D = none) (hs : ¬ g.inS D) (ho : ¬ OwnAt σ ρ D) (h0 : g.H0 D = none) : SR g F H' σ ρ b where
  sub := fun a o e => by rw [h a (ne_of_none e hf)]; exact s.sub a o e
  f0 := s.f0
  keep := fun a o e n => by rw [h a (ne_of_none e h0)]; exact s.keep a o e n
  new := s.new
  slots := Paired.imp2 s.slots fun i v x h1 h2 r => by
    cases r with
    | any v => exact .any v
    | val r => exact .val r
    | @own a _ _ z1 z2 z3 z4 z5 => exact .own (by rw [h a fun e => ho ⟨i, _, h2, rfl, by rw [h1, e]⟩]; exact z1) z2 z3 z4 z5
    | @ownD a _ _ z1 z2 z3 z4 z5 => exact .ownD (by rw [h a fun e => ho ⟨i, _, h2, rfl, by rw [h1, e]⟩]; exact z1) z2 z3 z4 z5
    | @ownS a _ _ z1 z2 z3 z4 z5 => exact .ownS (by rw [h a fun e => ho ⟨i, _, h2, rfl, by rw [h1, e]⟩]; exact z1) z2 z3 z4 z5
    | strm e => exact .strm e
    | pin h => exact .pin h
  dis := s.dis
  strm := fun p l e => by
    obtain ⟨h1, h2, h3, ns, c, n, m, q1, q2, q3⟩ := s.strm p l e
    exact ⟨h1, h2, h3, ns, c, n, m, by rw [h p fun z => hs (.inl ⟨p, l, e, .inl z.symm⟩)]; exact q1, by rw [h l fun z => hs (.inl ⟨p, l, e, .inr z.symm⟩)]; exact q2, q3⟩
  tabs := s.tabK (Same.refl _) fun p q m => ⟨fun o e => by rw [h p (Cn.tabNe hs m)]; exact e, (s.tabs p q m).1⟩
theorem Step.but {g : Cn} {σ : Sg} {ρ : Env'} {F H F' H' H2 : Hp} {b : Nat} {D : Addr} (s : Step g σ ρ F H F' H' b) (hD : H D = none) (h : ∀ a, a ≠ D → H2 a = H' a) (hf : F' D = none) (hs : ¬ g.inS D) (ho : ¬ OwnAt σ ρ D) (h0 : g.H0 D = none) : Step g σ ρ F H F' H2 b :=
  ⟨s.ext, s.sr.but h hf hs ho h0, fun a o e n m => by rw [h a (ne_of_none e hD)]; exact s.kp a o e n m, s.new⟩
theorem Apart.tr {α : Type} {vs : List Nat} {xs ys zs : List α} (a : Apart vs xs ys) (b : Apart vs ys zs) : Apart vs xs zs := ⟨a.1.trans b.1, fun j h => (a.2 j h).trans (b.2 j h)⟩
/-- what the reading of a comprehension asks, from the deep one -/
theorem lc_read {σ : Sg} {H : Hp} {Q : VK} (h : tDN g W (nLc (own.map (·.2)) fi bd fc f) σ H Q) : tLc (tDI g W fi) (tDG g (own.map (·.2)) bd) (tDT g W0 fc) (tD g W0 f) (own.map (·.2)) σ H Q := by
  obtain ⟨ρ, F, b, s, q⟩ := h
  refine ⟨ρ, F, b, s, M.wp_mono (M.wp_bind.mp q) (fun b1 ts q1 J F1 H1 s1 w D hD => ?_) fun _ _ _ z => z⟩
  obtain ⟨no, q1⟩ := if_of q1
  have no := noOwnB_of no
  generalize hvs : own.map (·.2) = vs at q1 no ⊢
  obtain ⟨h0, nS, fD, nO⟩ := s1.sr.h0 hD
  refine ⟨fun i m H' => m = ts.length - i ∧ i ≤ ts.length ∧ ∃ F' b' acc as, Step g σ ρ F1 H1 F' H' b' ∧ F' D = none ∧ H' D = some (.lst acc) ∧ Reps g.K F' acc as ∧ (lcL vs bd fc f ρ (ts.drop i) as).wp b' (fun b' ts => ∀ p vs H1 H' F', Step g σ ρ F H F' H1 b' → H1 p = none → H' = upd H1 p (.lst vs) → Reps g.K F' vs ts → Q (.ref p) H') (EX g W σ ρ F H),
    ⟨ts.length, by simp, Nat.zero_le _, F1, b1, [], [], (Step.refl s1.sr).but hD (fun a h => upd_ne h) fD nS nO h0, fD, upd_same, .nil, q1⟩, ?_⟩
  rintro i m H2 ⟨rfl, hi, F2, b2, acc, as, s2, f2, hD2, ra, q2⟩
  by_cases hl : i < ts.length
  · have hd : ts.drop i = ts[i] :: ts.drop (i + 1) := List.drop_eq_getElem_cons hl
    rw [hd] at q2
    cases hb' : bd ts[i] (wipeE ρ vs) with
    | none =>
      have q2 : (match bd ts[i] (wipeE ρ vs) with | none => M.stuck | some ρ1 => _).wp b2 _ _ := q2
      rw [hb'] at q2
      exact q2.elim
    | some ρ1 =>
      have q2 : (match bd ts[i] (wipeE ρ vs) with | none => M.stuck | some ρ1 => _).wp b2 _ _ := q2
      rw [hb'] at q2
      have q3 := noExc_wp (M.wp_bind.mp q2)
      refine .inr ⟨w.go i F2 H2 s2.ext s2.sr.sub hl, fun H' => ts.length - (i + 1) = ts.length - (i + 1) ∧ i + 1 ≤ ts.length ∧ ∃ F' b' acc as, Step g σ ρ F1 H1 F' H' b' ∧ F' D = none ∧ H' D = some (.lst acc) ∧ Reps g.K F' acc as ∧ (lcL vs bd fc f ρ (ts.drop (i + 1)) as).wp b' (fun b' ts => ∀ p vs H1 H' F', Step g σ ρ F H F' H1 b' → H1 p = none → H' = upd H1 p (.lst vs) → Reps g.K F' vs ts → Q (.ref p) H') (EX g W σ ρ F H),
        fun H' h => ⟨ts.length - (i + 1), by omega, h⟩, fun x H3 y => ?_⟩
      -- the item stands: (F3, H3)
      have item : ∃ F3, Step g σ ρ F2 H2 F3 H3 b2 ∧ F3 D = none ∧ H3 D = some (.lst acc) ∧ Rep g.K F3 x ts[i] := by
        rcases w.yld i F2 H2 x H3 ts[i] s2.ext s2.sr.sub (List.getElem?_eq_getElem hl) y with ⟨rfl, r⟩ | ⟨p, ws, us, hp', rfl, rfl, et, r⟩
        · exact ⟨F2, Step.refl s2.sr, f2, hD2, r⟩
        · have st := s2.sr.step (.tup ws) hp'
          have ne : D ≠ p := ne_of_none hD2 hp'
          refine ⟨_, st, by rw [upd_ne ne]; exact f2, by rw [upd_ne ne]; exact hD2, ?_⟩
          rw [et]
          exact .tup (SqT.of upd_same) (r.ext st.ext)
      obtain ⟨F3, s3, f3, hD3, r3⟩ := item
      refine ⟨wipeE ρ vs, F3, b2, _, wipe_sr s3.sr vs, r3, ρ1, hb', fun σ2 S2 a1 a2 n2 => ⟨wipe_eq ((wipe_apart σ vs).tr a1), ?_⟩⟩
      have A1 : Apart vs σ σ2 := (wipe_apart σ vs).tr a1
      have A2 : Apart vs ρ ρ1 := (wipeE_apart ρ vs).tr a2
      have nO2 : ¬ OwnAt σ2 ρ1 D := fun ⟨j, z, z1, z2, z3⟩ => by
        by_cases hj : j ∈ vs
        · rw [n2 j hj z z1] at z2
          cases z2
        · exact nO ⟨j, z, by rw [A2.2 j hj]; exact z1, z2, by rw [A1.2 j hj]; exact z3⟩
      refine ⟨ρ1, F3, b2, S2, M.wp_mono q3 (fun b3 cb q4 H4 F4 s4 => ?_) fun _ _ _ z => z.elim⟩
      have hD4 := s4.kp D _ hD3 nS nO2
      have f4 := s4.new D _ hD3 f3
      have t4 : Step g σ ρ F1 H1 F4 H4 b3 := s2.trans (s3.trans (Step.block s3.sr A1 A2 no n2 s4))
      cases cb with
      | false =>
        rw [if_neg Bool.false_ne_true] at q4
        exact iteF ⟨rfl, hl, F4, b3, acc, as, t4, f4, hD4, (ra.ext s3.ext).ext s4.ext, q4⟩
      | true =>
        rw [if_pos rfl] at q4
        refine iteT ⟨ρ1, F4, b3, s4.sr, M.wp_mono (noExc_wp (M.wp_bind.mp q4)) (fun b5 u q5 v H5 F5 s5 r5 => ?_) fun _ _ _ z => z.elim⟩
        obtain ⟨ok, q5⟩ := if_of q5
        have hD5 := s5.kp D _ hD4 nS nO2
        have f5 := s5.new D _ hD4 f4
        have ra5 := ((ra.ext s3.ext).ext s4.ext).ext s5.ext
        refine ⟨acc, hD5, by rw [ra.length]; exact okLen_line ok, rfl, hl, F5, b5, acc ++ [v], as ++ [u], ?_, f5, upd_same, ra5.append (.one r5), q5⟩
        exact (t4.trans (Step.block t4.sr A1 A2 no n2 s5)).but hD (fun a h => upd_ne h) f5 nS nO h0
  · have e : i = ts.length := by omega
    subst e
    rw [List.drop_length] at q2
    refine .inl ⟨w.stop F2 H2 s2.ext s2.sr.sub, q2 D acc (fun a => if a = D then none else H2 a) H2 F2 (s1.trans (s2.but hD (fun a h => if_neg h) f2 nS nO h0)) (if_pos rfl) ?_ ra⟩
    funext a
    by_cases h : a = D
    · subst h; rw [upd_same]; exact hD2
    · rw [upd_ne h]; exact (if_neg h).symm
theorem dn_lc (hc : X.calm = true) (hN : X.N.Nodup) (hi : DI X g W tg iter fi) (ok : BlkOk X.N X.env.scope scope own)
    (hg : ∀ (s : Shared) (H : Hp) (C : Addr) (cl : List (Str × Addr)) (fp : List Addr), DG (X.blk s H scope (compEnvC scope cl C X.env) fp) g (own.map (·.2)) tg bd) (ht : ∀ (s : Shared) (H : Hp) (C : Addr) (cl : List (Str × Addr)) (fp : List Addr), DTs (X.blk s H scope (compEnvC scope cl C X.env) fp) g W0 ifs fc)
    (he : ∀ (s : Shared) (H : Hp) (C : Addr) (cl : List (Str × Addr)) (fp : List Addr), DE (X.blk s H scope (compEnvC scope cl C X.env) fp) g W0 elt f) (hs : ∀ x, foldedSetIterable iter X.env x = pure x := by intro _; rfl) :
    DN X g W (.ListComp elt [⟨tg, iter, ifs, 0⟩] scope pos) (nLc (own.map (·.2)) fi bd fc f) := pe_imp (pe_lc hc hN hi ok hg ht he hs) fun σ H Q h => lc_read h
/-- name = [..] on one line: for ds_setLc, ds_ownLc -/
theorem lc_set {i : Nat} {y : Str} {py spos : Pos} (hc : X.calm = true) (hN : X.N.Nodup) (hy : X.N[i]? = some y) (hyl : X.env.scope.names.lookup y = some .local)
    (hsw : swapsWith (.ListComp elt [⟨tg, iter, ifs, 0⟩] scope pos) (some (.Name y py)) spos.line X.env = pure true) (hi : DI X g W tg iter fi) (ok : BlkOk X.N X.env.scope scope own)
    (hg : ∀ (s : Shared) (H : Hp) (C : Addr) (cl : List (Str × Addr)) (fp : List Addr), DG (X.blk s H scope (compEnvC scope cl C X.env) fp) g (own.map (·.2)) tg bd) (ht : ∀ (s : Shared) (H : Hp) (C : Addr) (cl : List (Str × Addr)) (fp : List Addr), DTs (X.blk s H scope (compEnvC scope cl C X.env) fp) g W0 ifs fc)
    (he : ∀ (s : Shared) (H : Hp) (C : Addr) (cl : List (Str × Addr)) (fp : List Addr), DE (X.blk s H scope (compEnvC scope cl C X.env) fp) g W0 elt f) (hs : ∀ x, foldedSetIterable iter X.env x = pure x := by intro _; rfl) :
    PS X (.Assign [.Name y py] (.ListComp elt [⟨tg, iter, ifs, 0⟩] scope pos) spos) (tAsg (tDN g W (nLc (own.map (·.2)) fi bd fc f)) (gName i)) := ps_imp (ps_setLc hc hN hy hyl hsw hi ok hg ht he hs) fun D σ H h => lc_read h
end
end DP
end
section
set_option Elab.async false
set_option linter.all false
set_option maxRecDepth 100000
/-! isinstance of a function -/
namespace FunIs
open PySem
open Sem (wp)
theorem fun_ga : Slot "function" "__getattribute__" "object.__getattribute__" := by
  refine .of (owner := "object") (n := "__getattribute__") ?_ ?_ ?_ ?_ ?_ ?_
  · rw [typeLookup_type, builtinLookup_eq_fast]
    kernel_rfl
  · decide +kernel
  · decide +kernel
  · decide +kernel
  · first
      | exact .inl (by decide +kernel)
      | exact .inr (by decide +kernel)
  · rw [isSubtype_type]
    kernel_rfl
theorem fun_class : typeLookup (.type "function") "__class__" = pure (some (.builtin "object.__class__")) := by
  rw [typeLookup_type, builtinLookup_eq_fast]
  kernel_rfl
theorem fun_owner : isSubtype (.type "function") (.type (".".intercalate ("object.__class__".cutAt '.').dropLast)) = pure true := by
  rw [F.owner_object_class, isSubtype_type]
  kernel_rfl
section
variable {prog : Program} {w : World} {A : Around} {E : Value → Shared → Prop} {h : Heap} {g : Array GenState} {d : Drawn} {t : Nat} {os : OsState} {a : Addr} {o : Obj}
abbrev st (h : Heap) (g : Array GenState) (d : Drawn) (t : Nat) (os : OsState) : Shared := ⟨h, g, d, t, os⟩
theorem cls_get {R : Result → Shared → Prop} (at_ : h.get? a = some o) (cl : o.cls = .type "function") (go : R (.ok (.ret (.type "function"))) (st h g d t os)) :
    codeAny (model prog w) A (.call (.builtin "getset_descriptor.__get__") ⟨[.builtin "object.__class__", .ref a, .type "function"], []⟩) R (st h g d t os) := by
  have ty : (st h g d t os).TypeIs (.ref a) "function" := ⟨_, at_, cl⟩
  have ty2 : (st h g d t os).TypeIs (.builtin "object.__class__") "getset_descriptor" := F.typeOf_object_class
  have own := fun_owner
  refine codeAny_call_builtin F.slot_gs_get.plain F.entry_gs_get (F.slot_gs_get.check _ _ _ _ _ _ _ _ ty2 (F.args_gs_get _ _ _) ?_)
  repeat any_goals (first | assumption | wp_step)
  refine ⟨Code.quiet_builtin _ (by decide +kernel), ?_⟩
  refine codeAny_builtin F.entry_object_class ?_
  repeat any_goals (first | assumption | wp_step)
theorem cls_entry {tk : Tok} {Q : Fin → Shared → Prop} (at_ : h.get? a = some o) (cl : o.cls = .type "function") (go : Q (.done (.ret (.type "function"))) (st h g d t os)) :
    wpAny (model prog w) A (Builtin.«object.__getattribute__» ⟨[.ref a, .str "__class__" tk], []⟩) Q E (st h g d t os) := by
  have ty : (st h g d t os).TypeIs (.ref a) "function" := ⟨_, at_, cl⟩
  have ty2 : (st h g d t os).TypeIs (.builtin "object.__class__") "getset_descriptor" := F.typeOf_object_class
  have k1 := fun_class
  have k2 := F.typeOf_object_class
  have k3 := F.slot_gs_get.lookup
  have k4 := F.slot_gs_set.lookup
  repeat any_goals (first | assumption | wp_step)
  refine cls_get at_ cl ?_
  repeat any_goals (first | assumption | wp_step)
theorem cls_by {tk : Tok} {Q : Value → Shared → Prop} (at_ : h.get? a = some o) (cl : o.cls = .type "function") (go : Q (.type "function") (st h g d t os)) :
    wpAny (model prog w) A (getAttrBy (.ref a) (.str "__class__" tk) false) Q E (st h g d t os) := by
  have ty : (st h g d t os).TypeIs (.ref a) "function" := ⟨_, at_, cl⟩
  have k1 := fun_ga.lookup
  have k2 := fun_ga.bind (.ref a)
  repeat any_goals (first | assumption | wp_step)
  refine codeAny_call_builtin fun_ga.plain F.entry_object_getattribute (fun_ga.check _ _ _ _ _ _ _ _ ty (F.args_object_getattribute_2 _ _) (cls_entry at_ cl ?_))
  repeat any_goals (first | assumption | wp_step)
theorem cls_attr {Q : Option Value → Shared → Prop} (at_ : h.get? a = some o) (cl : o.cls = .type "function") (go : Q (some (.type "function")) (st h g d (t + 1) os)) :
    wpAny (model prog w) A (getAttr? (.ref a) "__class__") Q E (st h g d t os) := by
  unfold getAttr? getAttrBy?
  repeat any_goals (first | assumption | with_reducible apply cls_by at_ cl | wp_step)
end
theorem kit {K : PySem.W.Frag} {a : Addr} : PySem.W.KitX K (.ref a) (.type "function") (PySem.W.KitAt a "function") := PySem.W.kitx_of PySem.W.kitAt_ty (fun {_ _ _ _ _ s} p k => by
  obtain ⟨h, g, d, t, os⟩ := s
  obtain ⟨o, h1, h2⟩ := p
  exact cls_attr h1 h2 k)
end FunIs
namespace DP
open PySem PySem.Spec PyProof.Rows L2
/-- the class of what is known, of a function too -/
inductive TyY (K : PySem.W.Frag) (H : Hp) : V → Value → Prop
  | x {v : V} {t : Value} (h : TyX K H v t) : TyY K H v t
  | fn {a : Addr} (h : PySem.W.typeIn K (.ref a) = some (.type "function")) : TyY K H (.ref a) (.type "function")
def rOne (K : PySem.W.Frag) : List V → Hp → VK → Prop := fun xs H Q => ∃ (v c : V) (t u : Value) (b : Bool), xs = [v, c] ∧ ClsV c u ∧ TyY K H v t ∧ PySem.W.kitOne K t u = some b ∧ Q (.bl b) H
def rSome (K : PySem.W.Frag) : List V → Hp → VK → Prop := fun xs H Q => ∃ (v : V) (tp : Addr) (cs : List V) (t : Value) (us : List Value) (b : Bool), xs = [v, .ref tp] ∧ H tp = some (.tup cs) ∧ Paired ClsV cs us ∧ TyY K H v t ∧ PySem.W.kitAny K t us = some b ∧ Q (.bl b) H
section
variable {X : Cx} {ps : List (Addr × Obj)} {τ : L2.St} {H : Hp} {s : Shared}
theorem kit_ofY {v : V} {u t : Value} (I : Inv X ps τ H s) (r : RelV v u) (ty : TyY X.K H v t) : ∃ P : Heap → Prop, PySem.W.KitX X.K u t P ∧ P s.heap ∧ u ≠ .builtin "__main__.__loader__#opaque" := by
  cases ty with
  | x h => exact kit_of I r h
  | @fn a h =>
    obtain rfl : u = Value.ref a := r
    refine ⟨_, FunIs.kit, ?_, fun z => nomatch z⟩
    have h : (X.K.lookup a).map (·.cls) = some (.type "function") := h
    cases e : X.K.lookup a with
    | none => rw [e] at h; cases h
    | some o => rw [e] at h; exact ⟨o, I.kIn _ _ e, Option.some.inj h⟩
theorem call_one : CallR X (.builtin "isinstance") (rOne X.K) := by
  intro ps s τ H xs us Q I r want
  obtain ⟨v, c, t, u, b, rfl, k, ty, e, q⟩ := want
  obtain ⟨w1, w2, rfl, r1, r2⟩ := vals2 r
  obtain rfl := k.eq r2
  obtain ⟨P, Z, at_, no⟩ := kit_ofY I r1 ty
  exact PySem.W.kia_one Z I.kIn at_ e no fun tk => ⟨.bl b, H, I.tok tk, rfl, q⟩
theorem call_some : CallR X (.builtin "isinstance") (rSome X.K) := by
  intro ps s τ H xs us Q I r want
  obtain ⟨v, tp, cs, t, ws, b, rfl, hT, k, ty, e, q⟩ := want
  obtain ⟨w1, w2, rfl, r1, r2⟩ := vals2 r
  obtain rfl : w2 = Value.ref tp := r2
  obtain ⟨P, Z, at_, no⟩ := kit_ofY I r1 ty
  obtain ⟨_, its, rv, o, h1, h2, n, h3⟩ := (show ObjOk X.prog X.w H s.heap tp (.tup cs) from I.hok tp _ hT)
  obtain rfl := ClsV.all k rv
  obtain ⟨oc, od, dt, sl⟩ := o
  simp only at h2 h3
  subst h2 h3
  exact PySem.W.kia_tup Z I.kIn at_ h1 e no fun tk => ⟨.bl b, H, I.tok tk, rfl, q⟩
end
end DP
end
section
set_option Elab.async false
set_option linter.all false
set_option maxRecDepth 100000
namespace DP
open PySem PySem.Spec PyProof.Rows L2

/-! ### constants of the module -/
section
variable {X : Cx} {g : Cn} {W : WX} {k : Nat} {pos : Pos} {a c e e2 : Expr} {es : List Expr} {f fa fc : Env' → M T} {fs : Env' → M (List T)} {fl : Env' → M (Bool × List T)} {fn : Env' → M (List T)} {x : Str} {p : Pos}
theorem de_glob {v : V} {u : Value} {t : T} (hm : X.mg x = some u) (rv : RelV v u) (r : ∀ F, Rep g.K F v t) (hg : Gl X x := by rfl) (hd : (x == ("__debug__" : Str)) = false := by decide) : DE X g W (.Name x pos) (eC t) :=
  pe_imp (pe_glob hg hm rv hd) fun σ H Q ⟨ρ, F, b, s, q⟩ => q v H F (Step.refl s) (r F)

/-! ### built-in functions of values -/
def Cal (g : Cn) (W : WX) (r : List V → Hp → VK → Prop) (k : List T → M T) : Prop := ∀ (σ : Sg) (ρ : Env') (F H : Hp) (b : Nat) (vs : List V) (ts : List T) (Q : VK), SR g F H σ ρ b → Reps g.K F vs ts →
  (k ts).wp b (fun b' w => ∀ v H' F', Step g σ ρ F H F' H' b' → Rep g.K F' v w → Q v H') (EX g W σ ρ F H) → r vs H Q
theorem cal_read {r : List V → Hp → VK → Prop} {kf : List T → M T} (hk : Cal g W r kf) {σ : Sg} {H : Hp} {Q : VK} (h : tD g W (e1 kf fs) σ H Q) : tCB r (tDA g W fs) σ H Q := by
  obtain ⟨ρ, F, b, s, q⟩ := h
  exact ⟨ρ, F, b, s, M.wp_mono (M.wp_bind.mp q) (fun b1 ts q1 vs H1 F1 s1 r1 => hk σ ρ F1 H1 b1 vs ts Q s1.sr r1 (M.wp_mono q1 (fun b2 w q2 v H2 F2 s2 r2 => q2 v H2 F2 (s1.trans s2) r2) fun b' c t z => EX.step s1 b' c t z)) fun _ _ _ z => z⟩
theorem de_callB {id : String} {r : List V → Hp → VK → Prop} {kf : List T → M T} (hc : CallR X (.builtin id) r) (hk : Cal g W r kf) (hm : X.mg x = none) (hv : bootBuiltins x = some (.builtin id)) (ha : DA X g W (e :: es) fs) (hg : Gl X x := by rfl) (hn : x ≠ "__name__" := by decide) (hdb : (x == ("__debug__" : Str)) = false := by decide)
    (he : starEach (e :: es) X.env = (false, eval e X.env) :: starEach es X.env := by rfl) (hpl : (backTo pos (starEach es X.env)).any (·.1) = false := by rfl) : DE X g W (.Call (.Name x p) (e :: es) [] pos) (e1 kf fs) :=
  pe_imp (pe_callB hc hg hm hv ha hn hdb he hpl) fun σ H Q h => cal_read hk h
theorem de_callTy {ty : String} {r : List V → Hp → VK → Prop} {kf : List T → M T} (hc : CallR X (.type ty) r) (hk : Cal g W r kf) (hm : X.mg x = none) (hv : bootBuiltins x = some (.type ty)) (ha : DA X g W (e :: es) fs) (hg : Gl X x := by rfl) (hn : x ≠ "__name__" := by decide) (hdb : (x == ("__debug__" : Str)) = false := by decide)
    (he : starEach (e :: es) X.env = (false, eval e X.env) :: starEach es X.env := by rfl) (hpl : (backTo pos (starEach es X.env)).any (·.1) = false := by rfl) : DE X g W (.Call (.Name x p) (e :: es) [] pos) (e1 kf fs) :=
  pe_imp (pe_callTy hc hg hm hv ha hn hdb he hpl) fun σ H Q h => cal_read hk h
theorem de_callF {id : String} {r : List V → Hp → VK → Prop} {kf : List T → M T} (hc : CallR X (.builtin id) r) (hk : Cal g W r kf) (hm : X.mg x = some (.builtin id)) (ha : DA X g W (e :: es) fs) (hg : Gl X x := by rfl) (hdb : (x == ("__debug__" : Str)) = false := by decide)
    (he : starEach (e :: es) X.env = (false, eval e X.env) :: starEach es X.env := by rfl) (hpl : (backTo pos (starEach es X.env)).any (·.1) = false := by rfl) : DE X g W (.Call (.Name x p) (e :: es) [] pos) (e1 kf fs) :=
  pe_imp (pe_callBfun hc hg hm ha hdb he hpl) fun σ H Q h => cal_read hk h
def gcdT : List T → M T
  | [.int a, .int b] => .ret (.int ((Nat.gcd a.natAbs b.natAbs : Nat) : Int))
  | _ => .stuck
theorem c_gcd : Cal g W rGcd gcdT := fun σ ρ F H b vs ts Q s r q => by
  rcases r with _ | ⟨r1, _ | ⟨r2, _ | ⟨r3, r4⟩⟩⟩
  · exact q.elim
  · cases r1 <;> exact q.elim
  · cases r1 <;> first
      | exact q.elim
      | (cases r2 <;> first
          | exact q.elim
          | exact ⟨_, _, rfl, q _ H F (Step.refl s) (.int _)⟩)
  · cases r1 <;> first
      | exact q.elim
      | (cases r2 <;> exact q.elim)
def absT : List T → M T
  | [.int a] => .ret (.int (if a < 0 then -a else a))
  | _ => .stuck
theorem c_abs : Cal g W (fun xs H Q => ∃ i, xs = [.int i] ∧ Q (.int (if i < 0 then -i else i)) H) absT := fun σ ρ F H b vs ts Q s r q => by
  rcases r with _ | ⟨r1, _ | ⟨r2, r3⟩⟩
  · exact q.elim
  · cases r1 <;> first
      | exact q.elim
      | exact ⟨_, rfl, q _ H F (Step.refl s) (.int _)⟩
  · cases r1 <;> exact q.elim
def intT : List T → M T
  | [.int a] => .ret (.int a)
  | _ => .stuck
theorem c_int : Cal g W (fun xs H Q => (∃ i, xs = [.int i] ∧ Q (.int i) H) ∨ ∃ k, xs = [.bl k] ∧ Q (.int (if k then 1 else 0)) H) intT := fun σ ρ F H b vs ts Q s r q => by
  rcases r with _ | ⟨r1, _ | ⟨r2, r3⟩⟩
  · exact q.elim
  · cases r1 <;> first
      | exact q.elim
      | exact .inl ⟨_, rfl, q _ H F (Step.refl s) (.int _)⟩
  · cases r1 <;> exact q.elim

/-! ### isinstance -/
def tyName : T → Option String
  | .non => some "NoneType"
  | .bl _ => some "bool"
  | .int _ => some "int"
  | .str _ => some "str"
  | .tup _ => some "tuple"
  | .lst _ => some "list"
  | .dct _ => some "dict"
  | .pn _ _ => some "list"
  | .fn _ => some "function"
  | _ => none
def isiT (n : String) (t : T) : M T := match tyName t with
  | some a => match kitB a n with
    | some b => .ret (.bl b)
    | none => .stuck
  | none => .stuck
def isiT2 (n m : String) (t : T) : M T := match tyName t with
  | some a => match kitB a n, kitB a m with
    | some b, some c => .ret (.bl (b || c))
    | _, _ => .stuck
  | none => .stuck
theorem tyX_of {K : KF} {F H : Hp} {v : V} {t : T} {n : String} (e : Ext F H) (r : Rep K F v t) (h : tyName t = some n) : TyY K H v (.type n) := by
  cases r with
  | non => cases h; exact .x (.base .non)
  | bl b => cases h; exact .x (.base (.bl b))
  | int i => cases h; exact .x (.base (.int i))
  | str x => cases h; exact .x (.base (.str x))
  | tup h1 _ =>
    cases h
    rcases h1 with (h1 | ⟨o, h1⟩) | ⟨o, _, _, h1, h2, _⟩
    · exact .x (.base (.tup (e _ _ h1)))
    · exact .x (.fTuple (e _ _ h1))
    · exact .x (.kTuple h1 h2)
  | lst h1 _ => cases h; exact .x (.base (.lst (e _ _ h1)))
  | dct h1 _ => cases h; exact .x (.base (.dK (e _ _ h1)))
  | obj _ _ => cases h
  | fn ty => cases h; exact .fn ty
  | pn h1 _ => cases h; exact .x (.base (.lst (e _ _ h1)))
/-- isinstance(e, T), T a built-in class -/
theorem de_isi {y : Str} {n : String} {p2 : Pos} (hm : X.mg "isinstance" = none) (hy : X.mg y = none) (hv : bootBuiltins y = some (.type n)) (ha : DE X g W e f) (hg : Gl X "isinstance" := by rfl) (hgy : Gl X y := by rfl) (hny : y ≠ "__name__" := by decide) (hdy : (y == ("__debug__" : Str)) = false := by decide)
    (he : starEach (e :: [.Name y p2]) X.env = (false, eval e X.env) :: starEach [.Name y p2] X.env := by rfl) (he2 : starEach (.Name y p2 :: []) X.env = (false, eval (.Name y p2) X.env) :: starEach [] X.env := by rfl) (hpl : (backTo pos (starEach [.Name y p2] X.env)).any (·.1) = false := by rfl) (hK : X.K = g.K := by rfl) :
    DE X g W (.Call (.Name "isinstance" p) [e, .Name y p2] [] pos) (e1 (isiT n) f) :=
  pe_imp (pe_callB call_one hg hm (by decide +kernel) (pa_cons ha (pa_cons (pe_bltn (v := .ty n) hgy hy hv rfl hny hdy) pa_nil he2) he) (by decide) (by decide) he hpl) fun σ H Q ⟨ρ, F, b, s, q⟩ => ⟨ρ, F, b, s, M.wp_mono (M.wp_bind.mp q) (fun b1 t q1 v H1 F1 s1 r1 => by
    have q1 : (match tyName t with | some a => (match kitB a n with | some b => M.ret (T.bl b) | none => .stuck) | none => .stuck).wp b1 _ _ := q1
    cases e1 : tyName t with
    | none => rw [e1] at q1; exact q1.elim
    | some a =>
      rw [e1] at q1
      dsimp only at q1
      cases e2 : kitB a n with
      | none => rw [e2] at q1; exact q1.elim
      | some b' =>
        rw [e2] at q1
        exact ⟨v, .ty n, .type a, .type n, b', rfl, .ty n, by rw [hK]; exact tyX_of s1.sr.sub r1 e1, kit_ty e2, q1 _ H1 F1 s1 (.bl _)⟩) fun _ _ _ z => z⟩
/-- isinstance(e, (T, U)) -/
theorem de_isi2 {y z : Str} {n m : String} {p2 p3 p4 : Pos} {kk : Nat} (hm : X.mg "isinstance" = none) (hy : X.mg y = none) (hv : bootBuiltins y = some (.type n)) (hz : X.mg z = none) (hvz : bootBuiltins z = some (.type m)) (ha : DE X g W e f) (hg : Gl X "isinstance" := by rfl) (hgy : Gl X y := by rfl) (hgz : Gl X z := by rfl)
    (hny : y ≠ "__name__" := by decide) (hdy : (y == ("__debug__" : Str)) = false := by decide) (hnz : z ≠ "__name__" := by decide) (hdz : (z == ("__debug__" : Str)) = false := by decide)
    (he : starEach (e :: [.Tuple [.Name y p2, .Name z p3] kk p4]) X.env = (false, eval e X.env) :: starEach [.Tuple [.Name y p2, .Name z p3] kk p4] X.env := by rfl) (he2 : starEach (.Tuple [.Name y p2, .Name z p3] kk p4 :: []) X.env = (false, eval (.Tuple [.Name y p2, .Name z p3] kk p4) X.env) :: starEach [] X.env := by rfl)
    (he3 : starEach (.Name y p2 :: [.Name z p3]) X.env = (false, eval (.Name y p2) X.env) :: starEach [.Name z p3] X.env := by rfl) (he4 : starEach (.Name z p3 :: []) X.env = (false, eval (.Name z p3) X.env) :: starEach [] X.env := by rfl)
    (hpl : (backTo pos (starEach [.Tuple [.Name y p2, .Name z p3] kk p4] X.env)).any (·.1) = false := by rfl) (hK : X.K = g.K := by rfl) :
    DE X g W (.Call (.Name "isinstance" p) [e, .Tuple [.Name y p2, .Name z p3] kk p4] [] pos) (e1 (isiT2 n m) f) :=
  pe_imp (pe_callB call_some hg hm (by decide +kernel) (pa_cons ha (pa_cons (pe_tup (pa_cons (pe_bltn (v := .ty n) hgy hy hv rfl hny hdy) (pa_cons (pe_bltn (v := .ty m) hgz hz hvz rfl hnz hdz) pa_nil he4) he3)) pa_nil he2) he) (by decide) (by decide) he hpl) fun σ H Q ⟨ρ, F, b, s, q⟩ => ⟨ρ, F, b, s, M.wp_mono (M.wp_bind.mp q) (fun b1 t q1 v H1 F1 s1 r1 => by
    have q1 : (match tyName t with | some a => (match kitB a n, kitB a m with | some b, some c => M.ret (T.bl (b || c)) | _, _ => .stuck) | none => .stuck).wp b1 _ _ := q1
    refine ⟨by show 2 ≤ sizeLine; decide, fun tp htp => ?_⟩
    cases e1 : tyName t with
    | none => rw [e1] at q1; exact q1.elim
    | some a =>
      rw [e1] at q1
      dsimp only at q1
      cases e2 : kitB a n with
      | none => rw [e2] at q1; exact q1.elim
      | some b' =>
        cases e3 : kitB a m with
        | none => rw [e2, e3] at q1; exact q1.elim
        | some c' =>
          rw [e2, e3] at q1
          have st := s1.sr.stepU (.tup [.ty n, .ty m]) htp
          refine ⟨v, tp, [.ty n, .ty m], .type a, [.type n, .type m], b' || c', rfl, upd_same, .cons (.ty n) (.cons (.ty m) .nil), by rw [hK]; exact tyX_of st.sr.sub (r1.ext st.ext) e1, ?_, q1 _ _ _ (s1.trans st) (.bl _)⟩
          refine kitAny_cons (kit_ty e2) (fun hb => ?_) (fun hb => by rw [hb]; rfl)
          refine kitAny_cons (kit_ty e3) (fun hc => ?_) (fun hc => by rw [hc, hb]; rfl)
          rw [hb, hc]
          exact kitAny_nil) fun _ _ _ z => z⟩

/-! ### list(x), tuple(x) -/
def nList (p : Bool × List T) : M (List T) := .ret p.2
theorem dn_list (hm : X.mg "list" = none) (ha : DL X g W e fl) (hg : Gl X "list" := by rfl) (he : starEach (e :: []) X.env = (false, eval e X.env) :: starEach [] X.env := by rfl) (hpl : (backTo pos (starEach [] X.env)).any (·.1) = false := by rfl) (hK : X.K = g.K := by rfl) :
    DN X g W (.Call (.Name "list" p) [e] [] pos) (e1 nList fl) :=
  pe_imp (pe_callTy call_list_of hg hm (by decide +kernel) (pa_cons ha pa_nil he) (by decide) (by decide) he hpl) fun σ H Q ⟨ρ, F, b, s, q⟩ => ⟨ρ, F, b, s, M.wp_mono (M.wp_bind.mp q) (fun b1 pp q1 d H1 F1 s1 h1 => by
    obtain ⟨vs, h2, r3⟩ := h1.now s1.sr
    exact ⟨d, vs, rfl, by rw [hK]; exact h2, fun l hl => q1 l vs H1 _ F1 s1 hl rfl r3⟩) fun _ _ _ z => z⟩
def tupT (p : Bool × List T) : M T := .ret (.tup p.2)
theorem de_tuple (hm : X.mg "tuple" = none) (ha : DL X g W e fl) (hg : Gl X "tuple" := by rfl) (he : starEach (e :: []) X.env = (false, eval e X.env) :: starEach [] X.env := by rfl) (hpl : (backTo pos (starEach [] X.env)).any (·.1) = false := by rfl) (hK : X.K = g.K := by rfl) :
    DE X g W (.Call (.Name "tuple" p) [e] [] pos) (e1 tupT fl) :=
  pe_imp (pe_callTy call_tuple_of hg hm (by decide +kernel) (pa_cons ha pa_nil he) (by decide) (by decide) he hpl) fun σ H Q ⟨ρ, F, b, s, q⟩ => ⟨ρ, F, b, s, M.wp_mono (M.wp_bind.mp q) (fun b1 pp q1 d H1 F1 s1 h1 => by
    obtain ⟨vs, h2, r3⟩ := h1 F1 H1 b1 (Step.refl s1.sr)
    cases hb : pp.1 with
    | true =>
      rw [if_pos hb] at h2
      refine ⟨d, vs, rfl, .inl ⟨SqL.of h2, fun l hl => ?_⟩⟩
      have st := s1.sr.step (.tup vs) hl
      exact q1 _ _ _ (s1.trans st) (.tup (SqT.of upd_same) (r3.ext st.ext))
    | false =>
      rw [if_neg (by rw [hb]; exact Bool.false_ne_true)] at h2
      exact ⟨d, vs, rfl, .inr ⟨by rw [hK]; exact sqT_ext s1.sr.sub h2, q1 _ _ _ s1 (.tup h2 r3)⟩⟩) fun _ _ _ z => z⟩
end
end DP
end
section
set_option Elab.async false
set_option linter.all false
set_option maxRecDepth 100000
namespace DP
open PySem PySem.Spec PyProof.Rows L2

/-- a list of the def's own is another one from here on -/
theorem SR.updOwn {g : Cn} {F H : Hp} {σ : Sg} {ρ : Env'} {b i : Nat} {a : Addr} {vs vs' : List V} {ts ts' : List T} (s : SR g F H σ ρ b) (hx : ρ[i]? = some (.own ts)) (hv : σ[i]? = some (some (.ref a))) (ha : H a = some (.lst vs)) (r : Reps g.K F vs' ts') :
    SR g F (upd H a (.lst vs')) σ (ρ.set i (.own ts')) b := by
  obtain ⟨v, hv', sl⟩ := Paired.get1 s.slots hx
  rw [hv] at hv'
  cases hv'
  cases sl with
  | own z1 z2 z3 z4 z5 =>
    have ne : ∀ (j : Nat) (c : Addr) (z : Sl), j ≠ i → ρ[j]? = some z → z.isOwn = true → σ[j]? = some (some (.ref c)) → c ≠ a := fun j c z hj hz oz e q => by
      subst q
      exact s.dis i j c _ z (Ne.symm hj) hx hz rfl oz hv e
    refine ⟨fun c o e => by rw [upd_ne (ne_of_none e z2)]; exact s.sub c o e, s.f0, fun c o e n => by rw [upd_ne (ne_of_none e z3)]; exact s.keep c o e n, s.new, ?_, ?_, fun p l e => ?_, s.tabK (Same.refl _) fun p q m => ⟨fun o e => by rw [upd_ne (Cn.tabNe z4 m)]; exact e, (s.tabs p q m).1⟩⟩
    · refine Paired.setImp s.slots hv (.own upd_same z2 z3 z4 r) fun j v z hj h1 h2 q => ?_
      cases q with
      | any v => exact .any v
      | val r => exact .val r
      | own y1 y2 y3 y4 y5 => exact .own (by rw [upd_ne (ne j _ _ hj h2 rfl h1)]; exact y1) y2 y3 y4 y5
      | ownD y1 y2 y3 y4 y5 => exact .ownD (by rw [upd_ne (ne j _ _ hj h2 rfl h1)]; exact y1) y2 y3 y4 y5
      | ownS y1 y2 y3 y4 y5 => exact .ownS (by rw [upd_ne (ne j _ _ hj h2 rfl h1)]; exact y1) y2 y3 y4 y5
      | strm e => exact .strm e
      | pin h => exact .pin h
    · intro j k c y z jk hy hz oy oz e
      rcases get_set hy with ⟨rfl, rfl, _⟩ | ⟨nj, hy'⟩
      · rcases get_set hz with ⟨rfl, rfl, _⟩ | ⟨nk, hz'⟩
        · exact absurd rfl jk
        · exact s.dis _ _ _ _ _ jk hx hz' rfl oz e
      · rcases get_set hz with ⟨rfl, rfl, _⟩ | ⟨nk, hz'⟩
        · exact s.dis _ _ _ _ _ jk hy' hx oy rfl e
        · exact s.dis _ _ _ _ _ jk hy' hz' oy oz e
    · obtain ⟨h1, h2, h3, ns, c, n, m, q1, q2, q3⟩ := s.strm p l e
      exact ⟨h1, h2, h3, ns, c, n, m, by rw [upd_ne fun z => z4 (.inl ⟨p, l, e, .inl z.symm⟩)]; exact q1, by rw [upd_ne fun z => z4 (.inl ⟨p, l, e, .inr z.symm⟩)]; exact q2, q3⟩
theorem SR.ownAt {g : Cn} {F H : Hp} {σ : Sg} {ρ : Env'} {b i : Nat} {ts : List T} (s : SR g F H σ ρ b) (hx : ρ[i]? = some (.own ts)) : ∃ a vs, σ[i]? = some (some (.ref a)) ∧ H a = some (.lst vs) ∧ Reps g.K F vs ts := by
  obtain ⟨v, hv, sl⟩ := Paired.get1 s.slots hx
  cases sl with
  | own z1 z2 z3 z4 z5 => exact ⟨_, _, hv, z1, z5⟩

def ownL (i : Nat) (ρ : Env') : Option (List T) := match ρ[i]? with
  | some (.own ts) => some ts
  | _ => none
theorem ownL_of {i : Nat} {ρ : Env'} {ts : List T} (h : ownL i ρ = some ts) : ρ[i]? = some (.own ts) := by
  unfold ownL at h
  cases e : ρ[i]? with
  | none => rw [e] at h; cases h
  | some x =>
    rw [e] at h
    cases x <;> first
      | (cases h; rfl)
      | cases h
def sApp (i : Nat) (f : Env' → M T) : Env' → M Fl := fun ρ => match ownL i ρ with
  | some ts => (f ρ).bind fun t => if okLen ts.length = true then .ret (.next (ρ.set i (.own (ts ++ [t])))) else .stuck
  | none => .stuck
def sExt (i : Nat) (f : Env' → M (Bool × List T)) : Env' → M Fl := fun ρ => match ownL i ρ with
  | some ts => (f ρ).bind fun p => if (p.1 && okLen (ts.length + p.2.length)) = true then .ret (.next (ρ.set i (.own (ts ++ p.2)))) else .stuck
  | none => .stuck
/-- an expression that changes a slot -/
def tDX (g : Cn) (W : WX) (f : Env' → M (T × Env')) : TE := fun σ H Q => ∃ ρ F b, SR g F H σ ρ b ∧ (f ρ).wp b (fun b' p => ∀ v H' F', Ext F F' → SR g F' H' σ p.2 b' → Rep g.K F' v p.1 → Q v H') (EX g W σ ρ F H)
abbrev DX (X : Cx) (g : Cn) (W : WX) (e : Expr) (f : Env' → M (T × Env')) : Prop := PE X e (tDX g W f)
def xPop (i : Nat) : Env' → M (T × Env') := fun ρ => match ownL i ρ with
  | some ts => match ts[ts.length - 1]? with
    | some t => .ret (t, ρ.set i (.own ts.dropLast))
    | none => .stuck
  | none => .stuck
def xPopAt (i : Nat) (f : Env' → M T) : Env' → M (T × Env') := fun ρ => match ownL i ρ with
  | some ts => (f ρ).bind fun t => match t with
    | .int j => match ts[j.toNat]? with
      | some t => if (decide (0 ≤ j) && okLen ts.length) = true then .ret (t, ρ.set i (.own (ts.eraseIdx j.toNat))) else .stuck
      | none => .stuck
    | _ => .stuck
  | none => .stuck
def sSetX (i : Nat) (f : Env' → M (T × Env')) : Env' → M Fl := fun ρ => (f ρ).bind fun p => .ret (.next (p.2.set i (.val p.1)))
def sAsgX (f : Env' → M (T × Env')) (bd : T → Env' → Option Env') : Env' → M Fl := fun ρ => (f ρ).bind fun p => match bd p.1 p.2 with
  | some ρ' => .ret (.next ρ')
  | none => .stuck
def sAppX (i : Nat) (f : Env' → M (T × Env')) : Env' → M Fl := fun ρ => if (ownL i ρ).isSome = true then (f ρ).bind fun p => match ownL i p.2 with
      | some ts => if okLen ts.length = true then .ret (.next (p.2.set i (.own (ts ++ [p.1])))) else .stuck
      | none => .stuck
    else .stuck
theorem Reps.erase {K : KF} {F : Hp} : ∀ {vs : List V} {ts : List T} (i : Nat), Reps K F vs ts → Reps K F (vs.eraseIdx i) (ts.eraseIdx i)
  | _, _, _, .nil => .nil
  | _, _, 0, .cons _ r => r
  | _, _, i + 1, .cons h r => .cons h (Reps.erase i r)
theorem Reps.dropLast {K : KF} {F : Hp} {vs : List V} {ts : List T} (r : Reps K F vs ts) : Reps K F vs.dropLast ts.dropLast := by
  rw [List.dropLast_eq_take, List.dropLast_eq_take, r.length]
  exact r.take _

section
variable {X : Cx} {g : Cn} {W : WX} {k i : Nat} {pos apos spos : Pos} {a c e o tg : Expr} {es : List Expr} {f fa fc : Env' → M T} {fs : Env' → M (List T)} {fl : Env' → M (Bool × List T)} {fx : Env' → M (T × Env')} {x : Str} {p : Pos} {bd : T → Env' → Option Env'} {ws : List Nat}
theorem ds_append (h0 : PE X o (tVar i)) (he : DE X g W e f) (hs : swapsWith (.Call (.Attribute o "append" apos) [e] [] pos) none spos.line X.env = pure false := by rfl)
    (hbase : attributeBase o "append" X.env (eval o X.env) = eval o X.env := by rfl)
    (hfew : ((backTo pos (starEach (e :: []) X.env)).all (fun x => !x.1) && (backToKw pos (keywordEach [] X.env)).all (fun x => x.1.isSome)
      && decide ((e :: []).length + ([] : List Keyword).length + (if ([] : List Keyword).isEmpty then 0 else 1) < 30)) = true := by rfl)
    (hline : (apos.endLine == pos.line) = true := by rfl) (hst : starEach (e :: []) X.env = (false, eval e X.env) :: starEach [] X.env := by rfl) (hplain : (backTo pos (starEach [] X.env)).any (·.1) = false := by rfl) :
    DS X g W (.Expr (.Call (.Attribute o "append" apos) [e] [] pos) spos) (sApp i f) :=
  ps_imp (ps_expr (pe_bm PySem.F.plainAttrs_list PySem.F.slot_list_append PySem.F.type_list_append mt_append h0 (pa_cons he pa_nil hst) hbase hfew hline hst hplain) hs) fun D σ H ⟨ρ, F, b, s, q⟩ => by
    have q : (match ownL i ρ with | some ts => (f ρ).bind _ | none => .stuck).wp b _ _ := q
    cases z : ownL i ρ with
    | none => rw [z] at q; exact q.elim
    | some ts =>
      rw [z] at q
      have hx := ownL_of z
      obtain ⟨l, vs, hv, hl, r⟩ := s.ownAt hx
      refine ⟨_, hv, .inl ⟨rfl, vs, SqL.of hl⟩, ρ, F, b, s, M.wp_mono (M.wp_bind.mp q) (fun b1 t q1 v H1 F1 s1 r1 => ?_) fun _ _ _ z => z.ex⟩
      obtain ⟨ok, q2⟩ := if_of q1
      obtain ⟨l', vs', hv', hl', r'⟩ := s1.sr.ownAt hx
      rw [hv] at hv'
      cases hv'
      exact ⟨l, vs', v, rfl, rfl, hl', by rw [r'.length]; exact okLen_line ok, q2 _ _ F1 s1.ext (s1.sr.updOwn hx hv hl' (r'.append (.one r1)))⟩
theorem ds_extend (h0 : PE X o (tVar i)) (he : DL X g W e fl) (hs : swapsWith (.Call (.Attribute o "extend" apos) [e] [] pos) none spos.line X.env = pure false := by rfl)
    (hbase : attributeBase o "extend" X.env (eval o X.env) = eval o X.env := by rfl)
    (hfew : ((backTo pos (starEach (e :: []) X.env)).all (fun x => !x.1) && (backToKw pos (keywordEach [] X.env)).all (fun x => x.1.isSome)
      && decide ((e :: []).length + ([] : List Keyword).length + (if ([] : List Keyword).isEmpty then 0 else 1) < 30)) = true := by rfl)
    (hline : (apos.endLine == pos.line) = true := by rfl) (hst : starEach (e :: []) X.env = (false, eval e X.env) :: starEach [] X.env := by rfl) (hplain : (backTo pos (starEach [] X.env)).any (·.1) = false := by rfl) :
    DS X g W (.Expr (.Call (.Attribute o "extend" apos) [e] [] pos) spos) (sExt i fl) :=
  ps_imp (ps_expr (pe_bm PySem.F.plainAttrs_list PySem.F.slot_list_extend PySem.F.type_list_extend mt_extend h0 (pa_cons he pa_nil hst) hbase hfew hline hst hplain) hs) fun D σ H ⟨ρ, F, b, s, q⟩ => by
    have q : (match ownL i ρ with | some ts => (fl ρ).bind _ | none => .stuck).wp b _ _ := q
    cases z : ownL i ρ with
    | none => rw [z] at q; exact q.elim
    | some ts =>
      rw [z] at q
      have hx := ownL_of z
      obtain ⟨l, vs, hv, hl, r⟩ := s.ownAt hx
      refine ⟨_, hv, .inl ⟨rfl, vs, SqL.of hl⟩, ρ, F, b, s, M.wp_mono (M.wp_bind.mp q) (fun b1 t q1 d H1 F1 s1 h1 => ?_) fun _ _ _ z => z.ex⟩
      obtain ⟨ok, q2⟩ := if_of q1
      rw [Bool.and_eq_true] at ok
      obtain ⟨l', vs', hv', hl', r'⟩ := s1.sr.ownAt hx
      rw [hv] at hv'
      cases hv'
      obtain ⟨ws, z1, r2⟩ := h1 F1 H1 b1 (Step.refl s1.sr)
      rw [if_pos ok.1] at z1
      exact ⟨l, d, vs', ws, rfl, rfl, hl', z1, by rw [r'.length, r2.length]; exact Nat.le_of_lt (okLen_line ok.2), q2 _ _ F1 s1.ext (s1.sr.updOwn hx hv hl' (r'.append r2))⟩
theorem dx_pop (h0 : PE X o (tVar i)) (hbase : attributeBase o "pop" X.env (eval o X.env) = eval o X.env := by rfl) (hline : (apos.endLine == pos.line) = true := by rfl) : DX X g W (.Call (.Attribute o "pop" apos) [] [] pos) (xPop i) :=
  pe_imp (pe_bm0 PySem.F.plainAttrs_list PySem.F.slot_list_pop PySem.F.type_list_pop mt_pop h0 hbase hline) fun σ H Q ⟨ρ, F, b, s, q⟩ => by
    have q : (match ownL i ρ with | some ts => (match ts[ts.length - 1]? with | some t => M.ret (t, ρ.set i (.own ts.dropLast)) | none => .stuck) | none => .stuck).wp b _ _ := q
    cases z : ownL i ρ with
    | none => rw [z] at q; exact q.elim
    | some ts =>
      rw [z] at q
      have hx := ownL_of z
      obtain ⟨l, vs, hv, hl, r⟩ := s.ownAt hx
      dsimp only at q
      cases e : ts[ts.length - 1]? with
      | none => rw [e] at q; exact q.elim
      | some t =>
        rw [e] at q
        obtain ⟨v, hv2, rv⟩ := r.get' e
        exact ⟨_, hv, .inl ⟨rfl, vs, SqL.of hl⟩, l, vs, v, rfl, rfl, hl, by rw [r.length]; exact hv2, q v _ F (Same.refl _) (s.updOwn hx hv hl r.dropLast) rv⟩
theorem dx_popAt (h0 : PE X o (tVar i)) (he : DE X g W e f)
    (hbase : attributeBase o "pop" X.env (eval o X.env) = eval o X.env := by rfl)
    (hfew : ((backTo pos (starEach (e :: []) X.env)).all (fun x => !x.1) && (backToKw pos (keywordEach [] X.env)).all (fun x => x.1.isSome)
      && decide ((e :: []).length + ([] : List Keyword).length + (if ([] : List Keyword).isEmpty then 0 else 1) < 30)) = true := by rfl)
    (hline : (apos.endLine == pos.line) = true := by rfl) (hst : starEach (e :: []) X.env = (false, eval e X.env) :: starEach [] X.env := by rfl) (hplain : (backTo pos (starEach [] X.env)).any (·.1) = false := by rfl) : DX X g W (.Call (.Attribute o "pop" apos) [e] [] pos) (xPopAt i f) :=
  pe_imp (pe_bm PySem.F.plainAttrs_list PySem.F.slot_list_pop PySem.F.type_list_pop mt_popAt h0 (pa_cons he pa_nil hst) hbase hfew hline hst hplain) fun σ H Q ⟨ρ, F, b, s, q⟩ => by
    have q : (match ownL i ρ with | some ts => (f ρ).bind _ | none => .stuck).wp b _ _ := q
    cases z : ownL i ρ with
    | none => rw [z] at q; exact q.elim
    | some ts =>
      rw [z] at q
      have hx := ownL_of z
      obtain ⟨l, vs, hv, hl, r⟩ := s.ownAt hx
      refine ⟨_, hv, .inl ⟨rfl, vs, SqL.of hl⟩, ρ, F, b, s, M.wp_mono (M.wp_bind.mp q) (fun b1 t q1 v H1 F1 s1 r1 => ?_) fun _ _ _ z => z⟩
      obtain ⟨l', vs', hv', hl', r'⟩ := s1.sr.ownAt hx
      rw [hv] at hv'
      cases hv'
      cases t with
      | int j =>
        cases r1
        dsimp only at q1
        cases e : ts[j.toNat]? with
        | none => rw [e] at q1; exact q1.elim
        | some t =>
          rw [e] at q1
          obtain ⟨ok, q2⟩ := if_of q1
          rw [Bool.and_eq_true] at ok
          have h0 := of_decide_eq_true ok.1
          have hz := of_decide_eq_true ok.2
          obtain ⟨v, hv2, rv⟩ := r'.get' e
          have hlt : j.toNat < ts.length := (List.getElem?_eq_some_iff.mp e).1
          have hix : ixN vs'.length j = some j.toNat := by
            unfold ixN
            rw [if_pos h0, if_pos (by rw [r'.length]; omega)]
          exact ⟨l, vs', j, j.toNat, v, rfl, rfl, hl', by omega, by omega, (ixN_seq hix).1, hv2, q2 v _ F1 s1.ext (s1.sr.updOwn hx hv hl' (r'.erase _)) rv⟩
      | _ => exact q1.elim
theorem ds_setX {pos' : Pos} (hN : X.N.Nodup) (hi : X.N[i]? = some x) (hx : Loc X.env.scope x) (he : DX X g W e fx) (hs : swapsWith e (some (.Name x pos')) pos.line X.env = pure false := by rfl) (hf : X.fn x = true ∨ X.env.scope.names.lookup x = some .local := by first | exact .inl rfl | exact .inr rfl | assumption) :
    DS X g W (.Assign [.Name x pos'] e pos) (sSetX i fx) := ps_imp (ps_set hN hi hx he hs hf) fun D σ H ⟨ρ, F, b, s, q⟩ => ⟨ρ, F, b, s, M.wp_mono (M.wp_bind.mp q) (fun b1 t q1 v H' F' e1 s1 r => q1 _ H' F' e1 (s1.set i (.val r) rfl)) fun _ _ _ z => z.ex⟩
theorem ds_asgX (he : DX X g W e fx) (hg : DG X g ws tg bd) (hs : swapsWithSole [tg] e pos.line X.env = pure false := by rfl) (hw : swappedStores [tg] e X.env = pure none := by rfl)
    (h1 : (assignEach [tg] X.env).map (·.2) = [assign tg X.env] := by rfl) : DS X g W (.Assign [tg] e pos) (sAsgX fx bd) :=
  ps_imp (ps_asg he hg hs hw h1) fun D σ H ⟨ρ, F, b, s, q⟩ => ⟨ρ, F, b, s, M.wp_mono (M.wp_bind.mp q) (fun b1 t q1 v H' F' e1 s1 r => by
    cases z : bd t.1 t.2 with
    | none => rw [z] at q1; exact q1.elim
    | some ρ' =>
      rw [z] at q1
      exact ⟨t.2, F', b1, t.1, s1, r, ρ', z, fun σ' s' _ _ _ => q1 σ' H' F' e1 s'⟩) fun _ _ _ z => z.ex⟩
/-- xs.append(ys.pop(..)) -/
theorem ds_appendX (h0 : PE X o (tVar i)) (he : DX X g W e fx) (hs : swapsWith (.Call (.Attribute o "append" apos) [e] [] pos) none spos.line X.env = pure false := by rfl)
    (hbase : attributeBase o "append" X.env (eval o X.env) = eval o X.env := by rfl)
    (hfew : ((backTo pos (starEach (e :: []) X.env)).all (fun x => !x.1) && (backToKw pos (keywordEach [] X.env)).all (fun x => x.1.isSome)
      && decide ((e :: []).length + ([] : List Keyword).length + (if ([] : List Keyword).isEmpty then 0 else 1) < 30)) = true := by rfl)
    (hline : (apos.endLine == pos.line) = true := by rfl) (hst : starEach (e :: []) X.env = (false, eval e X.env) :: starEach [] X.env := by rfl) (hplain : (backTo pos (starEach [] X.env)).any (·.1) = false := by rfl) :
    DS X g W (.Expr (.Call (.Attribute o "append" apos) [e] [] pos) spos) (sAppX i fx) :=
  ps_imp (ps_expr (pe_bm PySem.F.plainAttrs_list PySem.F.slot_list_append PySem.F.type_list_append mt_append h0 (pa_cons he pa_nil hst) hbase hfew hline hst hplain) hs) fun D σ H ⟨ρ, F, b, s, q⟩ => by
    have q : (if (ownL i ρ).isSome = true then (fx ρ).bind _ else M.stuck).wp b _ _ := q
    obtain ⟨ho, q⟩ := if_of q
    cases z : ownL i ρ with
    | none => rw [z] at ho; cases ho
    | some ts =>
      have hx := ownL_of z
      obtain ⟨l, vs, hv, hl, r⟩ := s.ownAt hx
      refine ⟨_, hv, .inl ⟨rfl, vs, SqL.of hl⟩, ρ, F, b, s, M.wp_mono (M.wp_bind.mp q) (fun b1 t q1 v H1 F1 e1 s1 r1 => ?_) fun _ _ _ z => z.ex⟩
      cases z2 : ownL i t.2 with
      | none =>
        have q1 : (match ownL i t.2 with | some ts => _ | none => M.stuck).wp b1 _ _ := q1
        rw [z2] at q1
        exact q1.elim
      | some ts2 =>
        have q1 : (match ownL i t.2 with | some ts => _ | none => M.stuck).wp b1 _ _ := q1
        rw [z2] at q1
        obtain ⟨ok, q2⟩ := if_of q1
        have hx2 := ownL_of z2
        obtain ⟨l', vs', hv', hl', r'⟩ := s1.ownAt hx2
        rw [hv] at hv'
        cases hv'
        exact ⟨l, vs', v, rfl, rfl, hl', by rw [r'.length]; exact okLen_line ok, q2 _ _ F1 e1 (s1.updOwn hx2 hv hl' (r'.append (.one r1)))⟩

/-! ### ranges, enumerate, zip -/
def okR (i : Int) : Bool := decide (-1000000 ≤ i ∧ i ≤ 1000000)
def rng1 : List T → M (List T)
  | [.int j] => if okR j = true then .ret ((List.range j.toNat).map fun k => .int (0 + (k : Nat))) else .stuck
  | _ => .stuck
def rng2 : List T → M (List T)
  | [.int i, .int j] => if (okR i && okR j) = true then .ret ((List.range (j - i).toNat).map fun k => .int (i + (k : Nat))) else .stuck
  | _ => .stuck
theorem wk_range {lo : Int} {n : Nat} {F : Hp} : Wk g (Itr lo n) F ((List.range n).map fun k => .int (lo + (k : Nat))) where
  go := fun i F2 H _ _ h => by show i < n; simpa using h
  stop := fun F2 H _ _ => by show n ≤ _; simp
  yld := fun i F2 H x H' t _ _ ht y => .inl ⟨y.1, by
    obtain ⟨_, rfl⟩ := y
    rw [List.getElem?_map] at ht
    cases e : (List.range n)[i]? with
    | none => rw [e] at ht; cases ht
    | some k =>
      rw [e] at ht
      cases ht
      obtain ⟨h1, h2⟩ := List.getElem?_eq_some_iff.mp e
      simp at h2
      subst h2
      exact .int _⟩
theorem di_range1 (hm : X.mg "range" = none) (ha : DA X g W [a] fs) (hg : Gl X "range" := by rfl) (hs : starEach [a] X.env = [(false, eval a X.env)] := by rfl) : DI X g W tg (.Call (.Name "range" p) [a] [] pos) (e1 rng1 fs) :=
  pi_imp (pi_range1 hg hm ha hs) fun σ H R ⟨ρ, F, b, s, q⟩ => ⟨ρ, F, b, s, M.wp_mono (M.wp_bind.mp q) (fun b1 ts q1 vs H1 F1 s1 r => by
    rcases r with _ | ⟨r1, _ | ⟨r2, r3⟩⟩
    · exact q1.elim
    · cases r1 <;> first
        | exact q1.elim
        | (obtain ⟨ok, q2⟩ := if_of q1
           have h := of_decide_eq_true ok
           exact ⟨_, rfl, by omega, by omega, q2 _ F1 H1 s1 wk_range⟩)
    · cases r1 <;> exact q1.elim) fun _ _ _ z => z⟩
theorem di_range2 (hm : X.mg "range" = none) (ha : DA X g W [a, c] fs) (hg : Gl X "range" := by rfl) (hs : starEach [a, c] X.env = [(false, eval a X.env), (false, eval c X.env)] := by rfl) (hs2 : starEach [c] X.env = [(false, eval c X.env)] := by rfl) : DI X g W tg (.Call (.Name "range" p) [a, c] [] pos) (e1 rng2 fs) :=
  pi_imp (pi_range2 hg hm ha hs hs2) fun σ H R ⟨ρ, F, b, s, q⟩ => ⟨ρ, F, b, s, M.wp_mono (M.wp_bind.mp q) (fun b1 ts q1 vs H1 F1 s1 r => by
    rcases r with _ | ⟨r1, _ | ⟨r2, _ | ⟨r3, r4⟩⟩⟩
    · exact q1.elim
    · cases r1 <;> exact q1.elim
    · cases r1 <;> first
        | exact q1.elim
        | (cases r2 <;> first
            | exact q1.elim
            | (obtain ⟨ok, q2⟩ := if_of q1
               rw [Bool.and_eq_true] at ok
               have h1 := of_decide_eq_true ok.1
               have h2 := of_decide_eq_true ok.2
               exact ⟨_, _, rfl, ⟨by omega, by omega, by omega, by omega⟩, q2 _ F1 H1 s1 wk_range⟩))
    · cases r1 <;> first
        | exact q1.elim
        | (cases r2 <;> exact q1.elim)) fun _ _ _ z => z⟩
end
end DP
end
section
set_option Elab.async false
set_option linter.all false
set_option maxRecDepth 100000
namespace DP
open PySem PySem.Spec PyProof.Rows L2

/-! ### the law's draws -/
def drawM : List T → M T
  | [.int n] => if fit n = true then .draw n fun d => .ret (.int d) else .stuck
  | _ => .stuck
/-- the stream as it stands, all else as in H or new -/
structure St4 (H H' : Hp) (s l : Addr) (ns : List Int) (c n m : Int) : Prop where
  at_s : H' s = some (.lst [.ref l, .int c, .int n, .int m])
  at_l : H' l = some (.lst (ns.map V.int))
  ne : s ≠ l
  keep : ∀ a o, H a = some o → a ≠ s → a ≠ l → H' a = some o
section
variable {H H' : Hp} {s l p : Addr} {ns : List Int} {c n m : Int}
theorem St4.setS (S : St4 H H' s l ns c n m) (c' n' m' : Int) : St4 H (upd H' s (.lst [.ref l, .int c', .int n', .int m'])) s l ns c' n' m' :=
  ⟨upd_same, by rw [upd_ne S.ne.symm]; exact S.at_l, S.ne, fun a o e h1 h2 => by rw [upd_ne h1]; exact S.keep a o e h1 h2⟩
theorem St4.setL (S : St4 H H' s l ns c n m) (ns' : List Int) : St4 H (upd H' l (.lst (ns'.map V.int))) s l ns' c n m :=
  ⟨by rw [upd_ne S.ne]; exact S.at_s, upd_same, S.ne, fun a o e h1 h2 => by rw [upd_ne h2]; exact S.keep a o e h1 h2⟩
theorem St4.new (S : St4 H H' s l ns c n m) {o : HO} (hp : H' p = none) : St4 H (upd H' p o) s l ns c n m :=
  ⟨by rw [upd_ne (ne_of_none S.at_s hp)]; exact S.at_s, by rw [upd_ne (ne_of_none S.at_l hp)]; exact S.at_l, S.ne, fun a u e h1 h2 => by rw [upd_ne (ne_of_none (S.keep a u e h1 h2) hp)]; exact S.keep a u e h1 h2⟩
theorem strm_after {F : Hp} {b' : Nat} (S : St4 H H' s l ns c n m) (sub : Ext F H) (f1 : F s = none) (f2 : F l = none) (q1 : 0 ≤ c) (q2 : 0 ≤ n) (q3 : n + b' ≤ 10 ^ 14) (q4 : 0 ≤ m) (q5 : m < 2147483647) : After (some (s, l)) F H F H' b' := by
  refine ⟨Same.refl _, fun a o e => S.keep a o (sub a o e) (ne_of_none e f1) (ne_of_none e f2), fun a o e h => S.keep a o e (fun z => h ⟨s, l, rfl, .inl z⟩) (fun z => h ⟨s, l, rfl, .inr z⟩), fun _ _ _ h => h, fun p r e => ?_⟩
  cases e
  exact ⟨ns, c, n, m, S.at_s, S.at_l, q1, q2, q3, q4, q5⟩
end
theorem dpInts {K : KF} {H : Hp} : ∀ ns : List Int, DpAll K H (ns.map V.int) (ns.map PyData.int)
  | [] => .nil
  | n :: ns => .cons (.int n) (dpInts ns)
theorem layInts : ∀ ns : List Int, PyData.canLayAll0 (ns.map PyData.int) = true
  | [] => by simp [PyData.canLayAll0]
  | n :: ns => by simp [PyData.canLayAll0, PyData.canLay0, layInts ns]
theorem depthInts : ∀ ns : List Int, PyData.depthAll (ns.map PyData.int) ≤ 1
  | [] => by simp [PyData.depthAll]
  | n :: ns => by
    have h := depthInts ns
    simp [PyData.depthAll, PyData.depth]
    omega
theorem shapedInts (ns : List Int) : SeqAt.shaped (.list (ns.map PyData.int)) = true := by
  have h := depthInts ns
  simp [SeqAt.shaped, PyData.canLay0, PyData.depth, layInts]
  omega
theorem shapedNil : SeqAt.shaped (.list []) = true := shapedInts []
theorem eqvNil (ns : List Int) : PyData.eqv (.list (ns.map PyData.int)) (.list []) = ns.isEmpty := by
  cases ns <;> simp [PyData.eqv, PyData.eqvAll]
theorem pow_lt {i : Int} (h0 : 0 ≤ i) (h : i < 18446744073709551616) : i.natAbs < 2 ^ 64 := by
  have e : (2 : Nat) ^ 64 = 18446744073709551616 := by decide
  rw [e]
  omega
/-- what the law's text of _law_draw has to be, for a body by its term: the proof's words stand where the row is known -/
theorem draw_read {K : KF} {E : XK} {H : Hp} {vs : List V} {Q : VK} {Xc : Str → Addr × Str} (h : spD K Xc true 1 drawM vs H Q E) :
    ∃ (s l : Addr) (ns : List Int) (c n m many : Int), vs = [.ref s, .int many] ∧ St4 H H s l ns c n m ∧ 0 ≤ c ∧ 0 ≤ n ∧ n + 1 ≤ 100000000000000 ∧ 0 ≤ m ∧ m < 2147483647 ∧ 0 < many ∧ fit many = true ∧
      ∀ (H' : Hp) (d c' m' : Int) (ns' : List Int), St4 H H' s l ns' c' (n + 1) m' → 0 ≤ d → d < many → 0 ≤ c' → 0 ≤ m' → m' < 2147483647 → Q (.int d) H' := by
  obtain ⟨S, F, b, vs', ts, h1, h2, h3, h4, h5⟩ := h
  rw [if_pos rfl] at h2
  obtain ⟨s, l, rfl, rfl, f1, f2, h6, ns, c, n, m, q1, q2, q3, q4, q5, q6, q7⟩ := h2
  rcases h4 with _ | ⟨r1, _ | ⟨r2, r3⟩⟩
  · cases h1
  · rename_i v t
    cases r1 with
    | int many =>
      obtain ⟨ft, h5⟩ := if_of h5
      obtain ⟨p1, p2, p3⟩ := h5
      refine ⟨s, l, ns, c, n, m, many, rfl, ⟨q1, q2, h6, fun _ _ e _ _ => e⟩, q3, q4, by omega, q6, q7, p1, ft, fun H' d c' m' ns' S d1 d2 e1 e2 e3 => ?_⟩
      exact p3 d d1 d2 (.int d) _ F (strm_after S h3 f1 f2 e1 (by omega) (by omega) e2 e3) (.int d)
    | _ => exact h5.elim
  · cases h1
end DP
end
section
set_option Elab.async false
set_option linter.all false
set_option maxRecDepth 100000
namespace DP
open PySem PySem.Spec PyProof.Rows L2

/-! ### a, b = x, y -/
inductive Pd where
  | val (t : T) | own (ts : List T)
def Pd.sl : Pd → Sl
  | .val t => .val t
  | .own ts => .own ts
/-- a value that is about to be stored -/
inductive PdOk (g : Cn) (σ : Sg) (ρ : Env') (F H : Hp) : V → Pd → Prop
  | val {v : V} {t : T} : Rep g.K F v t → PdOk g σ ρ F H v (.val t)
  | own {p : Addr} {vs : List V} {ts : List T} : H p = some (.lst vs) → F p = none → g.H0 p = none → ¬ g.inS p → ¬ OwnAt σ ρ p → Reps g.K F vs ts → PdOk g σ ρ F H (.ref p) (.own ts)
inductive Pds (g : Cn) (σ : Sg) (ρ : Env') (F H : Hp) : List V → List Pd → Prop
  | nil : Pds g σ ρ F H [] []
  | cons {v : V} {vs : List V} {d : Pd} {ds : List Pd} : PdOk g σ ρ F H v d → Pds g σ ρ F H vs ds → (∀ ts, d = .own ts → ∀ (j : Nat) ts', ds[j]? = some (.own ts') → vs[j]? ≠ some v) → Pds g σ ρ F H (v :: vs) (d :: ds)
theorem PdOk.step {g : Cn} {σ : Sg} {ρ : Env'} {F H F' H' : Hp} {b : Nat} {v : V} {d : Pd} (h : PdOk g σ ρ F H v d) (s : Step g σ ρ F H F' H' b) : PdOk g σ ρ F' H' v d := by
  cases h with
  | val r => exact .val (r.ext s.ext)
  | own h1 h2 h3 h4 h5 h6 => exact .own (s.kp _ _ h1 h4 h5) (s.new _ _ h1 h2) h3 h4 h5 (h6.ext s.ext)
def tDP (g : Cn) (W : WX) (f : Env' → M (List Pd)) : TA := fun σ H Q => ∃ ρ F b, SR g F H σ ρ b ∧ (f ρ).wp b (fun b' ds => ∀ vs H' F', Step g σ ρ F H F' H' b' → Pds g σ ρ F' H' vs ds → (∀ (j : Nat) (v : V) (ts : List T), vs[j]? = some v → ds[j]? = some (Pd.own ts) → ∀ p : Addr, v = V.ref p → H p = none) → Q vs H') (EX g W σ ρ F H)
def pNil : Env' → M (List Pd) := fun _ => .ret []
def pCons (f : Env' → M T) (h : Env' → M (List Pd)) : Env' → M (List Pd) := e2 (fun t ds => .ret (.val t :: ds)) f h
def pConsN (f : Env' → M (List T)) (h : Env' → M (List Pd)) : Env' → M (List Pd) := e2 (fun ts ds => .ret (.own ts :: ds)) f h
section
variable {X : Cx} {g : Cn} {W : WX} {k : Nat} {pos : Pos} {a c e : Expr} {es : List Expr} {f : Env' → M T} {fn : Env' → M (List T)} {fp : Env' → M (List Pd)}
theorem dp_nil : PA X [] (tDP g W pNil) := pa_imp pa_nil fun σ H Q ⟨ρ, F, b, s, q⟩ => q [] H F (Step.refl s) .nil fun _ _ _ h => by simp at h
theorem dp_cons (h : DE X g W e f) (hs : PA X es (tDP g W fp)) (hst : starEach (e :: es) X.env = (false, eval e X.env) :: starEach es X.env := by rfl) : PA X (e :: es) (tDP g W (pCons f fp)) :=
  pa_imp (pa_cons h hs hst) fun σ H Q ⟨ρ, F, b, s, q⟩ => ⟨ρ, F, b, s, M.wp_mono (wp2.mp q) (fun b1 t q1 x H1 F1 s1 r1 => ⟨ρ, F1, b1, s1.sr, M.wp_mono q1 (fun b2 ds q2 vs H2 F2 s2 r2 n2 =>
    q2 (x :: vs) H2 F2 (s1.trans s2) (.cons (.val (r1.ext s2.ext)) r2 fun _ e => nomatch e) fun j v ts h1 h2 p e => by
      cases j with
      | zero => cases h2
      | succ j =>
        have z := n2 j v ts (by simpa using h1) (by simpa using h2) p e
        cases hq : H p with
        | none => rfl
        | some o =>
          by_cases hs : g.inS p ∨ OwnAt σ ρ p
          · obtain ⟨u, y⟩ := s1.sr.live hs
            rw [z] at y
            cases y
          · have y := s1.kp p o hq (fun w => hs (.inl w)) fun w => hs (.inr w)
            rw [z] at y
            cases y) fun b' c' t' z => EX.step s1 b' c' t' z⟩) fun _ _ _ z => z⟩
theorem dp_consN (h : DN X g W e fn) (hs : PA X es (tDP g W fp)) (hst : starEach (e :: es) X.env = (false, eval e X.env) :: starEach es X.env := by rfl) : PA X (e :: es) (tDP g W (pConsN fn fp)) :=
  pa_imp (pa_cons h hs hst) fun σ H Q ⟨ρ, F, b, s, q⟩ => ⟨ρ, F, b, s, M.wp_mono (wp2.mp q) (fun b1 ts q1 p vs1 H0 H1 F1 s1 hp eH r1 => by
    subst eH
    obtain ⟨h0, nS, fD, nO⟩ := s1.sr.h0 hp
    have t1 := s1.trans (s1.sr.stepU (.lst vs1) hp)
    refine ⟨ρ, F1, b1, t1.sr, M.wp_mono q1 (fun b2 ds q2 vs H2 F2 s2 r2 n2 => ?_) fun b' c' t' z => EX.step t1 b' c' t' z⟩
    have back : ∀ c, upd H0 p (.lst vs1) c = none → H c = none := fun c z => by
      cases hq : H c with
      | none => rfl
      | some o =>
        by_cases hs : g.inS c ∨ OwnAt σ ρ c
        · obtain ⟨u, y⟩ := t1.sr.live hs
          rw [z] at y
          cases y
        · have y := t1.kp c o hq (fun w => hs (.inl w)) fun w => hs (.inr w)
          rw [z] at y
          cases y
    refine q2 (.ref p :: vs) H2 F2 (t1.trans s2) (.cons (PdOk.step (.own upd_same fD h0 nS nO r1) s2) r2 fun _ _ j ts' h1 h2 => ?_) fun j v ts h1 h2 c e => ?_
    · have z := n2 j (.ref p) ts' h2 h1 p rfl
      rw [upd_same] at z
      cases z
    · cases j with
      | zero =>
        simp at h1
        subst h1
        cases e
        cases hq : H p with
        | none => rfl
        | some o =>
          have y := s1.kp p o hq nS nO
          rw [hp] at y
          cases y
      | succ j => exact back c (n2 j v ts (by simpa using h1) (by simpa using h2) c e)) fun _ _ _ z => z⟩
theorem SR.setP {F H : Hp} {σ : Sg} {ρ : Env'} {b : Nat} {v : V} {d : Pd} (s : SR g F H σ ρ b) (i : Nat) (h : PdOk g σ ρ F H v d) : SR g F H (σ.set i (some v)) (ρ.set i d.sl) b := by
  cases h with
  | val r => exact s.set i (.val r) rfl
  | @own p vs ts h1 h2 h3 h4 h5 h6 =>
    refine ⟨s.sub, s.f0, s.keep, s.new, Paired.set2 (.own h1 h2 h3 h4 h6) i s.slots, fun j k c y z jk hy hz oy oz e q => ?_, s.strm, s.tabs⟩
    rcases get_set hy with ⟨rfl, rfl, _⟩ | ⟨nj, hy'⟩
    · rcases get_set hz with ⟨rfl, rfl, _⟩ | ⟨nk, hz'⟩
      · exact jk rfl
      · rcases get_set e with ⟨_, e1, _⟩ | ⟨nn, _⟩
        · cases e1
          rcases get_set q with ⟨e2, _⟩ | ⟨_, q'⟩
          · exact nk e2
          · exact h5 (ownAt_addr hz' oz q')
        · exact nn rfl
    · rcases get_set e with ⟨e1, _⟩ | ⟨_, e'⟩
      · exact nj e1
      · rcases get_set hz with ⟨rfl, rfl, _⟩ | ⟨nk, hz'⟩
        · rcases get_set q with ⟨_, e1, _⟩ | ⟨nn, _⟩
          · cases e1
            exact h5 (ownAt_addr hy' oy e')
          · exact nn rfl
        · rcases get_set q with ⟨e1, _⟩ | ⟨_, q'⟩
          · exact nk e1
          · exact s.dis j k c y z jk hy' hz' oy oz e' q'
/-- another value that is about to be stored, once the first one is -/
theorem PdOk.set {F H : Hp} {σ : Sg} {ρ : Env'} {v w : V} {d d2 : Pd} {i : Nat} (h : PdOk g σ ρ F H w d2) (n : ∀ ts, d = .own ts → ∀ ts', d2 = .own ts' → w ≠ v) : PdOk g (σ.set i (some v)) (ρ.set i d.sl) F H w d2 := by
  cases h with
  | val r => exact .val r
  | @own p vs ts h1 h2 h3 h4 h5 h6 =>
    refine .own h1 h2 h3 h4 (fun ⟨j, x, z1, z2, z3⟩ => ?_) h6
    rcases get_set z1 with ⟨rfl, rfl, _⟩ | ⟨nj, z1'⟩
    · rcases get_set z3 with ⟨_, e, _⟩ | ⟨nn, _⟩
      · cases d with
        | val t => cases z2
        | own us => exact n us rfl ts rfl (Option.some.inj e).symm
      · exact nn rfl
    · rcases get_set z3 with ⟨e, _⟩ | ⟨_, z3'⟩
      · exact nj e
      · exact h5 ⟨j, x, z1', z2, z3'⟩
def sPar (i j : Nat) (f : Env' → M (List Pd)) : Env' → M Fl := fun ρ => (f ρ).bind fun ds => match ds with
  | [d1, d2] => .ret (.next ((ρ.set i d1.sl).set j d2.sl))
  | _ => .stuck
def sPar3 (i j l : Nat) (f : Env' → M (List Pd)) : Env' → M Fl := fun ρ => (f ρ).bind fun ds => match ds with
  | [d1, d2, d3] => .ret (.next (((ρ.set i d1.sl).set j d2.sl).set l d3.sl))
  | _ => .stuck
theorem ds_par {i j : Nat} {x y : Str} {px py pt : Pos} {kt k2 pt2} (hc : X.calm = true) (hN : X.N.Nodup) (hi : X.N[i]? = some x) (hj : X.N[j]? = some y) (hij : i ≠ j)
    (hx : X.env.scope.names.lookup x = some .local) (hy : X.env.scope.names.lookup y = some .local) (ha : PA X [a, c] (tDP g W fp))
    (hw : swappedStores [.Tuple [.Name x px, .Name y py] kt pt] (.Tuple [a, c] k2 pt2) X.env = pure (some [x, y]) := by rfl)
    (hs : swapsWithSole [.Tuple [.Name x px, .Name y py] kt pt] (.Tuple [a, c] k2 pt2) pos.line X.env = pure false := by rfl) :
    DS X g W (.Assign [.Tuple [.Name x px, .Name y py] kt pt] (.Tuple [a, c] k2 pt2) pos) (sPar i j fp) :=
  ps_imp (ps_par hc hN hi hj hij hx hy ha hw hs) fun D σ H ⟨ρ, F, b, s, q⟩ => ⟨ρ, F, b, s, M.wp_mono (M.wp_bind.mp q) (fun b1 ds q1 vs H1 F1 s1 r _ => by
    cases r with
    | nil => exact q1.elim
    | cons r1 r r' =>
      cases r with
      | nil => exact q1.elim
      | cons r2 r3 r4 =>
        cases r3 with
        | nil =>
          refine ⟨_, _, rfl, q1 _ H1 F1 s1.ext ((s1.sr.setP i r1).setP j (r2.set fun ts e ts' e' z => ?_))⟩
          exact r' ts e 0 ts' (by rw [e']; rfl) (by rw [z]; rfl)
        | cons _ _ _ => exact q1.elim) fun _ _ _ z => z.ex⟩
theorem ds_par3 {i j l : Nat} {a' : Expr} {x y z : Str} {px py pz pt : Pos} {kt k2 pt2} (hc : X.calm = true) (hN : X.N.Nodup) (hi : X.N[i]? = some x) (hj : X.N[j]? = some y) (hl : X.N[l]? = some z) (hij : i ≠ j) (hil : i ≠ l) (hjl : j ≠ l)
    (h : PS X (.Assign [.Tuple [.Name x px, .Name y py, .Name z pz] kt pt] (.Tuple [a, c, a'] k2 pt2) pos) (tPar3 i j l (tDP g W fp))) :
    DS X g W (.Assign [.Tuple [.Name x px, .Name y py, .Name z pz] kt pt] (.Tuple [a, c, a'] k2 pt2) pos) (sPar3 i j l fp) :=
  ps_imp h fun D σ H ⟨ρ, F, b, s, q⟩ => ⟨ρ, F, b, s, M.wp_mono (M.wp_bind.mp q) (fun b1 ds q1 vs H1 F1 s1 r _ => by
    cases r with
    | nil => exact q1.elim
    | cons r1 r r' =>
      cases r with
      | nil => exact q1.elim
      | cons r2 r3 r4 =>
        cases r3 with
        | nil => exact q1.elim
        | cons r5 r6 r7 =>
          cases r6 with
          | nil =>
            refine ⟨_, _, _, rfl, q1 _ H1 F1 s1.ext (((s1.sr.setP i r1).setP j (r2.set fun ts e ts' e' z => ?_)).setP l ((r5.set fun ts e ts' e' z => ?_).set fun ts e ts' e' z => ?_))⟩
            · exact r' ts e 0 ts' (by rw [e']; rfl) (by rw [z]; rfl)
            · exact r' ts e 1 ts' (by rw [e']; rfl) (by rw [z]; rfl)
            · exact r4 ts e 0 ts' (by rw [e']; rfl) (by rw [z]; rfl)
          | cons _ _ _ => exact q1.elim) fun _ _ _ z => z.ex⟩
end
end DP
end
section
set_option Elab.async false
set_option linter.all false
set_option maxRecDepth 100000
namespace DP
open PySem PySem.Spec PyProof.Rows L2

/-! ### slices -/
def cutT (ts : List T) (lo hi : Option Int) : List T := (ts.drop (HT.sIx ts.length 0 lo)).take (HT.sIx ts.length ts.length hi - HT.sIx ts.length 0 lo)
theorem cut_rep {K : KF} {F : Hp} {vs : List V} {ts : List T} (r : Reps K F vs ts) (lo hi : Option Int) : Reps K F (cutV vs lo hi) (cutT ts lo hi) := by
  unfold cutV cutT
  rw [r.length]
  exact (r.drop _).take _
def tDO (g : Cn) (W : WX) (f : Env' → M (Option Int)) : TO := fun σ H Q => ∃ ρ F b, SR g F H σ ρ b ∧ (f ρ).wp b (fun b' o => ∀ H' F', Step g σ ρ F H F' H' b' → Q o H') (EX g W σ ρ F H)
abbrev DO (X : Cx) (g : Cn) (W : WX) (e : Option Expr) (f : Env' → M (Option Int)) : Prop := PO X e (tDO g W f)
def oNone : Env' → M (Option Int) := fun _ => .ret none
def oSome (f : Env' → M T) : Env' → M (Option Int) := fun ρ => (f ρ).bind fun t => match t with
  | .int i => .ret (some i)
  | _ => .stuck
theorem po_imp {X : Cx} {e : Option Expr} {t t' : TO} (h : PO X e t) (i : ∀ σ H Q, t' σ H Q → t σ H Q) : PO X e t' := ⟨fun pins s σ H Q I hw => h.run pins s σ H Q I (i σ H Q hw)⟩
section
variable {X : Cx} {g : Cn} {W : WX} {k i : Nat} {pos p2 : Pos} {a c e tg : Expr} {es : List Expr} {lo hi : Option Expr} {f fa fc fd : Env' → M T} {fs : Env' → M (List T)} {fl fl2 : Env' → M (Bool × List T)} {ol oh : Env' → M (Option Int)} {x : Str} {p : Pos}
theorem do_none : DO X g W none oNone := po_imp po_none fun σ H Q ⟨ρ, F, b, s, q⟩ => q H F (Step.refl s)
theorem do_some (h : DE X g W e f) : DO X g W (some e) (oSome f) := po_imp (po_some h) fun σ H Q ⟨ρ, F, b, s, q⟩ => ⟨ρ, F, b, s, M.wp_mono (M.wp_bind.mp q) (fun b1 t q1 v H1 F1 s1 r1 => by
  cases t with
  | int i => cases r1; exact ⟨i, rfl, q1 H1 F1 s1⟩
  | _ => exact q1.elim) fun _ _ _ z => z⟩
def nSl (fl : Env' → M (Bool × List T)) (ol oh : Env' → M (Option Int)) : Env' → M (List T) := fun ρ => (fl ρ).bind fun p => (ol ρ).bind fun lo => (oh ρ).bind fun hi => if p.1 = true then .ret (cutT p.2 lo hi) else .stuck
theorem dn_slice (ha : DL X g W a fl) (hl : DO X g W lo ol) (hh : DO X g W hi oh) (hK : X.K = g.K := by rfl) : DN X g W (.Subscript a (.Slice lo hi none p2) pos) (nSl fl ol oh) :=
  pe_imp (pe_slice sl_list ha hl hh) fun σ H Q ⟨ρ, F, b, s, q⟩ => ⟨ρ, F, b, s, M.wp_mono (M.wp_bind.mp q) (fun b1 pp q1 d H1 F1 s1 h1 => ⟨ρ, F1, b1, s1.sr, M.wp_mono (M.wp_bind.mp q1) (fun b2 o q2 H2 F2 s2 => ⟨ρ, F2, b2, s2.sr, M.wp_mono (M.wp_bind.mp q2) (fun b3 o2 q3 H3 F3 s3 => by
    obtain ⟨ok, q4⟩ := if_of q3
    obtain ⟨vs, z1, r⟩ := (h1.step (s2.trans s3)) F3 H3 b3 (Step.refl s3.sr)
    rw [if_pos ok] at z1
    exact ⟨d, vs, rfl, SqL.of z1, fun p hp => q4 p _ H3 _ F3 (s1.trans (s2.trans s3)) hp rfl (cut_rep r o o2)⟩) fun b' c' t' z => EX.step (s1.trans s2) b' c' t' z⟩) fun b' c' t' z => EX.step s1 b' c' t' z⟩) fun _ _ _ z => z⟩
def nRev (p : Bool × List T) : M (List T) := if p.1 = true then .ret p.2.reverse else .stuck
theorem Reps.rev {K : KF} {F : Hp} : ∀ {vs : List V} {ts : List T}, Reps K F vs ts → Reps K F vs.reverse ts.reverse
  | _, _, .nil => .nil
  | _, _, .cons h r => by
    rw [List.reverse_cons, List.reverse_cons]
    exact (Reps.rev r).append (.one h)
theorem dn_rev {kk : Nat} {q1 q2 q3 : Pos} (ha : DL X g W a fl) : DN X g W (.Subscript a (.Slice none none (some (.UnaryOp .USub (.Constant (.int 1) kk q1) q2)) q3) pos) (e1 nRev fl) :=
  pe_imp (pe_revL ha) fun σ H Q ⟨ρ, F, b, s, q⟩ => ⟨ρ, F, b, s, M.wp_mono (M.wp_bind.mp q) (fun b1 pp q1 d H1 F1 s1 h1 => by
    obtain ⟨ok, q4⟩ := if_of q1
    obtain ⟨vs, z1, r⟩ := h1 F1 H1 b1 (Step.refl s1.sr)
    rw [if_pos ok] at z1
    exact ⟨d, vs, rfl, SqL.of z1, fun p hp => q4 p _ H1 _ F1 s1 hp rfl r.rev⟩) fun _ _ _ z => z⟩
/-- xs * n -/
def nRep (p : Bool × List T) : T → M (List T)
  | .int j => if (p.1 && okR j && okLen (p.2.length * j.toNat)) = true then .ret (List.replicate j.toNat p.2).flatten else .stuck
  | _ => .stuck
theorem Reps.repl {K : KF} {F : Hp} {vs : List V} {ts : List T} (r : Reps K F vs ts) : ∀ n : Nat, Reps K F (List.replicate n vs).flatten (List.replicate n ts).flatten
  | 0 => .nil
  | n + 1 => by
    rw [List.replicate_succ, List.replicate_succ, List.flatten_cons, List.flatten_cons]
    exact r.append (Reps.repl r n)
theorem dn_rep (ha : DL X g W a fl) (hc : DE X g W c fc) : DN X g W (.BinOp a .Mult c pos) (e2 nRep fl fc) :=
  pe_imp (pe_op op_rep ha hc) fun σ H Q ⟨ρ, F, b, s, q⟩ => ⟨ρ, F, b, s, M.wp_mono (wp2.mp q) (fun b1 pp q1 d H1 F1 s1 h1 => ⟨ρ, F1, b1, s1.sr, M.wp_mono q1 (fun b2 t q2 v H2 F2 s2 r2 => by
    cases t with
    | int j =>
      cases r2
      obtain ⟨ok, q3⟩ := if_of q2
      rw [Bool.and_eq_true, Bool.and_eq_true] at ok
      obtain ⟨vs, z1, r⟩ := (h1.step s2) F2 H2 b2 (Step.refl s2.sr)
      rw [if_pos ok.1.1] at z1
      have hj := of_decide_eq_true ok.1.2
      exact ⟨d, j, vs, rfl, rfl, z1, by omega, by omega, by rw [r.length]; exact Nat.le_of_lt (okLen_line ok.2), fun p hp => q3 p _ H2 _ F2 (s1.trans s2) hp rfl (r.repl _)⟩
    | _ => exact q2.elim) fun b' c' t' z => EX.step s1 b' c' t' z⟩) fun _ _ _ z => z⟩
/-! ### -x; chains -/
def negT : T → M T
  | .int i => .ret (.int (-i))
  | _ => .stuck
theorem de_neg (ha : DE X g W a fa) : DE X g W (.UnaryOp .USub a pos) (e1 negT fa) :=
  pe_imp (pe_un un_neg ha) fun σ H Q ⟨ρ, F, b, s, q⟩ => ⟨ρ, F, b, s, M.wp_mono (M.wp_bind.mp q) (fun b1 t q1 v H1 F1 s1 r1 => by
    cases t with
    | int i => cases r1; exact ⟨i, rfl, q1 _ H1 F1 s1 (.int _)⟩
    | _ => exact q1.elim) fun _ _ _ z => z⟩
def eChain (k1 k2 : T → T → M T) (fa fc fd : Env' → M T) : Env' → M T := fun ρ => (fa ρ).bind fun t => (fc ρ).bind fun u => (k1 t u).bind fun z => (boolT z).bind fun b => if b = true then (fd ρ).bind fun w => k2 u w else .ret (.bl false)
theorem chain_read {r r' : R2} {k1 k2 : T → T → M T} (h1 : Bin g W r k1) (h2 : Bin g W r' k2) {σ : Sg} {H : Hp} {Q : VK} (h : tD g W (eChain k1 k2 fa fc fd) σ H Q) : tChain r r' (tD g W fa) (tD g W fc) (tD g W fd) σ H Q := by
  obtain ⟨ρ, F, b, s, q⟩ := h
  refine ⟨ρ, F, b, s, M.wp_mono (M.wp_bind.mp q) (fun b1 t q1 x H1 F1 s1 r1 => ⟨ρ, F1, b1, s1.sr, M.wp_mono (M.wp_bind.mp q1) (fun b2 u q2 y H2 F2 s2 r2 => ?_) fun b' c' t' z => EX.step s1 b' c' t' z⟩) fun _ _ _ z => z⟩
  have s12 := s1.trans s2
  refine h1 σ ρ F2 H2 b2 x y t u _ s2.sr (r1.ext s2.ext) r2 (M.wp_mono (M.wp_bind.mp q2) (fun b3 z q3 v H3 F3 s3 r3 => ?_) fun b' c' t' z => EX.step s12 b' c' t' z)
  obtain ⟨c', rfl, q4⟩ := boolT_of (M.wp_bind.mp q3)
  cases r3
  have s13 := s12.trans s3
  refine ⟨c', rfl, ?_⟩
  cases c' with
  | false =>
    rw [if_neg Bool.false_ne_true] at q4
    exact iteF (q4 _ H3 F3 s13 (.bl _))
  | true =>
    rw [if_pos rfl] at q4
    refine iteT ⟨ρ, F3, b3, s3.sr, M.wp_mono (M.wp_bind.mp q4) (fun b4 w q5 v4 H4 F4 s4 r4 => ?_) fun b' c' t' z => EX.step s13 b' c' t' z⟩
    exact h2 σ ρ F4 H4 b4 y v4 u w Q s4.sr ((r2.ext s3.ext).ext s4.ext) r4 (M.wp_mono q5 (fun b5 w q6 v5 H5 F5 s5 r5 => q6 v5 H5 F5 ((s13.trans s4).trans s5) r5) fun b' c' t' z => EX.step (s13.trans s4) b' c' t' z)
theorem de_chain {op op' : CmpOp} {r r' : R2} {k1 k2 : T → T → M T} {d : Expr} (ho : OpR X (compareOp op) r) (ho' : OpR X (compareOp op') r') (h1 : Bin g W r k1) (h2 : Bin g W r' k2) (ha : DE X g W a fa) (hc : DE X g W c fc) (hd : DE X g W d fd)
    (hm : lastMarks [op, op'] [c, d] = false := by with_unfolding_all rfl) : DE X g W (.Compare a [op, op'] [c, d] pos) (eChain k1 k2 fa fc fd) := pe_imp (pe_chain ho ho' ha hc hd hm) fun σ H Q h => chain_read h1 h2 h
/-! ### in, not in -/
def inT (neg : Bool) (t : T) (p : Bool × List T) : M T := match dataT t, dataTs p.2 with
  | some d, some ds => if (SeqAt.shaped d && SeqAt.shaped (.list ds)) = true then .ret (.bl (if neg = true then !ds.any (fun z => PyData.eqv z d) else ds.any fun z => PyData.eqv z d)) else .stuck
  | _, _ => .stuck
/-- what stands in a list (true) or in a tuple -/
def seqD (q : Bool) (ds : List PyData) : PyData := if q = true then .list ds else .tuple ds
def rInB (K : KF) (neg : Bool) : R2 := fun x y H Q => ∃ d ds q, Dp K H x d ∧ Dp K H y (seqD q ds) ∧ SeqAt.shaped d = true ∧ SeqAt.shaped (.list ds) = true ∧ Q (.bl (if neg = true then !ds.any (fun z => PyData.eqv z d) else ds.any fun z => PyData.eqv z d)) H
theorem in_read {σ : Sg} {H : Hp} {Q : VK} (neg : Bool) (h : tD g W (e2 (inT neg) fa fl) σ H Q) : tOp (rInB g.K neg) (tD g W fa) (tDL g W fl) σ H Q := by
  obtain ⟨ρ, F, b, s, q⟩ := h
  refine ⟨ρ, F, b, s, M.wp_mono (wp2.mp q) (fun b1 t q1 x H1 F1 s1 r1 => ⟨ρ, F1, b1, s1.sr, M.wp_mono q1 (fun b2 pp q2 d H2 F2 s2 h2 => ?_) fun b' c' t' z => EX.step s1 b' c' t' z⟩) fun _ _ _ z => z⟩
  unfold inT at q2
  cases e1 : dataT t with
  | none => rw [e1] at q2; exact q2.elim
  | some dt =>
    cases e2 : dataTs pp.2 with
    | none => rw [e1, e2] at q2; exact q2.elim
    | some ds =>
      rw [e1, e2] at q2
      obtain ⟨ok, q3⟩ := if_of q2
      rw [Bool.and_eq_true] at ok
      obtain ⟨vs, z1, r⟩ := h2 F2 H2 b2 (Step.refl s2.sr)
      refine ⟨dt, ds, pp.1, Rep.dp s2.sr.sub (r1.ext s2.ext) e1, ?_, ok.1, ok.2, q3 _ H2 F2 (s1.trans s2) (.bl _)⟩
      cases hp : pp.1 with
      | true => rw [if_pos hp] at z1; exact .lst (SqL.of z1) (Reps.dp s2.sr.sub r e2)
      | false => rw [hp, if_neg Bool.false_ne_true] at z1; exact .tup (sqT_ext s2.sr.sub z1) (Reps.dp s2.sr.sub r e2)
theorem room65 (hr : Room k X.A) : X.A.units + 65 < cLine := by have := hr.un; omega
theorem op_in' (hu : X.A.units + 65 < cLine) (hK : X.K = g.K) : OpR X (compareOp .In) (rInB g.K false) := by
  intro pins s σ H x y v u Q I rx ry h
  obtain ⟨d, ds, q, h1, h2, h3, h4, h5⟩ := h
  rw [← hK] at h1 h2
  obtain ⟨as, w1⟩ := Dp.reads I d x v h1 rx
  obtain ⟨bs, w2⟩ := Dp.reads I (seqD q ds) y u h2 ry
  cases q with
  | true => exact SeqAt.in_list_reads w2 w1 (SeqAt.canLay_of_shaped h4) (SeqAt.canLay_of_shaped h3) (room_in_shaped h3 hu) ⟨.bl _, H, I, rfl, h5⟩
  | false => exact SeqAt.in_tuple_reads w2 w1 (SeqAt.canLay_of_shaped h4) (SeqAt.canLay_of_shaped h3) (room_in_shaped h3 hu) ⟨.bl _, H, I, rfl, h5⟩
theorem op_nin' (hu : X.A.units + 65 < cLine) (hK : X.K = g.K) : OpR X (compareOp .NotIn) (rInB g.K true) := by
  intro pins s σ H x y v u Q I rx ry h
  obtain ⟨d, ds, q, h1, h2, h3, h4, h5⟩ := h
  rw [← hK] at h1 h2
  obtain ⟨as, w1⟩ := Dp.reads I d x v h1 rx
  obtain ⟨bs, w2⟩ := Dp.reads I (seqD q ds) y u h2 ry
  cases q with
  | true => exact SeqAt.notIn_list_reads w2 w1 (SeqAt.canLay_of_shaped h4) (SeqAt.canLay_of_shaped h3) (room_in_shaped h3 hu) ⟨.bl _, H, I, rfl, h5⟩
  | false => exact SeqAt.notIn_tuple_reads w2 w1 (SeqAt.canLay_of_shaped h4) (SeqAt.canLay_of_shaped h3) (room_in_shaped h3 hu) ⟨.bl _, H, I, rfl, h5⟩
theorem de_in (hr : Room k X.A) (ha : DE X g W a fa) (hc : DL X g W c fl) (hm : behindInMarks .In c = false := by rfl) (hK : X.K = g.K := by rfl) : DE X g W (.Compare a [.In] [c] pos) (e2 (inT false) fa fl) := pe_imp (pe_cmpR (op_in' (room65 hr) hK) ha hc hm) fun σ H Q h => in_read false h
theorem de_nin (hr : Room k X.A) (ha : DE X g W a fa) (hc : DL X g W c fl) (hm : behindInMarks .NotIn c = false := by rfl) (hK : X.K = g.K := by rfl) : DE X g W (.Compare a [.NotIn] [c] pos) (e2 (inT true) fa fl) := pe_imp (pe_cmpR (op_nin' (room65 hr) hK) ha hc hm) fun σ H Q h => in_read true h
/-- a bool's reading as a test's -/
theorem test_read {σ : Sg} {H : Hp} {Q : Bool → Hp → Prop} {f : Env' → M T} (h : tDT g W (e1 boolT f) σ H Q) : tD g W f σ H (fun x H' => ∃ k, x = .bl k ∧ Q k H') := by
  obtain ⟨ρ, F, b, s, q⟩ := h
  refine ⟨ρ, F, b, s, M.wp_mono (M.wp_bind.mp q) (fun b1 t q1 v H1 F1 s1 r1 => ?_) fun _ _ _ z => z⟩
  obtain ⟨c, rfl, q2⟩ := boolT_of q1
  cases r1
  exact ⟨c, rfl, q2 H1 F1 s1⟩
theorem dt_in (hr : Room k X.A) (ha : DE X g W a fa) (hc : DL X g W c fl) (hm : behindInMarks .In c = false := by rfl) (hK : X.K = g.K := by rfl) : DT X g W (.Compare a [.In] [c] pos) (e1 boolT (e2 (inT false) fa fl)) := pt_imp (pt_cmpR (op_in' (room65 hr) hK) ha hc hm) fun σ H Q h => in_read false (test_read h)
theorem dt_nin (hr : Room k X.A) (ha : DE X g W a fa) (hc : DL X g W c fl) (hm : behindInMarks .NotIn c = false := by rfl) (hK : X.K = g.K := by rfl) : DT X g W (.Compare a [.NotIn] [c] pos) (e1 boolT (e2 (inT true) fa fl)) := pt_imp (pt_cmpR (op_nin' (room65 hr) hK) ha hc hm) fun σ H Q h => in_read true (test_read h)
theorem dt_chain {op op' : CmpOp} {r r' : R2} {k1 k2 : T → T → M T} {d : Expr} (ho : OpR X (compareOp op) r) (ho' : OpR X (compareOp op') r') (h1 : Bin g W r k1) (h2 : Bin g W r' k2) (ha : DE X g W a fa) (hc : DE X g W c fc) (hd : DE X g W d fd)
    (hm : lastMarks [op, op'] [c, d] = false := by with_unfolding_all rfl) : DT X g W (.Compare a [op, op'] [c, d] pos) (e1 boolT (eChain k1 k2 fa fc fd)) := pt_imp (pt_chain ho ho' ha hc hd hm) fun σ H Q h => chain_read h1 h2 (test_read h)
/-! ### x == [], x != [] -/
def eqNilT (neg : Bool) (p : Bool × List T) : M T := match dataTs p.2 with
  | some ds => if (p.1 && SeqAt.shaped (.list ds)) = true then .ret (.bl (if neg = true then !p.2.isEmpty else p.2.isEmpty)) else .stuck
  | none => .stuck
theorem eqv_nil : ∀ ds : List PyData, PyData.eqv (.list ds) (.list []) = ds.isEmpty
  | [] => by simp [PyData.eqv, PyData.eqvAll]
  | _ :: _ => by simp [PyData.eqv, PyData.eqvAll]
theorem dataTs_empty {ts : List T} {ds : List PyData} (h : dataTs ts = some ds) : ds.isEmpty = ts.isEmpty := by
  cases ts with
  | nil => simp [dataTs] at h; subst h; rfl
  | cons t ts =>
    unfold dataTs at h
    cases e : dataT t with
    | none => rw [e] at h; cases h
    | some d =>
      rw [e] at h
      cases e2 : dataTs ts with
      | none => rw [e2] at h; cases h
      | some ds' => rw [e2] at h; cases h; rfl
theorem eqnil_read {σ : Sg} {H : Hp} {Q : VK} (neg : Bool) (h : tD g W (e1 (eqNilT neg) fl) σ H Q) : tOp (fun x y H Q => ∃ d e, Dp g.K H x d ∧ Dp g.K H y e ∧ SeqAt.shaped d = true ∧ SeqAt.shaped e = true ∧ Q (.bl (if neg = true then !PyData.eqv d e else PyData.eqv d e)) H) (tDL g W fl) (tLst tNil) σ H Q := by
  obtain ⟨ρ, F, b, s, q⟩ := h
  refine ⟨ρ, F, b, s, M.wp_mono (M.wp_bind.mp q) (fun b1 pp q1 d H1 F1 s1 h1 => ⟨Nat.zero_le _, fun l hl => ?_⟩) fun _ _ _ z => z⟩
  unfold eqNilT at q1
  cases e2 : dataTs pp.2 with
  | none => rw [e2] at q1; exact q1.elim
  | some ds =>
    rw [e2] at q1
    obtain ⟨ok, q3⟩ := if_of q1
    rw [Bool.and_eq_true] at ok
    have s2 := s1.sr.stepU (.lst []) hl
    obtain ⟨vs, z1, r⟩ := h1 _ _ _ s2
    rw [if_pos ok.1] at z1
    refine ⟨.list ds, .list [], .lst (SqL.of z1) (Reps.dp s2.sr.sub r e2), .lst (SqL.of upd_same) .nil, ok.2, shapedNil, ?_⟩
    rw [eqv_nil, dataTs_empty e2]
    exact q3 _ _ _ (s1.trans s2) (.bl _)
theorem op_eqD' (hu : X.A.units + 64 < cLine) (hK : X.K = g.K) : OpR X (compareOp .Eq) (fun x y H Q => ∃ d e, Dp g.K H x d ∧ Dp g.K H y e ∧ SeqAt.shaped d = true ∧ SeqAt.shaped e = true ∧ Q (.bl (if false = true then !PyData.eqv d e else PyData.eqv d e)) H) := by
  intro pins s σ H x y v u Q I rx ry h
  obtain ⟨d, e, h1, h2, h3, h4, h5⟩ := h
  exact op_eqD hu pins s σ H x y v u Q I rx ry ⟨d, e, by rw [hK]; exact h1, by rw [hK]; exact h2, h3, h4, h5⟩
theorem op_neD' (hu : X.A.units + 64 < cLine) (hK : X.K = g.K) : OpR X (compareOp .NotEq) (fun x y H Q => ∃ d e, Dp g.K H x d ∧ Dp g.K H y e ∧ SeqAt.shaped d = true ∧ SeqAt.shaped e = true ∧ Q (.bl (if true = true then !PyData.eqv d e else PyData.eqv d e)) H) := by
  intro pins s σ H x y v u Q I rx ry h
  obtain ⟨d, e, h1, h2, h3, h4, h5⟩ := h
  exact op_neD hu pins s σ H x y v u Q I rx ry ⟨d, e, by rw [hK]; exact h1, by rw [hK]; exact h2, h3, h4, h5⟩
theorem de_eqnil (hr : Room k X.A) (ha : DL X g W a fl) (hK : X.K = g.K := by rfl) : DE X g W (.Compare a [.Eq] [.List [] p] pos) (e1 (eqNilT false) fl) := pe_imp (pe_cmpR (op_eqD' hr.units hK) ha (pe_lst pa_nil) (nomark _)) fun σ H Q h => eqnil_read false h
theorem de_nenil (hr : Room k X.A) (ha : DL X g W a fl) (hK : X.K = g.K := by rfl) : DE X g W (.Compare a [.NotEq] [.List [] p] pos) (e1 (eqNilT true) fl) := pe_imp (pe_cmpR (op_neD' hr.units hK) ha (pe_lst pa_nil) (nomark _)) fun σ H Q h => eqnil_read true h
theorem dt_eqnil (hr : Room k X.A) (ha : DL X g W a fl) (hK : X.K = g.K := by rfl) : DT X g W (.Compare a [.Eq] [.List [] p] pos) (e1 boolT (e1 (eqNilT false) fl)) := pt_imp (pt_cmpR (op_eqD' hr.units hK) ha (pe_lst pa_nil) (nomark _)) fun σ H Q h => eqnil_read false (test_read h)
theorem dt_nenil (hr : Room k X.A) (ha : DL X g W a fl) (hK : X.K = g.K := by rfl) : DT X g W (.Compare a [.NotEq] [.List [] p] pos) (e1 boolT (e1 (eqNilT true) fl)) := pt_imp (pt_cmpR (op_neD' hr.units hK) ha (pe_lst pa_nil) (nomark _)) fun σ H Q h => eqnil_read true (test_read h)
/-! ### all, any of a list of bools -/
def blsT : List T → Option (List Bool)
  | [] => some []
  | .bl c :: ts => (blsT ts).map (c :: ·)
  | _ => none
theorem bls_rep {K : KF} {F : Hp} : ∀ {ts : List T} {vs : List V} {bs : List Bool}, Reps K F vs ts → blsT ts = some bs → vs = bs.map V.bl
  | [], _, _, .nil, h => by cases h; rfl
  | t :: ts, _, _, .cons r1 r2, h => by
    cases t with
    | bl c =>
      cases r1
      have h : (blsT ts).map (c :: ·) = some _ := h
      cases e : blsT ts with
      | none => rw [e] at h; cases h
      | some cs => rw [e] at h; cases h; rw [bls_rep r2 e]; rfl
    | _ => cases h
def allT (p : Bool × List T) : M T := match blsT p.2 with
  | some bs => if p.1 = true then .ret (.bl (bs.all id)) else .stuck
  | none => .stuck
def anyT (p : Bool × List T) : M T := match blsT p.2 with
  | some bs => if p.1 = true then .ret (.bl (bs.any id)) else .stuck
  | none => .stuck
theorem de_all (hc : X.calm = true) (hm : X.mg "all" = none) (ha : DL X g W e fl) (hg : Gl X "all" := by rfl) (he : starEach (e :: []) X.env = (false, eval e X.env) :: starEach [] X.env := by rfl) (hpl : (backTo pos (starEach [] X.env)).any (·.1) = false := by rfl) : DE X g W (.Call (.Name "all" p) [e] [] pos) (e1 allT fl) :=
  pe_imp (pe_callB (cr_all hc) hg hm (by decide +kernel) (pa_cons ha pa_nil he) (by decide) (by decide) he hpl) fun σ H Q ⟨ρ, F, b, s, q⟩ => ⟨ρ, F, b, s, M.wp_mono (M.wp_bind.mp q) (fun b1 pp q1 d H1 F1 s1 h1 => by
    unfold allT at q1
    cases e2 : blsT pp.2 with
    | none => rw [e2] at q1; exact q1.elim
    | some bs =>
      rw [e2] at q1
      obtain ⟨ok, q3⟩ := if_of q1
      obtain ⟨vs, z1, r⟩ := h1 F1 H1 b1 (Step.refl s1.sr)
      rw [if_pos ok, bls_rep r e2] at z1
      exact ⟨d, bs, rfl, SqL.of z1, q3 _ H1 F1 s1 (.bl _)⟩) fun _ _ _ z => z⟩
theorem de_any (hc : X.calm = true) (hm : X.mg "any" = none) (ha : DL X g W e fl) (hg : Gl X "any" := by rfl) (he : starEach (e :: []) X.env = (false, eval e X.env) :: starEach [] X.env := by rfl) (hpl : (backTo pos (starEach [] X.env)).any (·.1) = false := by rfl) : DE X g W (.Call (.Name "any" p) [e] [] pos) (e1 anyT fl) :=
  pe_imp (pe_callB (cr_any hc) hg hm (by decide +kernel) (pa_cons ha pa_nil he) (by decide) (by decide) he hpl) fun σ H Q ⟨ρ, F, b, s, q⟩ => ⟨ρ, F, b, s, M.wp_mono (M.wp_bind.mp q) (fun b1 pp q1 d H1 F1 s1 h1 => by
    unfold anyT at q1
    cases e2 : blsT pp.2 with
    | none => rw [e2] at q1; exact q1.elim
    | some bs =>
      rw [e2] at q1
      obtain ⟨ok, q3⟩ := if_of q1
      obtain ⟨vs, z1, r⟩ := h1 F1 H1 b1 (Step.refl s1.sr)
      rw [if_pos ok, bls_rep r e2] at z1
      exact ⟨d, bs, rfl, SqL.of z1, q3 _ H1 F1 s1 (.bl _)⟩) fun _ _ _ z => z⟩
/-! ### never reached -/
def seqN (ts : List T) : M (Bool × List T) := .ret (true, ts)
theorem de_never : DE X g W e (fun _ => .stuck) := ⟨fun pins s σ H Q I ⟨ρ, F, b, s', q⟩ => q.elim⟩
end
end DP
end
section
set_option Elab.async false
set_option linter.all false
set_option maxRecDepth 100000
namespace DP
open PySem PySem.Spec PyProof.Rows L2

/-! ### a def that is never called so -/
theorem fn_never {P : Program} {w : World} {K : KF} {mg : Str → Option Value} {base : Heap} {CX : CXT} {k np : Nat} {f : Addr} {fd : FuncData} {ps : List Str} {Xc : Str → Addr × Str} {st : Bool} {m : List T → M T} (h : ∀ ts, m ts = .stuck) : FnOk P w K mg base CX k f fd ps (spD K Xc st np m) := by
  have no : ∀ vs H Q E, ¬ spD K Xc st np m vs H Q E := by
    rintro vs H Q E ⟨S, F, b, vs', ts, _, _, _, _, z⟩
    rw [h] at z
    exact z
  exact ⟨fun vs H Q E z => (no _ _ _ _ z).elim, fun A outer s H args us vs Q E _ _ _ _ z => (no _ _ _ _ z).elim⟩
/-- a def that calls itself, by the depth -/
def recM (st : Bool) (np : Nat) (G : (List T → M T) → Env' → M Fl) : Nat → List T → M T
  | 0 => fun _ => .stuck
  | n + 1 => fnM st np (G (recM st np G n))

/-! ### enumerate, zip -/
def enumL (ts : List T) : List T := ts.mapIdx fun i t => .tup [.int (i : Nat), t]
def enumA : List T → M (List T)
  | [.lst ts] => .ret (enumL ts)
  | _ => .stuck
def zipL (xs ys : List T) : List T := List.zipWith (fun x y => .tup [x, y]) xs ys
def zipA : List T → M (List T)
  | [.lst xs, .lst ys] => .ret (zipL xs ys)
  | [.tup xs, .tup ys] => .ret (zipL xs ys)
  | _ => .stuck
section
variable {X : Cx} {g : Cn} {W : WX} {k : Nat} {pos p tpos : Pos} {a c tg : Expr} {elts : List Expr} {kk : Nat} {fs : Env' → M (List T)}
theorem wk_enum {b : Addr} {F : Hp} {vs : List V} {ts : List T} (hK : X.K = g.K) (h : F b = some (.lst vs)) (r : Reps g.K F vs ts) : Wk g (Ite X.K b) F (enumL ts) where
  go := fun i F2 H e1 e2 hi => by
    have hi : i < ts.length := by simpa [enumL] using hi
    exact ⟨vs, vs[i]'(by rw [r.length]; exact hi), SqL.of (e2 _ _ (e1 _ _ h)), by simp [r.length, hi]⟩
  stop := fun F2 H e1 e2 => ⟨vs, SqL.of (e2 _ _ (e1 _ _ h)), by rw [r.length]; simp [enumL]⟩
  yld := fun i F2 H x H' t e1 e2 ht y => .inr (by
    obtain ⟨q, z, rfl, hq, rfl, hz⟩ := y
    have hv := hz vs (SqL.of (e2 _ _ (e1 _ _ h)))
    obtain ⟨u, hu, ru⟩ := r.get hv
    have et : (enumL ts)[i]? = some (.tup [.int (i : Nat), u]) := by unfold enumL; rw [List.getElem?_mapIdx, hu]; rfl
    rw [et] at ht
    cases ht
    exact ⟨q, _, _, hq, rfl, rfl, rfl, .cons (.int _) (.one (ru.ext e1))⟩)
theorem di_enum (hm : X.mg "enumerate" = none) (ha : DA X g W [a] fs) (hg : Gl X "enumerate" := by rfl) (hs : starEach [a] X.env = [(false, eval a X.env)] := by rfl) (hK : X.K = g.K := by rfl) : DI X g W (.Tuple elts kk tpos) (.Call (.Name "enumerate" p) [a] [] pos) (e1 enumA fs) :=
  pi_imp (pi_enum hg hm ha hs) fun σ H R ⟨ρ, F, b, s, q⟩ => ⟨ρ, F, b, s, M.wp_mono (M.wp_bind.mp q) (fun b1 ts q1 vs H1 F1 s1 r => by
    rcases r with _ | ⟨r1, _ | ⟨r2, r3⟩⟩
    · exact q1.elim
    · cases r1 with
      | lst h1 h2 => exact ⟨_, _, rfl, SqL.of (s1.sr.sub _ _ h1), q1 _ F1 H1 s1 (wk_enum hK h1 h2)⟩
      | _ => exact q1.elim
    · cases r1 <;> exact q1.elim) fun _ _ _ z => z⟩
theorem zip_get : ∀ {xs ys : List T} {i : Nat} {t : T}, (zipL xs ys)[i]? = some t → ∃ x y, xs[i]? = some x ∧ ys[i]? = some y ∧ t = .tup [x, y] := fun {xs ys i t} h => by
  unfold zipL at h
  rw [List.getElem?_zipWith] at h
  cases e1 : xs[i]? with
  | none => rw [e1] at h; cases h
  | some x =>
    cases e2 : ys[i]? with
    | none => rw [e1, e2] at h; cases h
    | some y => rw [e1, e2] at h; cases h; exact ⟨x, y, rfl, rfl, rfl⟩
theorem zip_len {xs ys : List T} : (zipL xs ys).length = min xs.length ys.length := by simp [zipL]
theorem wk_zip {b d : Addr} {F : Hp} {vs us : List V} {xs ys : List T} (hK : X.K = g.K) (h : F b = some (.lst vs)) (h' : F d = some (.lst us)) (r : Reps g.K F vs xs) (r' : Reps g.K F us ys) : Wk g (Itz X.K b d) F (zipL xs ys) where
  go := fun i F2 H e1 e2 hi => by
    rw [zip_len] at hi
    exact ⟨vs, us, vs[i]'(by rw [r.length]; omega), us[i]'(by rw [r'.length]; omega), SqL.of (e2 _ _ (e1 _ _ h)), SqL.of (e2 _ _ (e1 _ _ h')), by rw [List.getElem?_eq_getElem], by rw [List.getElem?_eq_getElem]⟩
  stop := fun F2 H e1 e2 => ⟨vs, us, SqL.of (e2 _ _ (e1 _ _ h)), SqL.of (e2 _ _ (e1 _ _ h')), by rw [zip_len, r.length, r'.length]; omega⟩
  yld := fun i F2 H x H' t e1 e2 ht y => .inr (by
    obtain ⟨q, z, z', rfl, hq, rfl, hz, hz'⟩ := y
    have hv := hz vs (SqL.of (e2 _ _ (e1 _ _ h)))
    have hv' := hz' us (SqL.of (e2 _ _ (e1 _ _ h')))
    obtain ⟨u, hu, ru⟩ := r.get hv
    obtain ⟨u', hu', ru'⟩ := r'.get hv'
    obtain ⟨x, y, e3, e4, rfl⟩ := zip_get ht
    rw [hu] at e3
    rw [hu'] at e4
    cases e3
    cases e4
    exact ⟨q, _, _, hq, rfl, rfl, rfl, .cons (ru.ext e1) (.one (ru'.ext e1))⟩)
theorem wk_zipT {b d : Addr} {F : Hp} {vs us : List V} {xs ys : List T} (hK : X.K = g.K) (h : SqT g.K F b vs) (h' : SqT g.K F d us) (r : Reps g.K F vs xs) (r' : Reps g.K F us ys) : Wk g (RZ.ItzT X.K b d) F (zipL xs ys) where
  go := fun i F2 H e1 e2 hi => by
    rw [zip_len] at hi
    exact ⟨vs, us, vs[i]'(by rw [r.length]; omega), us[i]'(by rw [r'.length]; omega), by rw [hK]; exact sqT_ext (e1.trans e2) h, by rw [hK]; exact sqT_ext (e1.trans e2) h', by rw [List.getElem?_eq_getElem], by rw [List.getElem?_eq_getElem]⟩
  stop := fun F2 H e1 e2 => ⟨vs, us, by rw [hK]; exact sqT_ext (e1.trans e2) h, by rw [hK]; exact sqT_ext (e1.trans e2) h', by rw [zip_len, r.length, r'.length]; omega⟩
  yld := fun i F2 H x H' t e1 e2 ht y => .inr (by
    obtain ⟨q, z, z', rfl, hq, rfl, hz, hz'⟩ := y
    have hv := hz vs (by rw [hK]; exact sqT_ext (e1.trans e2) h)
    have hv' := hz' us (by rw [hK]; exact sqT_ext (e1.trans e2) h')
    obtain ⟨u, hu, ru⟩ := r.get hv
    obtain ⟨u', hu', ru'⟩ := r'.get hv'
    obtain ⟨x, y, e3, e4, rfl⟩ := zip_get ht
    rw [hu] at e3
    rw [hu'] at e4
    cases e3
    cases e4
    exact ⟨q, _, _, hq, rfl, rfl, rfl, .cons (ru.ext e1) (.one (ru'.ext e1))⟩)
theorem di_zip (hm : X.mg "zip" = none) (ha : DA X g W [a, c] fs) (hg : Gl X "zip" := by rfl) (hs : starEach [a, c] X.env = (false, eval a X.env) :: starEach [c] X.env := by rfl) (hpl : (backTo pos (starEach [c] X.env)).any (·.1) = false := by rfl) (hK : X.K = g.K := by rfl) : DI X g W (.Tuple elts kk tpos) (.Call (.Name "zip" p) [a, c] [] pos) (e1 zipA fs) :=
  pi_imp (RZ.pi_zipA hg hm ha hs hpl) fun σ H R ⟨ρ, F, b, s, q⟩ => ⟨ρ, F, b, s, M.wp_mono (M.wp_bind.mp q) (fun b1 ts q1 vs H1 F1 s1 r => by
    rcases r with _ | ⟨r1, _ | ⟨r2, _ | ⟨r3, r4⟩⟩⟩
    · exact q1.elim
    · cases r1 <;> exact q1.elim
    · cases r1 with
      | lst h1 h2 =>
        cases r2 with
        | lst h3 h4 => exact ⟨_, _, _, _, rfl, .inl ⟨SqL.of (s1.sr.sub _ _ h1), SqL.of (s1.sr.sub _ _ h3), q1 _ F1 H1 s1 (wk_zip hK h1 h3 h2 h4)⟩⟩
        | _ => exact q1.elim
      | tup h1 h2 =>
        cases r2 with
        | tup h3 h4 => exact ⟨_, _, _, _, rfl, .inr ⟨by rw [hK]; exact sqT_ext s1.sr.sub h1, by rw [hK]; exact sqT_ext s1.sr.sub h3, q1 _ F1 H1 s1 (wk_zipT hK h1 h3 h2 h4)⟩⟩
        | _ => exact q1.elim
      | _ => exact q1.elim
    · cases r1 with
      | lst _ _ => cases r2 <;> exact q1.elim
      | tup _ _ => cases r2 <;> exact q1.elim
      | _ => exact q1.elim) fun _ _ _ z => z⟩
end
end DP
end
section
set_option Elab.async false
set_option linter.all false
set_option maxRecDepth 100000
namespace DP
open PySem PySem.Spec PyProof.Rows L2

/-! ### raise X(e), X an error that keeps its one thing -/
/-- __init__ of such an error -/
def spExc (C : Addr) (f : Str) : Sp := fun vs H Q _ => ∃ a v, vs = [.ref a, v] ∧ H a = some (exo a C none) ∧ ∀ dx, H dx = none → dx ≠ a → Q .non (upd (upd H dx (exd dx [(f, v)])) a (exo a C (some dx)))
theorem exc_len {C : Addr} {f : Str} {vs : List V} {H : Hp} {Q : VK} {E : XK} {ps : List Str} (hp : ps.length = 2) (h : spExc C f vs H Q E) : vs.length = ps.length := by
  obtain ⟨a, v, rfl, _⟩ := h
  rw [hp]
  rfl
theorem exc_read {K : KF} {C : Addr} {f x : Str} {vs : List V} {H : Hp} {Q : VK} {E : XK} (T : OexC K C) (hno : PySem.W.findIn K (.ref C) f = some none) (h : spExc C f vs H Q E) : tOst K f (tVar 0) (tVar 1) { nx := fun _ H' => Q .non H', rt := Q } (start ["self", x] vs) H := by
  obtain ⟨a, v, rfl, h1, h2⟩ := h
  exact ⟨_, rfl, _, rfl, a, C, rfl, T, hno, .inl ⟨h1, h2⟩⟩
/-- what the written part says of such an error's class -/
structure ExcD (K : KF) (mg : Str → Option Value) (x f : Str) (C fI : Addr) : Prop where
  cls : OexC K C
  ini : PySem.W.findIn K (.ref C) "__init__" = some (some (.ref fI))
  ty : PySem.W.typeIn K (.ref fI) = some (.type "function")
  no : PySem.W.findIn K (.ref C) f = some none
  at_ : mg x = some (.ref C)
def sRaise (x : Str) (f : Env' → M T) : Env' → M Fl := fun ρ => (f ρ).bind fun t => .exc x t
theorem del_upds {H : Hp} {a dx : Addr} {o1 o2 o3 u : HO} (ha : H a = none) : upd (del (upd (upd (upd H a o1) dx o2) a o3) a) dx u = upd H dx u := by
  funext c
  by_cases h1 : c = dx
  · subst h1; rw [upd_same, upd_same]
  · rw [upd_ne h1, upd_ne h1]
    by_cases h2 : c = a
    · subst h2; rw [del_same, ha]
    · rw [del_ne h2, upd_ne h2, upd_ne h1, upd_ne h2]
section
variable {X : Cx} {g : Cn} {W : WX} {k : Nat} {pos pos2 p : Pos} {e : Expr} {f : Env' → M T} {x fl : Str} {C fI : Addr} {fd : FuncData} {ps : List Str}
theorem ds_raise (hc : X.calm = true) (tk : Takes X W) (D : ExcD X.K X.mg x fl C fI) (F : FnOk X.prog X.w X.K X.mg X.base (L2.CX X.prog X.w) k fI fd ps (spExc C fl)) (hr : Room (k + 1) X.A) (hb : Binds X.K fd ps []) (hX : g.X x = (C, fl)) (ha : DE X g W e f)
    (hg : Gl X x := by rfl) (hdb : (x == ("__debug__" : Str)) = false := by decide) (he : starEach (e :: []) X.env = (false, eval e X.env) :: starEach [] X.env := by rfl) (hpl : (backTo pos (starEach [] X.env)).any (·.1) = false := by rfl) :
    DS X g W (.Raise (some (.Call (.Name x p) [e] [] pos)) none pos2) (sRaise x f) :=
  ps_imp (ps_raise hc tk (pmk_oex D.cls D.ini D.ty F hr hb .nil passL hg D.at_ (pa_cons ha pa_nil he) hdb he hpl)) fun Ds σ H ⟨ρ, F0, b, s, q⟩ => ⟨ρ, F0, b, s, M.wp_mono (M.wp_bind.mp q) (fun b1 t q1 v H1 F1 s1 r => ⟨(by decide : 1 ≤ 1000), fun a hn => ⟨a, v, rfl, upd_same, fun dx hdx hne => ⟨rfl, dx, _, upd_same, by rw [upd_ne hne]; exact upd_same, by rw [upd_ne hne] at hdx; exact hdx, by
    rw [upd_ne hne] at hdx
    rw [del_upds hn]
    have q1 : EXs g W F0 b1 x t := q1
    have z := q1 dx v σ ρ (upd H1 dx (.xd [(fl, v)])) F1 s1.ext (s1.sr.growU _ hdx)
    rw [hX] at z
    exact z upd_same r⟩⟩⟩) fun _ _ _ z => z.ex⟩
end
end DP
end
section
set_option Elab.async false
set_option linter.all false
set_option maxRecDepth 100000
namespace DP
open PySem PySem.Spec PyProof.Rows L2

/-! ### an instance's fields -/
def putT (f : Str) (t : T) : List (Str × T) → List (Str × T)
  | [] => [(f, t)]
  | (g, x) :: r => if g = f then (g, t) :: r else (g, x) :: putT f t r
theorem RepF.put {K : KF} {F : Hp} {f : Str} {v : V} {t : T} (rv : Rep K F v t) : ∀ {vs : List (Str × V)} {ts : List (Str × T)}, RepF K F vs ts → RepF K F (putF f v vs) (putT f t ts)
  | _, _, .nil => .cons rv .nil
  | _, _, .cons (k := k) h r => by
    unfold putF putT
    by_cases e : k = f
    · rw [if_pos e, if_pos e]; exact .cons rv r
    · rw [if_neg e, if_neg e]; exact .cons h (RepF.put rv r)
theorem RepF.length {K : KF} {F : Hp} : ∀ {vs : List (Str × V)} {ts : List (Str × T)}, RepF K F vs ts → vs.length = ts.length
  | _, _, .nil => rfl
  | _, _, .cons _ r => by simp [RepF.length r]
theorem RepF.look {K : KF} {F : Hp} {f : Str} : ∀ {vs : List (Str × V)} {ts : List (Str × T)}, RepF K F vs ts → match ts.lookup f with | some t => ∃ v, vs.lookup f = some v ∧ Rep K F v t | none => vs.lookup f = none
  | _, _, .nil => rfl
  | _, _, .cons (k := k) (v := v) (t := t) h r => by
    by_cases e : f = k
    · subst e
      simp only [List.lookup, beq_self_eq_true]
      exact ⟨v, rfl, h⟩
    · have e' : (f == k) = false := beq_eq_false_iff_ne.mpr e
      simp only [List.lookup, e']
      exact RepF.look r
def attrT (C : Addr) (f : Str) : T → M T
  | .obj D fs => if D = C then (match fs.lookup f with
    | some t => .ret t
    | none => .stuck) else .stuck
  | _ => .stuck
/-- programs that raise nothing -/
def M.calm {α : Type} : M α → M α
  | .ret a => .ret a
  | .draw n k => .draw n fun d => (k d).calm
  | .exc _ _ => .stuck
  | .stuck => .stuck
theorem M.wp_calm {α : Type} : ∀ {m : M α} {b : Nat} {Q : Nat → α → Prop} {E : Nat → Str → T → Prop}, m.calm.wp b Q E → m.wp b Q fun _ _ _ => False
  | .ret _, _, _, _, h => h
  | .draw _ k, _, _, _, h => ⟨h.1, h.2.1, fun d h1 h2 => M.wp_calm (m := k d) (h.2.2 d h1 h2)⟩
  | .exc _ _, _, _, _, h => h.elim
  | .stuck, _, _, _, h => h.elim

section
variable {X : Cx} {g : Cn} {W : WX} {k np : Nat} {pos p p' : Pos} {e o : Expr} {es : List Expr} {fe : Env' → M T} {fs : Env' → M (List T)} {f x : Str} {C fa : Addr} {fd : FuncData} {ps : List Str} {m : List T → M T}
theorem de_attr (c : Cls X.K C) (n : NoAttr X.K C f) (he : DE X g W e fe) (hb : attributeBase e f X.env (eval e X.env) = eval e X.env := by rfl) : DE X g W (.Attribute e f pos) (e1 (attrT C f) fe) :=
  pe_imp (pe_fld he hb) fun σ H Q ⟨ρ, F, b, s, q⟩ => ⟨ρ, F, b, s, M.wp_mono (M.wp_bind.mp q) (fun b1 t q1 v H1 F1 s1 r1 => by
    cases t with
    | obj D us =>
      cases r1 with
      | @obj a dx _ vs _ h1 h2 =>
        have q1 : (if D = C then (match us.lookup f with | some t => M.ret t | none => .stuck) else .stuck).wp b1 _ _ := q1
        by_cases z : D = C
        · subst z
          rw [if_pos rfl] at q1
          have y := RepF.look (f := f) h2
          cases e1 : us.lookup f with
          | none => rw [e1] at q1; exact q1.elim
          | some t =>
            rw [e1] at q1 y
            obtain ⟨v, hv, rv⟩ := y
            exact ⟨a, D, dx, vs, v, rfl, s1.sr.sub _ _ h1, c, n, hv, q1 v H1 F1 s1 rv⟩
        · rw [if_neg z] at q1
          exact q1.elim
    | _ => exact q1.elim) fun _ _ _ z => z⟩
/-- obj.m() -/
def methT (C : Addr) (mn : Str) (m : List T → M T) (ts : List T) : T → M T
  | .obj D fs => if D = C then (if (fs.lookup mn).isNone = true then (m (.obj D fs :: ts)).calm else .stuck) else .stuck
  | _ => .stuck
theorem de_meth0 {mn : Str} (c : Cls X.K C) (hm : Meth X.K C mn fa) (F : FnOk X.prog X.w X.K X.mg X.base (L2.CX X.prog X.w) k fa fd ps (spD g.K g.X false 1 m)) (hr : Room k X.A) (hb : Binds X.K fd ps []) (he : DE X g W o fe) {pl : Sem Bool} {apos : Pos}
    (ht : eval (.Call (.Attribute o mn apos) [] [] pos) X.env = (do
      let ov ← eval o X.env
      standAt apos.atName
      let (f, first) ← holding [ov] (getMethod ov mn pl)
      callWith pos f first (backTo pos (starEach [] X.env)) (backToKw pos (keywordEach [] X.env))) := by rfl) : DE X g W (.Call (.Attribute o mn apos) [] [] pos) (e1 (methT C mn m []) fe) :=
  pe_imp (pe_meth0 (pl := pl) he c hm F hr hb .nil passL ht) fun σ H Q ⟨ρ, F, b, s, q⟩ => ⟨ρ, F, b, s, M.wp_mono (M.wp_bind.mp q) (fun b1 t q1 v H1 F1 s1 r1 => by
    cases t with
    | obj D us =>
      have r1' := r1
      cases r1 with
      | @obj a dx _ vs _ h1 h2 =>
        have q1 : (if D = C then (if (us.lookup mn).isNone = true then (m [.obj D us]).calm else .stuck) else .stuck).wp b1 _ _ := q1
        by_cases z : D = C
        · subst z
          rw [if_pos rfl] at q1
          obtain ⟨ok, q2⟩ := if_of q1
          have y := RepF.look (f := mn) h2
          have e1 : us.lookup mn = none := Option.isNone_iff_eq_none.mp ok
          rw [e1] at y
          exact ⟨a, dx, vs, rfl, s1.sr.sub _ _ h1, y, none, F1, b1, [.ref a], [.obj D us], rfl, by rw [if_neg Bool.false_ne_true]; exact ⟨rfl, rfl⟩, s1.sr.sub, .one r1', M.wp_mono (M.wp_le (M.wp_calm q2)) (fun b' t z v H' F' aa rr => z.2 v H' F' (s1.trans (Step.of_after s1.sr aa (.inr ⟨rfl, z.1⟩))) rr) fun _ _ _ z => z.2.elim⟩
        · rw [if_neg z] at q1
          exact q1.elim
    | _ => exact q1.elim) fun _ _ _ z => z⟩

/-! ### __init__: what is checked ahead, then the fields -/
theorem SR.poke {F H : Hp} {σ : Sg} {ρ : Env'} {b : Nat} (s : SR g F H σ ρ b) {a : Addr} (u : HO) (h1 : F a = none) (h2 : g.H0 a = none) (h3 : ¬ g.inS a) (h4 : ¬ OwnAt σ ρ a) : SR g F (upd H a u) σ ρ b where
  sub := fun c w z => by rw [upd_ne (fun y => by rw [y, h1] at z; cases z)]; exact s.sub c w z
  f0 := s.f0
  keep := fun c w z n => by rw [upd_ne (fun y => by rw [y, h2] at z; cases z)]; exact s.keep c w z n
  new := s.new
  slots := Paired.imp2 s.slots fun i v y e1 e2 r => by
    cases r with
    | any v => exact .any v
    | val r => exact .val r
    | own z1 z2 z3 z4 z5 => exact .own (by rw [upd_ne (fun y => h4 ⟨i, _, e2, rfl, by rw [e1, y]⟩)]; exact z1) z2 z3 z4 z5
    | ownD z1 z2 z3 z4 z5 => exact .ownD (by rw [upd_ne (fun y => h4 ⟨i, _, e2, rfl, by rw [e1, y]⟩)]; exact z1) z2 z3 z4 z5
    | ownS z1 z2 z3 z4 z5 => exact .ownS (by rw [upd_ne (fun y => h4 ⟨i, _, e2, rfl, by rw [e1, y]⟩)]; exact z1) z2 z3 z4 z5
    | strm h => exact .strm h
    | pin h => exact .pin h
  dis := s.dis
  strm := fun p l e => by
    obtain ⟨y1, y2, y3, ns, c, n, mm, q1, q2, q3⟩ := s.strm p l e
    have np : p ≠ a := fun y => h3 (.inl ⟨p, l, e, .inl y.symm⟩)
    have nl : l ≠ a := fun y => h3 (.inl ⟨p, l, e, .inr y.symm⟩)
    exact ⟨y1, y2, y3, ns, c, n, mm, by rw [upd_ne np]; exact q1, by rw [upd_ne nl]; exact q2, q3⟩
  tabs := s.tabK (Same.refl _) fun p q m => ⟨fun o e => by rw [upd_ne (Cn.tabNe h3 m)]; exact e, (s.tabs p q m).1⟩
/-- what stays while the fields of the object at a are stored -/
structure StepA (g : Cn) (σ : Sg) (ρ : Env') (a : Addr) (F H F' H' : Hp) (b : Nat) : Prop where
  ext : Ext F F'
  sr : SR g F' H' σ ρ b
  kp : ∀ c o, H c = some o → ¬ g.inS c → ¬ OwnAt σ ρ c → c ≠ a → H' c = some o
  new : ∀ c o, H c = some o → F c = none → F' c = none
def tDF (g : Cn) (W : WX) (C : Addr) (Gf : List (Str × T) → Env' → M (List (Str × T))) : TS := fun D σ H => ∃ ρ F b a dx vs us, SR g F H σ ρ b ∧ g.me = some a ∧ ρ[0]? = some .pin ∧ H a = some (.ins C dx vs) ∧ F a = none ∧ g.H0 a = none ∧ ¬ g.inS a ∧ RepF g.K F vs us ∧
  (Gf us ρ).wp b (fun b' us' => ∀ F' H' vs', StepA g σ ρ a F H F' H' b' → H' a = some (.ins C dx vs') → F' a = none → RepF g.K F' vs' us' → D.nx σ H') (fun _ _ _ => False)
def fNil : List (Str × T) → Env' → M (List (Str × T)) := fun us _ => .ret us
def fCons (f : Str) (fe : Env' → M T) (G : List (Str × T) → Env' → M (List (Str × T))) : List (Str × T) → Env' → M (List (Str × T)) := fun us ρ => (fe ρ).bind fun t => if decide (us.length < 1000) = true then G (putT f t us) ρ else .stuck
theorem df_nil : PSs X [] (tDF g W C fNil) := pss_imp pss_nil fun D σ H ⟨ρ, F, b, a, dx, vs, us, s, hme, h0, ha, hF, hH, hS, r, q⟩ => q F H vs ⟨Same.refl _, s, fun _ _ z _ _ _ => z, fun _ _ _ z => z⟩ ha hF r
theorem pin_not {F H : Hp} {σ : Sg} {ρ : Env'} {b : Nat} {a : Addr} (s : SR g F H σ ρ b) {u : HO} (hu : H a = some u) (nl : ∀ ts, u ≠ .lst ts) (nd : ∀ ts, u ≠ .dK ts) (ns : ∀ L, u ≠ g.so a L) : ¬ OwnAt σ ρ a := fun ⟨i, y, e1, e2, e3⟩ => by
  obtain ⟨v, hv, r⟩ := Paired.get1 s.slots e1
  rw [e3] at hv
  cases hv
  cases r with
  | own z1 _ _ _ _ => rw [hu] at z1; exact nl _ (Option.some.inj z1)
  | ownD z1 _ _ _ _ => rw [hu] at z1; exact nd _ (Option.some.inj z1)
  | ownS z1 _ _ _ _ => rw [hu] at z1; exact ns _ (Option.some.inj z1)
  | _ => cases e2
theorem df_cons {rest : List Stmt} {G : List (Str × T) → Env' → M (List (Str × T))} (c : Cls X.K C) (n : NoAttr X.K C f) (he : DE X g W e fe) (h0 : PE X o (tVar 0)) (ht : PSs X rest (tDF g W C G))
    (hs : swapsWith e (some (.Attribute o f p')) pos.line X.env = pure false := by rfl) (hso : g.so = SetTO X.prog X.w := by rfl) : PSs X (.Assign [.Attribute o f p'] e pos :: rest) (tDF g W C (fCons f fe G)) :=
  pss_imp (pss_cons (ps_fld h0 he hs) ht) fun D σ H ⟨ρ, F, b, a, dx, vs, us, s, hme, h1, ha, hF, hH, hS, r, q⟩ => ⟨ρ, F, b, s, M.wp_mono (M.wp_bind.mp q) (fun b1 t q1 v H1 F1 s1 r1 => by
    obtain ⟨ok, q2⟩ := if_of q1
    have ok := of_decide_eq_true ok
    have nO : ¬ OwnAt σ ρ a := pin_not s ha (fun _ z => nomatch z) (fun _ z => nomatch z) fun L z => by rw [hso] at z; nomatch z
    have ha1 := s1.kp a _ ha hS nO
    have hF1 := s1.new a _ ha hF
    obtain ⟨w, hw, rw'⟩ := Paired.get1 s.slots h1
    cases rw' with
    | @pin a' hm =>
      rw [hme] at hm
      cases hm
      refine ⟨_, hw, a, C, dx, vs, rfl, ha1, c, n, by rw [r.length]; exact ok, ρ, F1, b1, a, dx, _, _, s1.sr.poke _ hF1 hH hS nO, hme, h1, upd_same, hF1, hH, hS, (r.ext s1.ext).put r1, M.wp_mono q2 (fun b2 us' q3 F' H' vs' s2 y1 y2 y3 => q3 F' H' vs' ⟨s1.ext.trans s2.ext, s2.sr, fun d u z n1 n2 n3 => s2.kp d u (by rw [upd_ne n3]; exact s1.kp d u z n1 n2) n1 n2 n3, fun d u z n1 => ?_⟩ y1 y2 y3) fun _ _ _ z => z⟩
      by_cases e : d = a
      · exact s2.new d _ (by rw [e]; exact upd_same) (s1.new d u z n1)
      · by_cases hs : g.inS d ∨ OwnAt σ ρ d
        · obtain ⟨y, hy⟩ := s1.sr.live hs
          exact s2.new d y (by rw [upd_ne e]; exact hy) (s1.new d u z n1)
        · exact s2.new d u (by rw [upd_ne e]; exact s1.kp d u z (fun y => hs (.inl y)) fun y => hs (.inr y)) (s1.new d u z n1)) fun _ _ _ z => z.elim⟩
end
end DP
end
section
set_option Elab.async false
set_option linter.all false
set_option maxRecDepth 100000
namespace DP
open PySem PySem.Spec PyProof.Rows L2

/-- the same, but nothing is told of the object that is being made -/
def Cn.bare (g : Cn) : Cn := { g with H0 := fun c => if g.me = some c then none else g.H0 c }
theorem bare_H0 {g : Cn} {c : Addr} {o : HO} (h : g.bare.H0 c = some o) : g.H0 c = some o ∧ g.me ≠ some c := by
  have h : (if g.me = some c then none else g.H0 c) = some o := h
  by_cases e : g.me = some c
  · rw [if_pos e] at h; cases h
  · rw [if_neg e] at h; exact ⟨h, e⟩
theorem bare_none {g : Cn} {c : Addr} (h : g.H0 c = none) : g.bare.H0 c = none := by
  show (if g.me = some c then none else g.H0 c) = none
  by_cases e : g.me = some c
  · rw [if_pos e]
  · rw [if_neg e]; exact h
theorem SR.bare {g : Cn} {F H : Hp} {σ : Sg} {ρ : Env'} {b : Nat} (s : SR g F H σ ρ b) : SR g.bare F H σ ρ b where
  sub := s.sub
  f0 := s.f0
  keep := fun c o h n => s.keep c o (bare_H0 h).1 n
  new := fun c o h n => s.new c o (bare_H0 h).1 n
  slots := Paired.imp2 s.slots fun i v y _ _ r => by
    cases r with
    | any v => exact .any v
    | val r => exact .val r
    | own z1 z2 z3 z4 z5 => exact .own z1 z2 (bare_none z3) z4 z5
    | ownD z1 z2 z3 z4 z5 => exact .ownD z1 z2 (bare_none z3) z4 z5
    | ownS z1 z2 z3 z4 z5 => exact .ownS z1 z2 (bare_none z3) z4 z5
    | strm h => exact .strm h
    | pin h => exact .pin h
  dis := s.dis
  strm := s.strm
  tabs := s.tabs
/-- a body that makes an object's fields -/
def tDQ (g : Cn) (W : WX) (C : Addr) (G : Env' → M (List (Str × T))) : TS := fun D σ H => ∃ ρ F b a dx, SR g F H σ ρ b ∧ g.me = some a ∧ g.H0 a = some (.ins C dx []) ∧ g.F0 a = none ∧ (g.S = none ∧ g.T = []) ∧
  (G ρ).wp b (fun b' us => ∀ σ' H' F' ws, Ext F F' → Ext F' H' → (∀ c o, g.H0 c = some o → c ≠ a → H' c = some o) → (∀ c o, g.H0 c = some o → g.F0 c = none → F' c = none) → H' a = some (.ins C dx ws) → RepF g.K F' ws us → D.nx σ' H') (EXs g W F)
def qSeq (G1 : Env' → M Fl) (G2 : Env' → M (List (Str × T))) : Env' → M (List (Str × T)) := fun ρ => (G1 ρ).bind fun fl => match fl with
  | .next ρ' => G2 ρ'
  | _ => .stuck
def qFz (i : Nat) (G : Env' → M (List (Str × T))) : Env' → M (List (Str × T)) := fun ρ => G (fz i ρ)
def qTail (Gf : List (Str × T) → Env' → M (List (Str × T))) : Env' → M (List (Str × T)) := fun ρ => match ρ[0]? with
  | some Sl.pin => (Gf [] ρ).calm
  | _ => .stuck
theorem no_inS {g : Cn} (h : g.S = none ∧ g.T = []) (c : Addr) : ¬ g.inS c := fun z => by
  rcases z with ⟨_, _, e, _⟩ | ⟨q, m⟩
  · rw [h.1] at e; cases e
  · rw [h.2] at m; cases m
section
variable {X : Cx} {g : Cn} {W : WX} {k np : Nat} {st : Stmt} {rest : List Stmt} {C : Addr} {G1 : Env' → M Fl} {G2 : Env' → M (List (Str × T))} {Gf : List (Str × T) → Env' → M (List (Str × T))}
theorem dq_cons (h1 : DS X g W st G1) (h2 : PSs X rest (tDQ g W C G2)) : PSs X (st :: rest) (tDQ g W C (qSeq G1 G2)) := pss_imp (pss_cons h1 h2) fun D σ H ⟨ρ, F, b, a, dx, s, y1, y2, y3, y4, q⟩ => ⟨ρ, F, b, s, M.wp_mono (M.wp_bind.mp q) (fun b1 fl q1 => by
  cases fl with
  | next ρ' => exact fun σ' H' F' e s' => ⟨ρ', F', b1, a, dx, s', y1, y2, y3, y4, M.wp_mono q1 (fun _ _ z σ2 H2 F2 ws e2 => z σ2 H2 F2 ws (e.trans e2)) fun _ _ _ z => z.step e⟩
  | ret t => exact q1.elim
  | brk ρ' => exact q1.elim
  | cont ρ' => exact q1.elim) fun _ _ _ z => z⟩
theorem dq_fz (i : Nat) (h : PSs X rest (tDQ g W C G2)) : PSs X rest (tDQ g W C (qFz i G2)) := pss_imp h fun D σ H ⟨ρ, F, b, a, dx, s, y1, y2, y3, y4, q⟩ => by
  obtain ⟨F', e, s'⟩ := s.fz i
  exact ⟨fz i ρ, F', b, a, dx, s', y1, y2, y3, y4, M.wp_mono q (fun _ _ z σ2 H2 F2 ws e2 => z σ2 H2 F2 ws (e.trans e2)) fun _ _ _ z => z.step e⟩
theorem dq_tail (h : PSs X rest (tDF g.bare W C Gf)) : PSs X rest (tDQ g W C (qTail Gf)) := pss_imp h fun D σ H ⟨ρ, F, b, a, dx, s, y1, y2, y3, y4, q⟩ => by
  unfold qTail at q
  cases e : ρ[0]? with
  | none => rw [e] at q; exact q.elim
  | some sl =>
    rw [e] at q
    cases sl with
    | pin =>
      have nS := no_inS y4 a
      have hH : g.bare.H0 a = none := by
        show (if g.me = some a then none else g.H0 a) = none
        rw [if_pos y1]
      refine ⟨ρ, F, b, a, dx, [], [], s.bare, y1, e, s.keep a _ y2 nS, s.new a _ y2 y3, hH, nS, .nil, M.wp_mono (M.wp_calm q) (fun b' us' z F' H' vs' s2 z1 z2 z3 => z σ H' F' vs' s2.ext s2.sr.sub (fun c o hc ne => ?_) (fun c o hc n => ?_) z1 z3) fun _ _ _ z => z⟩
      · refine s2.sr.keep c o ?_ (no_inS y4 c)
        show (if g.me = some c then none else g.H0 c) = some o
        rw [if_neg (fun e => ne (Option.some.inj (e.symm.trans y1)))]
        exact hc
      · by_cases e2 : c = a
        · subst e2; exact z2
        · refine s2.sr.new c o ?_ n
          show (if g.me = some c then none else g.H0 c) = some o
          rw [if_neg (fun e => e2 (Option.some.inj (e.symm.trans y1)))]
          exact hc
    | _ => exact q.elim
end
/-- __init__'s promise -/
def spInit (K : KF) (Xc : Str → Addr × Str) (C : Addr) (np : Nat) (m : List T → M (List (Str × T))) : Sp := fun vs H Q E => ∃ F a dx vs' ts, vs = .ref a :: vs' ∧ vs'.length = np ∧ H a = some (.ins C dx []) ∧ F a = none ∧ Ext F H ∧ Reps K F vs' ts ∧
  (m ts).wp 0 (fun _ us => ∀ ws H' F', Ext F F' → Ext F' H' → (∀ c o, H c = some o → c ≠ a → H' c = some o) → (∀ c o, H c = some o → F c = none → F' c = none) → H' a = some (.ins C dx ws) → RepF K F' ws us → Q .non H')
    (fun _ c t => ∀ d v H' F', Ext F F' → Ext F' H' → (∀ c o, H c = some o → H' c = some o) → (∀ c o, H c = some o → F c = none → F' c = none) → H' d = some (.xd [((Xc c).2, v)]) → Rep K F' v t → E (.ref (Xc c).1) (some d) H')
def startI (n : Nat) (ts : List T) : Env' := (Sl.pin :: ts.map Sl.val) ++ List.replicate (n - (ts.length + 1)) Sl.any
def initM (n : Nat) (G : Env' → M (List (Str × T))) : List T → M (List (Str × T)) := fun ts => G (startI n ts)
theorem startI_noOwn (n : Nat) (ts : List T) (x : Sl) (h : x ∈ startI n ts) : x.isOwn = false := by
  unfold startI at h
  rw [List.mem_append, List.mem_cons] at h
  rcases h with (rfl | h) | h
  · rfl
  · obtain ⟨t, _, rfl⟩ := List.mem_map.mp h; rfl
  · obtain ⟨_, rfl⟩ := List.mem_replicate.mp h; rfl
section
variable {P : Program} {w : World} {K : KF} {mg : Str → Option Value} {base : Heap} {Xc : Str → Addr × Str} {np : Nat} {x qual : Str} {sd : Stmt} {fa C : Addr} {fd : FuncData} {N ps : List Str} {k : Nat} {G : Env' → M (List (Str × T))}
theorem init_deep (F : Fun K x qual sd fa fd) (S : FnScope N ps (defScope sd)) (hps : ps.length = np + 1)
    (body : ∀ (cdv : Value) (A : Around) (outer : List Env) (s : Shared) (H : Hp) (E : XK) (F0 : Hp) (a : Addr), Room k (A.deeper (envOfC qual (defScope sd) s.heap.objs.size fa cdv)) →
      PSs (cxOf (L2.CX P w) P w K mg base N qual (defScope sd) fa cdv A outer s H E) (defBody sd) (tDQ ⟨K, H, F0, none, Xc, some a, SetTO P w, []⟩ (fun cls d _ H => E cls d H) C G)) : FnOk P w K mg base (L2.CX P w) (k + 1) fa fd ps (spInit K Xc C np (initM N.length G)) := by
  have len : ∀ vs H Q E, spInit K Xc C np (initM N.length G) vs H Q E → vs.length = ps.length := by
    rintro vs H Q E ⟨F, a, dx, vs', ts, rfl, h2, _⟩
    rw [List.length_cons, h2, hps]
  refine F.okX S len fun cdv A outer s H vs Q E hr h => ?_
  have hlen := len _ _ _ _ h
  obtain ⟨F', a, dx, vs', ts, rfl, h2, h3, h4, h5, h6, h7⟩ := h
  refine ⟨_, body cdv A outer s H E F' a hr, startI N.length ts, F', 0, a, dx, ?_, rfl, h3, h4, ⟨rfl, rfl⟩, M.wp_mono h7 (fun b' us z σ' H2 F2 ws e1 e2 e3 e4 e5 e6 => z ws H2 F2 e1 e2 e3 e4 e5 e6) fun b' c t z d v σ ρ H2 F2 e s2 hd r => z d v H2 F2 s2.f0 s2.sub (fun c o hc => s2.keep c o hc (no_inS ⟨rfl, rfl⟩ c)) s2.new hd r⟩
  have hN : ps.length ≤ N.length := by have := congrArg List.length S.pre; rw [List.length_take] at this; omega
  refine ⟨h5, Same.refl _, fun _ _ q _ => q, fun _ _ _ q => q, ?_, fun i j a y z _ hy _ oy _ => ?_, fun p l e => (by cases e), fun p q m => nomatch m⟩
  · have hz := h6.length
    unfold L2.start startI
    rw [hlen]
    have e : N.length - ps.length = N.length - (ts.length + 1) := by omega
    rw [e]
    exact Paired.app (.cons (.pin rfl) (slots_vals h6)) (slots_any _)
  · rw [startI_noOwn _ ts y (List.mem_of_getElem? hy)] at oy
    cases oy
end
/-! ### C(e, ..) -/
/-- programs that raise nothing and draw nothing -/
def M.dry {α : Type} : M α → M α
  | .ret a => .ret a
  | _ => .stuck
theorem M.wp_dry {α : Type} : ∀ {m : M α} {b : Nat} {Q : Nat → α → Prop} {E : Nat → Str → T → Prop}, m.dry.wp b Q E → m.wp 0 (fun _ a => Q b a) fun _ _ _ => False
  | .ret _, _, _, _, h => h
  | .draw _ _, _, _, _, h => h.elim
  | .exc _ _, _, _, _, h => h.elim
  | .stuck, _, _, _, h => h.elim
def eMake (C : Addr) (m : List T → M (List (Str × T))) (fs : Env' → M (List T)) : Env' → M T := fun ρ => (fs ρ).bind fun ts => (m ts).dry.bind fun us => .ret (.obj C us)
section
variable {X : Cx} {g : Cn} {W : WX} {k np : Nat} {pos p : Pos} {e : Expr} {es : List Expr} {fs : Env' → M (List T)} {x : Str} {C fa : Addr} {fd : FuncData} {ps : List Str} {m : List T → M (List (Str × T))}
theorem de_make (Mk' : Mk X.K C fa) (F : FnOk X.prog X.w X.K X.mg X.base (L2.CX X.prog X.w) k fa fd ps (spInit g.K g.X C np m)) (hr : Room (k + 1) X.A) (hm : X.mg x = some (.ref C)) (hb : Binds X.K fd ps []) (ha : DA X g W (e :: es) fs)
    (hn : ∀ (ρ : Env') (b : Nat) (Q : Nat → List T → Prop) (E : Nat → Str → T → Prop), (fs ρ).wp b Q E → (fs ρ).wp b (fun b ts => ts.length = np ∧ Q b ts) E)
    (hg : Gl X x := by rfl) (hdb : (x == ("__debug__" : Str)) = false := by decide) (he : starEach (e :: es) X.env = (false, eval e X.env) :: starEach es X.env := by rfl) (hpl : (backTo pos (starEach es X.env)).any (·.1) = false := by rfl) :
    DE X g W (.Call (.Name x p) (e :: es) [] pos) (eMake C m fs) :=
  pe_imp (pe_make Mk' F hr hg hm hb .nil passL ha hdb he hpl) fun σ H Q ⟨ρ, F, b, s, q⟩ => ⟨ρ, F, b, s, M.wp_mono (hn ρ b _ _ (M.wp_bind.mp q)) (fun b1 ts z vs H1 F1 s1 r1 y dx hy hdx ne => by
    have t1 := s1.sr.stepU (.own y) hdx
    have hy' : upd H1 dx (.own y) y = none := by rw [upd_ne (Ne.symm ne)]; exact hy
    have t2 := t1.sr.stepU (.ins C dx []) hy'
    have fy := s1.sr.fresh hy
    refine ⟨F1, y, dx, vs, ts, by rw [List.append_nil], by rw [r1.length]; exact z.1, upd_same, fy, t2.sr.sub, r1, M.wp_mono (M.wp_dry (M.wp_bind.mp z.2)) (fun _ us q2 ws H' F' e1 e2 e3 e4 e5 e6 => ⟨rfl, ?_⟩) fun _ _ _ z => z.elim⟩
    have Fy : F' y = none := e4 y _ upd_same fy
    have ny : ∀ {c : Addr} {o : HO}, upd H1 dx (.own y) c = some o → c ≠ y := fun h w => by rw [w, hy'] at h; cases h
    have aft : After none F1 (upd H1 dx (.own y)) (upd F' y (.ins C dx ws)) H' b1 := ⟨e1.trans (Ext.upd Fy), fun c o h => by
      by_cases w : c = y
      · subst w; rw [upd_same] at h; rw [e5]; exact h
      · rw [upd_ne w] at h; exact e2 c o h, fun c o h _ => e3 c o (by rw [upd_ne (ny h)]; exact h) (ny h), fun c o h n => by rw [upd_ne (ny h)]; exact e4 c o (by rw [upd_ne (ny h)]; exact h) n, fun _ _ e => by cases e⟩
    exact q2 _ H' _ (s1.trans (t1.trans (Step.of_after t1.sr aft (.inr ⟨rfl, Nat.le_refl _⟩)))) (.obj upd_same (e6.ext (Ext.upd Fy)))) fun _ _ _ z => z⟩
end
end DP
end
section
set_option Elab.async false
set_option linter.all false
set_option maxRecDepth 100000
/-! A set of tuples of ints: asked whether one is in it; made empty; one more put in. -/
namespace DP
open PySem PySem.Spec PyProof.Rows L2
section
variable {P : Program} {w : World} {A : Around} {E : Value → Shared → Prop} {s : Shared} {a : Addr} {L : List (Addr × List Int)} {es : Array (Int × Value)} {ep : Nat} {t : SetTable}
/-- the walk's probe behind c steps -/
def wk (t : SetTable) (h : Int) (c : Nat) : SetTable.Probe :=
  nth t.mask (runAt t.mask (SetTable.bits h % (t.mask + 1))
    (SetTable.bits h)) c
theorem wk_add (t : SetTable) (h : Int) (c q : Nat) : nth t.mask (wk t h c) q = wk t h (c + q) := (nth_add t.mask c _ q).symm
theorem wk_clean (t : SetTable) (h : Int) : ∀ c, (wk t h c).dummy = none := fun c => by
  have z : ∀ (n : Nat) (p : SetTable.Probe), p.dummy = none →
      (nth t.mask p n).dummy = none := fun n => by
    induction n with
    | zero => exact fun _ h => h
    | succ n ih =>
      intro p h
      apply ih
      unfold adv
      split <;> exact h
  exact z c _ rfl
theorem find_from (R : SetTR P w s.heap a L es ep t) {x : Addr} {k : List Int} (hx : IsT P w s.heap k x)
    (hu : A.units < cLine) {K : Nat} (h1 : K < 10 * SetTable.turns t.mask) (h2 : (wk t (thash P w k) K).j ∉ t.place.toList)
    (h3 : ∀ c, c < K → (wk t (thash P w k) c).j ∈ t.place.toList) {Q : SetFound → Shared → Prop}
    (yes : ∀ i, k ∈ L.map (·.2) → Q (.there (some i)) s) (no : ∀ j, k ∉ L.map (·.2) → Q (.free j false) s) : ∀ (f c : Nat) (stand : Option SetTable.Probe),
      stand.getD (t.probeStart (thash P w k)) = wk t (thash P w k) c → c ≤ K → K - c < f →
      (∀ (i : Nat) p, L[i]? = some p → p.2 = k → ∃ d, c ≤ d ∧ d < K ∧ t.place.toList[i]? = some (wk t (thash P w k) d).j) →
      wpAny (model P w) A (setSearchFrom a (.ref x) (thash P w k) false f stand) Q E s
  | 0, c, stand, _, _, hf, _ => (Nat.not_lt_zero _ hf).elim
  | f + 1, c, stand, hst, hc, hf, hre => by
    obtain ⟨o, ho, hex, hd⟩ := R.ob
    rw [setSearchFrom_succ]
    apply wpAny_bind
    refine wpAny_setState_of ho hd R.fits ?_
    dsimp only
    refine wp_if_neg R.gw ?_
    try refine wpAny_bind (wpAny_pure ?_)
    have at_ : ∀ (i : Nat) p, L[i]? = some p → (es[i]?.map (·.1)).getD 0 = thash P w p.2 := fun i p hp => by
      rw [R.entry hp] <;> rfl
    have sp := go_spec t R.tab.ris R.tab.dm (fun i => (es[i]?.map (·.1)).getD 0) (thash P w k) (10 * SetTable.turns t.mask) (K - c)
      (wk t (thash P w k) c) (wk_clean _ _ _) (by omega) (fun q hq => by
        rw [wk_add]
        exact h3 (c + q) (by omega)) (by
        rw [wk_add, show c + (K - c) = K by omega]
        exact h2)
    rcases sp with ⟨q, i, hq, hi, hh, hno, hpr⟩ | ⟨hno, hpr⟩
    · rw [wk_add, wk_add] at hpr
      rw [wk_add] at hi
      have pr : t.probe (fun i => (es[i]?.map (·.1)).getD 0) (thash P w k) (stand.getD (t.probeStart (thash P w k))) =
          some (.candidate (wk t (thash P w k) (c + q)).j i (wk t (thash P w k) (c + (q + 1)))) := by
        rw [hst]; exact hpr
      rw [pr]
      dsimp only
      have il : i < L.length := by
        have y1 := (List.getElem?_eq_some_iff.mp hi).1
        have y2 := R.tab.sz
        rw [List.length_map] at y2
        rw [Array.length_toList] at y1
        omega
      obtain ⟨p, hp⟩ : ∃ p, L[i]? = some p := ⟨_, List.getElem?_eq_getElem il⟩
      have hm : p ∈ L := List.mem_of_getElem? hp
      have sl := slot_live R.tab.ris hi
      have rest : wpAny (model P w) A (searchRest a (.ref x) (thash P w k) false f es t (wk t (thash P w k) (c + q)).j i
          (wk t (thash P w k) (c + (q + 1)))) Q E s := by
        unfold searchRest
        rw [R.entry hp]
        dsimp only
        apply wpAny_bind
        refine wpAny_holding (wpAny_eqBool_tuple hu (R.tup p hm) hx ?_)
        apply wpAny_bind
        refine wpAny_setState_of ho hd R.fits ?_
        dsimp only
        refine wp_if_neg (by simp) ?_
        try refine wpAny_bind (wpAny_pure ?_)
        rw [sameMem]
        dsimp only
        simp only [if_true, sl, R.entry hp]
        apply wpAny_bind
        refine wpAny_isSame_ref_self ?_
        apply wpAny_bind
        refine wpAny_pure ?_
        simp only [if_true]
        by_cases e : p.2 = k
        · refine wp_if_pos (by simp [e]) ?_
          exact wpAny_pure (yes i (List.mem_map.mpr ⟨p, hm, e⟩))
        · refine wp_if_neg (by simp [e]) ?_
          refine find_from R hx hu h1 h2 h3 yes no f (c + (q + 1)) (some _) rfl (by omega) (by omega) fun i' p' g1 g2 => ?_
          obtain ⟨d, y1, y2, y3⟩ := hre i' p' g1 g2
          have dc : ¬ d < c + q := fun z => hno (d - c) i' (by omega) (by
              rw [wk_add, show c + (d - c) = d by omega]
              exact y3) ((at_ i' p' g1).trans (congrArg _ g2))
          have dn : d ≠ c + q := fun z => by
            rw [z] at y3
            have s1 := slot_live R.tab.ris y3
            rw [sl] at s1
            injection s1 with s1
            rw [← s1, hp] at g1
            cases g1
            exact e g2
          exact ⟨d, by omega, y2, y3⟩
      by_cases hl : t.led = true
      · refine wp_if_neg (by simp [hl]) ?_
        try refine wpAny_bind (wpAny_pure ?_)
        exact rest
      · refine wp_if_pos (by simp [hl]) ?_
        apply wpAny_bind
        refine seen_tup hx (fun y hy => ?_) ?_
        · obtain ⟨u, hu1, rfl⟩ := List.mem_map.mp hy
          have hu2 : u ∈ es ∧ u.1 = thash P w k := by simpa using hu1
          have hu3 : u ∈ es.toList := by simpa using hu2.1
          rw [R.rows] at hu3
          obtain ⟨p', y1, rfl⟩ := List.mem_map.mp hu3
          exact ⟨p'.2, p'.1, rfl, R.tup p' y1⟩
        · refine wp_if_neg (by decide) ?_
          try refine wpAny_bind (wpAny_pure ?_)
          exact rest
    · rw [wk_add, show c + (K - c) = K by omega] at hpr
      have pr : t.probe (fun i => (es[i]?.map (·.1)).getD 0) (thash P w k) (stand.getD (t.probeStart (thash P w k))) =
          some (.empty (wk t (thash P w k) K).j none) := by
        rw [hst]; exact hpr
      rw [pr]
      dsimp only
      refine wpAny_pure (no _ fun hm => ?_)
      obtain ⟨p', y1, y2⟩ := List.mem_map.mp hm
      obtain ⟨i', y3, y4⟩ := List.getElem_of_mem y1
      have y5 : L[i']? = some p' := by rw [List.getElem?_eq_getElem y3, y4]
      obtain ⟨d, z1, z2, z3⟩ := hre i' p' y5 y2
      exact hno (d - c) i' (by omega) (by
        rw [wk_add, show c + (d - c) = d by omega]
        exact z3) ((at_ i' p' y5).trans (congrArg _ y2))
end
end DP
end
section
set_option Elab.async false
set_option linter.all false
set_option maxRecDepth 100000
namespace DP
open PySem PySem.Spec PyProof.Rows L2
section
variable {P : Program} {w : World} {A : Around} {E : Value → Shared → Prop} {s : Shared} {a : Addr} {L : List (Addr × List Int)} {es : Array (Int × Value)} {ep : Nat} {t : SetTable}
theorem SetTR.typ (R : SetTR P w s.heap a L es ep t) : s.TypeIs (.ref a) "set" := by
  obtain ⟨o, ho, hx, _⟩ := R.ob
  exact ⟨o, ho, hx.1⟩
theorem search_in (R : SetTR P w s.heap a L es ep t) {x : Addr} {k : List Int} (hx : IsT P w s.heap k x) (hu : A.units < cLine) {Q : SetFound → Shared → Prop}
    (yes : ∀ i, k ∈ L.map (·.2) → Q (.there (some i)) s) (no : ∀ j, k ∉ L.map (·.2) → Q (.free j false) s) :
    wpAny (model P w) A (setSearch a (.ref x) (thash P w k)) Q E s := by
  have room := R.room
  obtain ⟨K, y1, y2, y3⟩ := R.tab.first (by rw [List.length_map]; omega) (thash P w k)
  have few : 10 * SetTable.turns t.mask ≤ 1420 := by
    unfold SetTable.turns
    rcases R.tab.mok with e | e | e <;> omega
  unfold setSearch
  refine find_from R hx hu y1 y2 y3 yes no 100000 0 none rfl (Nat.zero_le _) (by omega) fun i p hp hk => ?_
  have hi : (L.map fun p => thash P w p.2)[i]? = some (thash P w k) := by
    rw [List.getElem?_map, hp, ← hk] <;> rfl
  have il : i < t.place.toList.length := by
    have z1 := (List.getElem?_eq_some_iff.mp hp).1
    have z2 := R.tab.sz
    rw [List.length_map] at z2
    rw [Array.length_toList]
    omega
  obtain ⟨c, hc, e⟩ := R.tab.before y2 hi (List.getElem?_eq_getElem il)
  refine ⟨c, Nat.zero_le _, hc, ?_⟩
  rw [List.getElem?_eq_getElem il]
  exact congrArg some e.symm
theorem findIn_succ (a : Addr) (x : Value) (h : Int) (f : Nat) : setFindIn a x h (f + 1) = (do
    let (es, _, _) ← setState a
    if byScan x es then
      rule "set.find.by-scan"
      match ← setScan a x h false es with
      | .found i => return some i
      | .absent => return none
      | .anew => return ← setFindIn a x h f
    match ← setSearch a x h with
    | .there i => return i
    | .free .. => return none) := by rfl
theorem find_in (R : SetTR P w s.heap a L es ep t) {x : Addr} {k : List Int} (hx : IsT P w s.heap k x) (hu : A.units < cLine) {Q : Option Nat → Shared → Prop}
    (h : ∀ r : Option Nat, r.isSome = decide (k ∈ L.map (·.2)) → Q r s) : wpAny (model P w) A (setFind a (.ref x) (thash P w k)) Q E s := by
  obtain ⟨o, ho, hex, hd⟩ := R.ob
  unfold setFind
  rw [show (100000 : Nat) = 99999 + 1 from rfl, findIn_succ]
  apply wpAny_bind
  refine wpAny_setState_of ho hd R.fits ?_
  dsimp only
  refine wp_if_neg (by simp [byScan, Value.scannable]) ?_
  try refine wpAny_bind (wpAny_pure ?_)
  apply wpAny_bind
  refine search_in R hx hu (fun i hm => ?_) fun j hm => ?_
  · exact wpAny_pure (h _ (by simp [hm]))
  · exact wpAny_pure (h _ (by simp [hm]))
theorem contains_in (R : SetTR P w s.heap a L es ep t) {x : Addr} {k : List Int} (hx : IsT P w s.heap k x) (hu : A.in1.units < cLine) (hu' : A.units < cLine) {Q : Bool → Shared → Prop}
    (h : ∀ tk, Q (decide (k ∈ L.map (·.2))) { s with toks := tk }) : wpAny (model P w) A (contains (.ref a) (.ref x)) Q E s := by
  unfold contains
  try with_reducible refine wpAny_holding ?_
  apply wpAny_bind
  refine wpAny_specialOf (SetTR.typ R) F.slot_set_contains.lookup ?_
  show wpAny _ _ (if (some (Value.builtin "set.__contains__") == some Value.none) = true then _ else _) _ E s
  rw [if_neg (by rw [beq_builtin_none]; exact Bool.false_ne_true)]
  apply wpAny_bind
  refine wpAny_callSpecialUnlessNone?_slot (name := Str.ofString "__contains__") (SetTR.typ R) F.slot_set_contains ?_
  refine wpAny_call_entry F.slot_set_contains (SetTR.typ R) entry_set_contains ?_ (F.args_set_contains_2 _ _)
  unfold Builtin.«frozenset.__contains__» Builtin.Frozenset.oneOther
  simp only [List.isEmpty_nil, bind_assoc]
  unfold Builtin.Frozenset.addrOf Builtin.Frozenset.withSetAsKey setContains
  apply wpAny_bind
  refine wpAny_pure ?_
  try dsimp only
  apply wpAny_bind
  refine wpAny_pure ?_
  try dsimp only
  apply wpAny_bind
  refine wpAny_tryCatch ?_
  refine wpAny_holding ?_
  apply wpAny_bind
  refine wpAny_pyHash_tuple hu hx ?_
  apply wpAny_bind
  refine find_in (s := { s with toks := s.toks + (k.length + 1) }) R hx hu fun r hr => ?_
  refine wpAny_pure ?_
  show wpAny _ _ (ret (Value.bool r.isSome)) _ _ _
  rw [hr]
  exact wpAny_pure ⟨_, rfl, wpAny_truthy_bool (h _)⟩
end
end DP
end
section
set_option Elab.async false
set_option linter.all false
set_option maxRecDepth 100000
namespace DP
open PySem PySem.Spec PyProof.Rows L2
/-- the members, as they stand in the heap -/
abbrev Mems (K : PySem.W.Frag) (H : Hp) (L : List (Addr × List Int)) : Prop := ∀ p ∈ L, SqT K H p.1 (p.2.map V.int)
section
variable {X : Cx} {pins : List (Addr × Obj)} {σ : L2.St} {H : Hp} {s : Shared} {a : Addr} {L : List (Addr × List Int)}
theorem setTO_get (I : Inv X pins σ H s) (h : H a = some (SetTO X.prog X.w a L)) (m : Mems X.K H L) : ∃ es ep t, SetTR X.prog X.w s.heap a L es ep t :=
  SetT0.full (show ObjOk X.prog X.w H s.heap a (SetTO X.prog X.w a L) from I.hok a _ h).1 fun p hp => I.isT (m p hp)
/-- set() -/
theorem cr_set0T : CallR X (.type "set") (fun xs H Q => xs = [] ∧ ∀ p, H p = none → Q (.ref p) (upd H p (SetTO X.prog X.w p []))) := by
  intro pins s σ H xs us Q I r h
  obtain ⟨rfl, q⟩ := h
  cases r
  refine setR_new (w := X.w) fun _ => ?_
  have R : SetTR X.prog X.w (s.heap.push { cls := .type "set", dict := none, data := .set #[] 0 (.fresh 0 0 (!X.w.params.followText "set-order")) }) s.heap.objs.size [] #[] 0 (.fresh 0 0 (!X.w.params.followText "set-order")) := setTR_fresh (Heap.get?_push_size _ rfl)
  exact ⟨.ref _, upd H s.heap.objs.size (SetTO X.prog X.w s.heap.objs.size []), I.laid (t' := s.toks) (fun b u e => Heap.get?_push_of_some _ e) (Nat.le_refl _) (setTO_new R.t0), rfl, q _ (I.hok.fresh (Nat.le_refl _))⟩
/-- t in xs -/
def rInT (X : Cx) (neg : Bool) : V → V → Hp → VK → Prop := fun x y H Q => ∃ (b a : Addr) (k : List Int) (L : List (Addr × List Int)), x = .ref b ∧ y = .ref a ∧ SqT X.K H b (k.map V.int) ∧ H a = some (SetTO X.prog X.w a L) ∧ Mems X.K H L ∧
  Q (.bl (if neg = true then !decide (k ∈ L.map (·.2)) else decide (k ∈ L.map (·.2)))) H
theorem or_inT (hu : X.A.units + 64 < cLine) : OpR X (compareOp .In) (rInT X false) := by
  intro pins s σ H x y v u Q I rx ry h
  obtain ⟨b, a, k, L, rfl, rfl, h1, h2, h3, q⟩ := h
  obtain rfl : v = Value.ref b := rx
  obtain rfl : u = Value.ref a := ry
  obtain ⟨es, ep, t, R⟩ := setTO_get I h2 h3
  show wpAny _ _ (contains (Value.ref a) (Value.ref b) >>= fun r => pure (Value.bool r)) _ _ s
  apply wpAny_bind
  refine contains_in R (I.isT h1) (by show X.A.units + _ < cLine; omega) (by omega) fun tk => ?_
  exact wpAny_pure ⟨V.bl (decide (k ∈ L.map fun p : Addr × List Int => p.2)), H, I.tok _, rfl, q⟩
theorem or_ninT (hu : X.A.units + 64 < cLine) : OpR X (compareOp .NotIn) (rInT X true) := by
  intro pins s σ H x y v u Q I rx ry h
  obtain ⟨b, a, k, L, rfl, rfl, h1, h2, h3, q⟩ := h
  obtain rfl : v = Value.ref b := rx
  obtain rfl : u = Value.ref a := ry
  obtain ⟨es, ep, t, R⟩ := setTO_get I h2 h3
  show wpAny _ _ (contains (Value.ref a) (Value.ref b) >>= fun r => pure (Value.bool (!r))) _ _ s
  apply wpAny_bind
  refine contains_in R (I.isT h1) (by show X.A.units + _ < cLine; omega) (by omega) fun tk => ?_
  exact wpAny_pure ⟨V.bl (!decide (k ∈ L.map fun p : Addr × List Int => p.2)), H, I.tok _, rfl, q⟩
/-- xs.add(t) -/
def rAddT (X : Cx) : V → List V → Hp → VK → Prop := fun x xs H Q => ∃ (a b : Addr) (k : List Int) (L : List (Addr × List Int)), x = .ref a ∧ xs = [.ref b] ∧ SqT X.K H b (k.map V.int) ∧ H a = some (SetTO X.prog X.w a L) ∧ Mems X.K H L ∧ L.length + 1 < 64 ∧
  ∀ L' : List (Addr × List Int), (k ∈ L.map (·.2) → L' = L) → (k ∉ L.map (·.2) → L'.Perm ((b, k) :: L)) → Q .non (upd H a (SetTO X.prog X.w a L'))
theorem mt_addT (hu : X.A.units + 64 < cLine) : MtR X "set.add" (rAddT X) := by
  intro pins s σ H x xs v us Q I rx rxs h
  obtain ⟨a, b, k, L, rfl, rfl, h1, h2, h3, few, q⟩ := h
  cases rx
  cases rxs with
  | cons ry rt =>
    cases rt
    cases ry
    obtain ⟨es, ep, t, R⟩ := setTO_get I h2 h3
    have hx := I.isT h1
    refine wpAny_call_entry F.slot_set_add (SetTR.typ R) F.entry_set_add ?_ (F.args_set_add_2 _ _)
    unfold Builtin.«set.add» Builtin.Frozenset.oneOther
    simp only [List.isEmpty_nil, bind_assoc]
    unfold Builtin.Frozenset.addrOf setAdd
    apply wpAny_bind
    refine wpAny_pure ?_
    try dsimp only
    apply wpAny_bind
    refine wpAny_pure ?_
    try dsimp only
    apply wpAny_bind
    refine wpAny_holding ?_
    apply wpAny_bind
    refine wpAny_pyHash_tuple (by show X.A.units + _ < cLine; omega) hx ?_
    refine add_at (s := { s with toks := s.toks + (k.length + 1) }) R hx (by show X.A.units + _ < cLine; omega) few fun b' h' L' es' ep' t' hsb R' c1 c2 => ?_
    show wpAny _ _ (ret Value.none) _ _ _
    have he : ∃ u, h'.get? a = some u := by
      obtain ⟨o, ho, _⟩ := R'.ob
      exact ⟨o, ho⟩
    exact wpAny_pure ⟨_, rfl, .non, upd H a (SetTO X.prog X.w a L'), I.write (e := a) (t' := s.toks + (k.length + 1)) (by rw [h2]; trivial) (.inl rfl) (fun c u hc hu => (hsb.2 c hc).trans hu) he (setTO_new R'.t0), rfl, q L' c1 c2⟩
variable {o e : Expr} {es : List Expr} {to : TE} {t : TA} {apos cpos : Pos}
def tAddT (X : Cx) (to : TE) (t : TA) : TE := fun σ H Q => to σ H fun x H1 => (∃ a L, x = V.ref a ∧ H1 a = some (SetTO X.prog X.w a L)) ∧ t σ H1 fun xs H2 => rAddT X x xs H2 Q
theorem pe_addT (hu : X.A.units + 64 < cLine) (ho : PE X o to) (ha : PA X (e :: es) t)
    (hbase : attributeBase o "add" X.env (eval o X.env) = eval o X.env := by rfl)
    (hfew : ((backTo cpos (starEach (e :: es) X.env)).all (fun x => !x.1) && (backToKw cpos (keywordEach [] X.env)).all (fun x => x.1.isSome)
      && decide ((e :: es).length + ([] : List Keyword).length + (if ([] : List Keyword).isEmpty then 0 else 1) < 30)) = true := by rfl)
    (hline : (apos.endLine == cpos.line) = true := by rfl) (hs : starEach (e :: es) X.env = (false, eval e X.env) :: starEach es X.env := by rfl) (hplain : (backTo cpos (starEach es X.env)).any (·.1) = false := by rfl) :
    PE X (.Call (.Attribute o "add" apos) (e :: es) [] cpos) (tAddT X to t) := by
  refine ⟨fun pins s σ H Q I h => ?_⟩
  refine wpAny_Call_method_late hbase hfew hline rfl (thn (ho.run pins s σ H _ I h) fun v s1 hh => ?_)
  obtain ⟨x, H1, I1, r1, ⟨a, L, rfl, hL⟩, q1⟩ := hh
  cases r1
  have ot : ∃ ob, s1.heap.get? a = some ob ∧ ob.ExactSet := by
    obtain ⟨_, _, _, ⟨o, ho, y, _⟩, _⟩ := ((show ObjOk X.prog X.w H1 s1.heap a (SetTO X.prog X.w a L) from I1.hok a _ hL).1).ex
    exact ⟨o, ho, y⟩
  obtain ⟨ob, hob, hex⟩ := ot
  refine ⟨"set", "set.add", F.plainAttrs_set, F.slot_set_add, F.type_set_add, ⟨ob, hob, hex.1⟩, fun b e => ?_, ?_⟩
  · injection e with e
    subst e
    exact ⟨ob, hob, hex.2.1⟩
  · have hA := ha.run cpos pins s1 σ H1 _ I1 q1
    rw [hs] at hA ⊢
    refine Calls.callWith_builtin (by show (false || (backTo cpos (starEach es X.env)).any (·.1)) = false; rw [hplain] <;> rfl) ?_
    refine Calls.evalArgs_plain ?_
    exact thn hA fun us s2 ⟨vs, H2, I2, r2, q2⟩ => mt_addT hu pins s2 σ H2 (.ref a) vs (.ref a) us Q I2 rfl r2 q2
end
end DP
end
section
set_option Elab.async false
set_option linter.all false
set_option maxRecDepth 100000
namespace DP
open PySem PySem.Spec PyProof.Rows L2

/-! ### lists of ints, of tuples of ints -/
def intsT : List T → Option (List Int)
  | [] => some []
  | .int i :: ts => (intsT ts).map (i :: ·)
  | _ => none
def tupI : T → Option (List Int)
  | .tup ts => intsT ts
  | _ => none
def tupsT : List T → Option (List (List Int))
  | [] => some []
  | t :: ts => match tupI t, tupsT ts with
    | some k, some ks => some (k :: ks)
    | _, _ => none
def iT (k : List Int) : T := .tup (k.map .int)
theorem intsT_eq : ∀ {ts : List T} {k : List Int}, intsT ts = some k → ts = k.map .int
  | [], _, h => by cases h; rfl
  | t :: ts, k, h => by
    cases t with
    | int i =>
      have h : (intsT ts).map (i :: ·) = some k := h
      cases e : intsT ts with
      | none => rw [e] at h; cases h
      | some r => rw [e] at h; cases h; rw [intsT_eq e]; rfl
    | _ => cases h
theorem tupI_eq {t : T} {k : List Int} (h : tupI t = some k) : t = iT k := by
  cases t with
  | tup ts => exact congrArg T.tup (intsT_eq h)
  | _ => cases h
theorem tupsT_eq : ∀ {ts : List T} {ks : List (List Int)}, tupsT ts = some ks → ts = ks.map iT
  | [], _, h => by cases h; rfl
  | t :: ts, ks, h => by
    have h : (match tupI t, tupsT ts with | some k, some ks => some (k :: ks) | _, _ => none) = some ks := h
    cases e1 : tupI t with
    | none => rw [e1] at h; cases h
    | some k =>
      cases e2 : tupsT ts with
      | none => rw [e1, e2] at h; cases h
      | some r => rw [e1, e2] at h; cases h; rw [tupI_eq e1, tupsT_eq e2]; rfl
theorem reps_ints {K : KF} {F : Hp} : ∀ {k : List Int} {vs : List V}, Reps K F vs (k.map .int) → vs = k.map V.int
  | [], _, .nil => rfl
  | i :: k, _, .cons h r => by cases h; rw [reps_ints r]; rfl
theorem ints_reps {K : KF} {F : Hp} : ∀ k : List Int, Reps K F (k.map V.int) (k.map .int)
  | [] => .nil
  | i :: k => .cons (.int i) (ints_reps k)
theorem rep_iT {K : KF} {F : Hp} {v : V} {k : List Int} (h : Rep K F v (iT k)) : ∃ a, v = .ref a ∧ SqT K F a (k.map V.int) := by
  cases h with
  | tup h1 h2 =>
    rw [reps_ints h2] at h1
    exact ⟨_, rfl, h1⟩
theorem iT_rep {K : KF} {F : Hp} {a : Addr} {k : List Int} (h : SqT K F a (k.map V.int)) : Rep K F (.ref a) (iT k) := .tup h (ints_reps k)

/-! ### their order -/
theorem code_inj {B : Int} : ∀ {r q : List Int}, r.length = q.length → TS.Bd B r → TS.Bd B q → TS.code B r = TS.code B q → r = q
  | [], [], _, _, _, _ => rfl
  | d :: r, e :: q, hl, hr, hq, h => by
    have hl' : r.length = q.length := by simpa using hl
    rcases Int.lt_trichotomy d e with z | z | z
    · have := TS.code_lt (B := B) hl' hr.tail hq.tail z; omega
    · subst z
      have y : ∀ {x y : List Int}, x.length = y.length → TS.code B (d :: x) = TS.code B (d :: y) → ¬ TS.code B x < TS.code B y := fun w1 w2 w3 => by
        have := (TS.code_same (B := B) (d := d) w1).mpr w3
        omega
      have a := y hl' h
      have b := y hl'.symm h.symm
      rw [code_inj hl' hr.tail hq.tail (by omega)]
    · have := TS.code_lt (B := B) hl'.symm hq.tail hr.tail z; omega
  | [], _ :: _, h, _, _, _ => by simp at h
  | _ :: _, [], h, _, _, _ => by simp at h
def leC (B : Int) (a b : List Int) : Bool := decide (TS.code B a ≤ TS.code B b)
def okC (d : Nat) (B : Int) (ks : List (List Int)) : Bool := decide (1 ≤ d) && ks.all fun k => decide (k.length = d) && k.all fun m => decide (0 ≤ m) && decide (m < B)
def topI (ks : List (List Int)) : Int := 1 + ks.flatten.foldl max 0
def dimI (ks : List (List Int)) : Nat := (ks.head?.map List.length).getD 1
def sortK (ks : List (List Int)) : Option (List (List Int)) := if okC (dimI ks) (topI ks) ks = true then some (ks.mergeSort (leC (topI ks))) else none
theorem okC_of {d : Nat} {B : Int} {ks : List (List Int)} (h : okC d B ks = true) : 1 ≤ d ∧ ∀ k ∈ ks, k.length = d ∧ TS.Bd B k := by
  unfold okC at h
  rw [Bool.and_eq_true, List.all_eq_true] at h
  refine ⟨of_decide_eq_true h.1, fun k hk => ?_⟩
  have z := h.2 k hk
  rw [Bool.and_eq_true, List.all_eq_true] at z
  refine ⟨of_decide_eq_true z.1, fun m hm => ?_⟩
  have y := z.2 m hm
  rw [Bool.and_eq_true] at y
  exact ⟨of_decide_eq_true y.1, of_decide_eq_true y.2⟩
theorem sort_uniq {d : Nat} {B : Int} {ks ys : List (List Int)} (ok : okC d B ks = true) (pm : ys.Perm ks) (pw : ys.Pairwise fun a b => TS.code B a ≤ TS.code B b) : ys = ks.mergeSort (leC B) := by
  obtain ⟨_, hb⟩ := okC_of ok
  refine List.Perm.eq_of_pairwise (le := fun a b => TS.code B a ≤ TS.code B b) (fun a b ha hb' h1 h2 => ?_) pw ?_ (pm.trans (List.mergeSort_perm _ _).symm)
  · have a1 := hb a (pm.mem_iff.mp ha)
    have b1 := hb b ((List.mergeSort_perm ks (leC B)).mem_iff.mp hb')
    exact code_inj (a1.1.trans b1.1.symm) a1.2 b1.2 (by omega)
  · refine (List.pairwise_mergeSort (le := leC B) (fun a b c h1 h2 => ?_) (fun a b => ?_) ks).imp fun {a b} h => of_decide_eq_true h
    · have h1 := of_decide_eq_true h1
      have h2 := of_decide_eq_true h2
      exact decide_eq_true (by omega)
    · unfold leC
      rw [Bool.or_eq_true, decide_eq_true_eq, decide_eq_true_eq]
      omega
def sortI (ns : List Int) : List Int := ns.mergeSort fun a b => decide (a ≤ b)
theorem sortI_uniq {ns ys : List Int} (pm : ys.Perm ns) (pw : ys.Pairwise (· ≤ ·)) : ys = sortI ns := by
  refine List.Perm.eq_of_pairwise (le := fun a b : Int => a ≤ b) (fun a b _ _ h1 h2 => by omega) pw ?_ (pm.trans (List.mergeSort_perm _ _).symm)
  refine (List.pairwise_mergeSort (le := fun a b : Int => decide (a ≤ b)) (fun a b c h1 h2 => ?_) (fun a b => ?_) ns).imp fun {a b} h => of_decide_eq_true h
  · have h1 := of_decide_eq_true h1
    have h2 := of_decide_eq_true h2
    exact decide_eq_true (by omega)
  · rw [Bool.or_eq_true, decide_eq_true_eq, decide_eq_true_eq]
    omega
theorem Reps.perm {K : KF} {F : Hp} {ys xs : List V} (p : ys.Perm xs) : ∀ {ts : List T}, Reps K F xs ts → ∃ us, us.Perm ts ∧ Reps K F ys us := by
  induction p with
  | nil => exact fun r => ⟨_, .refl _, r⟩
  | cons x _ ih =>
    intro ts r
    cases r with
    | cons h r =>
      obtain ⟨us, p1, r1⟩ := ih r
      exact ⟨_, p1.cons _, .cons h r1⟩
  | swap x y l =>
    intro ts r
    cases r with
    | cons h r =>
      cases r with
      | cons h' r => exact ⟨_, .swap _ _ _, .cons h' (.cons h r)⟩
  | trans _ _ ih1 ih2 =>
    intro ts r
    obtain ⟨us, p1, r1⟩ := ih2 r
    obtain ⟨ws, p2, r2⟩ := ih1 r1
    exact ⟨ws, p2.trans p1, r2⟩
theorem reps_ks {K : KF} {F : Hp} {ks : List (List Int)} {us : List T} (p : us.Perm (ks.map iT)) : ∃ js : List (List Int), js.Perm ks ∧ us = js.map iT := by
  suffices h : ∀ {xs ys : List T}, xs.Perm ys → ∀ ks : List (List Int), ys = ks.map iT → ∃ js : List (List Int), js.Perm ks ∧ xs = js.map iT from h p ks rfl
  intro xs ys p
  induction p with
  | nil =>
    intro ks h
    cases ks with
    | nil => exact ⟨[], .nil, rfl⟩
    | cons _ _ => cases h
  | cons x _ ih =>
    intro ks h
    cases ks with
    | nil => cases h
    | cons k ks =>
      injection h with h1 h2
      obtain ⟨js, p1, e⟩ := ih ks h2
      exact ⟨k :: js, p1.cons _, by rw [e, h1]; rfl⟩
  | swap x y l =>
    intro ks h
    cases ks with
    | nil => cases h
    | cons k ks =>
      cases ks with
      | nil => cases h
      | cons k' ks =>
        injection h with h1 h2
        injection h2 with h2 h3
        exact ⟨k' :: k :: ks, .swap _ _ _, by rw [h1, h2, h3]; rfl⟩
  | trans _ _ ih1 ih2 =>
    intro ks h
    obtain ⟨js, p1, e⟩ := ih2 ks h
    obtain ⟨is, p2, e2⟩ := ih1 js e
    exact ⟨is, p2.trans p1, e2⟩
end DP
end
section
set_option Elab.async false
set_option linter.all false
set_option maxRecDepth 100000
namespace DP
open PySem PySem.Spec PyProof.Rows L2

/-! ### sorted of a list -/
def nSort (p : Bool × List T) : M (List T) := if p.1 = true then (match intsT p.2 with
    | some ns => .ret ((sortI ns).map .int)
    | none => match tupsT p.2 with
      | some ks => if decide (ks.length < 64) = true then (match sortK ks with
        | some js => .ret (js.map iT)
        | none => .stuck) else .stuck
      | none => .stuck)
  else .stuck
theorem callR_or {X : Cx} {f : Value} {r r' : List V → Hp → VK → Prop} (h : CallR X f r) (h' : CallR X f r') : CallR X f fun vs H Q => r vs H Q ∨ r' vs H Q := by
  intro pins s σ H xs us Q I rv q
  rcases q with q | q
  · exact h pins s σ H xs us Q I rv q
  · exact h' pins s σ H xs us Q I rv q
theorem cr_sortTs {X : Cx} : CallR X (.builtin "sorted") fun vs H Q => ∃ (d : Nat) (B : Int), 1 ≤ d ∧ rSortU X.K d B vs H Q := by
  intro pins s σ H xs us Q I rv ⟨d, B, hd, q⟩
  exact cr_sortT hd pins s σ H xs us Q I rv q
theorem pw_ks {K : KF} {F H : Hp} {B : Int} (e : Ext F H) : ∀ {ys : List V} {js : List (List Int)}, Reps K F ys (js.map iT) → ys.Pairwise (fun x y => ∀ n m, TupI K H x n → TupI K H y m → TS.code B n ≤ TS.code B m) → js.Pairwise fun a b => TS.code B a ≤ TS.code B b
  | _, [], _, _ => .nil
  | _, j :: js, .cons h r, pw => by
    cases pw with
    | cons p1 p2 =>
      refine .cons (fun k hk => ?_) (pw_ks e r p2)
      obtain ⟨a, rfl, ha⟩ := rep_iT h
      obtain ⟨i, hi, ei⟩ := List.getElem_of_mem hk
      obtain ⟨v, hv, rv⟩ := r.get' (i := i) (t := iT k) (by rw [List.getElem?_map, List.getElem?_eq_getElem hi, ei]; rfl)
      obtain ⟨b, rfl, hb⟩ := rep_iT rv
      exact p1 _ (List.mem_of_getElem? hv) j k ⟨a, rfl, sqT_ext' e ha⟩ ⟨b, rfl, sqT_ext' e hb⟩
section
variable {X : Cx} {g : Cn} {W : WX} {k i : Nat} {pos p apos : Pos} {a e : Expr} {fa : Env' → M T} {fl : Env' → M (Bool × List T)} {x : Str}
theorem dn_sorted (hm : X.mg "sorted" = none) (ha : DL X g W e fl) (hg : Gl X "sorted" := by rfl) (he : starEach (e :: []) X.env = (false, eval e X.env) :: starEach [] X.env := by rfl) (hpl : (backTo pos (starEach [] X.env)).any (·.1) = false := by rfl) (hK : X.K = g.K := by rfl) :
    DN X g W (.Call (.Name "sorted" p) [e] [] pos) (e1 nSort fl) :=
  pe_imp (pe_callB (callR_or cr_sortedI cr_sortTs) hg hm (by decide +kernel) (pa_cons ha pa_nil he) (by decide) (by decide) he hpl) fun σ H Q ⟨ρ, F, b, s, q⟩ => ⟨ρ, F, b, s, M.wp_mono (M.wp_bind.mp q) (fun b1 pp q1 d H1 F1 s1 h1 => by
    obtain ⟨ok, q2⟩ := if_of q1
    obtain ⟨vs, z1, r⟩ := h1 F1 H1 b1 (Step.refl s1.sr)
    rw [if_pos ok] at z1
    cases e1 : intsT pp.2 with
    | some ns =>
      rw [e1] at q2
      rw [intsT_eq e1] at r
      have ev := reps_ints r
      subst ev
      refine .inl ⟨d, ns, rfl, SqL.of z1, fun ns' pp' pm pw hp => ?_⟩
      rw [sortI_uniq pm pw]
      exact q2 pp' _ H1 _ F1 s1 hp rfl (ints_reps _)
    | none =>
      rw [e1] at q2
      cases e2 : tupsT pp.2 with
      | none => rw [e2] at q2; exact q2.elim
      | some ks =>
        rw [e2] at q2
        obtain ⟨few, q3⟩ := if_of q2
        have few := of_decide_eq_true few
        cases e3 : sortK ks with
        | none => rw [e3] at q3; exact q3.elim
        | some js =>
          rw [e3] at q3
          unfold sortK at e3
          by_cases ck : okC (dimI ks) (topI ks) ks = true
          · rw [if_pos ck] at e3
            cases e3
            rw [tupsT_eq e2] at r
            obtain ⟨hd, hb⟩ := okC_of ck
            refine .inr ⟨dimI ks, topI ks, hd, d, vs, rfl, SqL.of z1, by rw [r.length, List.length_map]; exact few, fun v hv => ?_, fun ys pp' pm pw hp => ?_⟩
            · obtain ⟨i, hi, ei⟩ := List.getElem_of_mem hv
              obtain ⟨t, ht, rt⟩ := r.get (i := i) (v := v) (by rw [List.getElem?_eq_getElem hi, ei])
              rw [List.getElem?_map] at ht
              cases e4 : ks[i]? with
              | none => rw [e4] at ht; cases ht
              | some k =>
                rw [e4] at ht
                cases ht
                obtain ⟨c, rfl, hc⟩ := rep_iT rt
                exact ⟨k, ⟨c, rfl, by rw [hK]; exact sqT_ext' s1.sr.sub hc⟩, hb k (List.mem_of_getElem? e4)⟩
            · obtain ⟨us, p1, r1⟩ := Reps.perm pm r
              obtain ⟨js, p2, rfl⟩ := reps_ks (K := g.K) (F := F1) p1
              rw [← sort_uniq ck p2 (pw_ks s1.sr.sub r1 (by rw [← hK]; exact pw))] at q3
              exact q3 pp' _ H1 _ F1 s1 hp rfl r1
          · rw [if_neg ck] at e3
            cases e3) fun _ _ _ z => z⟩
end
end DP
end
section
set_option Elab.async false
set_option linter.all false
set_option maxRecDepth 100000
namespace DP
open PySem PySem.Spec PyProof.Rows L2

section
variable {g : Cn} {F H : Hp} {σ : Sg} {ρ : Env'} {b i : Nat} {a : Addr} {x0 x' : Sl} {u : HO}
/-- a new object in a slot -/
theorem SR.setNew (s : SR g F H σ ρ b) (i : Nat) {p : Addr} (h : H p = none) (r : SlOk g F (upd H p u) (some (.ref p)) x') : SR g F (upd H p u) (σ.set i (some (.ref p))) (ρ.set i x') b := by
  obtain ⟨h0, ns, hf, no⟩ := s.h0 h
  have s1 := s.growU u h
  refine ⟨s1.sub, s1.f0, s1.keep, s1.new, Paired.set2 r i s1.slots, fun j k c y z jk hy hz oy oz e q => ?_, s1.strm, s1.tabs⟩
  rcases get_set hy with ⟨rfl, rfl, _⟩ | ⟨nj, hy'⟩
  · rcases get_set hz with ⟨rfl, rfl, _⟩ | ⟨nk, hz'⟩
    · exact jk rfl
    · rcases get_set e with ⟨_, e1, _⟩ | ⟨nn, _⟩
      · cases e1
        rcases get_set q with ⟨e2, _⟩ | ⟨_, q'⟩
        · exact nk e2
        · exact no ⟨k, z, hz', oz, q'⟩
      · exact nn rfl
  · rcases get_set e with ⟨e1, _⟩ | ⟨_, e'⟩
    · exact nj e1
    · rcases get_set hz with ⟨rfl, rfl, _⟩ | ⟨nk, hz'⟩
      · rcases get_set q with ⟨_, e1, _⟩ | ⟨nn, _⟩
        · cases e1
          exact no ⟨j, y, hy', oy, e'⟩
        · exact nn rfl
      · rcases get_set q with ⟨e1, _⟩ | ⟨_, q'⟩
        · exact nk e1
        · exact s.dis j k c y z jk hy' hz' oy oz e' q'
/-- an own object is changed -/
theorem SR.updAt (s : SR g F H σ ρ b) (hx : ρ[i]? = some x0) (ox : x0.isOwn = true) (hv : σ[i]? = some (some (.ref a))) (z2 : F a = none) (z3 : g.H0 a = none) (z4 : ¬ g.inS a) (r : SlOk g F (upd H a u) (some (.ref a)) x') (ox' : x'.isOwn = true) : SR g F (upd H a u) σ (ρ.set i x') b := by
  have ne : ∀ (j : Nat) (c : Addr) (z : Sl), j ≠ i → ρ[j]? = some z → z.isOwn = true → σ[j]? = some (some (.ref c)) → c ≠ a := fun j c z hj hz oz e q => by
    subst q
    exact s.dis i j c _ z (Ne.symm hj) hx hz ox oz hv e
  refine ⟨fun c o e => by rw [upd_ne (ne_of_none e z2)]; exact s.sub c o e, s.f0, fun c o e n => by rw [upd_ne (ne_of_none e z3)]; exact s.keep c o e n, s.new, ?_, ?_, fun p l e => ?_, s.tabK (Same.refl _) fun p q m => ⟨fun o e => by rw [upd_ne (Cn.tabNe z4 m)]; exact e, (s.tabs p q m).1⟩⟩
  · refine Paired.setImp s.slots hv r fun j v z hj h1 h2 q => ?_
    cases q with
    | any v => exact .any v
    | val r => exact .val r
    | own y1 y2 y3 y4 y5 => exact .own (by rw [upd_ne (ne j _ _ hj h2 rfl h1)]; exact y1) y2 y3 y4 y5
    | ownD y1 y2 y3 y4 y5 => exact .ownD (by rw [upd_ne (ne j _ _ hj h2 rfl h1)]; exact y1) y2 y3 y4 y5
    | ownS y1 y2 y3 y4 y5 => exact .ownS (by rw [upd_ne (ne j _ _ hj h2 rfl h1)]; exact y1) y2 y3 y4 y5
    | strm e => exact .strm e
    | pin h => exact .pin h
  · intro j k c y z jk hy hz oy oz e
    rcases get_set hy with ⟨rfl, rfl, _⟩ | ⟨nj, hy'⟩
    · rcases get_set hz with ⟨rfl, rfl, _⟩ | ⟨nk, hz'⟩
      · exact absurd rfl jk
      · exact s.dis _ _ _ _ _ jk hx hz' ox oz e
    · rcases get_set hz with ⟨rfl, rfl, _⟩ | ⟨nk, hz'⟩
      · exact s.dis _ _ _ _ _ jk hy' hx oy ox e
      · exact s.dis _ _ _ _ _ jk hy' hz' oy oz e
  · obtain ⟨h1, h2, h3, ns, c, n, m, q1, q2, q3⟩ := s.strm p l e
    exact ⟨h1, h2, h3, ns, c, n, m, by rw [upd_ne fun z => z4 (.inl ⟨p, l, e, .inl z.symm⟩)]; exact q1, by rw [upd_ne fun z => z4 (.inl ⟨p, l, e, .inr z.symm⟩)]; exact q2, q3⟩
end
/-! ### sets of tuples of ints -/
def ownS (i : Nat) (ρ : Env') : Option (List (List Int)) := match ρ[i]? with
  | some (.ownS ks) => some ks
  | _ => none
theorem ownS_of {i : Nat} {ρ : Env'} {ks : List (List Int)} (h : ownS i ρ = some ks) : ρ[i]? = some (.ownS ks) := by
  unfold ownS at h
  cases e : ρ[i]? with
  | none => rw [e] at h; cases h
  | some x =>
    rw [e] at h
    cases x <;> first
      | (cases h; rfl)
      | cases h
theorem SR.setAt {g : Cn} {F H : Hp} {σ : Sg} {ρ : Env'} {b i : Nat} {ks : List (List Int)} (s : SR g F H σ ρ b) (hx : ρ[i]? = some (.ownS ks)) : ∃ a L, σ[i]? = some (some (.ref a)) ∧ H a = some (g.so a L) ∧ F a = none ∧ g.H0 a = none ∧ ¬ g.inS a ∧ MemP g.K F L ks := by
  obtain ⟨v, hv, sl⟩ := Paired.get1 s.slots hx
  cases sl with
  | ownS z1 z2 z3 z4 z5 => exact ⟨_, _, hv, z1, z2, z3, z4, z5⟩
def sSet0 (i : Nat) : Env' → M Fl := fun ρ => .ret (.next (ρ.set i (.ownS [])))
def eInS (neg : Bool) (i : Nat) (fa : Env' → M T) : Env' → M T := fun ρ => (fa ρ).bind fun t => match tupI t, ownS i ρ with
  | some k, some ks => .ret (.bl (if neg = true then !decide (k ∈ ks) else decide (k ∈ ks)))
  | _, _ => .stuck
def sAddS (i : Nat) (fa : Env' → M T) : Env' → M Fl := fun ρ => match ownS i ρ with
  | some ks => (fa ρ).bind fun t => match tupI t with
    | some k => if decide (ks.length + 1 < 64) = true then .ret (.next (ρ.set i (.ownS (if k ∈ ks then ks else k :: ks)))) else .stuck
    | none => .stuck
  | none => .stuck
def retK : Option (List (List Int)) → M (List T)
  | some js => .ret (js.map iT)
  | none => .stuck
def nSortS (i : Nat) : Env' → M (List T) := fun ρ => match ownS i ρ with
  | some ks => retK (sortK ks)
  | none => .stuck
section
variable {X : Cx} {g : Cn} {W : WX} {k i : Nat} {pos p apos pos' : Pos} {a e : Expr} {fa : Env' → M T} {x y : Str}
theorem ds_set0 {hN : X.N.Nodup} (hi : X.N[i]? = some x) (hx : Loc X.env.scope x) (hm : X.mg "set" = none) (hg : Gl X "set" := by rfl) (hs : swapsWith (.Call (.Name "set" p) [] [] pos) (some (.Name x pos')) apos.line X.env = pure false := by rfl)
    (hf : X.fn x = true ∨ X.env.scope.names.lookup x = some .local := by first | exact .inl rfl | exact .inr rfl | assumption) (hso : g.so = SetTO X.prog X.w := by rfl) :
    DS X g W (.Assign [.Name x pos'] (.Call (.Name "set" p) [] [] pos) apos) (sSet0 i) :=
  ps_imp (ps_set hN hi hx (pe_callTy0 cr_set0T hg hm (by decide +kernel) (by decide) (by decide)) hs hf) fun D σ H ⟨ρ, F, b, s, q⟩ => ⟨rfl, fun p hp => by
    obtain ⟨h0, ns, hf, no⟩ := s.h0 hp
    have z : SlOk g F (upd H p (g.so p [])) (some (.ref p)) (.ownS []) := .ownS (L := []) upd_same hf h0 ns (MemP.mk (fun _ h => by cases h) (List.Perm.refl []))
    have q1 := q _ _ F (Same.refl _) (s.setNew (u := g.so p []) i hp z)
    rw [hso] at q1
    exact q1⟩
theorem inS_read {σ : Sg} {H : Hp} {Q : VK} (neg : Bool) (hK : X.K = g.K) (hso : g.so = SetTO X.prog X.w) (h : tD g W (eInS neg i fa) σ H Q) : tOp (rInT X neg) (tD g W fa) (tVar i) σ H Q := by
  obtain ⟨ρ, F, b, s, q⟩ := h
  refine ⟨ρ, F, b, s, M.wp_mono (M.wp_bind.mp q) (fun b1 t q1 v H1 F1 s1 r1 => ?_) fun _ _ _ z => z⟩
  cases e1 : tupI t with
  | none => rw [e1] at q1; exact q1.elim
  | some j =>
    cases e2 : ownS i ρ with
    | none => rw [e1, e2] at q1; exact q1.elim
    | some ks =>
      rw [e1, e2] at q1
      rw [tupI_eq e1] at r1
      obtain ⟨c, rfl, hc⟩ := rep_iT r1
      obtain ⟨d, L, y1, y2, _, _, _, y6⟩ := s1.sr.setAt (ownS_of e2)
      rw [hso] at y2
      refine ⟨_, y1, c, d, j, L, rfl, rfl, by rw [hK]; exact sqT_ext' s1.sr.sub hc, y2, fun p hp => by rw [hK]; exact sqT_ext' s1.sr.sub (y6.mem p hp), ?_⟩
      have e3 : decide (j ∈ L.map (·.2)) = decide (j ∈ ks) := decide_eq_decide.mpr y6.perm.mem_iff
      rw [e3]
      exact q1 _ H1 F1 s1 (.bl _)
theorem de_inS (hr : Room k X.A) (ha : DE X g W a fa) (hv : PE X e (tVar i)) (hm : behindInMarks .In e = false := by rfl) (hK : X.K = g.K := by rfl) (hso : g.so = SetTO X.prog X.w := by rfl) : DE X g W (.Compare a [.In] [e] pos) (eInS false i fa) :=
  pe_imp (pe_cmpR (or_inT hr.units) ha hv hm) fun σ H Q h => inS_read false hK hso h
theorem de_ninS (hr : Room k X.A) (ha : DE X g W a fa) (hv : PE X e (tVar i)) (hm : behindInMarks .NotIn e = false := by rfl) (hK : X.K = g.K := by rfl) (hso : g.so = SetTO X.prog X.w := by rfl) : DE X g W (.Compare a [.NotIn] [e] pos) (eInS true i fa) :=
  pe_imp (pe_cmpR (or_ninT hr.units) ha hv hm) fun σ H Q h => inS_read true hK hso h
theorem dt_inS (hr : Room k X.A) (ha : DE X g W a fa) (hv : PE X e (tVar i)) (hm : behindInMarks .In e = false := by rfl) (hK : X.K = g.K := by rfl) (hso : g.so = SetTO X.prog X.w := by rfl) : DT X g W (.Compare a [.In] [e] pos) (e1 boolT (eInS false i fa)) :=
  pt_imp (pt_cmpR (or_inT hr.units) ha hv hm) fun σ H Q h => inS_read false hK hso (test_read h)
theorem dt_ninS (hr : Room k X.A) (ha : DE X g W a fa) (hv : PE X e (tVar i)) (hm : behindInMarks .NotIn e = false := by rfl) (hK : X.K = g.K := by rfl) (hso : g.so = SetTO X.prog X.w := by rfl) : DT X g W (.Compare a [.NotIn] [e] pos) (e1 boolT (eInS true i fa)) :=
  pt_imp (pt_cmpR (or_ninT hr.units) ha hv hm) fun σ H Q h => inS_read true hK hso (test_read h)
theorem dn_sortedS (hc : X.calm = true) (hm : X.mg "sorted" = none) (hv : PE X e (tVar i)) (hg : Gl X "sorted" := by rfl) (he : starEach (e :: []) X.env = (false, eval e X.env) :: starEach [] X.env := by rfl) (hpl : (backTo pos (starEach [] X.env)).any (·.1) = false := by rfl) (hK : X.K = g.K := by rfl) (hso : g.so = SetTO X.prog X.w := by rfl) :
    DN X g W (.Call (.Name "sorted" p) [e] [] pos) (nSortS i) :=
  pe_imp (pe_callB (cr_sortedT hc) hg hm (by decide +kernel) (pa_cons hv pa_nil he) (by decide) (by decide) he hpl) fun σ H Q ⟨ρ, F, b, s, q⟩ => by
    unfold nSortS at q
    cases e2 : ownS i ρ with
    | none => rw [e2] at q; exact q.elim
    | some ks =>
      rw [e2] at q
      have q : (retK (sortK ks)).wp b _ _ := q
      cases e3 : sortK ks with
      | none => rw [e3] at q; exact q.elim
      | some js =>
        rw [e3] at q
        obtain ⟨d, L, y1, y2, _, _, _, y6⟩ := s.setAt (ownS_of e2)
        rw [hso] at y2
        unfold sortK at e3
        by_cases ck : okC (dimI ks) (topI ks) ks = true
        · rw [if_pos ck] at e3
          cases e3
          obtain ⟨hd, hb⟩ := okC_of ck
          refine ⟨_, y1, d, L, dimI ks, topI ks, rfl, y2, fun p hp => by rw [hK]; exact sqT_ext' s.sub (y6.mem p hp), hd, fun p hp => hb _ (y6.perm.mem_iff.mp (List.mem_map_of_mem hp)), fun L' pp pm nd few pw hp => ?_⟩
          have e4 := sort_uniq ck ((pm.map (·.2)).trans y6.perm) (List.pairwise_map.mpr pw)
          rw [← e4] at q
          refine q pp _ H _ F (Step.refl s) hp rfl ?_
          have z : ∀ M : List (Addr × List Int), (∀ p ∈ M, SqT g.K F p.1 (p.2.map V.int)) → Reps g.K F (M.map fun q => V.ref q.1) ((M.map (·.2)).map iT) := by
            intro M
            induction M with
            | nil => exact fun _ => .nil
            | cons m M ih => exact fun h => .cons (iT_rep (h m List.mem_cons_self)) (ih fun p hp => h p (List.mem_cons_of_mem _ hp))
          exact z L' fun p hp => y6.mem p (pm.mem_iff.mp hp)
        · rw [if_neg ck] at e3
          cases e3
theorem ds_addS (hr : Room k X.A) (hv : PE X a (tVar i)) (he : DE X g W e fa)
    (hbase : attributeBase a "add" X.env (eval a X.env) = eval a X.env := by rfl)
    (hfew : ((backTo pos (starEach (e :: []) X.env)).all (fun x => !x.1) && (backToKw pos (keywordEach [] X.env)).all (fun x => x.1.isSome)
      && decide ((e :: []).length + ([] : List Keyword).length + (if ([] : List Keyword).isEmpty then 0 else 1) < 30)) = true := by rfl)
    (hline : (apos.endLine == pos.line) = true := by rfl) (hs : starEach (e :: []) X.env = (false, eval e X.env) :: starEach [] X.env := by rfl) (hplain : (backTo pos (starEach [] X.env)).any (·.1) = false := by rfl)
    (hsw : swapsWith (.Call (.Attribute a "add" apos) [e] [] pos) none pos'.line X.env = pure false := by rfl) (hK : X.K = g.K := by rfl) (hso : g.so = SetTO X.prog X.w := by rfl) :
    DS X g W (.Expr (.Call (.Attribute a "add" apos) [e] [] pos) pos') (sAddS i fa) :=
  ps_imp (ps_expr (pe_addT hr.units hv (pa_cons he pa_nil hs) hbase hfew hline hs hplain) hsw) fun D σ H ⟨ρ, F, b, s, q⟩ => by
    unfold sAddS at q
    cases e2 : ownS i ρ with
    | none => rw [e2] at q; exact q.elim
    | some ks =>
      rw [e2] at q
      obtain ⟨d, L, y1, y2, y3, y4, y5, y6⟩ := s.setAt (ownS_of e2)
      have y2' := y2
      rw [hso] at y2'
      refine ⟨_, y1, ⟨d, L, rfl, y2'⟩, ρ, F, b, s, M.wp_mono (M.wp_bind.mp q) (fun b1 t q1 v H1 F1 s1 r1 => ?_) fun _ _ _ z => z.ex⟩
      cases e1 : tupI t with
      | none => rw [e1] at q1; exact q1.elim
      | some j =>
        rw [e1] at q1
        obtain ⟨few, q2⟩ := if_of q1
        have few := of_decide_eq_true few
        rw [tupI_eq e1] at r1
        obtain ⟨c, rfl, hc⟩ := rep_iT r1
        obtain ⟨d', L1, w1, w2, w3, w4, w5, w6⟩ := s1.sr.setAt (ownS_of e2)
        rw [y1] at w1
        cases w1
        have w2' := w2
        rw [hso] at w2'
        refine ⟨d, c, j, L1, rfl, rfl, by rw [hK]; exact sqT_ext' s1.sr.sub hc, w2', fun p hp => by rw [hK]; exact sqT_ext' s1.sr.sub (w6.mem p hp), ?_, fun L' g1 g2 => ?_⟩
        · have := w6.perm.length_eq
          rw [List.length_map] at this
          omega
        · have mp : MemP g.K F1 L' (if j ∈ ks then ks else j :: ks) := by
            by_cases hm : j ∈ ks
            · rw [if_pos hm, g1 (w6.perm.mem_iff.mpr hm)]
              exact w6
            · rw [if_neg hm]
              have pm := g2 fun z => hm (w6.perm.mem_iff.mp z)
              refine ⟨fun p hp => ?_, (pm.map fun p : Addr × List Int => p.2).trans (w6.perm.cons j)⟩
              rcases List.mem_cons.mp (pm.mem_iff.mp hp) with rfl | h
              · exact hc
              · exact w6.mem p h
          have z := q2 σ (upd H1 d (g.so d L')) F1 s1.ext (s1.sr.updAt (ownS_of e2) rfl y1 w3 w4 w5 (.ownS (L := L') upd_same w3 w4 w5 mp) rfl)
          rw [hso] at z
          exact z
end
end DP
end
section
set_option Elab.async false
set_option linter.all false
set_option maxRecDepth 100000
/-! enumerate of a tuple -/
namespace PySem
open Sem (wp)
open AutoSeq1 (wpAny_loadPart')
set_option maxHeartbeats 1000000 in
theorem enumT_new (t : Addr) (items : Array Value) : Meets (Builtin.«enumerate.__new__» ⟨[.type "enumerate", .ref t], []⟩) (fun _ R s => s.heap.IsTuple t items ∧
    R (.ok (.ret (.ref (s.heap.push { cls := .type "tuple_iterator", data := .fields #[.ref t, .int 0 0] }).objs.size)))
      { s with heap := (s.heap.push { cls := .type "tuple_iterator", data := .fields #[.ref t, .int 0 0] }).push { cls := .type "enumerate", data := .fields #[.none, .bool false, .ref s.heap.objs.size, rawInt 0, .none, .none] } }) :=
  .of_wp fun prog w A R s h => by
    obtain ⟨hp, g, d, tk, os⟩ := s
    obtain ⟨hl, h⟩ := h
    have hsub := sub_enumerate
    obtain ⟨⟨c, dct, dt, sl⟩, ho, hc, n, hd⟩ := id hl
    replace hc : c = .type "tuple" := hc
    replace hd : dt = .seq items n := hd
    subst hc hd
    have hL : Heap.IsTuple (Shared.heap ⟨hp, g, d, tk, os⟩) t items := hl
    wp_walk using wpAny_loadPart' ho
    refine wpAny_stack_any fun st => wpAny_pure ?_
    split
    · rename_i c _ _ _ _ _
      cases (c == Value.type "enumerate") <;>
      · wp_walk using wpAny_loadPart' ho, wpAny_pyIter_tuple hL
        exact ⟨_, rfl, h⟩
    · wp_walk using wpAny_loadPart' ho, wpAny_pyIter_tuple hL
      exact ⟨_, rfl, h⟩
theorem drawsT {prog : Program} {w : World} {A : Around} (hh : A.handled = none) (it t : Addr) (hne : t ≠ it) (items : Array Value) :
    Draws prog w A it [it, t] items.size (fun i v => items[i]? = some v) (fun i h => h.IsTupleIter it t i ∧ h.IsTuple t items) where
  live := fun _ _ st => let ⟨o, ho, _⟩ := st.1; ⟨o, ho⟩
  frame := fun _ _ _ st hk => ⟨st.1.at fun o e => hk it (by simp) o e, let ⟨o, ho, r⟩ := st.2; ⟨o, hk t (by simp) o ho, r⟩⟩
  item := fun i s Q E hi st hQ => by
    refine RZ.nextOf_tuple_item st.1 st.2 (x := items[i]) (by simp [hi]) fun h' hit' hs' => ?_
    exact hQ _ h' s.toks (by simp [hi]) ⟨hit', let ⟨o, ho, r⟩ := st.2; ⟨o, (hs'.2 t hne).trans ho, r⟩⟩ hs'
  done := fun s Q E st hE => RZ.nextOf_tuple_end hh st.1 st.2 (by simp) hE
section
variable {prog : Program} {w : World} {A : Around} {E : Value → Shared → Prop} {s : Shared}
theorem call_enumT {t : Addr} {items : Array Value} {Q : Value → Shared → Prop} (hL : s.heap.IsTuple t items)
    (h : ∀ h', IsEnum h' (s.heap.objs.size + 1) s.heap.objs.size 0 .none → h'.IsTupleIter s.heap.objs.size t 0 → h'.objs.size = s.heap.objs.size + 2 →
      (∀ b o, s.heap.get? b = some o → h'.get? b = some o) → Q (.ref (s.heap.objs.size + 1)) { s with heap := h' }) : wpAny (model prog w) A (call (.type "enumerate") [.ref t]) Q E s := by
  refine callType_new F.called_enumerate (by decide) (F.typeCall_enumerate_1 _) (F.newCall_enumerate_1 _) (fun obj => F.args_object_init_2 obj _) F.entry_enumerate_new (enumT_new t items) ⟨hL, ?_⟩
  have hz : (s.heap.push { cls := .type "tuple_iterator", data := .fields #[.ref t, .int 0 0] }).objs.size = s.heap.objs.size + 1 := Heap.size_push ..
  show _ ∧ _
  rw [hz]
  have he : IsEnum ((s.heap.push { cls := .type "tuple_iterator", data := .fields #[.ref t, .int 0 0] }).push
      { cls := .type "enumerate", data := .fields #[.none, .bool false, .ref s.heap.objs.size, rawInt 0, .none, .none] }) (s.heap.objs.size + 1) s.heap.objs.size 0 .none := by
    have y := Heap.get?_push_size (s.heap.push { cls := .type "tuple_iterator", data := .fields #[.ref t, .int 0 0] }) (o := { cls := .type "enumerate", data := .fields #[.none, .bool false, .ref s.heap.objs.size, rawInt 0, .none, .none] }) rfl
    rw [hz] at y
    exact y
  exact ⟨⟨_, he, rfl⟩, h _ he ⟨_, Heap.get?_push_of_some _ (Heap.get?_push_size _ rfl), rfl, rfl⟩ (by rw [Heap.size_push, hz]) fun b o x => Heap.get?_push_of_some _ (Heap.get?_push_of_some _ x)⟩
end
end PySem
end
section
set_option Elab.async false
set_option linter.all false
set_option maxRecDepth 100000
namespace DP
open PySem PySem.Spec PyProof.Rows L2
/-- the tuple at a, each item in a new pair with its place -/
def IteT (K : PySem.W.Frag) (a : Addr) (n : Nat) : It where
  go := fun i H => ∃ (xs : List V) (x : V), SqT K H a xs ∧ xs.length = n ∧ xs[i]? = some x
  yld := fun i H v H' => ∃ T x, v = .ref T ∧ H T = none ∧ H' = upd H T (.tup [.int (i : Nat), x]) ∧ ∀ xs, SqT K H a xs → xs[i]? = some x
  stop := fun i H => ∃ xs : List V, SqT K H a xs ∧ xs.length = n ∧ xs.length ≤ i
theorem turn_enumT {P : Program} {w : World} {K : PySem.W.Frag} {elts : List Expr} {kk : Nat} {tpos : Pos} (a e it : Addr) (n : Nat) :
    Turn P w K (.Tuple elts kk tpos) (IteT K a n) [e, it] e (fun i h => (∃ old, IsEnum h e it ((i : Nat) : Int) old) ∧ h.IsTupleIter it a i ∧ e ≠ it ∧ e ≠ a ∧ it ≠ a ∧ i ≤ n) where
  mem := by simp
  obj := fun i h st b hb => by
    obtain ⟨⟨old, he⟩, ⟨o, ho, hc, hd⟩, _⟩ := st
    rcases (by simpa using hb : b = e ∨ b = it) with rfl | rfl
    · exact ⟨_, he, fun v q => nomatch q⟩
    · exact ⟨o, ho, fun v q => by rw [hd] at q; cases q⟩
  keep := fun i h h' st k => by
    obtain ⟨⟨old, he⟩, hi, n1⟩ := st
    exact ⟨⟨old, k e (by simp) _ he⟩, hi.at fun o q => k it (by simp) o q, n1⟩
  item := by
    intro X hP hw hK hc i pins s σ H E I hf st hg
    subst hP hw hK
    obtain ⟨⟨old, he⟩, hit, hne, n2, n3, n4⟩ := st
    obtain ⟨xs, x, hq, hn, hx⟩ := hg
    obtain ⟨its, rv, p, hz⟩ := I.tuple hq
    obtain ⟨u, hu, ru⟩ := rv.get hx
    have hel : e < s.heap.objs.size := Heap.lt_size he
    have hil : it < s.heap.objs.size := by
      obtain ⟨_, q, _⟩ := hit
      exact Heap.lt_size q
    have hlt : i < its.toArray.size := by
      have := (List.getElem?_eq_some_iff.mp hu).1
      simpa using this
    refine wpAny_pyNext_enum_itemD (drawsT (by show X.A.handled = none; exact I.ok.hd hc) it a (Ne.symm n3) its.toArray) he ⟨hit, p⟩ hlt hne (by simp [hne, n2]) fun v h' tk hv ho hit' hT hsz hk => ?_
    have ev : v = u := by
      rw [List.getElem?_toArray, hu] at hv
      exact (Option.some.inj hv).symm
    subst ev
    refine ⟨_, rfl, wpAny_letOwnedTupleGo_enum (s := { s with heap := h', toks := tk + 1 }) ho fun h'' he' sb => ?_⟩
    have hT2 := (sb.2 _ (Nat.ne_of_gt hel)).trans hT
    have new : ObjOk X.prog X.w (upd H s.heap.objs.size (.tup [.int (i : Nat), x])) h'' s.heap.objs.size (.tup [.int (i : Nat), x]) :=
      ⟨by show 2 ≤ sizeLine; decide, [.int i tk, v], .cons ⟨_, rfl⟩ (.cons ru .nil), ⟨_, hT2, rfl, _, rfl⟩⟩
    have I1 : Inv X pins σ (upd H s.heap.objs.size (.tup [.int (i : Nat), x])) { s with heap := h'', toks := tk + 1 } :=
      I.turnedNew (ch := [e, it]) (fun b ob hb q => (sb.2 b (fun z => hb (by simp [z]))).trans (hk b ob (fun z => hb (by simp [z])) (fun z => hb (by simp [z])) q)) hf (Nat.le_refl _) new
    refine ⟨.ref s.heap.objs.size, _, I1, rfl, ⟨_, x, rfl, I.hok.fresh (Nat.le_refl _), rfl, fun ys hy => by rw [I.tuple_inj hy hq]; exact hx⟩, ⟨⟨v, ?_⟩, hit'.1.at fun o q => (sb.2 it (Ne.symm hne)).trans q, hne, n2, n3, by have := (List.getElem?_eq_some_iff.mp hx).1; omega⟩, fun b hb => ?_⟩
    · rw [show ((i + 1 : Nat) : Int) = (i : Int) + 1 by omega]
      exact he'
    · have hb' : b < s.heap.objs.size := by
        rcases (by simpa using hb : b = e ∨ b = it) with rfl | rfl
        · exact hel
        · exact hil
      rw [upd_ne (Nat.ne_of_lt hb')]
      exact (hf b hb).1
  done := by
    intro X hP hw hK hc i pins s σ H E I hf st hg
    subst hP hw hK
    obtain ⟨⟨old, he⟩, hit, hne, n2, n3, n4⟩ := st
    obtain ⟨xs, hq, hn, hx⟩ := hg
    obtain ⟨its, rv, p, hz⟩ := I.tuple hq
    obtain ⟨f0, f1, f2, f3, f4, f5⟩ := hf it (by simp)
    have hl := rv.length
    have ei : i = its.toArray.size := by
      show i = its.length
      omega
    subst ei
    exact wpAny_pyNext_enum_endD (drawsT (by show X.A.handled = none; exact I.ok.hd hc) it a (Ne.symm n3) its.toArray) he ⟨hit, p⟩ fun h' eb => ⟨rfl, I.turned (t' := s.toks) (fun b o hb q => eb b o hb q) f0 f1 f3 f4 f5⟩
  self := fun A i s Q E st h => by
    obtain ⟨⟨_, he⟩, _⟩ := st
    exact wpAny_pyIter_enum he h
/-- enumerate of a list or of a tuple -/
def iEnumB (K : PySem.W.Frag) (ta : TA) : TI := fun σ H R => ta σ H fun vs H1 => ∃ a xs, vs = [.ref a] ∧ ((SqL K H1 a xs ∧ R (Ite K a) H1) ∨ (SqT K H1 a xs ∧ R (IteT K a xs.length) H1))
theorem pi_enumB {X : Cx} {e : Expr} {ta : TA} {p pos tpos : Pos} {elts : List Expr} {kk : Nat} (hg : Gl X "enumerate") (hm : X.mg "enumerate" = none) (ha : PA X [e] ta)
    (hs : starEach [e] X.env = [(false, eval e X.env)] := by rfl) : PI X (.Tuple elts kk tpos) (.Call (.Name "enumerate" p) [e] [] pos) (iEnumB X.K ta) := by
  refine ⟨fun pins s σ H R I h => ?_⟩
  refine Call_ (ld_blt I hg hm boot_enumerate ?_)
  refine PyProof.Rows.callWith_type1 (thn (ha.run pos pins s σ H _ I h) fun us s1 hh => ?_) hs rfl
  obtain ⟨vs, H1, I1, r1, a, xs, rfl, hq⟩ := hh
  cases r1 with
  | cons r rr =>
    cases rr
    cases r
    have late : ∀ b, (b = s1.heap.objs.size + 1 ∨ b = s1.heap.objs.size) → s1.heap.objs.size ≤ b := fun b h => by
      rcases h with rfl | rfl
      · exact Nat.le_add_right _ _
      · exact Nat.le_refl _
    rcases hq with ⟨hq, q⟩ | ⟨hq, q⟩
    · obtain ⟨its, rv, p', hz⟩ := I1.list hq
      refine call_enumerate_list p'.isList fun h' he hit hsz hk => wpAny_pyIter_enum he ?_
      have I2 : Inv X pins σ H1 { s1 with heap := h' } := I1.kept (t' := s1.toks) hk
      refine ⟨s1.heap.objs.size + 1, [s1.heap.objs.size + 1, s1.heap.objs.size], _, _, H1, rfl, I2,
        turn_enum a (s1.heap.objs.size + 1) s1.heap.objs.size, ⟨⟨.none, he⟩, hit, Nat.succ_ne_self _⟩, fun b hb => ?_, q⟩
      have hle := late b (by simpa using hb)
      exact I1.fpOk hle (I1.hok.fresh hle)
    · obtain ⟨its, rv, p', hz⟩ := I1.tuple hq
      have hal : a < s1.heap.objs.size := by
        obtain ⟨o, ho, _⟩ := p'
        exact Heap.lt_size ho
      refine call_enumT p' fun h' he hit hsz hk => wpAny_pyIter_enum he ?_
      have I2 : Inv X pins σ H1 { s1 with heap := h' } := I1.kept (t' := s1.toks) hk
      refine ⟨s1.heap.objs.size + 1, [s1.heap.objs.size + 1, s1.heap.objs.size], _, _, H1, rfl, I2, turn_enumT a (s1.heap.objs.size + 1) s1.heap.objs.size xs.length,
        ⟨⟨.none, he⟩, hit, Nat.succ_ne_self _, Nat.ne_of_gt (Nat.lt_succ_of_lt hal), Nat.ne_of_gt hal, Nat.zero_le _⟩, fun b hb => ?_, q⟩
      have hle := late b (by simpa using hb)
      exact I1.fpOk hle (I1.hok.fresh hle)
end DP
end
section
set_option Elab.async false
set_option linter.all false
set_option maxRecDepth 100000
namespace DP
open PySem PySem.Spec PyProof.Rows L2
/-- enumerate of a list or of a tuple -/
def enumB : List T → M (List T)
  | [.lst ts] => .ret (enumL ts)
  | [.tup ts] => .ret (enumL ts)
  | [.pn _ ts] => .ret (enumL ts)
  | _ => .stuck
section
variable {X : Cx} {g : Cn} {W : WX} {k : Nat} {pos p tpos : Pos} {a c tg : Expr} {elts : List Expr} {kk : Nat} {fs : Env' → M (List T)}
theorem wk_enumT {b : Addr} {F : Hp} {vs : List V} {ts : List T} (hK : X.K = g.K) (h : SqT g.K F b vs) (r : Reps g.K F vs ts) : Wk g (IteT X.K b vs.length) F (enumL ts) where
  go := fun i F2 H e1 e2 hi => by
    have hi : i < ts.length := by simpa [enumL] using hi
    exact ⟨vs, vs[i]'(by rw [r.length]; exact hi), by rw [hK]; exact sqT_ext' (e1.trans e2) h, rfl, by simp [r.length, hi]⟩
  stop := fun F2 H e1 e2 => ⟨vs, by rw [hK]; exact sqT_ext' (e1.trans e2) h, rfl, by rw [r.length]; simp [enumL]⟩
  yld := fun i F2 H x H' t e1 e2 ht y => .inr (by
    obtain ⟨q, z, rfl, hq, rfl, hz⟩ := y
    have hv := hz vs (by rw [hK]; exact sqT_ext' (e1.trans e2) h)
    obtain ⟨u, hu, ru⟩ := r.get hv
    have et : (enumL ts)[i]? = some (.tup [.int (i : Nat), u]) := by unfold enumL; rw [List.getElem?_mapIdx, hu]; rfl
    rw [et] at ht
    cases ht
    exact ⟨q, _, _, hq, rfl, rfl, rfl, .cons (.int _) (.one (ru.ext e1))⟩)
theorem di_enumB (hm : X.mg "enumerate" = none) (ha : DA X g W [a] fs) (hg : Gl X "enumerate" := by rfl) (hs : starEach [a] X.env = [(false, eval a X.env)] := by rfl) (hK : X.K = g.K := by rfl) : DI X g W (.Tuple elts kk tpos) (.Call (.Name "enumerate" p) [a] [] pos) (e1 enumB fs) :=
  pi_imp (pi_enumB hg hm ha hs) fun σ H R ⟨ρ, F, b, s, q⟩ => ⟨ρ, F, b, s, M.wp_mono (M.wp_bind.mp q) (fun b1 ts q1 vs H1 F1 s1 r => by
    rcases r with _ | ⟨r1, _ | ⟨r2, r3⟩⟩
    · exact q1.elim
    · cases r1 with
      | lst h1 h2 => exact ⟨_, _, rfl, .inl ⟨SqL.of (s1.sr.sub _ _ h1), q1 _ F1 H1 s1 (wk_enum hK h1 h2)⟩⟩
      | pn h1 h2 => exact ⟨_, _, rfl, .inl ⟨SqL.of (s1.sr.sub _ _ h1), q1 _ F1 H1 s1 (wk_enum hK h1 h2)⟩⟩
      | tup h1 h2 => exact ⟨_, _, rfl, .inr ⟨by rw [hK]; exact sqT_ext' s1.sr.sub h1, q1 _ F1 H1 s1 (wk_enumT hK h1 h2)⟩⟩
      | _ => exact q1.elim
    · cases r1 <;> exact q1.elim) fun _ _ _ z => z⟩
end
end DP
end
section
set_option Elab.async false
set_option linter.all false
set_option maxRecDepth 100000
namespace DP
open PySem PySem.Spec PyProof.Rows L2

/-! ### a law's own call: the stream is made of the script, then the body runs -/
def spStream (K : KF) : Sp := fun vs H Q _ => ∃ (a : Addr) (ns : List Int), vs = [.ref a] ∧ SqL K H a (ns.map V.int) ∧ ∀ s l, H s = none → H l = none → s ≠ l → Q (.ref s) (upd (upd H l (.lst (ns.map V.int))) s (.lst [.ref l, .int 0, .int 0, .int 17]))
theorem stream_len {K : KF} {vs : List V} {H : Hp} {Q : VK} {E : XK} (h : spStream K vs H Q E) : vs.length = 1 := by
  obtain ⟨a, ns, rfl, _⟩ := h
  rfl
theorem stream_read {X : Cx} {K : KF} (hK : X.K = K) {vs : List V} {H : Hp} {Q : VK} {E : XK} (h : spStream K vs H Q E) : tRet (tLst (tCons (tCB (fun xs H Q => ∃ p ys, xs = [.ref p] ∧ (SqL X.K H p ys ∨ SqT X.K H p ys) ∧ ∀ l, H l = none → Q (.ref l) (upd H l (.lst ys))) (tCons (tVar 0) tNil))
    (tCons (tC (.int 0)) (tCons (tC (.int 0)) (tCons (tC (.int 17)) tNil))))) { nx := fun _ H' => Q .non H', rt := Q } (start ["script"] vs) H := by
  obtain ⟨a, ns, rfl, h1, h2⟩ := h
  refine ⟨_, rfl, a, _, rfl, .inl (by rw [hK]; exact h1), fun l hl => ⟨(by show 4 ≤ sizeLine; decide), fun s hs => ?_⟩⟩
  have ne : s ≠ l := fun e => by rw [e, upd_same] at hs; cases hs
  rw [upd_ne ne] at hs
  exact h2 s l hs hl ne
def spLaw (K : KF) : Sp := fun vs H Q _ => ∃ (a : Addr) (ns : List Int), vs = [.ref a] ∧ SqL K H a (ns.map V.int) ∧ ∀ H', Q (.bl true) H'
theorem any_all {g : Cn} {F H : Hp} : ∀ σ : Sg, Paired (SlOk g F H) σ (List.replicate σ.length Sl.any)
  | [] => .nil
  | v :: σ => .cons (.any v) (any_all σ)
def tLaw (K : KF) (Xc : Str → Addr × Str) (so : Addr → List (Addr × List Int) → HO) (TT : List (Addr × Str)) (W : WX) (G : Env' → M Fl) : TS := fun D σ H => ∃ s l, tDS ⟨K, H, fun _ => none, some (s, l), Xc, none, so, TT⟩ W G D σ H
section
variable {P : Program} {w : World} {K : KF} {mg : Str → Option Value} {base : Heap} {Xc : Str → Addr × Str} {x qual : Str} {sd st0 : Stmt} {rest : List Stmt} {fa : Addr} {fd : FuncData} {N : List Str} {k i : Nat} {G : Env' → M Fl}
theorem law_deep (F : Fun K x qual sd fa fd) (S : FnScope N ["script"] (defScope sd)) (hb : defBody sd = st0 :: rest)
    (h0 : ∀ (cdv : Value) (A : Around) (outer : List Env) (s : Shared) (H : Hp) (E : XK), Room k (A.deeper (envOfC qual (defScope sd) s.heap.objs.size fa cdv)) →
      PS (cxOf (L2.CX P w) P w K mg base N qual (defScope sd) fa cdv A outer s H E) st0 (tAsg (tCall (spStream K) [] E0 (tCons (tVar 0) tNil)) (gName i)))
    (body : ∀ (cdv : Value) (A : Around) (outer : List Env) (s : Shared) (H : Hp) (E : XK) (H0 : Hp) (S0 : Option (Addr × Addr)), Room k (A.deeper (envOfC qual (defScope sd) s.heap.objs.size fa cdv)) →
      DSs (cxOf (L2.CX P w) P w K mg base N qual (defScope sd) fa cdv A outer s H E) ⟨K, H0, fun _ => none, S0, Xc, none, SetTO P w, []⟩ (fun cls d _ H => E cls d H) rest G)
    (good : (G ((List.replicate N.length Sl.any).set i .strm)).wp (10 ^ 13) (fun _ fl => fl = .ret (.bl true)) fun _ _ _ => False) : FnOk P w K mg base (L2.CX P w) (k + 1) fa fd ["script"] (spLaw K) := by
  refine F.okX S (fun vs H Q E h => ?_) fun cdv A outer sh H vs Q E hr h => ?_
  · obtain ⟨a, ns, rfl, _⟩ := h
    rfl
  obtain ⟨a, ns, rfl, h1, h2⟩ := h
  have hN : 1 ≤ N.length := by
    have := congrArg List.length S.pre
    rw [List.length_take] at this
    simp at this
    omega
  have z0 : (L2.start N [V.ref a])[0]? = some (some (V.ref a)) := rfl
  have zl : (L2.start N [V.ref a]).length = N.length := by
    unfold L2.start
    simp
    omega
  generalize hσ : L2.start N [V.ref a] = σ at z0 zl
  rw [hb]
  refine ⟨_, pss_cons (h0 cdv A outer sh H E hr) (PSs.mk (t := tLaw K Xc (SetTO P w) [] (fun cls d _ H => E cls d H) G) fun pins s σ1 H1 D I q => ?_), ?_⟩
  · obtain ⟨s', l', q⟩ := q
    exact (body cdv A outer sh H E H1 (some (s', l')) hr).run pins s σ1 H1 D I q
  · refine ⟨_, z0, a, ns, rfl, h1, fun s l hs hl ne => ?_⟩
    refine ⟨s, l, (List.replicate N.length Sl.any).set i .strm, fun _ => none, 10 ^ 13, ⟨fun _ _ e => (nomatch e), Same.refl _, fun _ _ e _ => e, fun _ _ _ e => e, ?_, fun j j' c y z _ hy _ oy _ => ?_, fun p q e => ?_, fun p q m => absurd m List.not_mem_nil⟩, M.wp_mono good (fun b fl z => ?_) fun _ _ _ z => z.elim⟩
    · rw [← zl]
      exact Paired.set2 (.strm rfl) i (any_all σ)
    · have : y.isOwn = false := by
        rcases List.mem_or_eq_of_mem_set (List.mem_of_getElem? hy) with h | h
        · rw [(List.mem_replicate.mp h).2]; rfl
        · rw [h]; rfl
      rw [this] at oy
      cases oy
    · cases e
      exact ⟨rfl, rfl, ne, ns, 0, 0, 17, upd_same, by rw [upd_ne ne.symm]; exact upd_same, by decide, by decide, by decide, by decide, by decide⟩
    · subst z
      exact fun v σ' ρ' H' F' _ _ r => by
        cases r
        exact h2 H'
end
end DP
end
section
set_option Elab.async false
set_option linter.all false
set_option maxRecDepth 100000
namespace DP
open PySem PySem.Spec PyProof.Rows L2
/-- sum of a list of ints -/
def sumT : List T → M T
  | [.lst ts] => match intsT ts with
    | some ns => .ret (.int ns.sum)
    | none => .stuck
  | _ => .stuck
def min2T : List T → M T
  | [.int i, .int j] => .ret (.int (if j < i then j else i))
  | _ => .stuck
def max2T : List T → M T
  | [.int i, .int j] => .ret (.int (if j > i then j else i))
  | _ => .stuck
section
variable {X : Cx} {g : Cn} {W : WX} {k : Nat} {pos p p2 pos2 : Pos} {a e : Expr} {fa fe : Env' → M T}
theorem c_sum (hK : X.K = g.K) : Cal g W (rSum X.K) sumT := fun σ ρ F H b vs ts Q s r q => by
  rcases r with _ | ⟨r1, _ | ⟨r2, r3⟩⟩
  · exact q.elim
  · cases r1 with
    | @lst a vs ts h1 h2 =>
      have q : (match intsT ts with | some ns => M.ret (T.int ns.sum) | none => .stuck).wp b _ _ := q
      cases e1 : intsT ts with
      | none => rw [e1] at q; exact q.elim
      | some ns =>
        rw [e1] at q
        rw [intsT_eq e1] at h2
        rw [reps_ints h2] at h1
        exact ⟨a, ns, rfl, SqL.of (s.sub _ _ h1), q _ H F (Step.refl s) (.int _)⟩
    | _ => exact q.elim
  · cases r1 <;> exact q.elim
theorem c_min2 : Cal g W (fun xs H Q => ∃ i j, xs = [V.int i, V.int j] ∧ Q (.int (if j < i then j else i)) H) min2T := fun σ ρ F H b vs ts Q s r q => by
  rcases r with _ | ⟨r1, _ | ⟨r2, _ | ⟨r3, r4⟩⟩⟩
  · exact q.elim
  · cases r1 <;> exact q.elim
  · cases r1 <;> first
      | exact q.elim
      | (cases r2 <;> first
          | exact q.elim
          | exact ⟨_, _, rfl, q _ H F (Step.refl s) (.int _)⟩)
  · cases r1 <;> first
      | exact q.elim
      | (cases r2 <;> exact q.elim)
theorem c_max2 : Cal g W (fun xs H Q => ∃ i j, xs = [V.int i, V.int j] ∧ Q (.int (if j > i then j else i)) H) max2T := fun σ ρ F H b vs ts Q s r q => by
  rcases r with _ | ⟨r1, _ | ⟨r2, _ | ⟨r3, r4⟩⟩⟩
  · exact q.elim
  · cases r1 <;> exact q.elim
  · cases r1 <;> first
      | exact q.elim
      | (cases r2 <;> first
          | exact q.elim
          | exact ⟨_, _, rfl, q _ H F (Step.refl s) (.int _)⟩)
  · cases r1 <;> first
      | exact q.elim
      | (cases r2 <;> exact q.elim)
end
/-- list(range(a)), list(range(a, b)) -/
def rgT (a b : Int) : List T := (List.range (b - a).toNat).map fun i => T.int (a + (i : Nat))
def okRg (a b : Int) : Bool := decide (-(2 ^ 62) ≤ a) && (decide (a < 2 ^ 62) && (decide (-(2 ^ 62) ≤ b) && (decide (b < 2 ^ 62) && decide ((b - a).toNat ≤ 2 ^ 20))))
theorem okRg_of {a b : Int} (h : okRg a b = true) : RgOk a b := by
  unfold okRg at h
  rw [Bool.and_eq_true, Bool.and_eq_true, Bool.and_eq_true, Bool.and_eq_true] at h
  obtain ⟨h1, h2, h3, h4, h5⟩ := h
  exact ⟨of_decide_eq_true h1, of_decide_eq_true h2, of_decide_eq_true h3, of_decide_eq_true h4, Nat.le_trans (of_decide_eq_true h5) (by decide)⟩
theorem rg_reps {K : KF} {F : Hp} (a b : Int) : Reps K F (rgV a b) (rgT a b) := by
  unfold rgV rgT
  induction List.range (b - a).toNat with
  | nil => exact .nil
  | cons i l ih => exact .cons (.int _) ih
def nRg1 : T → M (List T)
  | .int j => if okRg 0 j = true then .ret (rgT 0 j) else .stuck
  | _ => .stuck
def nRg2 : T → T → M (List T)
  | .int i, .int j => if okRg i j = true then .ret (rgT i j) else .stuck
  | _, _ => .stuck
section
variable {X : Cx} {g : Cn} {W : WX} {k : Nat} {pos p p2 pos2 : Pos} {a c : Expr} {fa fc : Env' → M T}
theorem dn_listRg1 (hc : X.calm = true) (hm : X.mg "list" = none) (hm2 : X.mg "range" = none) (ha : DE X g W a fa) (hg : Gl X "list" := by rfl) (hg2 : Gl X "range" := by rfl)
    (na : starEach [.Call (.Name "range" p) [a] [] pos] X.env = (false, eval (.Call (.Name "range" p) [a] [] pos) X.env) :: starEach [] X.env := by rfl) (nb : starEach [a] X.env = (false, eval a X.env) :: starEach [] X.env := by rfl) :
    DN X g W (.Call (.Name "list" p2) [.Call (.Name "range" p) [a] [] pos] [] pos2) (e1 nRg1 fa) :=
  pe_imp (pe_listRg hc hg hm (prg_1 hg2 hm2 ha nb) na) fun σ H Q ⟨ρ, F, b, s, q⟩ => ⟨ρ, F, b, s, M.wp_mono (M.wp_bind.mp q) (fun b1 t q1 v H1 F1 s1 r1 => by
    cases t with
    | int j =>
      cases r1
      obtain ⟨ok, q2⟩ := if_of q1
      exact ⟨j, rfl, okRg_of ok, fun q hq => q2 q _ H1 _ F1 s1 hq rfl (rg_reps _ _)⟩
    | _ => exact q1.elim) fun _ _ _ z => z⟩
theorem dn_listRg2 (hc : X.calm = true) (hm : X.mg "list" = none) (hm2 : X.mg "range" = none) (ha : DE X g W a fa) (hc' : DE X g W c fc) (hg : Gl X "list" := by rfl) (hg2 : Gl X "range" := by rfl)
    (na : starEach [.Call (.Name "range" p) [a, c] [] pos] X.env = (false, eval (.Call (.Name "range" p) [a, c] [] pos) X.env) :: starEach [] X.env := by rfl) (n1 : starEach [a, c] X.env = (false, eval a X.env) :: starEach [c] X.env := by rfl) (n2 : starEach [c] X.env = (false, eval c X.env) :: starEach [] X.env := by rfl)
    (hp : (backTo pos (starEach [c] X.env)).any (·.1) = false := by rfl) : DN X g W (.Call (.Name "list" p2) [.Call (.Name "range" p) [a, c] [] pos] [] pos2) (e2 nRg2 fa fc) :=
  pe_imp (pe_listRg hc hg hm (prg_2 hg2 hm2 ha hc' n1 n2 hp) na) fun σ H Q ⟨ρ, F, b, s, q⟩ => ⟨ρ, F, b, s, M.wp_mono (wp2.mp q) (fun b1 t q1 v H1 F1 s1 r1 => ⟨ρ, F1, b1, s1.sr, M.wp_mono q1 (fun b2 u q2 w H2 F2 s2 r2 => by
    cases t with
    | int i =>
      cases r1
      cases u with
      | int j =>
        cases r2
        obtain ⟨ok, q3⟩ := if_of q2
        exact ⟨i, j, rfl, rfl, okRg_of ok, fun q hq => q3 q _ H2 _ F2 (s1.trans s2) hq rfl (rg_reps _ _)⟩
      | _ => exact q2.elim
    | _ => exact q2.elim) fun b' c' t' z => EX.step s1 b' c' t' z⟩) fun _ _ _ z => z⟩
end
end DP
end
section
set_option Elab.async false
set_option linter.all false
set_option maxRecDepth 100000
namespace DP
open PySem PySem.Spec PyProof.Rows L2
/-! ### a, b, .. = x, y, .. by a tuple that is unpacked at once -/
def setAll : Env' → List Nat → List Pd → Env'
  | ρ, i :: is, d :: ds => setAll (ρ.set i d.sl) is ds
  | ρ, _, _ => ρ
section
variable {X : Cx} {g : Cn} {W : WX} {k i : Nat} {pos p : Pos} {a c e : Expr} {es tgs : List Expr} {F H : Hp} {σ : Sg} {ρ : Env'} {b : Nat} {v : V} {d : Pd} {x : Str} {is : List Nat} {fp : Env' → M (List Pd)}
theorem Pds.set : ∀ {vs : List V} {ds : List Pd}, (∀ ts, d = .own ts → ∀ (j : Nat) ts', ds[j]? = some (.own ts') → vs[j]? ≠ some v) → Pds g σ ρ F H vs ds → Pds g (σ.set i (some v)) (ρ.set i d.sl) F H vs ds
  | _, _, _, .nil => .nil
  | _, _, h, .cons r1 r2 r3 => .cons (r1.set fun ts e ts' e' z => h ts e 0 ts' (by rw [e']; rfl) (by rw [z]; rfl)) (Pds.set (fun ts e j ts' q => h ts e (j + 1) ts' (by simpa using q)) r2) r3
theorem PdOk.grow {u : HO} {q : Addr} (s : SR g F H σ ρ b) (hq : H q = none) : ∀ {v : V} {d : Pd}, PdOk g σ ρ F H v d → PdOk g σ ρ F (upd H q u) v d
  | _, _, .val r => .val r
  | _, _, .own h1 h2 h3 h4 h5 h6 => .own (by rw [upd_ne (ne_of_none h1 hq)]; exact h1) h2 h3 h4 h5 h6
theorem Pds.grow {u : HO} {q : Addr} (s : SR g F H σ ρ b) (hq : H q = none) : ∀ {vs : List V} {ds : List Pd}, Pds g σ ρ F H vs ds → Pds g σ ρ F (upd H q u) vs ds
  | _, _, .nil => .nil
  | _, _, .cons r1 r2 r3 => .cons (r1.grow s hq) (Pds.grow s hq r2) r3
theorem Pds.length : ∀ {vs : List V} {ds : List Pd}, Pds g σ ρ F H vs ds → vs.length = ds.length
  | _, _, .nil => rfl
  | _, _, .cons _ r _ => by simp [Pds.length r]
def tDGP (g : Cn) (is : List Nat) : TGs := fun vs σ H Q => ∃ ρ F b ds, SR g F H σ ρ b ∧ Pds g σ ρ F H vs ds ∧ ds.length = is.length ∧ ∀ σ', SR g F H σ' (setAll ρ is ds) b → Q σ' H
abbrev DGP (X : Cx) (g : Cn) (es : List Expr) (is : List Nat) : Prop := PGs X es (tDGP g is)
theorem dgp_nil : DGP X g [] [] := pgs_imp pgs_nil fun vs σ H Q ⟨ρ, F, b, ds, s, r, hl, q⟩ => by
  cases r with
  | nil => exact ⟨rfl, q σ s⟩
  | cons _ _ _ => cases hl
theorem dgp_cons (hN : X.N.Nodup) (hi : X.N[i]? = some x) (hx : Loc X.env.scope x) (h : DGP X g tgs is) (hf : X.fn x = true ∨ X.env.scope.names.lookup x = some .local := by first | exact .inl rfl | exact .inr rfl | assumption)
    (hs : (assignEach (.Name x p :: tgs) X.env).map (·.2) = assign (.Name x p) X.env :: (assignEach tgs X.env).map (·.2) := by rfl) : DGP X g (.Name x p :: tgs) (i :: is) :=
  pgs_imp (pgs_cons (pg_name hN hi hx hf) h hs) fun vs σ H Q ⟨ρ, F, b, ds, s, r, hl, q⟩ => by
    cases r with
    | nil => cases hl
    | cons r1 r2 r3 => exact ⟨_, _, rfl, _, F, b, _, s.setP i r1, Pds.set r3 r2, by simpa using hl, q⟩
def sParN (is : List Nat) (fp : Env' → M (List Pd)) : Env' → M Fl := fun ρ => (fp ρ).bind fun ds => if decide (ds.length = is.length) = true then .ret (.next (setAll ρ is ds)) else .stuck
theorem ds_parN {n kt k2 : Nat} {pt pt2 : Pos} (hc : X.calm = true) (ha : PA X es (tDP g W fp)) (h : DGP X g tgs is) (hl : is.length = n ∧ n ≤ 1000 := by exact ⟨rfl, by decide⟩) (hn : (assignEach tgs X.env).length = n := by rfl) (hst : (assignEach tgs X.env).findIdx? (·.1) = none := by rfl)
    (hs : swapsWithSole [.Tuple tgs kt pt] (.Tuple es k2 pt2) pos.line X.env = pure false := by rfl) (hw : swappedStores [.Tuple tgs kt pt] (.Tuple es k2 pt2) X.env = pure none := by rfl)
    (h1 : (assignEach [.Tuple tgs kt pt] X.env).map (·.2) = [assign (.Tuple tgs kt pt) X.env] := by rfl) : DS X g W (.Assign [.Tuple tgs kt pt] (.Tuple es k2 pt2) pos) (sParN is fp) :=
  ps_imp (ps_asg (pe_tup ha) (pg_tup hc h hn hst) hs hw h1) fun D σ H ⟨ρ, F, b, s, q⟩ => ⟨ρ, F, b, s, M.wp_mono (M.wp_bind.mp q) (fun b1 ds q1 vs H1 F1 s1 r _ => by
    obtain ⟨ok, q2⟩ := if_of q1
    have ok := of_decide_eq_true ok
    have lv : vs.length = n := by rw [r.length, ok, hl.1]
    refine ⟨by rw [lv, sizeLine_eq]; have := hl.2; omega, fun t ht => ?_⟩
    have s2 := s1.sr.growU (.tup vs) ht
    exact ⟨t, vs, rfl, SqT.of upd_same, lv, ρ, F1, b1, ds, s2, r.grow s1.sr ht, ok, fun σ' s' => q2 σ' _ F1 s1.ext s'⟩) fun _ _ _ z => z.ex⟩
end
end DP
end
section
set_option Elab.async false
set_option linter.all false
set_option maxRecDepth 100000
namespace DP
open PySem PySem.Spec PyProof.Rows L2

/-! ### try: return .. except X as e: return .. -/
def M.tryC {α : Type} (c : Str) (L : List Str) (h : T → M α) : M α → M α
  | .ret a => .ret a
  | .draw n k => .draw n fun d => M.tryC c L h (k d)
  | .exc c' t => if c' = c then h t else if c' ∈ L then .exc c' t else .stuck
  | .stuck => .stuck
theorem M.wp_try {α : Type} {c : Str} {L : List Str} {h : T → M α} {Q : Nat → α → Prop} {E : Nat → Str → T → Prop} : ∀ {m : M α} {b : Nat}, (M.tryC c L h m).wp b Q E → m.wp b Q fun b' c' t => (c' = c ∧ (h t).wp b' Q E) ∨ (c' ≠ c ∧ c' ∈ L ∧ E b' c' t)
  | .ret _, _, z => z
  | .draw _ k, _, z => ⟨z.1, z.2.1, fun d h1 h2 => M.wp_try (m := k d) (z.2.2 d h1 h2)⟩
  | .exc c' t, b, z => by
    have z : (if c' = c then h t else if c' ∈ L then M.exc c' t else .stuck).wp b Q E := z
    by_cases e : c' = c
    · rw [if_pos e] at z; exact .inl ⟨e, z⟩
    · rw [if_neg e] at z
      by_cases e2 : c' ∈ L
      · rw [if_pos e2] at z; exact .inr ⟨e, e2, z⟩
      · rw [if_neg e2] at z; exact z.elim
  | .stuck, _, z => z.elim
def Sl.loose : Sl → Sl
  | .own _ => .any
  | .ownD _ => .any
  | .ownS _ => .any
  | .pin => .any
  | s => s
/-- behind a raise: own things are forgotten, slot i holds the error -/
def forget (i : Nat) (ρ : Env') : Env' := (ρ.map Sl.loose).set i .pin
theorem Paired.mapR {α β γ : Type} {R : α → β → Prop} {R' : α → γ → Prop} {f : β → γ} (h : ∀ x y, R x y → R' x (f y)) : ∀ {xs : List α} {ys : List β}, Paired R xs ys → Paired R' xs (ys.map f)
  | _, _, .nil => .nil
  | _, _, .cons r t => .cons (h _ _ r) (Paired.mapR h t)
theorem forget_noOwn {i : Nat} {ρ : Env'} {j : Nat} {x : Sl} (h : (forget i ρ)[j]? = some x) : x.isOwn = false := by
  rcases List.mem_or_eq_of_mem_set (List.mem_of_getElem? h) with h | rfl
  · obtain ⟨y, _, rfl⟩ := List.mem_map.mp h
    cases y <;> rfl
  · rfl
def eXf (i : Nat) (t : T) : Env' → M T := fun ρ => match ρ[i]? with
  | some .pin => .ret t
  | _ => .stuck
/-- the constants behind a raise -/
def Cn.caught (g : Cn) (H0 F0 : Hp) (a : Addr) : Cn := ⟨g.K, H0, F0, g.S, g.X, some a, g.so, g.T⟩
def sTryR (c : Str) (L : List Str) (i : Nat) (f : Env' → M T) (h : T → Env' → M T) : Env' → M Fl := fun ρ => (M.tryC c L (fun t => (h t (forget i ρ)).calm) (f ρ)).bind fun t => .ret (.ret t)
abbrev WN : WX := fun _ _ _ _ => False
section
variable {X : Cx} {g : Cn} {W : WX} {k i : Nat} {pos pos' p1 p2 np : Pos} {e e2 : Expr} {f : Env' → M T} {h : T → Env' → M T} {x n fl : Str} {C : Addr} {L : List Str}
theorem de_exf {a dd : Addr} {oe : Obj} {d : Option Addr} {pn : List (Addr × Obj)} {v : V} {t : T} (T' : XfC X.K C) (hno : PySem.W.findIn X.K (.ref C) fl = some none) (hz : Zc (.ref C) d oe) (hf : ∃ vs, oe.data = .fields vs) (he : PE (X.suite a ((a, oe) :: pn)) e (tVar i))
    (hd : d = some dd) (hme : g.me = some a) (hH : g.H0 dd = some (.xd [(fl, v)])) (hF : Rep g.K g.F0 v t) (nS : ¬ g.inS dd) (hb : attributeBase e fl X.env (eval e X.env) = eval e X.env := by rfl) :
    DE (X.suite a ((a, oe) :: pn)) g W (.Attribute e fl pos) (eXf i t) :=
  pe_imp (pe_xf T' hno hz hf he hb) fun σ H Q ⟨ρ, F, b, s, q⟩ => by
    unfold eXf at q
    cases e1 : ρ[i]? with
    | none => rw [e1] at q; exact q.elim
    | some sl =>
      rw [e1] at q
      obtain ⟨ov, hv, r⟩ := Paired.get1 s.slots e1
      cases r with
      | @pin a' hm =>
        rw [hme] at hm
        cases hm
        exact ⟨_, hv, rfl, rfl, dd, _, v, hd, s.keep _ _ hH nS, by simp [List.lookup], q v H F (Step.refl s) (hF.ext s.f0)⟩
      | any v => exact q.elim
      | val r => exact q.elim
      | own _ _ _ _ _ => exact q.elim
      | ownD _ _ _ _ _ => exact q.elim
      | ownS _ _ _ _ _ => exact q.elim
      | strm _ => exact q.elim
def tHE (g : Cn) (C : Addr) (fl : Str) (h : T → Env' → M T) (a : Addr) (cls : Value) (d : Option Addr) : TE := fun σ H Q => ∃ (H0 F0 : Hp) (t : T) (v : V) (dd : Addr), cls = .ref C ∧ d = some dd ∧ H0 dd = some (.xd [(fl, v)]) ∧ Rep g.K F0 v t ∧ ¬ g.inS dd ∧ tD (g.caught H0 F0 a) WN (h t) σ H Q
theorem ds_tryR {c : Value} (hs : X.stack = X.env :: X.outer) (hfr : X.env.frame = some X.env.locals) (hN : X.N.Nodup) (hi : X.N[i]? = some n) (hln : X.env.kindOf n = some .local) (hc : Names X x c) (tk : Takes X W)
    (hX : g.X x = (C, fl)) (hex : PySem.W.exmOne X.K (.ref C) c = some true) (hL : ∀ c' ∈ L, PySem.W.exmOne X.K (.ref (g.X c').1) c = some false)
    (hb : ∀ (W : WX) (pn : List (Addr × Obj)) (xe : Value → Shared → Prop), Takes (X.tr pn xe) W → DE (X.tr pn xe) g W e f)
    (hsu : ∀ (a : Addr) (oe : Obj) (d : Option Addr) (pn : List (Addr × Obj)) (H0 F0 : Hp) (t : T) (v : V) (dd : Addr), Zc (.ref C) d oe → (∃ vs, oe.data = .fields vs) → d = some dd → H0 dd = some (.xd [(fl, v)]) → Rep g.K F0 v t → ¬ (g.caught H0 F0 a).inS dd → DE (X.suite a ((a, oe) :: pn)) (g.caught H0 F0 a) WN e2 (h t)) :
    DS X g W (.Try [.Return (some e) p1] [.ExceptHandler (some (.Name x np)) (some n) [.Return (some e2) p2] pos'] [] [] pos) (sTryR x L i f h) := by
  refine ps_imp (ps_try_as (tb := fun W => tRet (tD g W f)) (ts := fun a cls d => tRet (tHE g C fl h a cls d)) (Wout := W) hs hfr hN hi hln hc tk (fun W pn xe tk _ => pss_one (ps_ret (hb W pn xe tk))) fun a oe cls d pn hz hf => pss_one (ps_ret ⟨fun pins s σ H Q I hh => ?_⟩)) fun D σ H ⟨ρ, F, b, s, q⟩ => ?_
  · obtain ⟨H0, F0, t, v, dd, rfl, h2, h3, h4, h5, h6⟩ := hh
    exact (hsu a oe d pn H0 F0 t v dd hz hf h2 h3 h4 h5).run pins s σ H Q I h6
  · refine ⟨ρ, F, b, s, M.wp_mono (M.wp_try (M.wp_bind.mp q)) (fun b1 t z v H1 F1 s1 r => z v σ ρ H1 F1 s1.ext s1.sr r) fun b1 c' t z d v H1 F1 s1 hd r => ?_⟩
    rcases z with ⟨rfl, z⟩ | ⟨hne, hm, z⟩
    · rw [hX] at hd ⊢
      refine ⟨true, hex, fun _ a ha => ?_, fun q => Bool.noConfusion q⟩
      have nS : ¬ g.inS d := fun w => by
        rcases w with ⟨p, l, e, w⟩ | ⟨q, m⟩
        · obtain ⟨_, _, _, ns, c1, n1, m1, q1, q2, _⟩ := s1.sr.strm p l e
          rcases w with rfl | rfl
          · rw [hd] at q1; cases q1
          · rw [hd] at q2; cases q2
        · obtain ⟨ps, hp⟩ := (s1.sr.tabs d q m).2.has
          rw [hd] at hp; cases hp
      refine ⟨H1, F1, t, v, d, rfl, rfl, hd, r, nS, forget i ρ, F1, b1, ?_, M.wp_mono (M.wp_calm z) (fun b2 w y v2 H2 F2 s2 r2 => ?_) fun _ _ _ z => z.elim⟩
      · refine ⟨s1.sr.sub, Same.refl _, fun _ _ e _ => e, fun _ _ _ e => e, Paired.set2 (.pin rfl) i (Paired.mapR (fun u y r => ?_) s1.sr.slots), fun j k c y z _ hy _ oy _ => ?_, s1.sr.strm, s1.sr.tabs⟩
        · cases r with
          | any _ => exact .any _
          | val r => exact .val r
          | own _ _ _ _ _ => exact .any _
          | ownD _ _ _ _ _ => exact .any _
          | ownS _ _ _ _ _ => exact .any _
          | strm h => exact .strm h
          | pin _ => exact .any _
        · rw [forget_noOwn hy] at oy
          cases oy
      · have no : ∀ c, ¬ OwnAt (σ.set i (some (.ref a))) (forget i ρ) c := fun c ⟨j, y, w1, w2, _⟩ => by
          rw [forget_noOwn w1] at w2
          cases w2
        refine y v2 [] [] H2 F2 (s1.ext.trans s2.ext) ⟨s2.sr.sub, s1.sr.f0.trans s2.ext, fun c o hc n => s2.kp c o (s1.sr.keep c o hc n) n (no c), fun c o hc n => ?_, .nil, fun _ _ _ _ _ _ h => by simp at h, s2.sr.strm, s2.sr.tabs⟩ r2
        obtain ⟨u, hu⟩ := s1.sr.there hc
        exact s2.new c u hu (s1.sr.new c o hc n)
    · refine ⟨false, hL c' hm, fun q => Bool.noConfusion q, fun _ => z d v σ ρ H1 F1 s1.ext s1.sr hd r⟩
end
end DP
end
section
set_option Elab.async false
set_option linter.all false
set_option maxRecDepth 100000
namespace DP
open PySem PySem.Spec PyProof.Rows L2
/-! ### x += e, ints -/
def sAug (i : Nat) (op : Int → Int → Int) (fe : Env' → M T) : Env' → M Fl := fun ρ => match ρ[i]? with
  | some (.val (.int a)) => (fe ρ).bind fun t => match t with
    | .int b => .ret (.next (ρ.set i (.val (.int (op a b)))))
    | _ => .stuck
  | _ => .stuck
section
variable {X : Cx} {g : Cn} {W : WX} {i : Nat} {pos pos' : Pos} {e : Expr} {fe : Env' → M T} {x : Str} {o : Operator} {op : Int → Int → Int}
theorem ds_aug (ho : PIp X o (ipI op)) (hN : X.N.Nodup) (hi : X.N[i]? = some x) (hx : Loc X.env.scope x) (he : DE X g W e fe) (hf : X.fn x = true ∨ X.env.scope.names.lookup x = some .local := by first | exact .inl rfl | exact .inr rfl | assumption) : DS X g W (.AugAssign (.Name x pos') o e pos) (sAug i op fe) :=
  ps_imp (ps_aug hN hi hx he ho hf) fun D σ H ⟨ρ, F, b, s, q⟩ => by
    unfold sAug at q
    cases e1 : ρ[i]? with
    | none => rw [e1] at q; exact q.elim
    | some sl =>
      rw [e1] at q
      obtain ⟨ov, hv, r⟩ := Paired.get1 s.slots e1
      cases sl with
      | val t =>
        cases t with
        | int a =>
          cases r with
          | val r =>
            cases r
            refine ⟨_, hv, ρ, F, b, s, M.wp_mono (M.wp_bind.mp q) (fun b1 t q1 v H1 F1 s1 r1 => ?_) fun _ _ _ z => z.ex⟩
            cases t with
            | int c =>
              cases r1
              exact ⟨a, c, rfl, rfl, q1 _ H1 F1 s1.ext (s1.sr.set i (.val (.int _)) rfl)⟩
            | _ => exact q1.elim
        | _ => exact q.elim
      | _ => exact q.elim
end
/-! ### a constant of the module: a tuple of ints -/
def tupB (x : Str) (ks : List Int) (K : KF) : Bool := (He.Fa.glo x).ok K && (match K.lookup (He.ga K x) with
  | some ⟨.type "tuple", _, .seq its _, _⟩ => He.relAll (ks.map V.int) its.toList
  | _ => false)
theorem tup_of {K : KF} {h : Heap} {mg : Str → Option Value} (X : K.In h) (G : h.Ns mainGlobals mg) {x : Str} {ks : List Int} (hz : ks.length ≤ 1000) (c : tupB x ks K = true) : mg x = some (.ref (He.ga K x)) ∧ ∀ F, Rep K F (.ref (He.ga K x)) (.tup (ks.map .int)) := by
  obtain ⟨c1, c2⟩ := He.ba c
  refine ⟨He.glo_ok X G c1, fun F => ?_⟩
  split at c2
  · rename_i dd its n sl ho
    have hv := He.relAll_ok c2
    have hl : its.size ≤ sizeLine := by
      have := hv.length
      rw [List.length_map] at this
      rw [← Array.length_toList, ← this, sizeLine_eq]
      omega
    exact .tup (.inr ⟨_, its, n, ho, rfl, rfl, hl, hv⟩) (ints_reps ks)
  · cases c2
end DP
end
section
set_option Elab.async false
set_option linter.all false
set_option maxRecDepth 100000
namespace DP
open PySem PySem.Spec PyProof.Rows L2
def isiT3 (n m l : String) (t : T) : M T := match tyName t with
  | some a => match kitB a n, kitB a m, kitB a l with
    | some b, some c, some d => .ret (.bl (b || (c || d)))
    | _, _, _ => .stuck
  | none => .stuck
section
variable {X : Cx} {g : Cn} {W : WX} {pos p : Pos} {e : Expr} {f : Env' → M T}
/-- isinstance(e, (T, U, V)) -/
theorem de_isi3 {y z w : Str} {n m l : String} {p2 p3 p4 p5 : Pos} {kk : Nat} (hm : X.mg "isinstance" = none) (hy : X.mg y = none) (hv : bootBuiltins y = some (.type n)) (hz : X.mg z = none) (hvz : bootBuiltins z = some (.type m)) (hw : X.mg w = none) (hvw : bootBuiltins w = some (.type l)) (ha : DE X g W e f)
    (hg : Gl X "isinstance" := by rfl) (hgy : Gl X y := by rfl) (hgz : Gl X z := by rfl) (hgw : Gl X w := by rfl)
    (hny : y ≠ "__name__" := by decide) (hdy : (y == ("__debug__" : Str)) = false := by decide) (hnz : z ≠ "__name__" := by decide) (hdz : (z == ("__debug__" : Str)) = false := by decide) (hnw : w ≠ "__name__" := by decide) (hdw : (w == ("__debug__" : Str)) = false := by decide)
    (he : starEach (e :: [.Tuple [.Name y p2, .Name z p3, .Name w p5] kk p4]) X.env = (false, eval e X.env) :: starEach [.Tuple [.Name y p2, .Name z p3, .Name w p5] kk p4] X.env := by rfl)
    (he2 : starEach (.Tuple [.Name y p2, .Name z p3, .Name w p5] kk p4 :: []) X.env = (false, eval (.Tuple [.Name y p2, .Name z p3, .Name w p5] kk p4) X.env) :: starEach [] X.env := by rfl)
    (he3 : starEach (.Name y p2 :: [.Name z p3, .Name w p5]) X.env = (false, eval (.Name y p2) X.env) :: starEach [.Name z p3, .Name w p5] X.env := by rfl) (he4 : starEach (.Name z p3 :: [.Name w p5]) X.env = (false, eval (.Name z p3) X.env) :: starEach [.Name w p5] X.env := by rfl)
    (he5 : starEach (.Name w p5 :: []) X.env = (false, eval (.Name w p5) X.env) :: starEach [] X.env := by rfl)
    (hpl : (backTo pos (starEach [.Tuple [.Name y p2, .Name z p3, .Name w p5] kk p4] X.env)).any (·.1) = false := by rfl) (hK : X.K = g.K := by rfl) :
    DE X g W (.Call (.Name "isinstance" p) [e, .Tuple [.Name y p2, .Name z p3, .Name w p5] kk p4] [] pos) (e1 (isiT3 n m l) f) :=
  pe_imp (pe_callB call_some hg hm (by decide +kernel) (pa_cons ha (pa_cons (pe_tup (pa_cons (pe_bltn (v := .ty n) hgy hy hv rfl hny hdy) (pa_cons (pe_bltn (v := .ty m) hgz hz hvz rfl hnz hdz) (pa_cons (pe_bltn (v := .ty l) hgw hw hvw rfl hnw hdw) pa_nil he5) he4) he3)) pa_nil he2) he) (by decide) (by decide) he hpl) fun σ H Q ⟨ρ, F, b, s, q⟩ => ⟨ρ, F, b, s, M.wp_mono (M.wp_bind.mp q) (fun b1 t q1 v H1 F1 s1 r1 => by
    have q1 : (match tyName t with | some a => (match kitB a n, kitB a m, kitB a l with | some b, some c, some d => M.ret (T.bl (b || (c || d))) | _, _, _ => .stuck) | none => .stuck).wp b1 _ _ := q1
    refine ⟨by show 3 ≤ sizeLine; decide, fun tp htp => ?_⟩
    cases e1 : tyName t with
    | none => rw [e1] at q1; exact q1.elim
    | some a =>
      rw [e1] at q1
      dsimp only at q1
      cases e2 : kitB a n with
      | none => rw [e2] at q1; exact q1.elim
      | some b' =>
        cases e3 : kitB a m with
        | none => rw [e2, e3] at q1; exact q1.elim
        | some c' =>
          cases e4 : kitB a l with
          | none => rw [e2, e3, e4] at q1; exact q1.elim
          | some d' =>
            rw [e2, e3, e4] at q1
            have st := s1.sr.stepU (.tup [.ty n, .ty m, .ty l]) htp
            refine ⟨v, tp, [.ty n, .ty m, .ty l], .type a, [.type n, .type m, .type l], b' || (c' || d'), rfl, upd_same, .cons (.ty n) (.cons (.ty m) (.cons (.ty l) .nil)), by rw [hK]; exact tyX_of st.sr.sub (r1.ext st.ext) e1, ?_, q1 _ _ _ (s1.trans st) (.bl _)⟩
            refine kitAny_cons (kit_ty e2) (fun hb => ?_) (fun hb => by rw [hb]; rfl)
            refine kitAny_cons (kit_ty e3) (fun hc => ?_) (fun hc => by rw [hc, hb]; rfl)
            refine kitAny_cons (kit_ty e4) (fun hd => ?_) (fun hd => by rw [hd, hc, hb]; rfl)
            rw [hb, hc, hd]
            exact kitAny_nil) fun _ _ _ z => z⟩
end
end DP
end
section
set_option Elab.async false
set_option linter.all false
set_option maxRecDepth 100000
namespace DP
open PySem PySem.Spec PyProof.Rows L2
/-! ### list(d.items()) -/
def kT : Key → T
  | .inl i => .int i
  | .inr x => .str x
def nItems : T → M (List T)
  | .dct kvs => .ret (kvs.map fun q => .tup [kT q.1, q.2])
  | _ => .stuck
theorem kT_rep {K : KF} {F : Hp} : ∀ k : Key, Rep K F (kV k) (kT k)
  | .inl i => .int i
  | .inr x => .str x
theorem upd_del {H : Hp} {p : Addr} {o : HO} (h : H p = some o) : H = upd (del H p) p o := by
  funext c
  by_cases e : c = p
  · subst e; rw [upd_same, h]
  · rw [upd_ne e, del_ne e]
theorem items_reps {K : KF} {F1 H' : Hp} {as : List Addr} : ∀ {ts : List Addr} {kvs : List (Key × V)} {us : List (Key × T)}, Paired (fun (t : Addr) (q : Key × V) => H' t = some (.tup [kV q.1, q.2])) ts kvs → RepK K F1 kvs us → (∀ t ∈ ts, F1 t = H' t) → Reps K F1 (ts.map V.ref) (us.map fun q => .tup [kT q.1, q.2])
  | _, _, _, .nil, .nil, _ => .nil
  | _, _, _, .cons h t, .cons r s, e => .cons (.tup (SqT.of (by rw [e _ List.mem_cons_self]; exact h)) (.cons (kT_rep _) (.one r))) (items_reps (as := as) t s fun t ht => e t (List.mem_cons_of_mem _ ht))
section
variable {X : Cx} {g : Cn} {W : WX} {pos p apos cpos : Pos} {e : Expr} {f : Env' → M T}
theorem dn_items (hc : X.calm = true) (hm : X.mg "list" = none) (he : DE X g W e f) (hg : Gl X "list" := by rfl) (hbase : attributeBase e "items" X.env (eval e X.env) = eval e X.env := by rfl) (hline : (apos.endLine == cpos.line) = true := by rfl)
    (hs : starEach [.Call (.Attribute e "items" apos) [] [] cpos] X.env = (false, eval (.Call (.Attribute e "items" apos) [] [] cpos) X.env) :: starEach [] X.env := by rfl) :
    DN X g W (.Call (.Name "list" p) [.Call (.Attribute e "items" apos) [] [] cpos] [] pos) (e1 nItems f) :=
  pe_imp (LiI.pe_listItems hc he hg hm (by decide +kernel) hbase hline hs) fun σ H Q ⟨ρ, F, b, s, q⟩ => ⟨ρ, F, b, s, M.wp_mono (M.wp_bind.mp q) (fun b1 t q1 v H1 F1 s1 r1 => by
    cases t with
    | dct us =>
      cases r1 with
      | @dct d kvs _ h1 h2 =>
        refine ⟨d, kvs, rfl, s1.sr.sub _ _ h1, fun H' q ts k1 k2 k3 k4 k5 k6 => ?_⟩
        have np : ∀ {c : Addr} {o : HO}, H1 c = some o → c ≠ q := fun h w => by rw [w, k2] at h; cases h
        have nt : ∀ {c : Addr} {o : HO}, H1 c = some o → c ∉ ts := fun h w => by rw [k3 _ w] at h; cases h
        have ft : ∀ c ∈ ts, (fun c => if c ∈ ts then H' c else F1 c) c = H' c := fun c hc => if_pos hc
        have fn : ∀ c, c ∉ ts → (fun c => if c ∈ ts then H' c else F1 c) c = F1 c := fun c hc => if_neg hc
        generalize (fun c => if c ∈ ts then H' c else F1 c) = F2 at ft fn
        have ex : Ext F1 F2 := fun c o h => by rw [fn c (nt (s1.sr.sub _ _ h))]; exact h
        have aft : After none F1 H1 F2 (del H' q) b1 := ⟨ex, fun c o h => by
          by_cases hc : c ∈ ts
          · rw [ft c hc] at h
            rw [del_ne fun w => k4 (by rw [← w]; exact hc)]
            exact h
          · rw [fn c hc] at h
            have := s1.sr.sub _ _ h
            rw [del_ne (np this)]
            exact k1 _ _ this, fun c o h _ => by rw [del_ne (np h)]; exact k1 _ _ h, fun c o h n => by rw [fn c (nt h)]; exact n, fun _ _ e => by cases e⟩
        exact q1 q _ (del H' q) H' F2 (s1.trans (Step.of_after s1.sr aft (.inr ⟨rfl, Nat.le_refl _⟩))) del_same (upd_del k5) (items_reps (as := ts) k6 (RepK.ext ex h2) ft)
    | _ => exact q1.elim) fun _ _ _ z => z⟩
end
end DP
end
section
set_option Elab.async false
set_option linter.all false
set_option maxRecDepth 100000
namespace DP
open PySem PySem.Spec PyProof.Rows L2
/-! ### {}, {k: v} -/
/-- an object that nobody knows is known from now on -/
theorem SR.know {g : Cn} {F H : Hp} {σ : Sg} {ρ : Env'} {b : Nat} (s : SR g F H σ ρ b) {p : Addr} {o : HO} (hp : H p = some o) (h1 : F p = none) (h2 : g.H0 p = none) (h3 : ¬ g.inS p) (h4 : ¬ OwnAt σ ρ p) : SR g (upd F p o) H σ ρ b where
  sub := fun a u e => by
    by_cases ha : a = p
    · subst ha; rw [upd_same] at e; rw [hp]; exact e
    · rw [upd_ne ha] at e; exact s.sub a u e
  f0 := fun a u e => Ext.upd h1 a u (s.f0 a u e)
  keep := s.keep
  new := fun a u e n => by rw [upd_ne (fun w => by rw [w, h2] at e; cases e)]; exact s.new a u e n
  slots := Paired.imp2 s.slots fun i v x e1 e2 r => by
    have e := Ext.upd (o := o) h1
    cases r with
    | any v => exact .any v
    | val r => exact .val (r.ext e)
    | own z1 z2 z3 z4 z5 => exact .own z1 (by rw [upd_ne (fun w => h4 ⟨i, _, e2, rfl, by rw [e1, w]⟩)]; exact z2) z3 z4 (z5.ext e)
    | ownD z1 z2 z3 z4 z5 => exact .ownD z1 (by rw [upd_ne (fun w => h4 ⟨i, _, e2, rfl, by rw [e1, w]⟩)]; exact z2) z3 z4 (z5.ext e)
    | ownS z1 z2 z3 z4 z5 => exact .ownS z1 (by rw [upd_ne (fun w => h4 ⟨i, _, e2, rfl, by rw [e1, w]⟩)]; exact z2) z3 z4 (z5.ext e)
    | strm h => exact .strm h
    | pin h => exact .pin h
  dis := s.dis
  strm := fun q l e => by
    obtain ⟨y1, y2, y3⟩ := s.strm q l e
    exact ⟨by rw [upd_ne fun w => h3 (.inl ⟨q, l, e, .inl w.symm⟩)]; exact y1, by rw [upd_ne fun w => h3 (.inl ⟨q, l, e, .inr w.symm⟩)]; exact y2, y3⟩
  tabs := s.tabK (Ext.upd h1) fun q l m => ⟨fun _ e => e, by rw [upd_ne (Cn.tabNe h3 m)]; exact (s.tabs q l m).1⟩
def keyT : T → Option Key
  | .int i => some (.inl i)
  | .str x => some (.inr x)
  | _ => none
def dct1 (k t : T) : M T := match keyT k with
  | some k => .ret (.dct [(k, t)])
  | none => .stuck
section
variable {X : Cx} {g : Cn} {W : WX} {pos : Pos} {k e : Expr} {fk fe : Env' → M T}
theorem de_dict0 : DE X g W (.Dict [] [] pos) (eC (.dct [])) := pe_imp pe_dnewK fun σ H Q ⟨ρ, F, b, s, q⟩ p hp => q _ _ _ (s.step (.dK []) hp) (.dct upd_same .nil)
theorem keyT_v {K : KF} {F : Hp} {v : V} {t : T} {k : Key} (r : Rep K F v t) (h : keyT t = some k) : v = kV k := by
  cases t with
  | int i => cases h; cases r; rfl
  | str x => cases h; cases r; rfl
  | _ => cases h
theorem de_dict1 (hk : DE X g W k fk) (he : DE X g W e fe) : DE X g W (.Dict [some k] [e] pos) (e2 dct1 fk fe) :=
  pe_imp (pe_disp (pps_cons hk he pps_nil) rfl rfl (by simp) (by show 1 ≤ 15; decide)) fun σ H Q ⟨ρ, F, b, s, q⟩ p hp => by
    obtain ⟨h0, nS, fD, nO⟩ := s.h0 hp
    have t0 := s.stepU (.dK []) hp
    refine ⟨ρ, F, b, t0.sr, M.wp_mono (wp2.mp q) (fun b1 t q1 v H1 F1 s1 r1 => ⟨ρ, F1, b1, s1.sr, M.wp_mono q1 (fun b2 u q2 w H2 F2 s2 r2 => ?_) fun b' c' t' z => EX.step (t0.trans s1) b' c' t' z⟩) fun b' c' t' z => EX.step t0 b' c' t' z⟩
    have q2 : (match keyT t with | some k => M.ret (T.dct [(k, u)]) | none => .stuck).wp b2 _ _ := q2
    cases ek : keyT t with
    | none => rw [ek] at q2; exact q2.elim
    | some kk =>
      rw [ek] at q2
      have s12 := s1.trans s2
      have hp2 : H2 p = some (.dK []) := s12.kp p _ upd_same nS nO
      have fp2 : F2 p = none := s12.new p _ upd_same fD
      refine ⟨hp2, [(kk, w)], by rw [keyT_v r1 ek]; rfl, (by show 1 ≤ 15; decide), ?_⟩
      have s3 := s12.sr.poke (.dK [(kk, w)]) fp2 h0 nS nO
      have s4 := s3.know (o := .dK [(kk, w)]) upd_same fp2 h0 nS nO
      refine q2 (.ref p) (upd H2 p (.dK [(kk, w)])) (upd F2 p (.dK [(kk, w)])) ⟨s12.ext.trans (Ext.upd fp2), s4, fun c o hc n1 n2 => ?_, fun c o hc n => ?_⟩ (.dct upd_same (.cons (r2.ext (Ext.upd fp2)) .nil))
      · have ne : c ≠ p := fun w => by rw [w, hp] at hc; cases hc
        rw [upd_ne ne]
        exact (t0.trans s12).kp c o hc n1 n2
      · have ne : c ≠ p := fun w => by rw [w, hp] at hc; cases hc
        rw [upd_ne ne]
        exact (t0.trans s12).new c o hc n
end
end DP
end
section
set_option Elab.async false
set_option linter.all false
set_option maxRecDepth 100000
namespace DP
open PySem PySem.Spec PyProof.Rows L2
/-! ### a dict that a name holds: k in d, d[k], d[k] = v -/
def dctAt (i : Nat) (ρ : Env') : Option (List (Key × T)) := match ρ[i]? with
  | some (.ownD kvs) => some kvs
  | some (.val (.dct kvs)) => some kvs
  | _ => none
theorem SR.dctAt {g : Cn} {F H : Hp} {σ : Sg} {ρ : Env'} {b i : Nat} {kvs : List (Key × T)} (s : SR g F H σ ρ b) (h : dctAt i ρ = some kvs) : ∃ a vs, σ[i]? = some (some (.ref a)) ∧ H a = some (.dK vs) ∧ RepK g.K F vs kvs := by
  unfold DP.dctAt at h
  cases e : ρ[i]? with
  | none => rw [e] at h; cases h
  | some sl =>
    rw [e] at h
    obtain ⟨ov, hv, r⟩ := Paired.get1 s.slots e
    cases sl with
    | ownD ks =>
      cases h
      cases r with
      | ownD z1 z2 z3 z4 z5 => exact ⟨_, _, hv, z1, z5⟩
    | val t =>
      cases t with
      | dct ks =>
        cases h
        cases r with
        | val r =>
          cases r with
          | dct h1 h2 => exact ⟨_, _, hv, s.sub _ _ h1, h2⟩
      | _ => cases h
    | _ => cases h
def getK (kvs : List (Key × T)) (k : Key) : Option T := (kvs.find? fun kv => decide (kv.1 = k)).map (·.2)
theorem RepK.get {K : KF} {F : Hp} {k : Key} : ∀ {vs : List (Key × V)} {kvs : List (Key × T)}, RepK K F vs kvs → match getK kvs k with
    | some t => ∃ v, valV vs k = some v ∧ Rep K F v t
    | none => valV vs k = none
  | _, _, .nil => rfl
  | _, _, .cons (k := j) (v := v) (t := t) h r => by
    by_cases e : j = k
    · subst e
      simp only [getK, valV, List.find?_cons, decide_true, Option.map_some]
      exact ⟨v, rfl, h⟩
    · have e' : decide (j = k) = false := decide_eq_false e
      simp only [getK, valV, List.find?_cons, e']
      exact RepK.get r
def putKT (kvs : List (Key × T)) (k : Key) (t : T) : List (Key × T) := if (kvs.any fun kv => decide (kv.1 = k)) = true then kvs.map (fun kv => if kv.1 = k then (kv.1, t) else kv) else kvs ++ [(k, t)]
theorem RepK.keys {K : KF} {F : Hp} {k : Key} : ∀ {vs : List (Key × V)} {kvs : List (Key × T)}, RepK K F vs kvs → (vs.any fun kv => decide (kv.1 = k)) = kvs.any fun kv => decide (kv.1 = k)
  | _, _, .nil => rfl
  | _, _, .cons _ r => by simp only [List.any_cons]; rw [RepK.keys r]
theorem RepK.len {K : KF} {F : Hp} : ∀ {vs : List (Key × V)} {kvs : List (Key × T)}, RepK K F vs kvs → vs.length = kvs.length
  | _, _, .nil => rfl
  | _, _, .cons _ r => by simp [RepK.len r]
theorem RepK.app {K : KF} {F : Hp} {k : Key} {v : V} {t : T} (h : Rep K F v t) : ∀ {vs : List (Key × V)} {kvs : List (Key × T)}, RepK K F vs kvs → RepK K F (vs ++ [(k, v)]) (kvs ++ [(k, t)])
  | _, _, .nil => .cons h .nil
  | _, _, .cons g r => .cons g (RepK.app h r)
theorem RepK.repl {K : KF} {F : Hp} {k : Key} {v : V} {t : T} (h : Rep K F v t) : ∀ {vs : List (Key × V)} {kvs : List (Key × T)}, RepK K F vs kvs → RepK K F (vs.map fun kv => if kv.1 = k then (kv.1, v) else kv) (kvs.map fun kv => if kv.1 = k then (kv.1, t) else kv)
  | _, _, .nil => .nil
  | _, _, .cons (k := j) g r => by
    rw [List.map_cons, List.map_cons]
    by_cases e : j = k
    · rw [if_pos e, if_pos e]; exact .cons h (RepK.repl h r)
    · rw [if_neg e, if_neg e]; exact .cons g (RepK.repl h r)
theorem RepK.put {K : KF} {F : Hp} {k : Key} {v : V} {t : T} (h : Rep K F v t) {vs : List (Key × V)} {kvs : List (Key × T)} (r : RepK K F vs kvs) : RepK K F (putK vs k v) (putKT kvs k t) := by
  unfold putK putKT
  rw [r.keys (k := k)]
  by_cases e : (kvs.any fun kv => decide (kv.1 = k)) = true
  · rw [if_pos e, if_pos e]; exact r.repl h
  · rw [if_neg e, if_neg e]; exact r.app h
def retO : Option T → M T
  | some t => .ret t
  | none => .stuck
def eGetD (i : Nat) (fk : Env' → M T) : Env' → M T := fun ρ => match dctAt i ρ with
  | some kvs => (fk ρ).bind fun t => match keyT t with
    | some k => retO (getK kvs k)
    | none => .stuck
  | none => .stuck
def eInD (neg : Bool) (i : Nat) (fk : Env' → M T) : Env' → M T := fun ρ => (fk ρ).bind fun t => match keyT t, dctAt i ρ with
  | some k, some kvs => .ret (.bl (if neg = true then !(getK kvs k).isSome else (getK kvs k).isSome))
  | _, _ => .stuck
/-- d[e] = v: v, then e -/
def sPutD (i : Nat) (fe fk : Env' → M T) : Env' → M Fl := fun ρ => match ρ[i]? with
  | some (.ownD kvs) => (fe ρ).bind fun v => (fk ρ).bind fun t => match keyT t with
    | some k => if okLen kvs.length = true then .ret (.next (ρ.set i (.ownD (putKT kvs k v)))) else .stuck
    | none => .stuck
  | _ => .stuck
section
variable {X : Cx} {g : Cn} {W : WX} {k i : Nat} {pos p tpos : Pos} {a e c : Expr} {fk fe : Env' → M T}
theorem room1 (hr : Room k X.A) : X.A.units + 1 < cLine := by have := hr.un; omega
theorem de_getD (hr : Room k X.A) (hv : PE X a (tVar i)) (he : DE X g W e fk) (hs : NoSl e := by intro _ _; rfl) : DE X g W (.Subscript a e pos) (eGetD i fk) :=
  pe_imp (pe_dget (room1 hr) hv he hs) fun σ H Q ⟨ρ, F, b, s, q⟩ => by
    unfold eGetD at q
    cases e2 : dctAt i ρ with
    | none => rw [e2] at q; exact q.elim
    | some kvs =>
      rw [e2] at q
      obtain ⟨d, vs, y1, y2, y3⟩ := s.dctAt e2
      refine ⟨_, y1, ρ, F, b, s, M.wp_mono (M.wp_bind.mp q) (fun b1 t q1 v H1 F1 s1 r1 => ?_) fun _ _ _ z => z⟩
      cases e1 : keyT t with
      | none => rw [e1] at q1; exact q1.elim
      | some j =>
        rw [e1] at q1
        have q1 : (retO (getK kvs j)).wp b1 _ _ := q1
        obtain ⟨d', vs', w1, w2, w3⟩ := s1.sr.dctAt e2
        rw [y1] at w1
        cases w1
        have y := RepK.get (k := j) w3
        cases e3 : getK kvs j with
        | none => rw [e3] at q1; exact q1.elim
        | some u =>
          rw [e3] at q1 y
          obtain ⟨w, hw, rw'⟩ := y
          refine ⟨d, w, rfl, ?_, q1 w H1 F1 s1 rw'⟩
          rw [keyT_v r1 e1, ← hw]
          exact DGet.k w2
theorem inD_read {σ : Sg} {H : Hp} {Q : VK} (neg : Bool) (h : tD g W (eInD neg i fk) σ H Q) : (fun σ H Q => tD g W fk σ H fun y H1 => tVar i σ H1 fun x H2 => ∃ a o, x = V.ref a ∧ DGet H2 a y o ∧ Q (.bl (if neg = true then !o.isSome else o.isSome)) H2) σ H Q := by
  obtain ⟨ρ, F, b, s, q⟩ := h
  refine ⟨ρ, F, b, s, M.wp_mono (M.wp_bind.mp q) (fun b1 t q1 v H1 F1 s1 r1 => ?_) fun _ _ _ z => z⟩
  cases e1 : keyT t with
  | none => rw [e1] at q1; exact q1.elim
  | some j =>
    cases e2 : dctAt i ρ with
    | none => rw [e1, e2] at q1; exact q1.elim
    | some kvs =>
      rw [e1, e2] at q1
      obtain ⟨d, vs, y1, y2, y3⟩ := s1.sr.dctAt e2
      have y := RepK.get (k := j) y3
      have ho : (getK kvs j).isSome = (valV vs j).isSome := by
        cases e3 : getK kvs j with
        | none => rw [e3] at y; rw [y]; rfl
        | some u => rw [e3] at y; obtain ⟨w, hw, _⟩ := y; rw [hw]; rfl
      refine ⟨_, y1, d, valV vs j, rfl, by rw [keyT_v r1 e1]; exact DGet.k y2, ?_⟩
      rw [← ho]
      exact q1 _ H1 F1 s1 (.bl _)
theorem de_inD (hr : Room k X.A) (he : DE X g W e fk) (hv : PE X a (tVar i)) (hm : behindInMarks .In a = false := by rfl) : DE X g W (.Compare e [.In] [a] pos) (eInD false i fk) := pe_imp (pe_cmp (pc_din (room1 hr) he hv) hm) fun σ H Q h => inD_read false h
theorem de_ninD (hr : Room k X.A) (he : DE X g W e fk) (hv : PE X a (tVar i)) (hm : behindInMarks .NotIn a = false := by rfl) : DE X g W (.Compare e [.NotIn] [a] pos) (eInD true i fk) := pe_imp (pe_cmp (pc_dnotin (room1 hr) he hv) hm) fun σ H Q h => inD_read true h
theorem ds_putD (hr : Room k X.A) (hv : PE X a (tVar i)) (he : DE X g W e fk) (hc : DE X g W c fe) (hs : swapsWithSole [.Subscript a e tpos] c pos.line X.env = pure false := by rfl) (hw : swappedStores [.Subscript a e tpos] c X.env = pure none := by rfl)
    (h1 : (assignEach [.Subscript a e tpos] X.env).map (·.2) = [assign (.Subscript a e tpos) X.env] := by rfl)
    (ha : ∀ v, assign (.Subscript a e tpos) X.env v = (do
      let ov ← holding [v] (eval a X.env)
      let iv ← holding [v, ov] (eval e X.env)
      standAt tpos
      holding [v, ov, iv] (setItem ov iv v)
      release [v, ov, iv] []) := by intro _; rfl) : DS X g W (.Assign [.Subscript a e tpos] c pos) (sPutD i fe fk) :=
  ps_imp (ps_asg hc (pg_sub hv he (set_dict (room1 hr)) ha) hs hw h1) fun D σ H ⟨ρ, F, b, s, q⟩ => by
    unfold sPutD at q
    cases e2 : ρ[i]? with
    | none => rw [e2] at q; exact q.elim
    | some sl =>
      rw [e2] at q
      cases sl with
      | ownD kvs =>
        refine ⟨ρ, F, b, s, M.wp_mono (M.wp_bind.mp q) (fun b1 u q1 v H1 F1 s1 r1 => ?_) fun _ _ _ z => z.ex⟩
        obtain ⟨ov, hv1, sl1⟩ := Paired.get1 s1.sr.slots e2
        cases sl1 with
        | @ownD d vs _ z1 z2 z3 z4 z5 =>
          refine ⟨_, hv1, ρ, F1, b1, s1.sr, M.wp_mono (M.wp_bind.mp q1) (fun b2 t q2 w H2 F2 s2 r2 => ?_) fun b' c' t' z => EX.step s1 b' c' t' z.ex⟩
          cases ek : keyT t with
          | none => rw [ek] at q2; exact q2.elim
          | some j =>
            rw [ek] at q2
            obtain ⟨ok, q3⟩ := if_of q2
            obtain ⟨ov2, hv2, sl2⟩ := Paired.get1 s2.sr.slots e2
            rw [hv1] at hv2
            cases hv2
            cases sl2 with
            | @ownD d' vs' _ y1 y2 y3 y4 y5 =>
              refine ⟨d, _, rfl, by rw [keyT_v r2 ek]; exact DPut.k y1 (by rw [y5.len]; exact okLen_line ok), ?_⟩
              exact q3 σ _ F2 (s1.ext.trans s2.ext) (s2.sr.updAt e2 rfl hv1 y2 y3 y4 (.ownD upd_same y2 y3 y4 (y5.put (r1.ext s2.ext))) rfl)
      | _ => exact q.elim
end
end DP
end
section
set_option Elab.async false
set_option linter.all false
set_option maxRecDepth 100000
namespace DP
open PySem PySem.Spec PyProof.Rows L2
/-- an object that nothing else holds, into a slot -/
theorem SR.setFree {g : Cn} {F H : Hp} {σ : Sg} {ρ : Env'} {b : Nat} {p : Addr} {x' : Sl} (s : SR g F H σ ρ b) (i : Nat) (no : ¬ OwnAt σ ρ p) (r : SlOk g F H (some (.ref p)) x') : SR g F H (σ.set i (some (.ref p))) (ρ.set i x') b := by
  refine ⟨s.sub, s.f0, s.keep, s.new, Paired.set2 r i s.slots, fun j k c y z jk hy hz oy oz e q => ?_, s.strm, s.tabs⟩
  rcases get_set hy with ⟨rfl, rfl, _⟩ | ⟨nj, hy'⟩
  · rcases get_set hz with ⟨rfl, rfl, _⟩ | ⟨nk, hz'⟩
    · exact jk rfl
    · rcases get_set e with ⟨_, e1, _⟩ | ⟨nn, _⟩
      · cases e1
        rcases get_set q with ⟨e2, _⟩ | ⟨_, q'⟩
        · exact nk e2
        · exact no ⟨k, z, hz', oz, q'⟩
      · exact nn rfl
  · rcases get_set e with ⟨e1, _⟩ | ⟨_, e'⟩
    · exact nj e1
    · rcases get_set hz with ⟨rfl, rfl, _⟩ | ⟨nk, hz'⟩
      · rcases get_set q with ⟨_, e1, _⟩ | ⟨nn, _⟩
        · cases e1
          exact no ⟨j, y, hy', oy, e'⟩
        · exact nn rfl
      · rcases get_set q with ⟨e1, _⟩ | ⟨_, q'⟩
        · exact nk e1
        · exact s.dis j k c y z jk hy' hz' oy oz e' q'
/-! ### d = {}, d = {k: v} -/
def sDict0 (i : Nat) : Env' → M Fl := fun ρ => .ret (.next (ρ.set i (.ownD [])))
def sDict1 (i : Nat) (fk fe : Env' → M T) : Env' → M Fl := fun ρ => (fk ρ).bind fun t => (fe ρ).bind fun v => match keyT t with
  | some k => .ret (.next (ρ.set i (.ownD [(k, v)])))
  | none => .stuck
section
variable {X : Cx} {g : Cn} {W : WX} {i : Nat} {pos p pos' : Pos} {k e : Expr} {fk fe : Env' → M T} {x : Str}
theorem ds_dict0 (hN : X.N.Nodup) (hi : X.N[i]? = some x) (hx : Loc X.env.scope x) (hs : swapsWith (.Dict [] [] p) (some (.Name x pos')) pos.line X.env = pure false := by rfl) (hf : X.fn x = true ∨ X.env.scope.names.lookup x = some .local := by first | exact .inl rfl | exact .inr rfl | assumption) :
    DS X g W (.Assign [.Name x pos'] (.Dict [] [] p) pos) (sDict0 i) :=
  ps_imp (ps_set hN hi hx pe_dnewK hs hf) fun D σ H ⟨ρ, F, b, s, q⟩ p hp => by
    obtain ⟨h0, nS, fD, nO⟩ := s.h0 hp
    exact q _ _ F (Same.refl _) (s.setNew i hp (.ownD upd_same fD h0 nS .nil))
theorem ds_dict1 (hN : X.N.Nodup) (hi : X.N[i]? = some x) (hx : Loc X.env.scope x) (hk : DE X g W k fk) (he : DE X g W e fe) (hs : swapsWith (.Dict [some k] [e] p) (some (.Name x pos')) pos.line X.env = pure false := by rfl)
    (hf : X.fn x = true ∨ X.env.scope.names.lookup x = some .local := by first | exact .inl rfl | exact .inr rfl | assumption) : DS X g W (.Assign [.Name x pos'] (.Dict [some k] [e] p) pos) (sDict1 i fk fe) :=
  ps_imp (ps_set hN hi hx (pe_disp (pps_cons hk he pps_nil) rfl rfl (by simp) (by show 1 ≤ 15; decide)) hs hf) fun D σ H ⟨ρ, F, b, s, q⟩ p hp => by
    obtain ⟨h0, nS, fD, nO⟩ := s.h0 hp
    have t0 := s.stepU (.dK []) hp
    refine ⟨ρ, F, b, t0.sr, M.wp_mono (M.wp_bind.mp q) (fun b1 t q1 v H1 F1 s1 r1 => ⟨ρ, F1, b1, s1.sr, M.wp_mono (M.wp_bind.mp q1) (fun b2 u q2 w H2 F2 s2 r2 => ?_) fun b' c' t' z => EX.step (t0.trans s1) b' c' t' z.ex⟩) fun b' c' t' z => EX.step t0 b' c' t' z.ex⟩
    cases ek : keyT t with
    | none => rw [ek] at q2; exact q2.elim
    | some kk =>
      rw [ek] at q2
      have s12 := s1.trans s2
      have fp2 : F2 p = none := s12.new p _ upd_same fD
      refine ⟨s12.kp p _ upd_same nS nO, [(kk, w)], by rw [keyT_v r1 ek]; rfl, (by show 1 ≤ 15; decide), ?_⟩
      have s3 := s12.sr.poke (.dK [(kk, w)]) fp2 h0 nS nO
      exact q2 _ _ F2 s12.ext (s3.setFree i nO (.ownD upd_same fp2 h0 nS (.cons r2 .nil)))
end
end DP
end
section
set_option Elab.async false
set_option linter.all false
set_option maxRecDepth 100000
namespace DP
open PySem PySem.Spec PyProof.Rows L2

/-! ### repr, where nothing else is being shown -/
def flatT : T → Option PyData
  | .non => some .none
  | .bl b => some (.bool b)
  | .int i => some (.int i)
  | .str x => some (.str x)
  | _ => none
def keyD : Key → PyData
  | .inl i => .int i
  | .inr x => .str x
def flatKv : List (Key × T) → Option (List (PyData × PyData))
  | [] => some []
  | (k, t) :: r => (flatT t).bind fun d => (flatKv r).map fun ds => (keyD k, d) :: ds
def dataR : T → Option PyData
  | .dct kvs => (flatKv kvs).map .dict
  | t => dataT t
def reprT : List T → M T
  | [t] => match dataR t with
    | some d => if (d.showable && decide (d.shown.length ≤ 1000000) && decide (d.depth ≤ 64)) = true then .ret (.str d.shown) else .stuck
    | none => .stuck
  | _ => .stuck
mutual
theorem noDict : ∀ {t : T} {d : PyData}, dataT t = some d → d.hasDict = false
  | .non, _, h => by cases h; simp only [PyData.hasDict]
  | .bl _, _, h => by cases h; simp only [PyData.hasDict]
  | .int _, _, h => by cases h; simp only [PyData.hasDict]
  | .str _, _, h => by cases h; simp only [PyData.hasDict]
  | .tup ts, d, h => by
    unfold dataT at h
    cases e : dataTs ts with
    | none => rw [e] at h; cases h
    | some ds => rw [e] at h; cases h; simp only [PyData.hasDict]; exact noDicts e
  | .lst ts, d, h => by
    unfold dataT at h
    cases e : dataTs ts with
    | none => rw [e] at h; cases h
    | some ds => rw [e] at h; cases h; simp only [PyData.hasDict]; exact noDicts e
  | .dct _, _, h => by cases h
  | .obj _ _, _, h => by cases h
  | .fn _, _, h => by cases h
  | .pn _ _, _, h => by cases h
theorem noDicts : ∀ {ts : List T} {ds : List PyData}, dataTs ts = some ds → PyData.hasDictAll ds = false
  | [], _, h => by cases h; simp only [PyData.hasDictAll]
  | t :: ts, ds, h => by
    unfold dataTs at h
    cases e : dataT t with
    | none => rw [e] at h; cases h
    | some d =>
      rw [e] at h
      cases e2 : dataTs ts with
      | none => rw [e2] at h; cases h
      | some ds' => rw [e2] at h; cases h; simp only [PyData.hasDictAll, noDict e, noDicts e2, Bool.or_self]
end
theorem flat_reads {K : KF} {F : Hp} {h : Heap} {t : T} {v : V} {u : Value} {d : PyData} (e : flatT t = some d) (r : Rep K F v t) (rv : RelV v u) : Reads h u d [] := by
  cases t <;> first
    | (cases e; done)
    | (cases e; cases r; first
        | (cases rv; exact .none)
        | (cases rv; exact .bool _)
        | (obtain ⟨t, rfl⟩ := rv; exact .int _ _)
        | (obtain ⟨t, rfl⟩ := rv; exact .str _ _))
theorem kv_reads {K : KF} {F : Hp} {h : Heap} {P : Program} {w : World} : ∀ {kvs : List (Key × T)} {vs : List (Key × V)} {us : List (Key × Value)} {es : List DictEntry} {ds : List (PyData × PyData)}, flatKv kvs = some ds → RepK K F vs kvs → KV vs us → Pairs (mixKind P w) es us →
    ReadsAll h (es.map (·.key)) (ds.map (·.1)) [] ∧ ReadsAll h (es.map (·.val)) (ds.map (·.2)) []
  | [], _, _, _, _, e, .nil, .nil, .nil => by cases e; exact ⟨.nil, .nil⟩
  | (k, t) :: r, _, _, _, _, e, .cons r1 r2, .cons ⟨k1, k2⟩ k3, .cons p1 p2 p3 => by
    have e : ((flatT t).bind fun d => (flatKv r).map fun ds => (keyD k, d) :: ds) = some _ := e
    cases e1 : flatT t with
    | none => rw [e1] at e; cases e
    | some d =>
      rw [e1] at e
      cases e2 : flatKv r with
      | none => rw [e2] at e; cases e
      | some ds =>
        rw [e2] at e
        cases e
        obtain ⟨q1, q2⟩ := kv_reads (h := h) (P := P) (w := w) e2 r2 k3 p3
        refine ⟨ReadsAll.cons (as := []) (bs := []) ?_ q1, ReadsAll.cons (as := []) (bs := []) ?_ q2⟩
        · rw [← k1] at p1
          rcases keyIs_shape p1 with ⟨i, t, e3, e4⟩ | ⟨x, t, e3, e4⟩
          · dsimp only at e3 ⊢; subst e3; rw [e4]; exact .int _ _
          · dsimp only at e3 ⊢; subst e3; rw [e4]; exact .str _ _
        · dsimp only; rw [p2]; exact flat_reads e1 r1 k2
theorem str_none : (PyData.none).shown = ("None" : Str) := by simp [PyData.shown]
section
variable {X : Cx} {g : Cn} {W : WX} {k : Nat} {pos p : Pos} {e : Expr} {es : List Expr} {f : Env' → M T} {fs : Env' → M (List T)}
def rRepr (X : Cx) (K : KF) : List V → Hp → VK → Prop := fun xs H Q => ∃ (F : Hp) (v : V) (t : T) (d : PyData), xs = [v] ∧ Ext F H ∧ Rep K F v t ∧ dataR t = some d ∧ d.showable = true ∧ d.shown.length ≤ 1000000 ∧ d.depth ≤ 64 ∧ Q (.str d.shown) H
theorem cr_repr (hg : X.A.guards = some []) (hr : Room k X.A) : CallR X (.builtin "repr") (rRepr X X.K) := by
  intro pins s σ H xs us Q I r h
  obtain ⟨F, v, t, d, rfl, hF, rt, ed, hs, hz, hd, q⟩ := h
  have hz : d.shown.length ≤ sizeLine := by have := sizeLine_eq; omega
  have hu := hr.un
  cases r with
  | cons rv rr =>
    cases rr
    have fin : ∀ (h' : Heap) (u : Tok) (tk : Nat), (∀ b o, s.heap.get? b = some o → h'.get? b = some o) → EP X pins σ Q (.str d.shown u) { s with heap := h', toks := tk } := fun h' u tk hk => ⟨.str d.shown, H, I.kept hk, ⟨u, rfl⟩, q⟩
    have deep : ∀ {a : Addr} {as : List Addr}, Reads s.heap (.ref a) d as → (d.hasDict = true → sysModules ∉ as) → wpAny (model X.prog X.w) X.A (PySem.call (.builtin "repr") [.ref a]) (EP X pins σ Q) X.xe s := fun {a as} rd hm => repr_of_reads' rd hs hm hg (by omega) (fun _ _ e => e) (fun h' u tk hk => fin h' u tk hk) hz
    cases t with
    | dct kvs =>
      cases rt with
      | @dct a vs _ h1 h2 =>
        cases rv
        have ed : (flatKv kvs).map PyData.dict = some d := ed
        cases e2 : flatKv kvs with
        | none => rw [e2] at ed; cases ed
        | some ds =>
          rw [e2] at ed
          cases ed
          obtain ⟨_, hsm, us, kv, o, es, ep, ho, hx, hdt, _, pr, _⟩ := (show ObjOk X.prog X.w H s.heap a (.dK vs) from I.hok a _ (hF _ _ h1))
          obtain ⟨q1, q2⟩ := kv_reads (h := s.heap) e2 h2 kv pr
          refine deep (Reads.dict ho hx.1 hdt q1 q2) fun _ hm => ?_
          have hm : sysModules ∈ [a] := hm
          rw [List.mem_singleton.mp hm] at hsm
          simp at hsm
    | non => cases rt; cases rv; cases ed; rw [show PyData.shown .none = ("None" : Str) by simp only [PyData.shown]] at fin; exact PySem.P.repr_of_none (fin _ _ _ fun _ _ e => e)
    | bl b => cases rt; cases rv; cases ed; rw [show PyData.shown (.bool b) = (if b then "True" else "False" : Str) by simp only [PyData.shown]] at fin; exact PySem.P.repr_of_bool (fin _ _ _ fun _ _ e => e)
    | int i => cases rt; obtain ⟨tk, rfl⟩ := rv; cases ed; rw [show PyData.shown (.int i) = (toString i : Str) by simp only [PyData.shown]] at fin; exact PySem.P.repr_of_int (of_decide_eq_true hs) (fin _ _ _ fun _ _ e => e)
    | str x => cases rt; obtain ⟨tk, rfl⟩ := rv; cases ed; rw [show PyData.shown (.str x) = reprText x by simp only [PyData.shown]] at fin hz; exact PySem.P.repr_of_str (fin _ _ _ fun _ _ e => e) hz
    | tup ts =>
      have dp := Rep.dp hF rt (show dataT (.tup ts) = some d from ed)
      cases rt with
      | tup h1 h2 =>
        cases rv
        obtain ⟨as, rd⟩ := Dp.reads I d _ _ dp rfl
        exact deep rd (PyData.noDict_hsm (noDict (show dataT (.tup ts) = some d from ed)))
    | lst ts =>
      have dp := Rep.dp hF rt (show dataT (.lst ts) = some d from ed)
      cases rt with
      | lst h1 h2 =>
        cases rv
        obtain ⟨as, rd⟩ := Dp.reads I d _ _ dp rfl
        exact deep rd (PyData.noDict_hsm (noDict (show dataT (.lst ts) = some d from ed)))
    | obj _ _ => cases ed
    | fn _ => cases ed
    | pn _ _ => cases ed
theorem de_repr (hg : X.A.guards = some []) (hr : Room k X.A) (hm : X.mg "repr" = none) (ha : DA X g W (e :: es) fs) (hgl : Gl X "repr" := by rfl)
    (he : starEach (e :: es) X.env = (false, eval e X.env) :: starEach es X.env := by rfl) (hpl : (backTo pos (starEach es X.env)).any (·.1) = false := by rfl) (hK : X.K = g.K := by rfl) : DE X g W (.Call (.Name "repr" p) (e :: es) [] pos) (e1 reprT fs) :=
  de_callB (cr_repr hg hr) (fun σ ρ F H b vs ts Q s r q => by
    rcases r with _ | ⟨r1, _ | ⟨r2, r3⟩⟩
    · exact q.elim
    · rename_i v t
      have q : (match dataR t with | some d => (if (d.showable && decide (d.shown.length ≤ 1000000) && decide (d.depth ≤ 64)) = true then M.ret (T.str d.shown) else .stuck) | none => .stuck).wp b _ _ := q
      cases ed : dataR t with
      | none => rw [ed] at q; exact q.elim
      | some d =>
        rw [ed] at q
        obtain ⟨ok, q2⟩ := if_of q
        rw [Bool.and_eq_true, Bool.and_eq_true] at ok
        exact ⟨F, v, t, d, rfl, s.sub, by rw [hK]; exact r1, ed, ok.1.1, of_decide_eq_true ok.1.2, of_decide_eq_true ok.2, q2 _ H F (Step.refl s) (.str _)⟩
    · exact q.elim) hm (by decide +kernel) ha hgl (by decide) (by decide) he hpl

/-! ### str(i), bool(x) -/
def strI : List T → M T
  | [.int i] => if (decide (i.natAbs.log2 < 1920)) = true then .ret (.str (toString i)) else .stuck
  | _ => .stuck
theorem c_str : Cal g W (fun xs H Q => ∃ i : Int, xs = [.int i] ∧ i.natAbs.log2 < 1920 ∧ Q (.str (toString i)) H) strI := fun σ ρ F H b vs ts Q s r q => by
  rcases r with _ | ⟨r1, _ | ⟨r2, r3⟩⟩
  · exact q.elim
  · cases r1 <;> first
      | exact q.elim
      | (obtain ⟨ok, q2⟩ := if_of q
         exact ⟨_, rfl, of_decide_eq_true ok, q2 _ H F (Step.refl s) (.str _)⟩)
  · cases r1 <;> exact q.elim
def boolI : List T → M T
  | [.int i] => .ret (.bl (i != 0))
  | [.bl b] => .ret (.bl b)
  | _ => .stuck
theorem c_bool : Cal g W (fun xs H Q => (∃ i, xs = [.int i] ∧ Q (.bl (i != 0)) H) ∨ ∃ k, xs = [.bl k] ∧ Q (.bl k) H) boolI := fun σ ρ F H b vs ts Q s r q => by
  rcases r with _ | ⟨r1, _ | ⟨r2, r3⟩⟩
  · exact q.elim
  · cases r1 <;> first
      | exact q.elim
      | exact .inl ⟨_, rfl, q _ H F (Step.refl s) (.bl _)⟩
      | exact .inr ⟨_, rfl, q _ H F (Step.refl s) (.bl _)⟩
  · cases r1 <;> exact q.elim

/-! ### f(k = v, ..), nothing by place -/
def eCallK (π : List T → List T) (m : List T → M T) (f : Env' → M (List T)) : Env' → M T := fun ρ => (f ρ).bind fun ts => m (π ts)
abbrev DK (X : Cx) (g : Cn) (W : WX) (ks : List Keyword) (f : Env' → M (List T)) : Prop := PK X ks (tDA g W f)
theorem pk_imp {ks : List Keyword} {t t' : TA} (h : PK X ks t) (i : ∀ σ H Q, t' σ H Q → t σ H Q) : PK X ks t' := ⟨fun pos pins s σ H Q I hw => h.run pos pins s σ H Q I (i σ H Q hw)⟩
theorem dk_nil : DK X g W [] aNil := pk_imp pk_nil fun σ H Q ⟨ρ, F, b, s, q⟩ => q [] H F (Step.refl s) .nil
theorem dk_cons {nm : Option Str} {kpos : Pos} {ks : List Keyword} (h : DE X g W e f) (hs : DK X g W ks fs) : DK X g W (⟨nm, e, kpos⟩ :: ks) (aCons f fs) :=
  pk_imp (pk_cons h hs) fun σ H Q ⟨ρ, F, b, s, q⟩ => ⟨ρ, F, b, s, M.wp_mono (wp2.mp q) (fun b1 t q1 x H1 F1 s1 r1 => ⟨ρ, F1, b1, s1.sr, M.wp_mono q1 (fun b2 ts q2 vs H2 F2 s2 r2 =>
    q2 (x :: vs) H2 F2 (s1.trans s2) (.cons (r1.ext s2.ext) r2)) fun b' c t' z => EX.step s1 b' c t' z⟩) fun _ _ _ z => z⟩
/-- the keywords' values in the parameters' order: π -/
structure KwB (K : KF) (fd : FuncData) (ps ks : List Str) (np : Nat) (π : {α : Type} → List α → List α) : Prop where
  to : ∀ (s : Shared) (ws : List Value), ws.length = np → BindsTo s fd ⟨[], ks.zip ws⟩ (ps.zip (π ws))
theorem de_callK {f : Addr} {fd : FuncData} {ps ks : List Str} {x : Str} {m : List T → M T} {np : Nat} {kws : List Keyword} {π : {α : Type} → List α → List α} (F : FnOk X.prog X.w X.K X.mg X.base (L2.CX X.prog X.w) k f fd ps (spD g.K g.X false np m)) (hr : Room k X.A) (tk : Takes X W) (hm : X.mg x = some (.ref f)) (hk : PySem.W.keepIn X.K (.ref f) = true) (hb : KwB X.K fd ps ks np π) (ha : DK X g W kws fs)
    (hn : ∀ (ρ : Env') (b : Nat) (Q : Nat → List T → Prop) (E : Nat → Str → T → Prop), (fs ρ).wp b Q E → (fs ρ).wp b (fun b ts => ts.length = np ∧ Q b ts) E)
    (hπV : ∀ (vs : List V) (us : List Value), Vals vs us → Vals (π vs) (π us)) (hπR : ∀ (K : KF) (F : Hp) (vs : List V) (ts : List T), Reps K F vs ts → Reps K F (π vs) (π ts)) (hπL : ∀ vs : List V, vs.length = np → (π vs).length = np)
    (hg : Gl X x := by rfl) (hall : (backToKw pos (keywordEach kws X.env)).all (·.1.isSome) = true := by rfl) (hks : (backToKw pos (keywordEach kws X.env)).filterMap (·.1) = ks := by rfl) (hdb : (x == ("__debug__" : Str)) = false := by decide)
    (hpl : ((backTo pos (starEach [] X.env)).any (·.1) || (backToKw pos (keywordEach kws X.env)).any (·.1.isNone)) = false := by rfl) : DE X g W (.Call (.Name x p) [] kws pos) (eCallK π m fs) := by
  refine ⟨fun pins s σ H Q I h => ?_⟩
  obtain ⟨ρ, Fk, b, sr, q⟩ := h
  refine wpAny_Call_Name_kw (ld_glob I hg hm ?_ hdb)
  refine PySem.W.callWith_KW0 (h₀ := X.base) I.ok.mod.kin hk hall (thn (ha.run pos pins s σ H (fun zs H2 => zs.length = np ∧ spD g.K g.X false np m (π zs) H2 Q (WE W σ)) I ⟨ρ, Fk, b, sr, M.wp_mono (hn ρ b _ _ (M.wp_bind.mp q)) (fun b1 ts z vs H1 F1 s1 r1 => ?_) fun _ _ _ z => z⟩) fun ws s2 ⟨zs, H2, I2, rz, lz, q2⟩ => ⟨I2.kIn, ?_⟩) hpl
  · have lv : vs.length = np := by rw [r1.length]; exact z.1
    exact ⟨lv, call_sp s1.sr (hπR _ _ _ _ r1) (hπL _ lv) (M.wp_mono z.2 (fun b2 t y v H2 F2 s2 r2 => y v H2 F2 (s1.trans s2) r2) fun b' c t y => EX.step s1 b' c t y)⟩
  · rw [hks]
    refine wpAny_call (codeAny_mono (F.run X.A X.stack s2 H2 ⟨[], ks.zip ws⟩ (π ws) (π zs) Q (WE W σ) hr I2.env0 (hb.to s2 ws (rz.length.symm.trans lz)) (hπV _ _ rz) q2) fun r s' hq => ?_)
    cases r with
    | error e => exact passAt tk σ pins H2 s2 e s' I2 hq
    | ok fl =>
      cases fl with
      | ret u => exact I2.after hq
      | next => exact False.elim hq
      | brk => exact False.elim hq
      | cont => exact False.elim hq
/-- two parameters, the other way about -/
def swp {α : Type} : List α → List α
  | [a, b] => [b, a]
  | xs => xs
theorem swp_vals : ∀ (vs : List V) (us : List Value), Vals vs us → Vals (swp vs) (swp us) := fun vs us r => by
  rcases r with _ | ⟨r1, _ | ⟨r2, _ | ⟨r3, r4⟩⟩⟩
  · exact .nil
  · exact .cons r1 .nil
  · exact .cons r2 (.cons r1 .nil)
  · exact .cons r1 (.cons r2 (.cons r3 r4))
theorem swp_reps : ∀ (K : KF) (F : Hp) (vs : List V) (ts : List T), Reps K F vs ts → Reps K F (swp vs) (swp ts) := fun K F vs ts r => by
  rcases r with _ | ⟨r1, _ | ⟨r2, _ | ⟨r3, r4⟩⟩⟩
  · exact .nil
  · exact .cons r1 .nil
  · exact .cons r2 (.cons r1 .nil)
  · exact .cons r1 (.cons r2 (.cons r3 r4))
theorem swp_len {n : Nat} : ∀ vs : List V, vs.length = n → (swp vs).length = n := fun vs h => by
  rcases vs with _ | ⟨a, _ | ⟨b, _ | ⟨c, r⟩⟩⟩ <;> exact h
end
end DP
end
section
set_option Elab.async false
set_option linter.all false
set_option maxRecDepth 100000
/-! set(xs) of a list of ints, as a set whose table is known. -/
namespace DP
open PySem PySem.Spec PyProof.Rows L2
section
variable {P : Program} {w : World} {A : Around} {E : Value → Shared → Prop} {s : Shared}
/-- the empty set, as `set` makes it -/
abbrev eTab (w : World) : SetTable := .fresh 0 0 (!w.params.followText "set-order")
abbrev eSet (w : World) : Obj := { dict := none, cls := .type "set", data := .set #[] 0 (eTab w) }
abbrev wS (w : World) (h : Heap) : Heap := h.push (eSet w)
set_option maxRecDepth 100000 in
set_option maxHeartbeats 6400000 in
theorem set_of_ints {l : Addr} {items : Array Value} (ns : List Int) {Q : Value → Shared → Prop}
    (hh : A.handled = none) (hl : s.heap.IsList l items) (hit : IntsAre items.toList ns) (hb : ns.length + 1 < scanBound)
    (fin : ∀ (h' : Heap) (tk c : Nat), SetR w h' s.heap.objs.size (fun j => decide (j ∈ ns)) c →
      c ≤ ns.length → (∀ b o, s.heap.get? b = some o → h'.get? b = some o) →
      Q (.ref s.heap.objs.size) { s with heap := h', toks := tk }) :
    wpAny (model P w) A (PySem.call (.type "set") [.ref l]) Q E s := by
  have size_ns : items.size = ns.length := by have q := hit.length; simpa using q
  have cs := F.called_set
  obtain ⟨c, tl, hmro⟩ := cs.mro
  have hmade := cs.made
  have hsub := cs.sub
  refine wpAny_call <| codeAny_of_tree ?_
  show wpAny _ _
    (callAny (.type "set") _) _ _ _
  refine wpAny_pure ⟨Code.quiet_builtin _
    (by decide +kernel), codeAny_builtin F.entry_type_call ?_⟩
  rw [Around.under_plain
    (weight_type_call_type "set" [.ref l] []) rfl]
  have h1 := cs.notType
  have h2 := cs.canCreate
  have hct := F.typeCall_set_1 (.ref l)
  repeat (any_goals
    (first | assumption | wp_step))
  refine codeAny_mono (code_set_led1 (.ref l) (E := E)
    (Q₁ := fun ob s₁ => ob = .ref s.heap.objs.size ∧ s₁ = { s with heap := wS w s.heap }) ⟨rfl, rfl⟩) fun r s₁ hr => ?_
  cases r with
  | error e => exact hr
  | ok fl =>
    cases fl with
    | ret ob =>
      obtain ⟨rfl, rfl⟩ := hr
      have got : (wS w s.heap).get? s.heap.objs.size = some (eSet w) := Heap.get?_push_size _ rfl
      have hT : Shared.TypeIs { s with heap := wS w s.heap } (.ref s.heap.objs.size) "set" := ⟨_, got, rfl⟩
      have hli := cs.init.lookup
      have hbi := cs.init.bind (.ref s.heap.objs.size)
      repeat (any_goals
        (first | assumption | wp_step))
      refine codeAny_mono (codeAny_call_builtin
        (R := wants (fun r s₂ => r = .none ∧ ∃ h' tk c, s₂ = { s with heap := h', toks := tk } ∧
          SetR w h' s.heap.objs.size (fun j => decide (j ∈ ns)) c ∧ c ≤ ns.length ∧
          ∀ b o, s.heap.get? b = some o → h'.get? b = some o) E)
        cs.init.plain F.entry_set_init (check_set_init_1 hT ?_)) fun r₂ s₂ hr₂ => ?_
      · obtain ⟨⟨ocls, odict, odata, oslots⟩, hol, hcl, nl, hdl⟩ := hl
        simp only at hcl hdl
        subst hcl hdl
        have hol' : (wS w s.heap).get? l = some { cls := .type "list", dict := odict, data := .seq items nl, slots := oslots } :=
          Heap.get?_push_of_some _ hol
        have z1 := F.sub_list_set
        have z2 := F.sub_list_frozenset
        have z3 : (Value.type "list" == Value.type "dict") = false := by decide
        have isl : (wS w s.heap).IsList l items := ⟨_, hol', rfl, nl, rfl⟩
        unfold Builtin.«set.__init__»
          noKeywords Builtin.Frozenset.updateFrom
        generalize hPI : pyIter = PI
        wp_walk
        subst hPI
        refine wpAny_pyIter_list isl <| wpAny_bind <| wpAny_runValue ?_
        have old : l < s.heap.objs.size := Heap.lt_size hol
        have hd3 : A.in1.in1.in1.handled = none := by simp [hh]
        have apart : l ≠ (wS w s.heap).objs.size := by
          rw [Heap.size_push]
          exact Nat.ne_of_lt (Nat.lt_succ_of_lt old)
        have out : s.heap.objs.size ∉ [(wS w s.heap).objs.size, l] := by
          rw [Heap.size_push, List.mem_cons, List.mem_singleton]
          exact fun z => z.elim (fun e => Nat.ne_of_lt (Nat.lt_succ_self _) e) fun e => Nat.ne_of_gt old e
        have val : ∀ (i : Nat) (v : Value), items[i]? = some v → ∃ k t, ns[i]? = some k ∧ v = .int k t := fun i v hv => by
          have lt : i < ns.length := by
            rw [← size_ns]
            exact (Array.getElem?_eq_some_iff.mp hv).1
          obtain ⟨t, e⟩ := IntsAre.int_at hit i v (by simpa using hv)
          exact ⟨ns[i], t, List.getElem?_eq_getElem lt, by rw [e]; simp [lt]⟩
        refine set_update_ints ((Walks.list hd3 _ l apart items).toS) s.heap.objs.size out ns size_ns hb val
          (items.size - 0) 0 _ rfl (Nat.zero_le _) ⟨⟨_, Heap.get?_push_size _ rfl, rfl, rfl⟩, isl.push _⟩ ?first ?last
        case first => exact ⟨0, Nat.le_refl 0, setR_new_at (Heap.get?_push_of_some _ got)⟩
        case last =>
          intro s' c' hm hc' hS'
          obtain ⟨h', g2, d', tk', os'⟩ := s'
          obtain rfl : g2 = s.gens := hm.gens
          obtain rfl : d' = s.drawn := hm.drawn
          obtain rfl : os' = s.os := hm.os
          show wpAny _ _ _ _ _ _
          refine wpAny_pure ?_
          show wpAny _ _ (ret Value.none) _ _ _
          refine wpAny_pure ⟨rfl, h', tk', c', rfl, hS', by omega, fun b o e => ?_⟩
          have lb : b < s.heap.objs.size := Heap.lt_size e
          refine hm.heap b o ?_ (Heap.get?_push_of_some _ (Heap.get?_push_of_some _ e))
          rw [Heap.size_push, List.mem_cons, List.mem_singleton]
          exact fun z => z.elim (fun e => Nat.ne_of_lt lb e) fun e => Nat.ne_of_lt (Nat.lt_succ_of_lt lb) e
      · cases r₂ with
        | error e => exact hr₂
        | ok fl₂ =>
          cases fl₂ with
          | ret r =>
            obtain ⟨rfl, h', tk, c', rfl, hS', hc', hk'⟩ := hr₂
            repeat (any_goals
              (first | assumption | wp_step))
            exact fin _ _ _ hS' hc' hk'
          | next => exact hr₂
          | brk => exact hr₂
          | cont => exact hr₂
    | next => exact hr
    | brk => exact hr
    | cont => exact hr
end
end DP
end
section
set_option Elab.async false
set_option linter.all false
set_option maxRecDepth 100000
namespace DP
open PySem PySem.Spec PyProof.Rows L2

/-! ### sorted(set(xs)) of ints -/
/-- put in where it belongs, once -/
def putA (i : Int) : List Int → List Int
  | [] => [i]
  | j :: r => if i < j then i :: j :: r else if i = j then j :: r else j :: putA i r
def sortD : List Int → List Int
  | [] => []
  | i :: r => putA i (sortD r)
theorem putA_mem {i k : Int} : ∀ {l : List Int}, k ∈ putA i l ↔ k = i ∨ k ∈ l
  | [] => by simp [putA]
  | j :: r => by
    unfold putA
    split
    · simp
    · split
      · rename_i h1 h2
        subst h2
        simp
      · rw [List.mem_cons, putA_mem, List.mem_cons]
        constructor
        · rintro (h | h | h)
          · exact .inr (.inl h)
          · exact .inl h
          · exact .inr (.inr h)
        · rintro (h | h | h)
          · exact .inr (.inl h)
          · exact .inl h
          · exact .inr (.inr h)
theorem putA_asc {i : Int} : ∀ {l : List Int}, l.Pairwise (· < ·) → (putA i l).Pairwise (· < ·)
  | [], _ => by simp [putA]
  | j :: r, h => by
    unfold putA
    have h1 := List.pairwise_cons.mp h
    split
    · rename_i z
      refine List.pairwise_cons.mpr ⟨fun k hk => ?_, h⟩
      rcases List.mem_cons.mp hk with rfl | hk
      · exact z
      · exact Int.lt_trans z (h1.1 k hk)
    · split
      · exact h
      · rename_i z1 z2
        refine List.pairwise_cons.mpr ⟨fun k hk => ?_, putA_asc h1.2⟩
        rcases putA_mem.mp hk with rfl | hk
        · omega
        · exact h1.1 k hk
theorem sortD_mem {k : Int} : ∀ {l : List Int}, k ∈ sortD l ↔ k ∈ l
  | [] => Iff.rfl
  | i :: r => by
    show k ∈ putA i (sortD r) ↔ _
    rw [putA_mem, sortD_mem, List.mem_cons]
theorem sortD_asc : ∀ l : List Int, (sortD l).Pairwise (· < ·)
  | [] => .nil
  | i :: r => putA_asc (sortD_asc r)
theorem asc_eq : ∀ {l m : List Int}, l.Pairwise (· < ·) → m.Pairwise (· < ·) → (∀ k, k ∈ l ↔ k ∈ m) → l = m
  | [], [], _, _, _ => rfl
  | [], b :: m, _, _, h => by have := (h b).mpr (by simp); simp at this
  | a :: l, [], _, _, h => by have := (h a).mp (by simp); simp at this
  | a :: l, b :: m, hl, hm, h => by
    have l1 := List.pairwise_cons.mp hl
    have m1 := List.pairwise_cons.mp hm
    have e : a = b := by
      rcases List.mem_cons.mp ((h a).mp (by simp)) with e | e
      · exact e
      · rcases List.mem_cons.mp ((h b).mpr (by simp)) with e2 | e2
        · exact e2.symm
        · have := m1.1 a e; have := l1.1 b e2; omega
    subst e
    rw [asc_eq l1.2 m1.2 fun k => ⟨fun hk => ?_, fun hk => ?_⟩]
    · rcases List.mem_cons.mp ((h k).mp (List.mem_cons_of_mem _ hk)) with e | e
      · have := l1.1 k hk; omega
      · exact e
    · rcases List.mem_cons.mp ((h k).mpr (List.mem_cons_of_mem _ hk)) with e | e
      · have := m1.1 k hk; omega
      · exact e
theorem sortD_len (l : List Int) : (sortD l).length ≤ l.length := by
  induction l with
  | nil => exact Nat.le_refl _
  | cons i r ih =>
    have h : ∀ m : List Int, (putA i m).length ≤ m.length + 1 := fun m => by
      induction m with
      | nil => simp [putA]
      | cons j m ihm =>
        unfold putA
        split
        · simp
        · split
          · simp
          · simp; omega
    exact Nat.le_trans (h _) (Nat.succ_le_succ ih)
section
variable {X : Cx} {g : Cn} {W : WX} {k : Nat} {pos p p2 pos2 : Pos} {e : Expr} {fl : Env' → M (Bool × List T)}
/-- the set of a list or a tuple of ints -/
def rSetI (K : KF) (w : World) : List V → Hp → VK → Prop := fun xs H Q => ∃ (l : Addr) (ns : List Int), xs = [V.ref l] ∧ (SqL K H l (ns.map V.int) ∨ SqT K H l (ns.map V.int)) ∧ ns.length < 64 ∧
  ∀ (a : Addr) (n : Nat), H a = none → n < 64 → Q (.ref a) (upd H a (SetO w a (fun j => decide (j ∈ ns)) n))
theorem cr_setI (hc : X.calm = true) : CallR X (.type "set") (rSetI X.K X.w) := by
  intro pins s σ H xs us Q I r h
  obtain ⟨l, ns, rfl, hq, h64, q⟩ := h
  rw [Vals.ref1 r]
  have fin : ∀ (h' : Heap) (tk c : Nat), SetR X.w h' s.heap.objs.size (fun j => decide (j ∈ ns)) c → c ≤ ns.length → (∀ b o, s.heap.get? b = some o → h'.get? b = some o) → EP X pins σ Q (.ref s.heap.objs.size) { s with heap := h', toks := tk } := fun h' tk c R hc' k =>
    ⟨.ref _, upd H s.heap.objs.size (SetO X.w s.heap.objs.size (fun j => decide (j ∈ ns)) c), I.laid k (Nat.le_refl _) (setO_new R), rfl, q _ c (I.hok.fresh (Nat.le_refl _)) (by omega)⟩
  have big : ns.length + 1 < scanBound := by unfold scanBound; omega
  rcases hq with hq | hq
  · obtain ⟨its, rv, pt, hz⟩ := I.list hq
    exact set_of_ints ns (I.ok.hd hc) pt.isList (by simpa using ints_of_vals rv) big fin
  · obtain ⟨its, rv, pt, hz⟩ := I.tuple hq
    exact call_set_tupI ns (I.ok.hd hc) (show s.heap.IsTuple l its.toArray from pt) (by simpa using ints_of_vals rv) big fin
def nSortD (p : Bool × List T) : M (List T) := match intsT p.2 with
  | some ns => if (decide (ns.length < 64)) = true then .ret ((sortD ns).map .int) else .stuck
  | none => .stuck
theorem dn_sortedSet (hc : X.calm = true) (hm : X.mg "sorted" = none) (hm2 : X.mg "set" = none) (ha : DL X g W e fl) (hg : Gl X "sorted" := by rfl) (hg2 : Gl X "set" := by rfl)
    (he : starEach (e :: []) X.env = (false, eval e X.env) :: starEach [] X.env := by rfl) (hpl : (backTo pos2 (starEach [] X.env)).any (·.1) = false := by rfl)
    (he2 : starEach (.Call (.Name "set" p2) [e] [] pos2 :: []) X.env = (false, eval (.Call (.Name "set" p2) [e] [] pos2) X.env) :: starEach [] X.env := by rfl) (hpl2 : (backTo pos (starEach [] X.env)).any (·.1) = false := by rfl) (hK : X.K = g.K := by rfl) :
    DN X g W (.Call (.Name "sorted" p) [.Call (.Name "set" p2) [e] [] pos2] [] pos) (e1 nSortD fl) :=
  pe_imp (pe_callB (cr_sortedSet hc) hg hm (by decide +kernel) (pa_cons (pe_callTy (cr_setI hc) hg2 hm2 (by decide +kernel) (pa_cons ha pa_nil he) (by decide) (by decide) he hpl) pa_nil he2) (by decide) (by decide) he2 hpl2) fun σ H Q ⟨ρ, F, b, s, q⟩ => ⟨ρ, F, b, s, M.wp_mono (M.wp_bind.mp q) (fun b1 pp q1 d H1 F1 s1 h1 => by
    obtain ⟨vs, h2, r3⟩ := h1.now s1.sr
    have q1 : (match intsT pp.2 with | some ns => (if (decide (ns.length < 64)) = true then M.ret ((sortD ns).map T.int) else .stuck) | none => .stuck).wp b1 _ _ := q1
    cases ei : intsT pp.2 with
    | none => rw [ei] at q1; exact q1.elim
    | some ns =>
      rw [ei] at q1
      obtain ⟨ok, q2⟩ := if_of q1
      rw [intsT_eq ei] at r3
      rw [reps_ints r3] at h2
      refine ⟨d, ns, rfl, by rw [hK]; exact h2, of_decide_eq_true ok, fun a n ha hn => ⟨a, _, n, rfl, upd_same, hn, fun ms p hs hmem hlen hp => ?_⟩⟩
      have em : ms = sortD ns := asc_eq hs (sortD_asc ns) fun k => by rw [hmem, sortD_mem]; simp
      subst em
      have st := s1.sr.stepU (SetO X.w a (fun j => decide (j ∈ ns)) n) ha
      exact q2 p _ _ _ F1 (s1.trans st) hp rfl (ints_reps _)) fun _ _ _ z => z⟩
end
end DP
end
section
set_option Elab.async false
set_option linter.all false
set_option maxRecDepth 100000
namespace DP
open PySem PySem.Spec PyProof.Rows L2

/-! ### a law's def where it is called from outside: nothing is being shown there -/
/-- a def's promise, for this one caller alone -/
def OutOk (P : Program) (w : World) (K : KF) (mg : Str → Option Value) (base : Heap) (f : Addr) (fd : FuncData) (ps : List Str) (sp : Sp) : Prop :=
  ∀ (s : Shared) (H : Hp) (args : Args) (us : List Value) (vs : List V) (Q : VK) (E : XK), Env0 P w K mg base callerA [] s H → BindsTo s fd args (ps.zip us) → Vals vs us → sp vs H Q E →
    codeAny (model P w) callerA (.call (.ref f) args) (CR (L2.CX P w) [] P w H s Q E) s
/-- the code object of the def at f -/
structure CodeAt (K : KF) (f : Addr) (qual : Str) (cdv : Value) : Prop where
  ex : ∃ (oc : Value) (od : Option Addr) (osl : Array (Option Value)) (fd : FuncData), K.lookup f = some ⟨oc, od, .func fd, osl⟩ ∧ fd.code = cdv ∧ PySem.W.codeIn K cdv qual = true
section
variable {P : Program} {w : World} {K : KF} {mg : Str → Option Value} {base : Heap}
theorem out_of {x qual : Str} {st : Stmt} {f : Addr} {fd : FuncData} {N ps : List Str} {k : Nat} {sp : Sp} (F : Fun K x qual st f fd) (S : FnScope N ps (defScope st)) (hr : Room (k + 1) callerA)
    (len : ∀ vs H Q E, sp vs H Q E → vs.length = ps.length)
    (body : ∀ (cdv : Value) (s : Shared) (H : Hp) (vs : List V) (Q : VK) (E : XK), CodeAt K f qual cdv → Room k (callerA.deeper (envOfC qual (defScope st) s.heap.objs.size f cdv)) → sp vs H Q E →
      ∃ t, PSs (cxOf (L2.CX P w) P w K mg base N qual (defScope st) f cdv callerA [] s H E) (defBody st) t ∧ t { nx := fun _ H' => Q .non H', rt := Q } (start N vs) H) : OutOk P w K mg base f fd ps sp := by
  obtain ⟨oc, od, kV, doc, pm, an, cdv, ct, osl, rfl, lk, hcd⟩ := F.ex
  intro s H args us vs Q E e0 hb rv hsp
  have hl := len _ _ _ _ hsp
  have up : ∀ b o, base.get? b = some o → s.heap.get? b = some o := fun b o e => (e0.bs b o e).1
  have KX := e0.mod.kin.keeps up
  have kinds : ∀ y ∈ ps.zip us, (defScope st).names.lookup y.1 = some .local ∨ ((defScope st).names.lookup y.1 = some .cell ∧
      ((cellsFrom (s.heap.objs.size + 1) (defScope st).names []).lookup y.1).isSome = true) := fun y hy =>
    (S.par y.1 (List.of_mem_zip hy).1).imp id fun q => ⟨q, PySem.W.cellsFrom_some _ _ _ (.inl q)⟩
  refine codeAny_call_function hr.depth (KX _ _ lk) rfl
    S.co S.gen rfl (PySem.W.codeRec_of KX hcd) (hb _ _ _ _ ?_)
  refine wpAny_newFunctionEnv_cells S.kind kinds fun env he s1 x => ?_
  cases he
  refine ⟨(e0.mod.nolimit.keeps up).keeps x.toInCall.keep,
    codeAny_func ?_⟩
  obtain ⟨t, ht, hq⟩ := body cdv s H vs Q E ⟨oc, od, osl, _, lk, rfl, hcd⟩ (hr.deeper _) hsp
  refine wpAny_mono (ht.run [] s1 (start N vs) H _
    (inv_start S hr.hd e0 hl rv x) hq) (fun fl s' hs => ?_) fun _ _ z => z
  cases fl with
  | ret u =>
    obtain ⟨v, σ', H', J, rv, q⟩ := hs
    exact ⟨v, H', J.os, J.bare, J.base, J.hok, rv, q⟩
  | next =>
    obtain ⟨σ', H', J, q⟩ := hs
    exact ⟨.non, H', J.os, J.bare, J.base, J.hok, rfl, q⟩
  | brk => obtain ⟨_, _, _, y⟩ := hs; exact False.elim y
  | cont => obtain ⟨_, _, _, y⟩ := hs; exact False.elim y
end

/-- the script alone is known of the heap -/
def onlyAt (a : Addr) (o : HO) : Hp := fun b => if b = a then some o else none
theorem onlyAt_self {a : Addr} {o : HO} : onlyAt a o a = some o := if_pos rfl
theorem onlyAt_some {a b : Addr} {o u : HO} (h : onlyAt a o b = some u) : b = a ∧ u = o := by
  unfold onlyAt at h
  split at h
  · rename_i e; cases h; exact ⟨e, rfl⟩
  · cases h
/-- the heap at the call: what is of the module, and what is known of the script -/
structure Entry (P : Program) (w : World) (K : KF) (mg : Str → Option Value) (s : Shared) (a : Addr) (ns : List Int) (H : Hp) : Prop where
  hok : HOk P w H s.heap
  only : ∀ b u, H b = some u → b = a ∧ K.lookup a = none ∧ ∃ o xs, u = .frz o (.lst xs)
  there : SqL K H a (ns.map V.int)
theorem entry {P : Program} {w : World} {K : KF} {mg : Str → Option Value} {s : Shared} {a : Addr} {vs : List Value} {ns : List Int} (KX : K.In s.heap)
    (ha : s.heap.get? a = some { cls := .type "list", data := .seq vs.toArray }) (hi : IntsAre vs ns) (hl : ns.length ≤ sizeLine) : ∃ H, Entry P w K mg s a ns H := by
  have rv := vals_ints hi
  have len : vs.length = ns.length := hi.length
  cases hk : K.lookup a with
  | some o =>
    have e := KX a o hk
    rw [ha] at e
    cases e
    have no : ∀ {u : HO}, (none : Option HO) = some u → False := fun z => nomatch z
    exact ⟨fun _ => none, ⟨fun _ _ z => (no z).elim, fun _ _ z => (no z).elim, .inr ⟨_, vs.toArray, _, hk, rfl, rfl, rfl, by simpa [len] using hl, by simpa using rv⟩⟩⟩
  | none =>
    refine ⟨onlyAt a (.frz { cls := .type "list", data := .seq vs.toArray } (.lst (ns.map V.int))), ⟨fun b u z => ?_, fun b u z => ?_, .inl (.inr ⟨_, onlyAt_self⟩)⟩⟩
    · obtain ⟨rfl, rfl⟩ := onlyAt_some z
      exact ⟨ha, by simpa using hl, vs, _, rv, ha⟩
    · obtain ⟨rfl, rfl⟩ := onlyAt_some z
      exact ⟨rfl, hk, _, _, rfl⟩
theorem top_call {P : Program} {w : World} {K : KF} {mg mb : Str → Option Value} {fa a : Addr} {fd : FuncData} {x : Str} {sp : Sp} {s : Shared} {vs : List Value} {ns : List Int}
    (KX : K.In s.heap) (hns : s.heap.Ns mainGlobals mg) (hb : s.heap.Ns builtinsNs mb) (hbb : ∀ x : Str, x ≠ "__name__" → mb x = bootBuiltins x) (hlim : s.heap.NoLimit) (hg : s.gens = #[])
    (ha : s.heap.get? a = some { cls := .type "list", data := .seq vs.toArray }) (hi : IntsAre vs ns) (hl : ns.length ≤ sizeLine)
    (F : ∀ base : Heap, OutOk P w K mg base fa fd [x] sp) (bind : ∀ (s : Shared) (u : Value), BindsTo s fd ⟨[u], []⟩ [(x, u)])
    (hsp : ∀ H : Hp, SqL K H a (ns.map V.int) → sp [.ref a] H (fun v _ => v = .bl true) fun _ _ _ => False) :
    codeAny (model P w) callerA (.call (.ref fa) ⟨[.ref a], []⟩) (fun r s' => r = .ok (.ret (.bool true)) ∧ OldK s.heap s'.heap ∧ s'.os = s.os ∧ AllBare s'.gens) s := by
  obtain ⟨H, N⟩ := entry (P := P) (w := w) (mg := mg) KX ha hi hl
  have free : ∀ {b : Addr}, b ≠ a → H b = none := fun {b} n => by
    cases e : H b with
    | none => rfl
    | some u => exact absurd (N.only b u e).1 n
  -- a namespace is no list
  have keepNs : ∀ {b : Addr} {m : Str → Option Value}, s.heap.Ns b m → (hidT s.heap H).Ns b m := fun {b m} ⟨o, es, ep, e, d, r⟩ => by
    refine ⟨o, es, ep, hidT_get e (free fun z => ?_), d, r⟩
    rw [z, ha] at e
    cases e
    cases d
  have KB : K.In (hidT s.heap H) := fun b o e => by
    refine hidT_get (KX b o e) ?_
    cases z : H b with
    | none => rfl
    | some u =>
      obtain ⟨rfl, z2, _⟩ := N.only b u z
      rw [z2] at e
      cases e
  obtain ⟨mc, l1, l2⟩ := hlim
  have E0 : Env0 P w K mg (hidT s.heap H) callerA [] s H := ⟨rfl, ⟨KB, keepNs hns, ⟨mb, keepNs hb, hbb⟩, ⟨mc, keepNs l1, l2⟩⟩, fun b o e => of_hidT e, Nat.le_of_eq (hidT_size _ _), trivial, fun b z => absurd (show b ∈ ([] : List Addr) from z) (by simp), N.hok, .of_eq hg⟩
  refine codeAny_mono (F _ s H ⟨[.ref a], []⟩ [.ref a] [.ref a] _ _ E0 (bind s (.ref a)) (.cons rfl .nil) (hsp H N.there)) fun r s' z => ?_
  cases r with
  | error e =>
    obtain ⟨_, _, _, _, _, _, _, _, _, _, _, _, y⟩ := z
    exact y.elim
  | ok fl =>
    cases fl with
    | ret u =>
      obtain ⟨v, H', os, bare, un, hok', rv, q⟩ := z
      cases (show v = .bl true from q)
      cases (show u = Value.bool true from rv)
      refine ⟨rfl, OldK.of_keep fun b o e => ?_, os, bare⟩
      cases y : H b with
      | none => exact un.keep b o e y (fun h => absurd (show b ∈ ([] : List Addr) from h) (by simp)) (by simp)
      | some u =>
        obtain ⟨_, _, ob, xs, rfl⟩ := N.only b u y
        obtain ⟨e1, _⟩ := N.hok b _ y
        obtain ⟨e2, _⟩ := hok' b _ (un.frzs b ob _ y)
        rw [e] at e1
        cases e1
        exact e2
    | next => exact z.elim
    | brk => exact z.elim
    | cont => exact z.elim
theorem walk_top {l : PySem.W.OpenLaw} {n : Nat} {q : Program} {loose : List Str} {XP : (Str → Option Value) → Heap → Prop} {YP : World → Heap → Prop} {d : DefRec} {x : Str}
    (hn : l.most = some n) (hn2 : n ≤ sizeLine) (hdf : d.params.defaults = [])
    (F : ∀ (w : World) (mg : Str → Option Value) (fa : Addr) (h : Heap), YP w h → h.Ns mainGlobals mg → mg d.name = some (.ref fa) →
      ∃ (K : KF) (fd : FuncData) (sp : Sp), K.In h ∧ (∀ (s : Shared) (u : Value), BindsTo s fd ⟨[u], []⟩ [(x, u)]) ∧
        (∀ (H : Hp) (a : Addr) (ns : List Int), ns.length ≤ n → SqL K H a (ns.map V.int) → sp [.ref a] H (fun v _ => v = .bl true) fun _ _ _ => False) ∧ ∀ base : Heap, OutOk l.prog w K mg base fa fd [x] sp) :
    PySem.W.WalkO q loose XP YP l.row.toRowW d [] (fun f vs => PySem.call f vs) :=
  Att.attach_call hn hdf fun w s₀ s₁ mg mb fa o pm cd doc a vs ns G Y ho hd hcd hmg hobj hints hlen hg => by
    obtain ⟨K, fd, sp, KX, hb, hsp, hF⟩ := F w mg fa _ Y G.T.g hmg
    exact top_call KX G.T.g G.T.b G.T.builtins G.T.nolimit hg hobj hints (Nat.le_trans hlen hn2) hF hb fun H hS => hsp H a ns hlen hS

section
variable {P : Program} {w : World} {K : KF} {mg : Str → Option Value} {base : Heap} {Xc : Str → Addr × Str} {x qual : Str} {sd st0 : Stmt} {rest : List Stmt} {fa : Addr} {fd : FuncData} {N : List Str} {k i : Nat} {G : Env' → M Fl} {xs : Str} {TT : List (Addr × Str)}
/-- the law's promise, the tables of its lambdas' code being empty -/
def spLawT (K : KF) (TT : List (Addr × Str)) : Sp := fun vs H Q E => (∀ p ∈ TT, H p.1 = some (.tbl #[])) ∧ spLaw K vs H Q E
/-- law_deep, for the caller outside -/
theorem law_out (F : Fun K x qual sd fa fd) (S : FnScope N [xs] (defScope sd)) (hb : defBody sd = st0 :: rest) (hr : Room (k + 1) callerA)
    (h0 : ∀ (cdv : Value) (s : Shared) (H : Hp) (E : XK), CodeAt K fa qual cdv → Room k (callerA.deeper (envOfC qual (defScope sd) s.heap.objs.size fa cdv)) →
      PS (cxOf (L2.CX P w) P w K mg base N qual (defScope sd) fa cdv callerA [] s H E) st0 (tAsg (tCall (spStream K) [] E0 (tCons (tVar 0) tNil)) (gName i)))
    (body : ∀ (cdv : Value) (s : Shared) (H : Hp) (E : XK) (H0 : Hp) (S0 : Option (Addr × Addr)), CodeAt K fa qual cdv → Room k (callerA.deeper (envOfC qual (defScope sd) s.heap.objs.size fa cdv)) →
      DSs (cxOf (L2.CX P w) P w K mg base N qual (defScope sd) fa cdv callerA [] s H E) ⟨K, H0, fun _ => none, S0, Xc, none, SetTO P w, TT⟩ (fun cls d _ H => E cls d H) rest G)
    (good : (G ((List.replicate N.length Sl.any).set i .strm)).wp (10 ^ 13) (fun _ fl => fl = .ret (.bl true)) fun _ _ _ => False) : OutOk P w K mg base fa fd [xs] (spLawT K TT) := by
  refine out_of F S hr (fun vs H Q E h => ?_) fun cdv sh H vs Q E hcd hr h => ?_
  · obtain ⟨_, a, ns, rfl, _⟩ := h
    rfl
  obtain ⟨hTT, a, ns, rfl, h1, h2⟩ := h
  have hN : 1 ≤ N.length := by
    have := congrArg List.length S.pre
    rw [List.length_take] at this
    simp at this
    omega
  have z0 : (L2.start N [V.ref a])[0]? = some (some (V.ref a)) := rfl
  have zl : (L2.start N [V.ref a]).length = N.length := by
    unfold L2.start
    simp
    omega
  generalize hσ : L2.start N [V.ref a] = σ at z0 zl
  rw [hb]
  refine ⟨_, pss_cons (h0 cdv sh H E hcd hr) (PSs.mk (t := tLaw K Xc (SetTO P w) TT (fun cls d _ H => E cls d H) G) fun pins s σ1 H1 D I q => ?_), ?_⟩
  · obtain ⟨s', l', q⟩ := q
    exact (body cdv sh H E H1 (some (s', l')) hcd hr).run pins s σ1 H1 D I q
  · refine ⟨_, z0, a, ns, rfl, h1, fun s l hs hl ne => ?_⟩
    refine ⟨s, l, (List.replicate N.length Sl.any).set i .strm, fun _ => none, 10 ^ 13, ⟨fun _ _ e => (nomatch e), Same.refl _, fun _ _ e _ => e, fun _ _ _ e => e, ?_, fun j j' c y z _ hy _ oy _ => ?_, fun p q e => ?_, fun p q m => ?_⟩, M.wp_mono good (fun b fl z => ?_) fun _ _ _ z => z.elim⟩
    · rw [← zl]
      exact Paired.set2 (.strm rfl) i (any_all σ)
    · have : y.isOwn = false := by
        rcases List.mem_or_eq_of_mem_set (List.mem_of_getElem? hy) with h | h
        · rw [(List.mem_replicate.mp h).2]; rfl
        · rw [h]; rfl
      rw [this] at oy
      cases oy
    · cases e
      exact ⟨rfl, rfl, ne, ns, 0, 0, 17, upd_same, by rw [upd_ne ne.symm]; exact upd_same, by decide, by decide, by decide, by decide, by decide⟩
    · have z := hTT _ m
      refine ⟨rfl, #[], ?_, True.intro, fun pos cv hc => ?_⟩
      · rw [upd_ne (ne_of_none z hs), upd_ne (ne_of_none z hl)]; exact z
      · have y : codeAmong pos [] = some cv := hc
        simp [codeAmong] at y
    · subst z
      exact fun v σ' ρ' H' F' _ _ r => by
        cases r
        exact h2 H'
end
end DP
end
section
set_option Elab.async false
set_option linter.all false
set_option maxRecDepth 100000
namespace DP
open PySem PySem.Spec PyProof.Rows L2

/-! ### isinstance(x, (T, U)), x perhaps an instance of C, a class of the program's own -/
structure IsC (K : KF) (C : Addr) (n m : String) : Prop where
  cl : Cls K C
  ha : PySem.W.findIn K (.ref C) "__class__" = some (some (.builtin "object.__class__"))
  hn : PySem.W.specialIn K (.builtin "object.__class__") "__get__" = some (some (.builtin "getset_descriptor.__get__"))
  htk : PySem.W.takesIn K (.builtin "object.__class__") = some true
  hm : PySem.W.mroIn K C (.type "object") = some true
  k1 : PySem.W.kitOne K (.ref C) (.type n) = some false
  k2 : PySem.W.kitOne K (.ref C) (.type m) = some false
def isCB (x : Str) (n m : String) (K : KF) : Bool := He.Fa.ok K (.cls x) && (He.eqO (PySem.W.findIn K (.ref (He.ga K x)) "__class__") (some (some (.builtin "object.__class__"))) && (He.eqO (PySem.W.specialIn K (.builtin "object.__class__") "__get__") (some (some (.builtin "getset_descriptor.__get__"))) &&
  (decide (PySem.W.takesIn K (.builtin "object.__class__") = some true) && (decide (PySem.W.mroIn K (He.ga K x) (.type "object") = some true) && (decide (PySem.W.kitOne K (.ref (He.ga K x)) (.type n) = some false) && decide (PySem.W.kitOne K (.ref (He.ga K x)) (.type m) = some false))))))
theorem isC_ok {K : KF} {x : Str} {n m : String} (h : isCB x n m K = true) : IsC K (He.ga K x) n m := by
  unfold isCB at h
  obtain ⟨c1, h⟩ := He.ba h
  obtain ⟨c2, h⟩ := He.ba h
  obtain ⟨c3, h⟩ := He.ba h
  obtain ⟨c4, h⟩ := He.ba h
  obtain ⟨c5, h⟩ := He.ba h
  obtain ⟨c6, c7⟩ := He.ba h
  exact ⟨He.cls_ok c1, He.eqO_ok c2, He.eqO_ok c3, of_decide_eq_true c4, of_decide_eq_true c5, of_decide_eq_true c6, of_decide_eq_true c7⟩
def isiO2 (C : Addr) (n m : String) : T → M T
  | .obj D _ => if D = C then .ret (.bl false) else .stuck
  | t => isiT2 n m t
section
variable {X : Cx} {g : Cn} {W : WX} {k i j : Nat} {pos p : Pos} {e o : Expr} {f : Env' → M T}
theorem de_isiO2 {y z : Str} {n m : String} {C : Addr} {p2 p3 p4 : Pos} {kk : Nat} (ic : IsC X.K C n m) (hm : X.mg "isinstance" = none) (hy : X.mg y = none) (hv : bootBuiltins y = some (.type n)) (hz : X.mg z = none) (hvz : bootBuiltins z = some (.type m)) (ha : DE X g W e f) (hg : Gl X "isinstance" := by rfl) (hgy : Gl X y := by rfl) (hgz : Gl X z := by rfl)
    (hny : y ≠ "__name__" := by decide) (hdy : (y == ("__debug__" : Str)) = false := by decide) (hnz : z ≠ "__name__" := by decide) (hdz : (z == ("__debug__" : Str)) = false := by decide)
    (he : starEach (e :: [.Tuple [.Name y p2, .Name z p3] kk p4]) X.env = (false, eval e X.env) :: starEach [.Tuple [.Name y p2, .Name z p3] kk p4] X.env := by rfl) (he2 : starEach (.Tuple [.Name y p2, .Name z p3] kk p4 :: []) X.env = (false, eval (.Tuple [.Name y p2, .Name z p3] kk p4) X.env) :: starEach [] X.env := by rfl)
    (he3 : starEach (.Name y p2 :: [.Name z p3]) X.env = (false, eval (.Name y p2) X.env) :: starEach [.Name z p3] X.env := by rfl) (he4 : starEach (.Name z p3 :: []) X.env = (false, eval (.Name z p3) X.env) :: starEach [] X.env := by rfl)
    (hpl : (backTo pos (starEach [.Tuple [.Name y p2, .Name z p3] kk p4] X.env)).any (·.1) = false := by rfl) (hK : X.K = g.K := by rfl) :
    DE X g W (.Call (.Name "isinstance" p) [e, .Tuple [.Name y p2, .Name z p3] kk p4] [] pos) (e1 (isiO2 C n m) f) := by
  have base := de_isi2 (g := g) (W := W) (p := p) (pos := pos) hm hy hv hz hvz ha hg hgy hgz hny hdy hnz hdz he he2 he3 he4 hpl hK
  refine pe_imp (pe_callB call_some hg hm (by decide +kernel) (pa_cons ha (pa_cons (pe_tup (pa_cons (pe_bltn (v := .ty n) hgy hy hv rfl hny hdy) (pa_cons (pe_bltn (v := .ty m) hgz hz hvz rfl hnz hdz) pa_nil he4) he3)) pa_nil he2) he) (by decide) (by decide) he hpl) fun σ H Q ⟨ρ, F, b, s, q⟩ => ⟨ρ, F, b, s, M.wp_mono (M.wp_bind.mp q) (fun b1 t q1 v H1 F1 s1 r1 => ?_) fun _ _ _ z => z⟩
  refine ⟨by show 2 ≤ sizeLine; decide, fun tp htp => ?_⟩
  have st := s1.sr.stepU (.tup [.ty n, .ty m]) htp
  have plain : ∀ {t : T}, (isiT2 n m t).wp b1 (fun b' t => ∀ v H' F', Step g σ ρ F H F' H' b' → Rep g.K F' v t → Q v H') (EX g W σ ρ F H) → Rep g.K F1 v t →
      ∃ (x : V) (tp' : Addr) (cs : List V) (ty : Value) (ws : List Value) (b : Bool), [v, .ref tp] = [x, .ref tp'] ∧ upd H1 tp (.tup [.ty n, .ty m]) tp' = some (.tup cs) ∧ Paired ClsV cs ws ∧ TyY X.K (upd H1 tp (.tup [.ty n, .ty m])) x ty ∧ PySem.W.kitAny X.K ty ws = some b ∧ Q (.bl b) (upd H1 tp (.tup [.ty n, .ty m])) := fun {t} q1 r1 => by
    have q1 : (match tyName t with | some a => (match kitB a n, kitB a m with | some b, some c => M.ret (T.bl (b || c)) | _, _ => .stuck) | none => .stuck).wp b1 _ _ := q1
    cases e1 : tyName t with
    | none => rw [e1] at q1; exact q1.elim
    | some a =>
      rw [e1] at q1
      dsimp only at q1
      cases e2 : kitB a n with
      | none => rw [e2] at q1; exact q1.elim
      | some b' =>
        cases e3 : kitB a m with
        | none => rw [e2, e3] at q1; exact q1.elim
        | some c' =>
          rw [e2, e3] at q1
          refine ⟨v, tp, [.ty n, .ty m], .type a, [.type n, .type m], b' || c', rfl, upd_same, .cons (.ty n) (.cons (.ty m) .nil), by rw [hK]; exact tyX_of st.sr.sub (r1.ext st.ext) e1, ?_, q1 _ _ _ (s1.trans st) (.bl _)⟩
          refine kitAny_cons (kit_ty e2) (fun hb => ?_) (fun hb => by rw [hb]; rfl)
          refine kitAny_cons (kit_ty e3) (fun hc => ?_) (fun hc => by rw [hc, hb]; rfl)
          rw [hb, hc]
          exact kitAny_nil
  cases t with
  | obj D us =>
    cases r1 with
    | @obj a dx _ vs _ h1 h2 =>
      have q1 : (if D = C then M.ret (T.bl false) else .stuck).wp b1 _ _ := q1
      by_cases z : D = C
      · subst z
        rw [if_pos rfl] at q1
        refine ⟨.ref a, tp, [.ty n, .ty m], .ref D, [.type n, .type m], false, rfl, upd_same, .cons (.ty n) (.cons (.ty m) .nil), .x (.base (.ins (st.sr.sub _ _ (st.ext _ _ h1)) ic.cl ic.ha ic.hn ic.htk ic.hm)), ?_, q1 _ _ _ (s1.trans st) (.bl _)⟩
        exact kitAny_cons ic.k1 (fun _ => kitAny_cons ic.k2 (fun _ => kitAny_nil) fun h => nomatch h) fun h => nomatch h
      · rw [if_neg z] at q1
        exact q1.elim
  | non => exact plain (t := .non) q1 r1
  | bl c => exact plain (t := .bl c) q1 r1
  | int c => exact plain (t := .int c) q1 r1
  | str c => exact plain (t := .str c) q1 r1
  | tup c => exact plain (t := .tup c) q1 r1
  | lst c => exact plain (t := .lst c) q1 r1
  | dct c => exact plain (t := .dct c) q1 r1
  | fn c => exact plain (t := .fn c) q1 r1
  | pn a c => exact plain (t := .pn a c) q1 r1

/-! ### a list that is passed, kept by what it was passed to, and changed later -/
theorem SR.pinAt {F H : Hp} {σ : Sg} {ρ : Env'} {b : Nat} {a : Addr} {vs : List V} {ts : List T} (s : SR g F H σ ρ b) (hx : ρ[i]? = some (.own ts)) (hv : σ[i]? = some (some (.ref a))) (ha : H a = some (.lst vs)) (r : Reps g.K F vs ts) (hf : F a = none) (h0 : g.H0 a = none) (ns : ¬ g.inS a) :
    SR g (upd F a (.lst vs)) H σ (ρ.set i (.val (.pn a ts))) b := by
  have e : Ext F (upd F a (.lst vs)) := Ext.upd hf
  refine ⟨fun c u q => ?_, s.f0.trans e, s.keep, fun c u q1 q2 => ?_, ?_, fun j k c z w jk hz hw oz ow e1 => ?_, fun p l q => ?_, s.tabK e fun p q m => ⟨fun _ h => h, by rw [upd_ne (Cn.tabNe ns m)]; exact (s.tabs p q m).1⟩⟩
  · by_cases hc : c = a
    · subst hc; rw [upd_same] at q; cases q; exact ha
    · rw [upd_ne hc] at q; exact s.sub c u q
  · rw [upd_ne (fun z => by subst z; rw [h0] at q1; cases q1)]; exact s.new c u q1 q2
  · refine Paired.setImp (i := i) s.slots hv (.val (.pn upd_same (r.ext e))) fun j v z hj h1 h2 q => ?_
    have ne : ∀ c : Addr, v = some (.ref c) → z.isOwn = true → c ≠ a := fun c e1 oz z1 => by
      subst z1
      exact s.dis i j c _ z (Ne.symm hj) hx h2 rfl oz hv (by rw [h1, e1])
    cases q with
    | any v => exact .any v
    | val r => exact .val (r.ext e)
    | own z1 z2 z3 z4 z5 => exact .own z1 (by rw [upd_ne (ne _ rfl rfl)]; exact z2) z3 z4 (z5.ext e)
    | ownD z1 z2 z3 z4 z5 => exact .ownD z1 (by rw [upd_ne (ne _ rfl rfl)]; exact z2) z3 z4 (z5.ext e)
    | ownS z1 z2 z3 z4 z5 => exact .ownS z1 (by rw [upd_ne (ne _ rfl rfl)]; exact z2) z3 z4 (z5.ext e)
    | strm h => exact .strm h
    | pin h => exact .pin h
  · rcases get_set hz with ⟨rfl, rfl, _⟩ | ⟨nj, hz⟩
    · cases oz
    · rcases get_set hw with ⟨rfl, rfl, _⟩ | ⟨nk, hw⟩
      · cases ow
      · exact s.dis j k c z w jk hz hw oz ow e1
  · obtain ⟨q1, q2, q3, q4⟩ := s.strm p l q
    exact ⟨by rw [upd_ne (fun z => ns (.inl ⟨p, l, q, .inl z.symm⟩))]; exact q1, by rw [upd_ne (fun z => ns (.inl ⟨p, l, q, .inr z.symm⟩))]; exact q2, q3, q4⟩
open Classical in
/-- y = f(.., x); x.append(z): f keeps the very x in a pair behind a word -/
noncomputable def sHeld (i j : Nat) (f : Env' → M T) (w z : Str) : Env' → M Fl := fun ρ => match ownL i ρ with
  | some ts => if (∀ a : Addr, f (ρ.set i (.val (.pn a ts))) = .ret (.tup [.str w, .pn a ts])) ∧ (okLen ts.length && (ρ.set i .any).all fun y => !y.isOwn) = true then .ret (.next ((ρ.set i .any).set j (.val (.tup [.str w, .lst (ts ++ [.str z])])))) else .stuck
  | none => .stuck
open Classical in
theorem dss_held {x : Str} {py p1 spos apos cpos : Pos} {kz : Nat} {w z : Str} {rest : List Stmt} {G2 : Env' → M Fl} (hij : i ≠ j) (hN : X.N.Nodup) (hj : X.N[j]? = some x) (hx : Loc X.env.scope x) (he : DE X g W e f) (h0 : PE X o (tVar i)) (hrest : DSs X g W rest G2)
    (hs : swapsWith e (some (.Name x py)) p1.line X.env = pure false := by rfl) (hf : X.fn x = true ∨ X.env.scope.names.lookup x = some .local := by first | exact .inl rfl | exact .inr rfl | assumption)
    (hs2 : swapsWith (.Call (.Attribute o "append" apos) [.Constant (.str z) kz cpos] [] pos) none spos.line X.env = pure false := by rfl)
    (hbase : attributeBase o "append" X.env (eval o X.env) = eval o X.env := by rfl)
    (hfew : ((backTo pos (starEach (Expr.Constant (.str z) kz cpos :: []) X.env)).all (fun x => !x.1) && (backToKw pos (keywordEach [] X.env)).all (fun x => x.1.isSome)
      && decide ((Expr.Constant (.str z) kz cpos :: []).length + ([] : List Keyword).length + (if ([] : List Keyword).isEmpty then 0 else 1) < 30)) = true := by rfl)
    (hline : (apos.endLine == pos.line) = true := by rfl) (hst : starEach (Expr.Constant (.str z) kz cpos :: []) X.env = (false, eval (.Constant (.str z) kz cpos) X.env) :: starEach [] X.env := by rfl) (hplain : (backTo pos (starEach [] X.env)).any (·.1) = false := by rfl) :
    DSs X g W (.Assign [.Name x py] e p1 :: .Expr (.Call (.Attribute o "append" apos) [.Constant (.str z) kz cpos] [] pos) spos :: rest) (sSeq (sHeld i j f w z) G2) := by
  refine pss_imp (pss_cons (ps_set hN hj hx he hs hf) (pss_cons (ps_expr (pe_bm PySem.F.plainAttrs_list PySem.F.slot_list_append PySem.F.type_list_append mt_append h0 (pa_cons pe_str pa_nil hst) hbase hfew hline hst hplain) hs2) hrest)) fun D σ H ⟨ρ, F, b, s, q⟩ => ?_
  have q := M.wp_bind.mp q
  unfold sHeld at q
  cases eo : ownL i ρ with
  | none => rw [eo] at q; exact q.elim
  | some ts =>
    rw [eo] at q
    obtain ⟨⟨hfe, ok⟩, q⟩ := if_of q
    obtain ⟨ok, alone⟩ := Bool.and_eq_true_iff.mp ok
    have alone : ∀ (k : Nat) (y : Sl), k ≠ i → ρ[k]? = some y → y.isOwn = false := fun k y hk hy => by
      have z := List.all_eq_true.mp alone y (List.mem_of_getElem? (i := k) (by rw [List.getElem?_set_ne (Ne.symm hk)]; exact hy))
      cases e : y.isOwn with
      | false => rfl
      | true => simp [e] at z
    have hx := ownL_of eo
    obtain ⟨u, hv, sl⟩ := Paired.get1 s.slots hx
    cases sl with
    | @own a vs _ ha hf0 hH0 nS r =>
      have s1 := s.pinAt hx hv ha r hf0 hH0 nS
      refine ⟨_, _, b, s1, ?_⟩
      rw [hfe a]
      intro v H' F' st rv
      have pa : F' a = some (.lst vs) := st.ext _ _ upd_same
      have pH : H' a = some (.lst vs) := st.sr.sub _ _ pa
      have il : i < σ.length := (List.getElem?_eq_some_iff.mp hv).1
      have e0 : Ext F F' := fun c u e => st.ext c u (by rw [upd_ne (ne_of_none e hf0)]; exact e)
      have e3 : Ext F (upd F' a (.lst (vs ++ [.str z]))) := fun c u e => by rw [upd_ne (ne_of_none e hf0)]; exact e0 c u e
      refine ⟨.ref a, by rw [List.getElem?_set_ne (Ne.symm hij)]; exact hv, .inl ⟨rfl, vs, SqL.of pH⟩, a, vs, .str z, rfl, rfl, pH, by rw [r.length]; exact okLen_line ok, ?_⟩
      refine ⟨_, upd F' a (.lst (vs ++ [.str z])), b, ?_, M.wp_mono q (fun _ _ y => y.step e3) fun _ _ _ y => y.step e3⟩
      refine ⟨fun c u e => ?_, s.f0.trans e3, fun c u e n => ?_, fun c u e n => ?_, ?_, fun j1 k1 c y1 y2 jk hy hz oy oz e1 => ?_, fun p l e => ?_, fun p q m => ?tb⟩
      case tb =>
        obtain ⟨h1, ps, h2, h3, h4⟩ := st.sr.tabs p q m
        have pa' : p ≠ a := Cn.tabNe nS m
        refine ⟨by rw [upd_ne pa']; exact h1, ps, by rw [upd_ne pa']; exact h2, h3, fun pos cv hc => ?_⟩
        obtain ⟨c, e1, e2⟩ := h4 pos cv hc
        exact ⟨c, e1, by rw [upd_ne (fun y => by rw [y, pa] at e2; nomatch e2)]; exact e2⟩
      · by_cases hc : c = a
        · subst hc; rw [upd_same] at e ⊢; exact e
        · rw [upd_ne hc] at e ⊢; exact st.sr.sub c u e
      · rw [upd_ne (ne_of_none e hH0)]; exact st.sr.keep c u e n
      · rw [upd_ne (ne_of_none e hH0)]; exact st.sr.new c u e n
      · have told : Rep g.K (upd F' a (.lst (vs ++ [.str z]))) v (.tup [.str w, .lst (ts ++ [.str z])]) := by
          cases rv with
          | @tup c us _ t1 t2 =>
            cases t2 with
            | cons w1 w2 =>
              cases w2 with
              | cons w3 w4 =>
                cases w4
                cases w1
                cases w3
                refine .tup (vs := [.str w, .ref a]) ?_ (.cons (.str w) (.one (.lst upd_same ((r.ext e3).append (.one (.str z))))))
                rcases t1 with (t1 | ⟨ob, t1⟩) | t1
                · exact .inl (.inl (by rw [upd_ne (fun y => by rw [y, pa] at t1; cases t1)]; exact t1))
                · exact .inl (.inr ⟨ob, by rw [upd_ne (fun y => by rw [y, pa] at t1; cases t1)]; exact t1⟩)
                · exact .inr t1
        refine Paired.set2 (.val told) j (Paired.setImp s.slots hv (.any _) fun j1 v1 z1 hj1 h1 h2 q1 => ?_)
        · have h2' : (ρ.set i (Sl.val (.pn a ts)))[j1]? = some z1 := by rw [List.getElem?_set_ne (Ne.symm hj1)]; exact h2
          obtain ⟨v2, hv2, q2⟩ := Paired.get1 st.sr.slots h2'
          rw [h1] at hv2
          cases hv2
          have ne : ∀ {c : Addr}, F' c = none → c ≠ a := fun {c} n y => by rw [y, pa] at n; cases n
          cases q2 with
          | any _ => exact .any _
          | val _ =>
            cases q1 with
            | val r => exact .val (r.ext e3)
          | own _ _ _ _ _ => exact nomatch alone _ _ hj1 h2
          | ownD _ _ _ _ _ => exact nomatch alone _ _ hj1 h2
          | ownS _ _ _ _ _ => exact nomatch alone _ _ hj1 h2
          | strm h => exact .strm h
          | pin h => exact .pin h
      · rcases get_set hy with ⟨rfl, rfl, _⟩ | ⟨nj, hy⟩
        · cases oy
        · rcases get_set hy with ⟨rfl, rfl, _⟩ | ⟨ni, hy⟩
          · cases oy
          · rcases get_set hz with ⟨rfl, rfl, _⟩ | ⟨nk, hz⟩
            · cases oz
            · rcases get_set hz with ⟨rfl, rfl, _⟩ | ⟨nk2, hz⟩
              · cases oz
              · rw [List.getElem?_set_ne (Ne.symm nj)] at e1
                rw [List.getElem?_set_ne (Ne.symm nk)]
                exact s.dis j1 k1 c y1 y2 jk hy hz oy oz e1
      · obtain ⟨q1, q2, q3, ns, c1, n1, m1, w1, w2, w3⟩ := st.sr.strm p l e
        have ne : ∀ {c : Addr}, F' c = none → c ≠ a := fun {c} n y => by rw [y, pa] at n; cases n
        exact ⟨by rw [upd_ne (ne q1)]; exact q1, by rw [upd_ne (ne q2)]; exact q2, q3, ns, c1, n1, m1, by rw [upd_ne (ne q1)]; exact w1, by rw [upd_ne (ne q2)]; exact w2, w3⟩
end
end DP
end
section
set_option Elab.async false
set_option linter.all false
set_option maxRecDepth 100000
namespace DP
open PySem PySem.Spec PyProof.Rows L2
theorem kw_of {K : KF} {x qual : Str} {st : Stmt} {f : Addr} {fd : FuncData} {ps ks : List Str} {np : Nat} {π : {α : Type} → List α → List α} (F : Fun K x qual st f fd)
    (h : ∀ (kV doc pm : Value) (an : Option Addr) (cdv ct : Value) (ws : List Value), ws.length = np → bindArgs (PySem.W.fnOf x qual (defArgs st) (defBody st) (defScope st) .none kV doc pm an cdv ct) ⟨[], ks.zip ws⟩ = pure (ps.zip (π ws))) : KwB K fd ps ks np @π := by
  obtain ⟨oc, od, kV, doc, pm, an, cdv, ct, osl, rfl, lk, hcd⟩ := F.ex
  exact ⟨fun s ws hl => BindsTo.of_eq (h kV doc pm an cdv ct ws hl)⟩
end DP
end
section
set_option Elab.async false
set_option linter.all false
set_option maxRecDepth 100000
namespace DP
open PySem PySem.Spec PyProof.Rows L2
theorem bt_of {K : KF} {x qual y : Str} {st : Stmt} {f : Addr} {fd : FuncData} (F : Fun K x qual st f fd)
    (h : ∀ (kV doc pm : Value) (an : Option Addr) (cdv ct : Value) (us : List Value), us.length = 1 → bindArgs (PySem.W.fnOf x qual (defArgs st) (defBody st) (defScope st) .none kV doc pm an cdv ct) ⟨us, []⟩ = pure ([y].zip us)) : ∀ (s : Shared) (u : Value), BindsTo s fd ⟨[u], []⟩ [(y, u)] := by
  obtain ⟨oc, od, kV, doc, pm, an, cdv, ct, osl, rfl, lk, hcd⟩ := F.ex
  exact fun s u => BindsTo.of_eq (h kV doc pm an cdv ct [u] rfl)
end DP
end
section
set_option Elab.async false
set_option linter.all false
set_option maxRecDepth 100000
/-! try with several clauses, each of which names the error -/
namespace DP
open PySem PySem.Spec PyProof.Rows L2
/-- a clause: its class, and what its suite asks -/
abbrev Cl := Value × (Addr → Value → Option Addr → TS)
def goneD (i : Nat) (D : Ends) : Ends where
  nx := fun τ G => D.nx (τ.set i none) G
  rt := D.rt
  bk := fun τ G => D.bk (τ.set i none) G
  ct := fun τ G => D.ct (τ.set i none) G
/-- what the clauses wish of an error; one of them must take it -/
def wCls (K : KF) (i : Nat) (D : Ends) : List Cl → WX
  | [] => fun _ _ _ _ => False
  | p :: r => fun cl d τ G => ∃ b, PySem.W.exmOne K cl p.1 = some b ∧ (b = true → ∀ e, G e = none → p.2 e cl d (goneD i D) (τ.set i (some (.ref e))) G) ∧ (b = false → wCls K i D r cl d τ G)
inductive ClsOk (X : Cx) (n : Str) : List ExceptHandler → List Cl → Prop
  | nil : ClsOk X n [] []
  | cons {x : Str} {c : Value} {ts : Addr → Value → Option Addr → TS} {st : Stmt} {sts : List Stmt} {q1 q2 : Pos} {hds : List ExceptHandler} {l : List Cl} (hx : Names X x c)
      (suite : ∀ (e : Addr) (o : Obj) (cl : Value) (d : Option Addr) (pn : List (Addr × Obj)), Zc cl d o → (∃ vs, o.data = .fields vs) → PSs (X.suite e ((e, o) :: pn)) (st :: sts) (ts e cl d)) (rest : ClsOk X n hds l) :
      ClsOk X n (.ExceptHandler (some (.Name x q1)) (some n) (st :: sts) q2 :: hds) ((c, ts) :: l)
section
variable {X : Cx} {n : Str} {i : Nat} {body : List Stmt} {hd : ExceptHandler} {hds : List ExceptHandler} {l : List Cl} {pos : Pos} {tb : WX → TS}
theorem ps_tryCls (stk : X.stack = X.env :: X.outer) (fr : X.env.frame = some X.env.locals) (nd : X.N.Nodup) (at_ : X.N[i]? = some n) (kd : X.env.kindOf n = some .local)
    (run : ∀ (W : WX) (pn : List (Addr × Obj)) (xe : Value → Shared → Prop), Takes (X.tr pn xe) W → PSs (X.tr pn xe) body (tb W)) (cls : ClsOk X n (hd :: hds) l) :
    PS X (.Try body (hd :: hds) [] [] pos) (fun D τ G => tb (fun cl d τ G => τ.length = X.N.length → wCls X.K i D l cl d τ G) D τ G) := by
  refine ⟨fun ps s τ G D I want => ?_⟩
  have ok := I.ok
  have frs_eq : X.A.frames = some (X.env :: X.outer) := by rw [ok.frames, stk]
  refine wpAny_Try_except ?_
  refine wpAny_mono ((run (fun cl d τ G => τ.length = X.N.length → wCls X.K i D l cl d τ G) (X.pn ++ ps) (fun u t1 => wpAny (model X.prog X.w) X.A (noteFrame u X.env) (fun _ t2 => wpAny (model X.prog X.w) X.A (setFlight u none) (fun _ t3 =>
    wpAny (model X.prog X.w) X.A (handleBy u X.env (hd :: hds)) (SP X ps D) X.xe t3) X.xe t2) X.xe t1) (fun u s1 caught => ?_)).run [] s τ G D (I.toTry _) want) (fun fl s1 fin => ?_) (fun _ _ z => z)
  · obtain ⟨e, B, sB, ps2, τ1, G1, cl, d, rfl, J0, nb, up, sky, free, os, ag, wish⟩ := caught
    have J : Inv X ps τ1 G1 sB := J0.ofTry ok
    have sky1 : Sky B (X.env :: X.outer) e (Zc cl d) X.env.locals s1.heap := by rw [← stk]; exact sky
    show wpAny (model X.prog X.w) X.A (noteFrame (.ref e) X.env) _ _ _
    refine Sky.land Zc.steady frs_eq fr sky1 fun hp fly up1 => ?_
    have JL : Inv X ps τ1 G1 { s1 with heap := hp } := J.landed nb fly.1 (up.trans up1) os ag
    obtain ⟨oe, vs, he, hz, hdt⟩ := fly.there
    have nfr : e ∉ frs (X.env :: X.outer) := fun hm => by
      obtain ⟨_, o2, e2, no⟩ := fly.2.2.1.mem hm
      rw [he] at e2
      cases e2
      exact no _ hdt
    have nLoc : e ≠ X.env.locals := fun z => nfr (List.mem_filterMap.mpr ⟨X.env, List.mem_cons_self, by rw [fr, z]⟩)
    have nFs : e ∉ X.fs := fun hm => by
      obtain ⟨v, hv, q⟩ := List.mem_filterMap.mp hm
      exact nfr (List.mem_filterMap.mpr ⟨v, List.mem_cons_of_mem _ hv, q⟩)
    have JS := JL.suite he hdt free nLoc nFs
    have go : ∀ {hs : List ExceptHandler} {ls : List Cl}, ClsOk X n hs ls → wCls X.K i D ls cl d τ1 G1 → wpAny (model X.prog X.w) X.A (handleBy (.ref e) X.env hs) (SP X ps D) X.xe { s1 with heap := hp } := by
      intro hs ls ck
      induction ck with
      | nil => exact fun z => z.elim
      | @cons x c ts st sts q1 q2 hs2 ls2 hx suite rest ih =>
        rintro ⟨b, ex, yes, no⟩
        refine wpAny_handleBy_cons (codeAny_handlers_test ?_) (by intro z; cases z)
        have look : PySem.W.Looks (model X.prog X.w) hp (typeOf (.ref e)) cl := fun A Q E t k q => wpAny_typeOf_ref (k _ _ he) (by rw [hz.1]; exact q)
        have one := PySem.W.exm_one (M := model X.prog X.w) JL.kIn look ex
        have named : ∀ {Q E : Value → Shared → Prop}, Q c { s1 with heap := hp } → wpAny (model X.prog X.w) (X.A.mark (some (.ref e))) (eval (.Name x q1) X.env) Q E { s1 with heap := hp } := fun {Q E} q => by
          obtain ⟨g1, g2, g3 | ⟨g3, g4, g5⟩⟩ := hx
          · exact ld_glob (X := X.suite e ((e, oe) :: (X.pn ++ ps))) JS g1 g3 q g2
          · exact ld_blt (X := X.suite e ((e, oe) :: (X.pn ++ ps))) JS g1 g3 g4 q g5 g2
        refine named (one.here ?_)
        cases b with
        | false => exact ih (no rfl)
        | true =>
          refine codeAny_handlers_suite_as ?_
          refine HandSPX.lands_againZ fly fun h4 fly4 up4 => ?_
          have J4 : Inv X ps τ1 G1 { s1 with heap := h4 } := J.landed nb fly4.1 ((up.trans up1).trans up4) os ag
          obtain ⟨o4, v4, he4, hz4, hd4⟩ := fly4.there
          refine store_ok (X := X.suite e ((e, o4) :: (X.pn ++ ps))) (v := .ref e) (J4.suite he4 hd4 free nLoc nFs) nd at_ (.inl kd) rfl (fun s5 S5 => ?_) (.inr kd)
          refine wpAny_mono ((suite e o4 cl d (X.pn ++ ps) hz4 ⟨_, hd4⟩).run [] s5 _ G1 _ S5 (yes rfl e free)) (fun fl s6 fin => ?_) (fun _ _ z => False.elim z)
          have out : ∀ {τ6 : L2.St} {G6 : Hp} {Q : Shared → Prop}, Inv (X.suite e ((e, o4) :: (X.pn ++ ps))) [] τ6 G6 s6 → (∀ s7, Inv X ps (τ6.set i none) G6 s7 → Q s7) →
              wpAny (model X.prog X.w) X.A (do bindName X.env n .none; unbindBehindTheSuite X.env n q2) (fun _ s7 => Q s7) X.xe s6 := fun {_ _ _} S6 q => gone_ok (S6.unsuite ok) nd at_ kd q
          cases fl with
          | ret u => obtain ⟨v6, τ6, G6, S6, r6, q6⟩ := fin; exact out S6 fun s7 J7 => ⟨_, _, _, J7, r6, q6⟩
          | next => obtain ⟨τ6, G6, S6, q6⟩ := fin; exact out S6 fun s7 J7 => ⟨_, _, J7, q6⟩
          | brk => obtain ⟨τ6, G6, S6, q6⟩ := fin; exact out S6 fun s7 J7 => ⟨_, _, J7, q6⟩
          | cont => obtain ⟨τ6, G6, S6, q6⟩ := fin; exact out S6 fun s7 J7 => ⟨_, _, J7, q6⟩
    exact go cls (wish JL.len)
  · cases fl with
    | ret u => obtain ⟨v, τ1, G1, J, r, q⟩ := fin; exact ⟨v, τ1, G1, J.ofTry ok, r, q⟩
    | next => obtain ⟨τ1, G1, J, q⟩ := fin; exact wpAny_execs_nil ⟨τ1, G1, J.ofTry ok, q⟩
    | brk => obtain ⟨τ1, G1, J, q⟩ := fin; exact ⟨τ1, G1, J.ofTry ok, q⟩
    | cont => obtain ⟨τ1, G1, J, q⟩ := fin; exact ⟨τ1, G1, J.ofTry ok, q⟩
end
end DP
end
section
set_option Elab.async false
set_option linter.all false
set_option maxRecDepth 100000
/-! a lambda is made: what is told of its code's table goes on -/
namespace DP
open PySem PySem.Spec PyProof.Rows L2
section
variable {X : Cx} {ps : List (Addr × Obj)} {τ : L2.St} {F G : Hp} {s : Shared} {c P : Addr}
/-- what stands behind the making of a lambda: f, the new function; c', its code object -/
structure Lam (X : Cx) (ps : List (Addr × Obj)) (τ : L2.St) (F G : Hp) (P : Addr) (q : Str) (params : Arguments) (body : Expr) (scope : Scope) (f c' : Addr) (F1 G1 : Hp) (t : Shared) : Prop where
  inv : Inv X ps τ G1 t
  ext : Ext F F1
  sub : Ext F1 G1
  keep : ∀ b o, b ≠ P → G b = some o → G1 b = some o
  new : ∀ b o, G b = some o → F b = none → F1 b = none
  tab : TabAt F1 G1 P q
  at_ : ∃ pm ctv, t.heap.get? f = some (PySem.W.kla_obj "<lambda>" q params body scope (cloFrom X.env.cells scope.names []) pm c' ctv)
  fnew : G1 f = none
  nfr : f ∉ frs X.stack
  code : G1 c' = some (LamX.CodeO c' q)
theorem lam_new {params : Arguments} {body : Expr} {scope : Scope} {pos : Pos} {E Q : Value → Shared → Prop} (I : Inv X ps τ G s) (TB : LamX.TabB X.base X.mg c P) (cd : X.env.code = .ref c) (sub : Ext F G) (fP : F P = none)
    (tb : TabAt F G P (X.env.qual ++ "<lambda>")) (df : defaultsOf params X.env = ([], [])) (fv : ∀ y ∈ scope.names, y.2 = .free → ∃ c, X.env.cells.lookup y.1 = some c)
    (go : ∀ f c' F1 G1 t, Lam X ps τ F G P (X.env.qual ++ "<lambda>") params body scope f c' F1 G1 t → Q (.ref f) t) : wpAny (model X.prog X.w) X.A (eval (.Lambda params body scope pos) X.env) Q E s := by
  obtain ⟨ts, gP, trip, told⟩ := tb
  refine PySem.W.kla_eval df ?_
  have bld : s.heap.BuiltinsAt X.mg P := TB.bm.keeps I.bk
  have hpP : s.heap.get? P = some { cls := .none, data := .fields ts } := I.hok P _ gP
  have nofr : ∀ f, s.heap.objs.size ≤ f → f ∉ frs X.stack := fun f le mem => by
    rcases List.mem_cons.mp (I.stkSub _ mem) with e | e
    · exact absurd (e ▸ I.lt) (Nat.not_lt.mpr le)
    · exact I.nofs le e
  cases hc : codeAmong pos ts.toList with
  | some cv =>
    obtain ⟨c', rfl, known⟩ := told pos cv hc
    refine PySem.W.kla_makeFunctionHit (mg := X.mg) (c := c) (P := P) (ps := ts) (closure_ok fv) I.ok.glob (I.mod.glob.keeps I.bk) cd (TB.code.keeps I.bk) hpP trip hc bld fun ctv h1 tk old big => ?_
    refine go h1.objs.size c' F G _ ⟨I.kept fun b o e => Heap.get?_push_of_some _ (old b o e), Same.refl _, sub, fun _ _ _ e => e, fun _ _ _ e => e, ⟨ts, gP, trip, told⟩, ⟨_, ctv, Heap.get?_push_size _ rfl⟩, I.hok.fresh big, nofr _ big, sub _ _ known⟩
  | none =>
    refine PySem.W.kla_makeFunction (mg := X.mg) (c := c) (P := P) (ps := ts) (closure_ok fv) I.ok.glob (I.mod.glob.keeps I.bk) cd (TB.code.keeps I.bk) hpP trip hc TB.gP bld fun c' ctv h1 tk old big less rec tbl => ?_
    obtain ⟨c2, oc, vs, t, e2, hoc, hd, hv⟩ := rec
    cases e2
    have sz : s.heap.objs.size ≤ h1.objs.size := Nat.le_trans big (Nat.le_of_lt less)
    have nC : G c' = none := I.hok.fresh big
    have fC : F c' = none := sub.free nC
    have PneC : P ≠ c' := fun z => by rw [z, nC] at gP; cases gP
    have J := LamX.inv_table (t' := tk) (more := #[rawInt pos.line, rawInt pos.col, .ref c']) (h' := h1.push (PySem.W.kla_obj "<lambda>" (X.env.qual ++ "<lambda>") params body scope (cloFrom X.env.cells scope.names []) ((X.mg "__name__").getD .none) c' ctv)) I gP
      (fun b o hb e => Heap.get?_push_of_some _ (old b o hb e)) (Heap.get?_push_of_some _ tbl) big ⟨oc, vs, t, Heap.get?_push_of_some _ hoc, hd, hv⟩
    have n1 : h1.objs.size ≠ c' := Nat.ne_of_gt less
    have n2 : h1.objs.size ≠ P := Nat.ne_of_gt (Nat.lt_of_lt_of_le (Heap.lt_size hpP) sz)
    have snoc : (ts ++ #[rawInt pos.line, rawInt pos.col, Value.ref c']).toList = ts.toList ++ [rawInt pos.line, rawInt pos.col, .ref c'] := by simp
    have grown : Ext F (upd F c' (LamX.CodeO c' (X.env.qual ++ "<lambda>"))) := Ext.upd fC
    refine go h1.objs.size c' (upd F c' (LamX.CodeO c' (X.env.qual ++ "<lambda>"))) _ _ ⟨J, grown, fun b o e => ?_, fun b o hb e => ?_, fun b o e n => ?_, ⟨_, by rw [upd_ne PneC, upd_same], by rw [snoc]; exact PySem.TriplesOk_snoc _ _ _ _ trip, fun p cv h => ?_⟩, ⟨_, ctv, Heap.get?_push_size _ rfl⟩, ?_, nofr _ sz, upd_same⟩
    · by_cases z : b = c'
      · subst z; rw [upd_same] at e ⊢; exact e
      · rw [upd_ne z] at e
        rw [upd_ne z, upd_ne (fun y => by rw [y, fP] at e; cases e)]
        exact sub _ _ e
    · rw [upd_ne (fun y => by rw [y, nC] at e; cases e), upd_ne hb]; exact e
    · rw [upd_ne (fun y => by rw [y, nC] at e; cases e)]; exact n
    · rw [snoc] at h
      rcases LamX.among_app _ trip h with z | z
      · obtain ⟨c0, e1, e2⟩ := told p cv z
        exact ⟨c0, e1, grown _ _ e2⟩
      · exact ⟨c', z, upd_same⟩
    · rw [upd_ne n1, upd_ne n2]; exact I.hok.fresh sz
end
end DP
end
section
set_option Elab.async false
set_option linter.all false
set_option maxRecDepth 100000
/-! tried(lambda: e): what e gives, behind a word; or what the error kept, behind another one -/
namespace DP
open PySem PySem.Spec PyProof.Rows L2
section
variable {X : Cx} {ps : List (Addr × Obj)} {τ : L2.St} {F G F1 G1 : Hp} {s t : Shared} {P : Addr} {q : Str} {params : Arguments} {body : Expr} {scope : Scope} {f c' : Addr}
theorem SR.lam {g : Cn} {σ : Sg} {ρ : Env'} {b : Nat} (sr : SR g F G σ ρ b) (m : (P, q) ∈ g.T) (u : ∀ q', (P, q') ∈ g.T → q' = q) (L : Lam X ps τ F G P q params body scope f c' F1 G1 t) : Step g σ ρ F G F1 G1 b := by
  have kp : ∀ a o, ¬ g.inS a → G a = some o → G1 a = some o := fun a o n h => L.keep a o (fun z => n (z ▸ Cn.tabIn m)) h
  refine ⟨L.ext, ⟨L.sub, sr.f0.trans L.ext, fun a o h n => kp a o n (sr.keep a o h n), fun a o h n => ?_, Paired.imp2 sr.slots fun i v x _ _ r => ?_, sr.dis, fun p l e => ?_, fun p q' e => ?_⟩, fun a o h n _ => kp a o n h, L.new⟩
  · obtain ⟨w, hw⟩ := sr.there h
    exact L.new a w hw (sr.new a o h n)
  · cases r with
    | any v => exact .any v
    | val r => exact .val (r.ext L.ext)
    | own h1 h2 h3 h4 h5 => exact .own (kp _ _ h4 h1) (L.new _ _ h1 h2) h3 h4 (h5.ext L.ext)
    | ownD h1 h2 h3 h4 h5 => exact .ownD (kp _ _ h4 h1) (L.new _ _ h1 h2) h3 h4 (h5.ext L.ext)
    | ownS h1 h2 h3 h4 h5 => exact .ownS (kp _ _ h4 h1) (L.new _ _ h1 h2) h3 h4 (h5.ext L.ext)
    | strm h => exact .strm h
    | pin h => exact .pin h
  · obtain ⟨h1, h2, h3, ns, c, n, mm, q1, q2, q3⟩ := sr.strm p l e
    obtain ⟨ts, hP⟩ := (sr.tabs P q m).2.has
    have k1 := L.keep p _ (fun z => by rw [z, hP] at q1; cases q1) q1
    have k2 := L.keep l _ (fun z => by rw [z, hP] at q2; cases q2) q2
    exact ⟨L.new _ _ q1 h1, L.new _ _ q2 h2, h3, ns, c, n, mm, k1, k2, q3⟩
  · obtain ⟨h1, h2⟩ := sr.tabs p q' e
    obtain ⟨ts, hp⟩ := h2.has
    refine ⟨L.new _ _ hp h1, ?_⟩
    by_cases z : p = P
    · subst z
      rw [u q' e]
      exact L.tab
    · exact h2.ext L.ext fun o e => L.keep p o z e
end
/-- the meaning: told, the word of what comes; ws, the words of the errors -/
def triedM (told : Str) (ws : List (Str × Str)) : M T → M T
  | .ret v => .ret (.tup [.str told, v])
  | .draw n k => .draw n fun d => triedM told ws (k d)
  | .exc c t => match ws.lookup c with
    | some w => .ret (.tup [.str w, t])
    | none => .stuck
  | .stuck => .stuck
theorem triedM_wp {told : Str} {ws : List (Str × Str)} {Q : Nat → T → Prop} {E : Nat → Str → T → Prop} : ∀ {m : M T} {b : Nat}, (triedM told ws m).wp b Q E → m.wp b (fun b' v => Q b' (.tup [.str told, v])) (fun b' c t => ∃ w, ws.lookup c = some w ∧ Q b' (.tup [.str w, t]))
  | .ret v, _, h => h
  | .draw n k, b, h => ⟨h.1, h.2.1, fun d h1 h2 => triedM_wp (m := k d) (h.2.2 d h1 h2)⟩
  | .exc c t, b, h => by
    have h : (match ws.lookup c with | some w => M.ret (T.tup [T.str w, t]) | none => M.stuck).wp b Q E := h
    cases e : ws.lookup c with
    | none => rw [e] at h; exact h.elim
    | some w => rw [e] at h; exact ⟨w, e, h⟩
  | .stuck, _, h => h.elim
def eTried (told : Str) (ws : List (Str × Str)) (f : Env' → M T) : Env' → M T := fun ρ => triedM told ws (f ρ)
/-- a clause's class by name and address, its field, its word -/
structure Ck where
  x : Str
  C : Addr
  fl : Str
  w : Str
def Ck.ts (p : Ck) : Addr → Value → Option Addr → TS := fun e cl d => tRet (tTup (tCons (tC (.str p.w)) (tCons (tXf e cl d p.C p.fl (tVar 1)) tNil)))
def Ck.cl (p : Ck) : Cl := (.ref p.C, p.ts)
/-- the clauses' classes, told apart -/
def CksOk (K : KF) (Xc : Str → Addr × Str) (cs : List Ck) : Prop := (∀ p ∈ cs, Xc p.x = (p.C, p.fl)) ∧ ∀ p ∈ cs, ∀ r ∈ cs, PySem.W.exmOne K (.ref p.C) (.ref r.C) = some (decide (p.x = r.x))
theorem cks_hit {K : KF} {Xc : Str → Addr × Str} {all : List Ck} (ok : CksOk K Xc all) {c w : Str} {D : Ends} {d : Option Addr} {v : V} {τ : L2.St} {G : Hp} {dd : Addr} (lt : 1 < τ.length) (hd : d = some dd) (hG : G dd = some (.xd [((Xc c).2, v)]))
    (hQ : ∀ p, G p = none → D.rt (.ref p) (upd G p (.tup [.str w, v]))) : ∀ cs : List Ck, (∀ p ∈ cs, p ∈ all) → (∃ p ∈ all, p.x = c) → (cs.map fun p => (p.x, p.w)).lookup c = some w → wCls K 1 D (cs.map Ck.cl) (.ref (Xc c).1) d τ G
  | [], _, _, h => by cases h
  | p :: cs, sub, ⟨r, hr, rx⟩, h => by
    have hp := sub p List.mem_cons_self
    have e1 := ok.1 r hr
    rw [rx] at e1
    have ex := ok.2 r hr p hp
    have e1' : (Xc c).1 = r.C := congrArg Prod.fst e1
    refine ⟨_, by rw [e1']; exact ex, fun z e he => ?_, fun z => ?_⟩
    · have z := of_decide_eq_true z
      have e2 := ok.1 p hp
      rw [← z, rx] at e2
      have hw : p.w = w := by
        rw [List.map_cons, List.lookup_cons] at h
        rw [show (c == p.x) = true from by rw [← z, rx]; simp] at h
        exact Option.some.inj h
      have eC : (Xc c).1 = p.C := congrArg Prod.fst e2
      have eF : (Xc c).2 = p.fl := congrArg Prod.snd e2
      refine ⟨.ref e, by rw [List.getElem?_set_self lt], rfl, by rw [eC], dd, _, v, hd, hG, by rw [eF]; simp [List.lookup], ?_⟩
      refine ⟨show 2 ≤ sizeLine by decide, fun pp hpp => ?_⟩
      rw [hw]
      exact hQ pp hpp
    · have z := of_decide_eq_false z
      refine cks_hit ok lt hd hG hQ cs (fun y hy => sub y (List.mem_cons_of_mem _ hy)) ⟨r, hr, rx⟩ ?_
      rw [List.map_cons, List.lookup_cons] at h
      rw [show (c == p.x) = false from by
        rw [beq_eq_false_iff_ne, ← rx]
        exact z] at h
      exact h
end DP
end
section
set_option Elab.async false
set_option linter.all false
set_option maxRecDepth 100000
namespace DP
open PySem PySem.Spec PyProof.Rows L2
theorem lookup_mem' {ws : List (Str × Str)} {c w : Str} (h : ws.lookup c = some w) : (c, w) ∈ ws := PySem.mem_of_lookup h
/-- the pair that comes of it -/
theorem pair_step {g : Cn} {σ : Sg} {ρ : Env'} {F G F1 G1 : Hp} {b b1 : Nat} {v : V} {t : T} {w : Str} {p : Addr} (st : Step g σ ρ F G F1 G1 b1) (r : Rep g.K F1 v t) (hp : G1 p = none) :
    ∃ F2, Step g σ ρ F G F2 (upd G1 p (.tup [.str w, v])) b1 ∧ Rep g.K F2 (.ref p) (.tup [.str w, t]) := by
  have s2 := st.sr.step (.tup [.str w, v]) hp
  exact ⟨_, st.trans s2, .tup (.inl (.inl upd_same)) (.cons (.str w) (.one (r.ext s2.ext)))⟩
section
variable {X : Cx} {g : Cn} {W : WX} {told a en x : Str} {cs : List Ck} {sd : Stmt} {gA c P : Addr} {fd : FuncData} {k : Nat} {hd : ExceptHandler} {hds : List ExceptHandler} {params : Arguments} {body : Expr} {scope : Scope} {fb : Env' → M T}
/-- a clause's suite -/
theorem ck_suite {Z : Cx} {p : Ck} {e : Addr} {o : Obj} {cl : Value} {d : Option Addr} {pn : List (Addr × Obj)} {ex : Expr} {j : Nat} {p1 p2 p3 p4 : Pos} {ct : _} (T' : XfC Z.K p.C) (no : PySem.W.findIn Z.K (.ref p.C) p.fl = some none) (hz : Zc cl d o) (hf : ∃ vs, o.data = .fields vs)
    (h1 : PE (Z.suite e ((e, o) :: pn)) ex (tVar 1)) (hb : attributeBase ex p.fl Z.env (eval ex Z.env) = eval ex Z.env := by rfl)
    (hst : starEach (Expr.Constant (.str p.w) j p1 :: [.Attribute ex p.fl p2]) (Z.suite e ((e, o) :: pn)).env = (false, eval (.Constant (.str p.w) j p1) (Z.suite e ((e, o) :: pn)).env) :: starEach [.Attribute ex p.fl p2] (Z.suite e ((e, o) :: pn)).env := by rfl)
    (hst2 : starEach (Expr.Attribute ex p.fl p2 :: []) (Z.suite e ((e, o) :: pn)).env = (false, eval (.Attribute ex p.fl p2) (Z.suite e ((e, o) :: pn)).env) :: starEach [] (Z.suite e ((e, o) :: pn)).env := by rfl) :
    PSs (Z.suite e ((e, o) :: pn)) [.Return (some (.Tuple [.Constant (.str p.w) j p1, .Attribute ex p.fl p2] ct p3)) p4] (p.ts e cl d) :=
  pss_one (ps_ret (pe_tup (pa_cons pe_str (pa_cons (pe_xf T' no hz hf h1 hb) pa_nil hst2) hst)))
theorem de_tried {p lpos pos p1 p2 p3 p4 p5 p6 : Pos} {j : Nat} {ct : _} (Fn : L2.Fun X.K x x sd gA fd) (hb : Binds X.K fd [a] []) (S : FnScope [a, en] [a] (defScope sd))
    (hsd : defBody sd = [.Try [.Return (some (.Tuple [.Constant (.str told) j p3, .Call (.Name a p1) [] [] p2] ct p4)) p5] (hd :: hds) [] [] p6])
    (hva : Vis (defScope sd) a) (hen : (defScope sd).names.lookup en = some .local)
    (hcls : ∀ (cdv : Value) (s : Shared) (H : Hp), ClsOk (cxOf C8.CX0 X.prog X.w X.K X.mg X.base [a, en] x (defScope sd) gA cdv X.A X.stack s H C8.E0) en (hd :: hds) (cs.map Ck.cl)) (ok : CksOk X.K g.X cs)
    (hg : Gl X x) (hm : X.mg x = some (.ref gA)) (TB : LamX.TabB X.base X.mg c P) (hcode : X.env.code = .ref c) (hT : (P, X.env.qual ++ "<lambda>") ∈ g.T) (hu : ∀ q', (P, q') ∈ g.T → q' = X.env.qual ++ "<lambda>")
    (hr : Room (k + 2) X.A) (L : LamX.LamS X.env.scope scope) (hdef : defaultsOf params X.env = ([], []))
    (hbind : ∀ (q : Str) (cl : List (Str × Addr)) (pm cv ctv : Value), bindArgs (PySem.W.kla_fn "<lambda>" q params body scope cl pm cv ctv) ⟨[], []⟩ = pure [])
    (hbody : ∀ (A : Around) (outer : List Env) (s : Shared) (H : Hp) (E : XK) (f c' : Addr), Room k (A.deeper (LamX.lamEnv X scope s.heap.objs.size f c')) → DE (LamX.lamCx X A outer s H E scope f c') g (fun cl d _ H => E cl d H) body fb)
    (hdb : (x == ("__debug__" : Str)) = false := by decide) (had : (a == ("__debug__" : Str)) = false := by decide) (hac : (a == ("__classdict__" : Str)) = false := by decide) (hK : X.K = g.K := by rfl) :
    DE X g W (.Call (.Name x p) [.Lambda params body scope lpos] [] pos) (eTried told (cs.map fun p => (p.x, p.w)) fb) := by
  obtain ⟨oc, od, kV, doc, pm, an, cdv, ctv, osl, rfl, lk, hcd⟩ := Fn.ex
  refine ⟨fun pins s σ H Q I h => ?_⟩
  obtain ⟨ρ, F, b, sr, q⟩ := h
  have q := triedM_wp (m := fb ρ) q
  refine wpAny_Call_Name_kw (ld_glob I hg hm ?_ hdb)
  refine PySem.W.callWith_K (h₀ := X.base) I.ok.mod.kin Fn.kp ?_ (by rfl) (by rfl)
  show wpAny _ _ (spliced ((false, eval (.Lambda params body scope lpos) X.env) :: backTo pos (starEach [] X.env))) _ _ s
  refine Calls.spliced_cons (lam_new I TB hcode sr.sub (sr.tabs _ _ hT).1 (sr.tabs _ _ hT).2 hdef (L.has I.ok) fun f c' F1 H1 s' M1 => ?_)
  refine Calls.spliced_nil ⟨M1.inv.kIn, ?_⟩
  have st := sr.lam hT hu M1
  obtain ⟨pm', ctv', hf⟩ := M1.at_
  have rc : codeAny (model X.prog X.w) X.A (.call (.ref gA) ⟨[.ref f], []⟩) (CR C8.CX0 X.stack X.prog X.w H1 s' Q C8.E0) s' := by
    refine LamX.run_ofS (N := [a, en]) (ps := [a]) (us := [.ref f]) (vs := [.ref f]) lk hcd S hr M1.inv.env0 (hb s' [.ref f] M1.inv.kIn rfl) (.cons rfl .nil) rfl fun hr' => ?_
    have z1 : (L2.start [a, en] [V.ref f])[0]? = some (some (V.ref f)) := rfl
    have body' : PSs (cxOf C8.CX0 X.prog X.w X.K X.mg X.base [a, en] x (defScope sd) gA cdv X.A X.stack s' H1 C8.E0) (defBody sd)
        (fun D τ G => ∃ Ech : XK, (∀ cl d τ' G', Ech cl d G' → τ'.length = 2 → wCls X.K 1 D (cs.map Ck.cl) cl d τ' G') ∧ τ[0]? = some (some (.ref f)) ∧ G c' = some (LamX.CodeO c' (X.env.qual ++ "<lambda>")) ∧
          tD g (fun cl d _ H => Ech cl d H) fb σ G (fun v G' => ∀ p, G' p = none → D.rt (.ref p) (upd G' p (.tup [.str told, v])))) := by
      rw [hsd]
      refine pss_one (ps_tryCls (i := 1) (l := cs.map Ck.cl) (tb := fun W D τ G => ∃ Ech : XK, (∀ cl d τ' G', Ech cl d G' → W cl d τ' G') ∧ τ[0]? = some (some (.ref f)) ∧ G c' = some (LamX.CodeO c' (X.env.qual ++ "<lambda>")) ∧
          tD g (fun cl d _ H => Ech cl d H) fb σ G (fun v G' => ∀ p, G' p = none → D.rt (.ref p) (upd G' p (.tup [.str told, v])))) rfl rfl S.nd rfl ?kd (fun W pn xe tk => ⟨fun pins2 s2 τ G D I2 hh => ?_⟩) (hcls cdv s' H1))
      case kd => exact hen
      obtain ⟨Ech, hW, e1, e2, e3⟩ := hh
      have act := LamX.pe_act (i := 0) (p1 := p1) (p2 := p2) M1.inv L hf M1.fnew M1.nfr (hbind _ _ _ _ _) tk hW hr' (fun A outer s H hr2 => hbody A outer s H Ech f c' hr2) rfl hva had hac
      have whole := pss_one (ps_ret (pos := p5) (pe_tup (pos := p4) (x1 := ct) (pa_cons (pe_str (x := told) (j := j) (pos := p3)) (pa_cons act pa_nil))))
      refine whole.run pins2 s2 τ G D I2 ?_
      show τ[0]? = _ ∧ _ ∧ _
      refine ⟨e1, e2, ?_⟩
      obtain ⟨ρ', F', b', sr', q'⟩ := e3
      exact ⟨ρ', F', b', sr', M.wp_mono q' (fun b'' t y v G' F'' s'' r => ⟨show 2 ≤ sizeLine by decide, fun p hp => y v G' F'' s'' r p hp⟩) fun _ _ _ y => y⟩
    refine ⟨_, body', fun cl d G' => ∀ τ', τ'.length = 2 → wCls X.K 1 { nx := fun _ H' => Q .non H', rt := Q } (cs.map Ck.cl) cl d τ' G', fun cl d τ' G' h => h τ', z1, M1.code, ρ, F1, b, st.sr, M.wp_mono q (fun b' t y v G' F' s2 r p hp => ?_) fun b' cc t y d v G' F' s2 hd r τ' hl => ?_⟩
    · obtain ⟨F2, s3, r3⟩ := pair_step (b := b) (w := told) (st.trans s2) r hp
      exact y _ _ _ s3 r3
    · obtain ⟨w, lw, y⟩ := y
      obtain ⟨pp, hp1, hp2⟩ := List.mem_map.mp (lookup_mem' lw)
      refine cks_hit ok (by omega) rfl hd (fun p hp => ?_) cs (fun _ h => h) ⟨pp, hp1, congrArg Prod.fst hp2⟩ lw
      obtain ⟨F2, s3, r3⟩ := pair_step (b := b) (w := w) (st.trans s2) r hp
      exact y _ _ _ s3 r3
  refine wpAny_call (codeAny_mono rc fun r s2 hq => ?_)
  cases r with
  | error e => exact (show False from hq).elim
  | ok fl =>
    cases fl with
    | ret u => exact M1.inv.after hq
    | next => exact False.elim hq
    | brk => exact False.elim hq
    | cont => exact False.elim hq
end
end DP
end
section
set_option Elab.async false
set_option linter.all false
set_option maxRecDepth 100000
/-! What the top leaves, read by a Hook that takes any test of the written part. -/
namespace DP
open PySem PySem.Spec PyProof.Rows L2
def obsF (fb : List (KF → Bool)) (fa : List He.Fa) (fn : List He.DefD) (K : KF) : He.AlD := ((fb.all fun f => f K) && (He.obsD fa fn K).1, (He.obsD fa fn K).2)
def SaysF (fb : List (KF → Bool)) (fa : List He.Fa) (fn : List He.DefD) (K : KF) : Prop := obsF fb fa fn K = He.valD fn
def obsFG (n : Nat) (fb : List (KF → Bool)) (fa : List He.Fa) (fn : List He.DefD) (g : Addr → Option Obj) : He.AlD := obsF fb fa fn (He.frG g (He.asD g n))
def hookF (n : Nat) (fb : List (KF → Bool)) (fa : List He.Fa) (fn : List He.DefD) : PySem.W.Hook where
  α := He.AlD
  obs := fun s => obsFG n fb fa fn s.heap.get?
  val := fun _ => He.valD fn
  says := fun _ h => ∃ K : KF, K.In h ∧ SaysF fb fa fn K
  of := fun _ _ e => ⟨_, He.frG_in, e⟩
  keeps := fun _ _ _ ⟨K, hK, c⟩ k => ⟨K, PySem.W.Frag.In.keeps hK k, c⟩
theorem obsFG_eq {n : Nat} {fb : List (KF → Bool)} {fa : List He.Fa} {fn : List He.DefD} {g : Addr → Option Obj} {s : Shared} (h : ∀ a, g a = s.heap.get? a) : obsFG n fb fa fn g = (hookF n fb fa fn).obs s := by
  have e : g = s.heap.get? := funext h
  rw [e] <;> rfl
section
variable {fb : List (KF → Bool)} {fa : List He.Fa} {fn : List He.DefD} {K : KF}
theorem SaysF.d (c : SaysF fb fa fn K) : He.SaysD fa fn K := by
  have c1 : ((fb.all fun f => f K) && (He.obsD fa fn K).1) = true := congrArg (fun z : He.AlD => z.1) c
  have c2 : (He.obsD fa fn K).2 = fn.map He.DefD.val := congrArg (fun z : He.AlD => z.2) c
  have c3 := (He.ba c1).2
  show He.obsD fa fn K = (true, fn.map He.DefD.val)
  rw [← c2, ← c3]
theorem SaysF.b (c : SaysF fb fa fn K) (i : Nat) {f : KF → Bool} (h : fb[i]? = some f := by rfl) : f K = true := by
  have c1 : ((fb.all fun f => f K) && (He.obsD fa fn K).1) = true := congrArg (fun z : He.AlD => z.1) c
  exact List.all_eq_true.mp (He.ba c1).1 f (List.mem_of_getElem? h)
end
theorem fun_of {K : KF} {x q : Str} {st : Stmt} {f : Addr} {fd : FuncData} (F : FunD K x q (defArgs st) (defBody st) (defScope st) [] [] f fd) : Fun K x q st f fd := by
  obtain ⟨oc, od, dV, kV, doc, pm, an, cdv, ct, osl, e, h1, h2, h3, h4⟩ := F.ex
  rcases h3 with ⟨_, rfl⟩ | ⟨h, _⟩
  · exact ⟨⟨oc, od, kV, doc, pm, an, cdv, ct, osl, e, h1, h2⟩, F.kp⟩
  · exact absurd rfl h
/-- an own error's class with its own __init__ -/
def oexB (K : KF) (C : Addr) : Bool := (match K.lookup C with
  | some ⟨.type "type", _, .cls cd, sl⟩ => (match cd.mro, sl.toList with
    | .ref C' :: bm, [_, _, _, _, some (.builtin n), _] => C' == C && n == "ValueError.__new__" && !cd.hasDel && cd.hasDict && PySem.HandSPX.refsVE bm
    | _, _ => false)
  | _ => false) && (He.eqO (PySem.W.findIn K (.ref C) "__setattr__") (some (some (.builtin "object.__setattr__"))) && (decide (PySem.W.subIn K (.ref C) (.type "BaseException") = some true) &&
    (decide (PySem.W.typeIn K (.ref C) = some (.type "type")) && PySem.W.keepIn K (.ref C))))
theorem oex_of {K : KF} {C : Addr} (h : oexB K C = true) : OexC K C := by
  unfold oexB at h
  obtain ⟨h1, h⟩ := He.ba h
  obtain ⟨h2, h⟩ := He.ba h
  obtain ⟨h3, h⟩ := He.ba h
  obtain ⟨h4, h5⟩ := He.ba h
  refine ⟨?_, He.eqO_ok h2, of_decide_eq_true h3, of_decide_eq_true h4, h5⟩
  split at h1
  · rename_i dd cd sl ho
    split at h1
    · rename_i C' bm k0 k1 k2 k3 n k5 hm hs
      simp only [Bool.and_eq_true, beq_iff_eq, Bool.not_eq_true'] at h1
      obtain ⟨⟨⟨⟨rfl, rfl⟩, hdel⟩, hdict⟩, ht⟩ := h1
      obtain ⟨nm, bs, mro, ns, qn, hd, sn, sub, ab, col, del⟩ := cd
      dsimp only at hm hdel hdict
      subst hm hdel hdict
      have hsl : sl = #[k0, k1, k2, k3, some (.builtin "ValueError.__new__"), k5] := by
        obtain ⟨l⟩ := sl
        simp only at hs
        rw [hs]
      subst hsl
      exact ⟨nm, qn, ns, bs, bm, sn, sub, ab, col, dd, k0, k1, k2, k3, k5, ho, ht⟩
    · cases h1
  · cases h1
def excB (x f : Str) (K : KF) : Bool := oexB K (He.ga K x) && (He.eqO (PySem.W.findIn K (.ref (He.ga K x)) "__init__") (some (some (.ref (He.ma K (He.ga K x) "__init__")))) && (decide (PySem.W.typeIn K (.ref (He.ma K (He.ga K x) "__init__")) = some (.type "function")) &&
  (He.eqO (PySem.W.findIn K (.ref (He.ga K x)) f) (some none) && (He.Fa.glo x).ok K)))
theorem exc_of {K : KF} {h : Heap} {mg : Str → Option Value} (X : K.In h) (G : h.Ns mainGlobals mg) {x f : Str} (c : excB x f K = true) : ExcD K mg x f (He.ga K x) (He.ma K (He.ga K x) "__init__") := by
  unfold excB at c
  obtain ⟨c1, c⟩ := He.ba c
  obtain ⟨c2, c⟩ := He.ba c
  obtain ⟨c3, c⟩ := He.ba c
  obtain ⟨c4, c5⟩ := He.ba c
  exact ⟨oex_of c1, He.eqO_ok c2, of_decide_eq_true c3, He.eqO_ok c4, He.glo_ok X G c5⟩
end DP
end
section
set_option Elab.async false
set_option linter.all false
set_option maxRecDepth 100000
/-! a law with lambdas, called from outside: its code's table is empty then -/
namespace DP
open PySem PySem.Spec PyProof.Rows L2
abbrev tab0 : Obj := { cls := .none, data := .fields #[] }
/-- what the call finds: the script, and the tables -/
structure EntryT (P : Program) (w : World) (K : KF) (s : Shared) (a : Addr) (ns : List Int) (ts : List Addr) (H : Hp) : Prop where
  hok : HOk P w H s.heap
  tab : ∀ p ∈ ts, H p = some (.tbl #[])
  only : ∀ b u, H b = some u → b ∈ ts ∨ b = a ∧ K.lookup a = none ∧ ∃ o xs, u = .frz o (.lst xs)
  there : SqL K H a (ns.map V.int)
theorem entryT {P : Program} {w : World} {K : KF} {mg : Str → Option Value} {s : Shared} {a : Addr} {vs : List Value} {ns : List Int} {ts : List Addr} (KX : K.In s.heap)
    (ha : s.heap.get? a = some { cls := .type "list", data := .seq vs.toArray }) (hi : IntsAre vs ns) (hl : ns.length ≤ sizeLine) (hT : ∀ p ∈ ts, s.heap.get? p = some tab0) : ∃ H, EntryT P w K s a ns ts H := by
  obtain ⟨H0, N⟩ := entry (P := P) (w := w) (mg := mg) KX ha hi hl
  have aT : a ∉ ts := fun z => by
    have e := (hT a z).symm.trans ha
    cases e
  refine ⟨fun b => if b ∈ ts then some (.tbl #[]) else H0 b, fun b u z => ?_, fun p hp => if_pos hp, fun b u z => ?_, ?_⟩
  · by_cases hb : b ∈ ts
    · have z : (if b ∈ ts then some (HO.tbl #[]) else H0 b) = some u := z
      rw [if_pos hb] at z
      cases z
      exact hT b hb
    · have z : (if b ∈ ts then some (HO.tbl #[]) else H0 b) = some u := z
      rw [if_neg hb] at z
      obtain ⟨rfl, h2, ob, xs, rfl⟩ := N.only b u z
      exact N.hok b _ z
  · by_cases hb : b ∈ ts
    · exact .inl hb
    · have z : (if b ∈ ts then some (HO.tbl #[]) else H0 b) = some u := z
      rw [if_neg hb] at z
      exact .inr (N.only b u z)
  · rcases N.there with (h | ⟨o, h⟩) | h
    · exact .inl (.inl (by show (if a ∈ ts then some (HO.tbl #[]) else H0 a) = _; rw [if_neg aT]; exact h))
    · exact .inl (.inr ⟨o, by show (if a ∈ ts then some (HO.tbl #[]) else H0 a) = _; rw [if_neg aT]; exact h⟩)
    · exact .inr h
theorem top_callT {P : Program} {w : World} {K : KF} {mg mb : Str → Option Value} {fa a : Addr} {fd : FuncData} {x : Str} {sp : Sp} {s : Shared} {vs : List Value} {ns : List Int} {cs : List (Addr × Addr)}
    (KX : K.In s.heap) (hns : s.heap.Ns mainGlobals mg) (hb : s.heap.Ns builtinsNs mb) (hbb : ∀ x : Str, x ≠ "__name__" → mb x = bootBuiltins x) (hlim : s.heap.NoLimit) (hg : s.gens = #[])
    (hT : ∀ p ∈ cs, s.heap.get? p.2 = some tab0) (nT : ∀ p ∈ cs, K.lookup p.2 = none) (C : ∀ p ∈ cs, PySem.W.CodeHd s.heap p.1 p.2)
    (hbm : ∃ (m : Addr) (o : Obj), mg "__builtins__" = some (.ref m) ∧ m ≠ builtinsNs ∧ s.heap.get? m = some o ∧ o.cls = .type "module" ∧ o.dict = some builtinsNs ∧ o.data = .plain)
    (ha : s.heap.get? a = some { cls := .type "list", data := .seq vs.toArray }) (hi : IntsAre vs ns) (hl : ns.length ≤ sizeLine)
    (F : ∀ base : Heap, (∀ p ∈ cs, LamX.TabB base mg p.1 p.2) → OutOk P w K mg base fa fd [x] sp) (bind : ∀ (s : Shared) (u : Value), BindsTo s fd ⟨[u], []⟩ [(x, u)])
    (hsp : ∀ H : Hp, (∀ p ∈ cs, H p.2 = some (.tbl #[])) → SqL K H a (ns.map V.int) → sp [.ref a] H (fun v _ => v = .bl true) fun _ _ _ => False) :
    codeAny (model P w) callerA (.call (.ref fa) ⟨[.ref a], []⟩) (fun r s' => r = .ok (.ret (.bool true)) ∧ OldK s.heap s'.heap ∧ s'.os = s.os ∧ AllBare s'.gens) s := by
  have tabAt : ∀ b ∈ cs.map (·.2), s.heap.get? b = some tab0 := fun b h => by
    obtain ⟨p, hp, rfl⟩ := List.mem_map.mp h
    exact hT p hp
  obtain ⟨H, N⟩ := entryT (P := P) (w := w) (mg := mg) (ts := cs.map (·.2)) KX ha hi hl tabAt
  have inT : ∀ {p : Addr × Addr}, p ∈ cs → p.2 ∈ cs.map (·.2) := fun h => List.mem_map.mpr ⟨_, h, rfl⟩
  -- an object that is neither the script nor a table is not known
  have free : ∀ {b : Addr} {o : Obj}, s.heap.get? b = some o → (∀ xs n, o.data ≠ .seq xs n) → o.data ≠ .fields #[] → H b = none := fun {b o} e n1 n2 => by
    cases z : H b with
    | none => rfl
    | some u =>
      rcases N.only b u z with h | ⟨rfl, _⟩
      · rw [tabAt b h] at e; cases e; exact absurd rfl n2
      · rw [ha] at e; cases e; exact absurd rfl (n1 _ _)
  have freeD : ∀ {b : Addr} {o : Obj} {es : Array DictEntry} {n : Nat}, s.heap.get? b = some o → o.data = .dict es n → H b = none := fun {b o es n} e d =>
    free e (fun _ _ z => by rw [d] at z; cases z) fun z => by rw [d] at z; cases z
  have keepNs : ∀ {b : Addr} {m : Str → Option Value}, s.heap.Ns b m → (hidT s.heap H).Ns b m := fun {b m} ⟨o, es, ep, e, d, r⟩ => ⟨o, es, ep, hidT_get e (freeD e d), d, r⟩
  have KB : K.In (hidT s.heap H) := fun b o e => by
    refine hidT_get (KX b o e) ?_
    cases z : H b with
    | none => rfl
    | some u =>
      rcases N.only b u z with h | ⟨rfl, h2, _⟩
      · obtain ⟨p, hp, rfl⟩ := List.mem_map.mp h
        rw [nT p hp] at e; cases e
      · rw [h2] at e; cases e
  have TB : ∀ p ∈ cs, LamX.TabB (hidT s.heap H) mg p.1 p.2 := fun p hp => by
    refine ⟨?_, ?_, fun z => ?_⟩
    · obtain ⟨o, us, f1, f2, f3, f4, f5, f6, f7, e1, r1, r2, r3, rest⟩ := C p hp
      exact ⟨o, us, f1, f2, f3, f4, f5, f6, f7, hidT_get e1 (free e1 (fun _ _ z => by rw [r2] at z; cases z) fun z => by rw [r2] at z; cases z; simp at r3), r1, r2, r3, rest⟩
    · obtain ⟨m, o, b1, b2, b3, b4, b5, b6⟩ := hbm
      refine ⟨m, o, b1, b2, fun z => ?_, fun z => ?_, hidT_get b3 (free b3 (fun _ _ z => by rw [b6] at z; cases z) fun z => by rw [b6] at z; cases z), b4, b5, b6⟩
      · obtain ⟨o2, es, ep, e, d, _⟩ := hns
        rw [z, e] at b3; cases b3; rw [d] at b6; cases b6
      · rw [z, hT p hp] at b3; cases b3; cases b6
    · obtain ⟨o2, es, ep, e, d, _⟩ := hns
      rw [z, hT p hp] at e; cases e; cases d
  obtain ⟨mc, l1, l2⟩ := hlim
  have E0 : Env0 P w K mg (hidT s.heap H) callerA [] s H := ⟨rfl, ⟨KB, keepNs hns, ⟨mb, keepNs hb, hbb⟩, ⟨mc, keepNs l1, l2⟩⟩, fun b o e => of_hidT e, Nat.le_of_eq (hidT_size _ _), trivial, fun b z => absurd (show b ∈ ([] : List Addr) from z) (by simp), N.hok, .of_eq hg⟩
  refine codeAny_mono (F _ TB s H ⟨[.ref a], []⟩ [.ref a] [.ref a] _ _ E0 (bind s (.ref a)) (.cons rfl .nil) (hsp H (fun p hp => N.tab _ (inT hp)) N.there)) fun r s' z => ?_
  cases r with
  | error e => obtain ⟨_, _, _, _, _, _, _, _, _, _, _, _, y⟩ := z; exact y.elim
  | ok fl =>
    cases fl with
    | next => exact z.elim
    | brk => exact z.elim
    | cont => exact z.elim
    | ret u =>
      obtain ⟨v, H', os, bare, un, hok', rv, q⟩ := z
      cases (show v = .bl true from q)
      cases (show u = Value.bool true from rv)
      have keep : ∀ b o, b ∉ cs.map (·.2) → s.heap.get? b = some o → s'.heap.get? b = some o := fun b o nb e => by
        cases y : H b with
        | none => exact un.keep b o e y (fun h => absurd (show b ∈ ([] : List Addr) from h) (by simp)) (by simp)
        | some u =>
          rcases N.only b u y with h | ⟨_, _, ob, xs, rfl⟩
          · exact absurd h nb
          · obtain ⟨e1, _⟩ := N.hok b _ y
            obtain ⟨e2, _⟩ := hok' b _ (un.frzs b ob _ y)
            rw [e] at e1; cases e1; exact e2
      have more : ∀ p ∈ cs, ∃ xs : Array Value, s'.heap.get? p.2 = some { cls := .none, data := .fields xs } := fun p hp => by
        obtain ⟨xs, y⟩ := un.tbls p.2 #[] (N.tab _ (inT hp))
        exact ⟨_, hok' p.2 _ y⟩
      refine ⟨rfl, ⟨fun b o e => ?_, fun b o e => ?_⟩, os, bare⟩
      · by_cases hb : b ∈ cs.map (·.2)
        · obtain ⟨p, hp, rfl⟩ := List.mem_map.mp hb
          obtain ⟨xs, hx⟩ := more p hp
          rw [hT p hp] at e; cases e
          exact .inr (.inl ⟨((C p hp).tab (hT p hp)).isCodeTable, rfl, #[], xs, rfl, by rw [Array.empty_append]; exact hx⟩)
        · exact .inl (keep b o hb e)
      · by_cases hb : b ∈ cs.map (·.2)
        · obtain ⟨p, hp, rfl⟩ := List.mem_map.mp hb
          obtain ⟨xs, hx⟩ := more p hp
          exact ⟨_, hx⟩
        · exact ⟨o, keep b o hb e⟩
theorem walk_topT {l : PySem.W.OpenLaw} {n : Nat} {q : Program} {loose : List Str} {XP : (Str → Option Value) → Heap → Prop} {YP : World → Heap → Prop} {d : DefRec} {x : Str}
    (hn : l.most = some n) (hn2 : n ≤ sizeLine) (hdf : d.params.defaults = [])
    (F : ∀ (w : World) (mg : Str → Option Value) (fa : Addr) (h : Heap), YP w h → h.Ns mainGlobals mg → mg d.name = some (.ref fa) →
      ∃ (K : KF) (fd : FuncData) (sp : Sp) (cs : List (Addr × Addr)), K.In h ∧ (∀ p ∈ cs, h.get? p.2 = some tab0) ∧ (∀ p ∈ cs, K.lookup p.2 = none) ∧ (∀ p ∈ cs, PySem.W.CodeHd h p.1 p.2) ∧ (∀ (s : Shared) (u : Value), BindsTo s fd ⟨[u], []⟩ [(x, u)]) ∧
        (∀ (H : Hp) (a : Addr) (ns : List Int), ns.length ≤ n → (∀ p ∈ cs, H p.2 = some (.tbl #[])) → SqL K H a (ns.map V.int) → sp [.ref a] H (fun v _ => v = .bl true) fun _ _ _ => False) ∧
        ∀ base : Heap, (∀ p ∈ cs, LamX.TabB base mg p.1 p.2) → OutOk l.prog w K mg base fa fd [x] sp) :
    PySem.W.WalkO q loose XP YP l.row.toRowW d [] (fun f vs => PySem.call f vs) :=
  Att.attach_call hn hdf fun w s₀ s₁ mg mb fa o pm cd doc a vs ns G Y ho hd hcd hmg hobj hints hlen hg => by
    obtain ⟨K, fd, sp, cs, KX, h1, h2, h3, hb, hsp, hF⟩ := F w mg fa _ Y G.T.g hmg
    exact top_callT KX G.T.g G.T.b G.T.builtins G.T.nolimit hg h1 h2 h3 G.T.bmain hobj hints (Nat.le_trans hlen hn2) hF hb fun H hH hS => hsp H a ns hlen hH hS
/-- the facts, from the Hook that tells the tables too -/
theorem saysF_of {fb : List (KF → Bool)} {fa : List He.Fa} {fn : List He.DefD} {tf : List He.Defn} {w : World} {h : Heap} {K : KF} (c : He.SaysX fa fn [] tf (fun K => fb.all fun f => f K) w h K) : SaysF fb fa fn K := by
  have e : He.obsD fa fn K = He.valD fn := congrArg (fun z : He.AlT => z.1) c.t
  have m : (fb.all fun f => f K) = true := c.more
  show ((fb.all fun f => f K) && (He.obsD fa fn K).1, (He.obsD fa fn K).2) = He.valD fn
  rw [m, e]
  rfl
end DP
end
section
set_option Elab.async false
set_option linter.all false
set_option maxRecDepth 100000
/-! a call of the function that a name holds: one of two -/
namespace DP
open PySem PySem.Spec PyProof.Rows L2
section
variable {X : Cx} {CX : CXT} {k i : Nat} {f : Addr} {fd : FuncData} {ps : List Str} {sp : Sp} {E : L2.St → XK} {x : Str} {p pos : Pos} {e : Expr} {es : List Expr} {t : TA}
theorem pe_callSV (Fn : FnOk X.prog X.w X.K X.mg X.base CX k f fd ps sp) (room : Room k X.A) (at_ : X.N[i]? = some x) (vis : Vis X.env.scope x) (kp : PySem.W.keepIn X.K (.ref f) = true) (bd : Binds X.K fd ps []) (pass : ∀ σ, PassesAt CX X σ (E σ)) (args : PA X (e :: es) t)
    (n1 : (x == ("__debug__" : Str)) = false) (n2 : (x == ("__classdict__" : Str)) = false) (st : starEach (e :: es) X.env = (false, eval e X.env) :: starEach es X.env) (pl : (backTo pos (starEach es X.env)).any (·.1) = false) :
    PE X (.Call (.Name x p) (e :: es) [] pos) (fun σ H Q => σ[i]? = some (some (.ref f)) ∧ tCallS sp E t σ H Q) := by
  refine ⟨fun pins s σ H Q I ⟨at1, want⟩ => ?_⟩
  refine wpAny_Call_Name_kw (thn ((pe_var (pos := p) at_ vis n1 n2).run pins s σ H (fun v G => v = .ref f ∧ G = H) I ⟨.ref f, at1, rfl, rfl⟩) fun u s1 ⟨v, G, I1, r1, q1⟩ => ?_)
  obtain ⟨rfl, rfl⟩ := q1
  obtain rfl : u = Value.ref f := r1
  refine PySem.W.callWith_K (h₀ := X.base) I.ok.mod.kin kp (thn (args.run pos pins s1 σ _ _ I1 want) fun us s2 ⟨vs, G2, I2, r, q⟩ => ⟨I2.kIn, ?_⟩) st pl
  exact run_fnS Fn room bd (pass σ) I2 r q
end
def eCallV (i : Nat) (f1 : Addr) (m1 : List T → M T) (f2 : Addr) (m2 : List T → M T) (fs : Env' → M (List T)) : Env' → M T := fun ρ => match ρ[i]? with
  | some (.val (.fn a)) => if a = f1 then (fs ρ).bind m1 else if a = f2 then (fs ρ).bind m2 else .stuck
  | _ => .stuck
section
variable {X : Cx} {g : Cn} {W : WX} {k i np : Nat} {f1 f2 : Addr} {fd1 fd2 : FuncData} {ps1 ps2 : List Str} {x : Str} {p pos : Pos} {e : Expr} {es : List Expr} {fs : Env' → M (List T)} {m1 m2 : List T → M T}
theorem de_callV (Fn1 : FnOk X.prog X.w X.K X.mg X.base (L2.CX X.prog X.w) k f1 fd1 ps1 (spD g.K g.X false np m1)) (Fn2 : FnOk X.prog X.w X.K X.mg X.base (L2.CX X.prog X.w) k f2 fd2 ps2 (spD g.K g.X false np m2)) (hr : Room k X.A) (tk : Takes X W)
    (k1 : PySem.W.keepIn X.K (.ref f1) = true) (k2 : PySem.W.keepIn X.K (.ref f2) = true) (b1 : Binds X.K fd1 ps1 []) (b2 : Binds X.K fd2 ps2 []) (ha : DA X g W (e :: es) fs)
    (hn : ∀ (ρ : Env') (b : Nat) (Q : Nat → List T → Prop) (E : Nat → Str → T → Prop), (fs ρ).wp b Q E → (fs ρ).wp b (fun b ts => ts.length = np ∧ Q b ts) E)
    (at_ : X.N[i]? = some x := by rfl) (vis : Vis X.env.scope x := by first | exact Or.inl rfl | exact Or.inr (Or.inl rfl) | exact Or.inr (Or.inr rfl)) (n1 : (x == ("__debug__" : Str)) = false := by decide) (n2 : (x == ("__classdict__" : Str)) = false := by decide)
    (st : starEach (e :: es) X.env = (false, eval e X.env) :: starEach es X.env := by rfl) (pl : (backTo pos (starEach es X.env)).any (·.1) = false := by rfl) :
    DE X g W (.Call (.Name x p) (e :: es) [] pos) (eCallV i f1 m1 f2 m2 fs) := by
  have one := pe_callSV (p := p) (pos := pos) Fn1 hr at_ vis k1 b1 (fun σ => passAt tk σ) ha n1 n2 st pl
  have two := pe_callSV (p := p) (pos := pos) Fn2 hr at_ vis k2 b2 (fun σ => passAt tk σ) ha n1 n2 st pl
  refine ⟨fun pins s σ H Q I ⟨ρ, F, b, sr, q⟩ => ?_⟩
  unfold eCallV at q
  cases e0 : ρ[i]? with
  | none => rw [e0] at q; exact q.elim
  | some sl =>
    rw [e0] at q
    obtain ⟨ov, hv, r⟩ := Paired.get1 sr.slots e0
    have side : ∀ {m : List T → M T}, ((fs ρ).bind m).wp b (fun b' t => ∀ v H' F', Step g σ ρ F H F' H' b' → Rep g.K F' v t → Q v H') (EX g W σ ρ F H) → tCallS (spD g.K g.X false np m) (fun σ => WE W σ) (tDA g W fs) σ H Q := fun {m} q =>
      ⟨ρ, F, b, sr, M.wp_mono (hn ρ b _ _ (M.wp_bind.mp q)) (fun b1 ts z vs H1 F1 s1 r1 =>
        call_sp s1.sr r1 (by rw [r1.length]; exact z.1) (M.wp_mono z.2 (fun b2 t y v H2 F2 s2 r2 => y v H2 F2 (s1.trans s2) r2) fun b' c t y => EX.step s1 b' c t y)) fun _ _ _ z => z⟩
    cases r with
    | @val v t r =>
      cases t with
      | fn a =>
        cases r with
        | fn ty =>
          have q : (if a = f1 then (fs ρ).bind m1 else if a = f2 then (fs ρ).bind m2 else .stuck).wp b _ _ := q
          by_cases z1 : a = f1
          · rw [if_pos z1] at q
            exact one.run pins s σ H Q I ⟨by rw [hv, z1], side q⟩
          · rw [if_neg z1] at q
            by_cases z2 : a = f2
            · rw [if_pos z2] at q
              exact two.run pins s σ H Q I ⟨by rw [hv, z2], side q⟩
            · rw [if_neg z2] at q
              exact q.elim
      | _ => exact q.elim
    | _ => exact q.elim
end
end DP
end
section
set_option Elab.async false
set_option linter.all false
set_option maxRecDepth 100000
/-! small things for the printed texts -/
namespace DP
open PySem PySem.Spec PyProof.Rows L2
theorem cks_nil {K : KF} {Xc : Str → Addr × Str} : CksOk K Xc [] := ⟨fun _ h => (nomatch h), fun _ h => nomatch h⟩
theorem cks_cons {K : KF} {Xc : Str → Addr × Str} {x fl w : Str} {C : Addr} {cs : List Ck} (hx : Xc x = (C, fl)) (self : PySem.W.exmOne K (.ref C) (.ref C) = some true)
    (o : ∀ r ∈ cs, PySem.W.exmOne K (.ref C) (.ref r.C) = some false ∧ PySem.W.exmOne K (.ref r.C) (.ref C) = some false ∧ x ≠ r.x) (t : CksOk K Xc cs) : CksOk K Xc (⟨x, C, fl, w⟩ :: cs) := by
  refine ⟨fun p hp => ?_, fun p hp r hr => ?_⟩
  · rcases List.mem_cons.mp hp with rfl | hp
    · exact hx
    · exact t.1 p hp
  · rcases List.mem_cons.mp hp with rfl | hp
    · rcases List.mem_cons.mp hr with rfl | hr
      · rw [self, decide_eq_true rfl]
      · obtain ⟨e1, _, e3⟩ := o r hr
        rw [e1, decide_eq_false e3]
    · rcases List.mem_cons.mp hr with rfl | hr
      · obtain ⟨_, e2, e3⟩ := o p hp
        rw [e2, decide_eq_false fun z => e3 z.symm]
      · exact t.2 p hp r hr
theorem cks_o_nil {K : KF} {x : Str} {C : Addr} : ∀ r ∈ ([] : List Ck), PySem.W.exmOne K (.ref C) (.ref r.C) = some false ∧ PySem.W.exmOne K (.ref r.C) (.ref C) = some false ∧ x ≠ r.x := fun _ h => nomatch h
theorem cks_o_cons {K : KF} {x : Str} {C : Addr} {r : Ck} {cs : List Ck} (h1 : PySem.W.exmOne K (.ref C) (.ref r.C) = some false) (h2 : PySem.W.exmOne K (.ref r.C) (.ref C) = some false) (h3 : x ≠ r.x)
    (t : ∀ y ∈ cs, PySem.W.exmOne K (.ref C) (.ref y.C) = some false ∧ PySem.W.exmOne K (.ref y.C) (.ref C) = some false ∧ x ≠ y.x) : ∀ y ∈ r :: cs, PySem.W.exmOne K (.ref C) (.ref y.C) = some false ∧ PySem.W.exmOne K (.ref y.C) (.ref C) = some false ∧ x ≠ y.x :=
  List.forall_mem_cons.mpr ⟨⟨h1, h2, h3⟩, t⟩
theorem clk_nil {X : Cx} {n : Str} : ClsOk X n [] (([] : List Ck).map Ck.cl) := .nil
theorem clk_cons {X : Cx} {n : Str} {p : Ck} {cs : List Ck} {st : Stmt} {sts : List Stmt} {q1 q2 : Pos} {hds : List ExceptHandler} (hx : Names X p.x (.ref p.C))
    (suite : ∀ (e : Addr) (o : Obj) (cl : Value) (d : Option Addr) (pn : List (Addr × Obj)), Zc cl d o → (∃ vs, o.data = .fields vs) → PSs (X.suite e ((e, o) :: pn)) (st :: sts) (p.ts e cl d)) (rest : ClsOk X n hds (cs.map Ck.cl)) :
    ClsOk X n (.ExceptHandler (some (.Name p.x q1)) (some n) (st :: sts) q2 :: hds) ((p :: cs).map Ck.cl) := .cons hx suite rest
/-- the code object of the law's def -/
theorem code_eq {K : KF} {p : He.Defn} {f : Addr} {q : Str} {cdv : Value} (hf : He.fAd K p = f) (h : CodeAt K f q cdv) : cdv = .ref (He.cT K p).1 := by
  obtain ⟨oc, od, osl, fd, lk, rfl, hc⟩ := h.ex
  obtain ⟨c, e⟩ := He.codeIn_ref hc
  rw [e]
  exact congrArg Value.ref (He.codeOf_eq (by rw [hf]; exact lk) e).symm
/-- a built-in function by its name -/
def bltB (x : Str) (id : String) (K : KF) : Bool := He.eqO (PySem.W.nsIn K mainGlobals x) (some (some (.builtin id)))
theorem blt_of {K : KF} {h : Heap} {mg : Str → Option Value} (X : K.In h) (G : h.Ns mainGlobals mg) {x : Str} {id : String} (c : bltB x id K = true) : mg x = some (.builtin id) := PySem.W.mg_of X G (He.eqO_ok c)
theorem one_tab {P : Addr} {q q' : Str} (m : (P, q') ∈ [(P, q)]) : q' = q := congrArg Prod.snd (List.mem_singleton.mp m)
section
variable {X : Cx} {g : Cn} {W : WX} {k i np : Nat} {f1 f2 c1 c2 : Addr} {fd1 fd2 : FuncData} {ps1 ps2 : List Str} {x : Str} {p pos : Pos} {e : Expr} {es : List Expr} {fs : Env' → M (List T)} {m1 m2 : List T → M T}
theorem de_callV2 (e1 : f1 = c1) (e2 : f2 = c2) (Fn1 : FnOk X.prog X.w X.K X.mg X.base (L2.CX X.prog X.w) k f1 fd1 ps1 (spD g.K g.X false np m1)) (Fn2 : FnOk X.prog X.w X.K X.mg X.base (L2.CX X.prog X.w) k f2 fd2 ps2 (spD g.K g.X false np m2)) (hr : Room k X.A) (tk : Takes X W)
    (k1 : PySem.W.keepIn X.K (.ref f1) = true) (k2 : PySem.W.keepIn X.K (.ref f2) = true) (b1 : Binds X.K fd1 ps1 []) (b2 : Binds X.K fd2 ps2 []) (ha : DA X g W (e :: es) fs)
    (hn : ∀ (ρ : Env') (b : Nat) (Q : Nat → List T → Prop) (E : Nat → Str → T → Prop), (fs ρ).wp b Q E → (fs ρ).wp b (fun b ts => ts.length = np ∧ Q b ts) E)
    (at_ : X.N[i]? = some x := by rfl) (vis : Vis X.env.scope x := by first | exact Or.inl rfl | exact Or.inr (Or.inl rfl) | exact Or.inr (Or.inr rfl)) (n1 : (x == ("__debug__" : Str)) = false := by decide) (n2 : (x == ("__classdict__" : Str)) = false := by decide)
    (st : starEach (e :: es) X.env = (false, eval e X.env) :: starEach es X.env := by rfl) (pl : (backTo pos (starEach es X.env)).any (·.1) = false := by rfl) :
    DE X g W (.Call (.Name x p) (e :: es) [] pos) (eCallV i c1 m1 c2 m2 fs) := by
  subst e1 e2
  exact de_callV Fn1 Fn2 hr tk k1 k2 b1 b2 ha hn at_ vis n1 n2 st pl
end
end DP
end
section
set_option Elab.async false
set_option linter.all false
set_option maxRecDepth 100000
namespace Tw
open PySem PySem.Spec PyProof.Rows L2 DP
def top (i : Nat) : Stmt := PySem.Challenge.pw_quickbythen_k02_whole_comers.main.body.getD i (.Pass ⟨0, 0, 0, 0⟩)
abbrev s_draw : Stmt := top 27
theorem sc_draw : FnScope ["_law_stream_here", "_law_many", "_law_cell", "_law_digit", "_law_mixed"] ["_law_stream_here", "_law_many"] (defScope s_draw) := ⟨rfl, rfl, rfl, by decide +kernel, rfl, by decide +kernel, by decide +kernel⟩
section
variable {P : Program} {w : World} {K : KF} {mg : Str → Option Value} {base : Heap} {Xc : Str → Addr × Str} {fa : Addr} {fd : FuncData}
theorem ok_draw (F : Fun K "_law_draw" "_law_draw" s_draw fa fd) (nabs : mg "abs" = none) (nint : mg "int" = none) : FnOk P w K mg base (L2.CX P w) 1 fa fd ["_law_stream_here", "_law_many"] (spD K Xc true 1 drawM) := by
  refine F.okX sc_draw (fun vs H Q E h => ?_) (fun cdv A outer sh H vs Q E hr h => ?_)
  · obtain ⟨s, l, ns, c, n, m, many, rfl, _⟩ := draw_read h
    rfl
  · obtain ⟨s, l, ns0, c0, n, m0, many, rfl, S0, hc, hn, hb, hm, hm', h0, hfit, k⟩ := draw_read h
    have hu := hr.units
    refine ⟨_, pss_cons (ps_asg (pe_op op_add (pe_ix ix_list (pv 0) pe_int (fun _ _ => rfl)) pe_int) (pg_sub (pv 0) pe_int set_list))
      (pss_cons (ps_while (passes_of rfl) (PW.pt (pw_and (pt_cmpR op_eq (pe_ix ix_list (pv 0) pe_int (fun _ _ => rfl)) pe_int (nomark _)) (pw_and1 (pt_cmpR (op_neD hu) (pe_ix ix_list (pv 0) pe_int (fun _ _ => rfl)) (pe_lst pa_nil) (nomark _)))))
        (pss_cons (ps_set (i := 2) sc_draw.nd rfl (Or.inl rfl) (pe_callB call_abs rfl nabs (by decide +kernel) (pa_cons (pe_bm PySem.F.plainAttrs_list PySem.F.slot_list_pop PySem.F.type_list_pop mt_popAt (pe_ix ix_list (pv 0) pe_int (fun _ _ => rfl)) (pa_cons pe_int pa_nil)) pa_nil)))
        (pss_cons (ps_asg (pe_op op_mod (pe_callTy call_int1 rfl nint (by decide +kernel) (pa_cons (pe_op op_add (pe_op op_add (pe_op op_mul (pe_ix ix_list (pv 0) pe_int (fun _ _ => rfl)) pe_int) (pv 2)) pe_int) pa_nil)) pe_int) (pg_sub (pv 0) pe_int set_list))
        (pss_one (ps_asg (pe_ifExp (pt_cmpR op_ge (pv 2) (pe_op op_pow pe_int pe_int) (nomark _)) (pv 2) pe_int) (pg_sub (pv 0) pe_int set_list))))))
      (pss_cons (ps_if (pt_cmpR op_gt (pe_ix ix_list (pv 0) pe_int (fun _ _ => rfl)) pe_int (nomark _))
        (pss_cons (ps_set (i := 3) sc_draw.nd rfl (Or.inl rfl) (pe_op op_mod (pe_callTy call_int1 rfl nint (by decide +kernel) (pa_cons (pe_ix ix_list (pv 0) pe_int (fun _ _ => rfl)) pa_nil)) (pv 1)))
        (pss_cons (ps_asg (pe_op op_fdivW (pe_ix ix_list (pv 0) pe_int (fun _ _ => rfl)) (pv 1)) (pg_sub (pv 0) pe_int set_list))
        (pss_one (ps_ret (pv 3))))) pss_nil)
      (pss_cons (ps_set (i := 4) sc_draw.nd rfl (Or.inl rfl) (pe_op op_mod (pe_callTy call_int1 rfl nint (by decide +kernel) (pa_cons (pe_op op_pow (pe_op op_add (pe_op op_add (pe_ix ix_list (pv 0) pe_int (fun _ _ => rfl)) (pe_op op_mul pe_int (pe_ix ix_list (pv 0) pe_int (fun _ _ => rfl)))) pe_int) pe_int) pa_nil)) pe_int))
      (pss_one (ps_ret (pe_op op_mod (pe_op op_mod (pe_callTy call_int1 rfl nint (by decide +kernel) (pa_cons (pe_op op_pow (pe_op op_add (pe_op op_add (pe_op op_mul (pv 4) pe_int) (pe_op op_mul pe_int (pe_ix ix_list (pv 0) pe_int (fun _ _ => rfl)))) pe_int) pe_int) pa_nil)) pe_int) (pv 1))))))), ?_⟩
    -- stream[2] = stream[2] + 1
    refine ⟨_, rfl, s, _, 2, _, rfl, rfl, SqL.of S0.at_s, rfl, _, _, rfl, rfl, _, rfl, s, _, 2, 2, rfl, rfl, S0.at_s, rfl, ?_⟩
    have S1 := S0.setS c0 (n + 1) m0
    -- the cells
    refine ⟨fun z σ H' => ∃ (ns : List Int) (c m : Int) (v : Option V), z = ns.length ∧ σ = [some (.ref s), some (.int many), v, none, none] ∧ St4 H H' s l ns c (n + 1) m ∧ 0 ≤ c ∧ 0 ≤ m ∧ m < 2147483647, ⟨_, ns0, c0, m0, none, rfl, rfl, S1, hc, hm, hm'⟩, ?_⟩
    rintro z σ H' ⟨ns, c, m, v, rfl, rfl, S, hc, hm, hm'⟩
    refine ⟨_, rfl, s, _, 1, _, rfl, rfl, SqL.of S.at_s, rfl, rfl, _, rfl, ?_⟩
    by_cases e : c = 0
    · subst e
      refine iteT ?_
      refine ⟨_, rfl, s, _, 0, _, rfl, rfl, SqL.of S.at_s, rfl, by decide, fun p hp => ⟨_, _, .lst (SqL.of (S.new hp).at_l) (dpInts ns), .lst (SqL.of upd_same) .nil, shapedInts ns, shapedNil, _, rfl, ?_⟩⟩
      rw [eqvNil]
      cases ns with
      | nil =>
        have S9 := S.new (o := .lst []) hp
        refine iteF ?_
        refine ⟨_, rfl, s, _, 1, _, rfl, rfl, SqL.of S9.at_s, rfl, _, _, rfl, rfl, _, rfl, ?_⟩
        by_cases hd : (0 : Int) < 0
        · rw [decide_eq_true hd]
          refine iteT ⟨_, rfl, s, _, 1, _, rfl, rfl, SqL.of S9.at_s, rfl, .inl ⟨_, rfl, _, rfl, _, _, rfl, rfl, h0, ?_⟩⟩
          refine ⟨_, rfl, s, _, 1, _, rfl, rfl, SqL.of S9.at_s, rfl, _, rfl, _, _, rfl, rfl, ⟨h0, by have := of_decide_eq_true hfit; omega⟩, _, rfl, s, _, 1, 1, rfl, rfl, S9.at_s, rfl, ?_⟩
          exact ⟨_, rfl, k _ _ _ _ _ (S9.setS (0 / many) (n + 1) m) (Int.emod_nonneg 0 (by omega)) (Int.emod_lt_of_pos 0 h0) (Int.ediv_nonneg hc (by omega)) hm hm'⟩
        · rw [decide_eq_false hd]
          refine iteF ⟨_, rfl, s, _, 3, _, rfl, rfl, SqL.of S9.at_s, rfl, _, rfl, s, _, 2, _, rfl, rfl, SqL.of S9.at_s, rfl, _, _, rfl, rfl, .inl ⟨by decide, by decide⟩, _, _, rfl, rfl, _, _, rfl, rfl, _, _, rfl, rfl, ⟨by decide, by decide, pow_lt (by omega) (by omega)⟩, .inl ⟨_, rfl, _, _, rfl, rfl, (by show (0 : Int) < 2147483629; decide), ?_⟩⟩
          generalize hz : ((m + 7919 * (n + 1) + 104729) ^ (5 : Int).toNat % 2147483629 : Int) = z
          have z0 : 0 ≤ z := by rw [← hz]; exact Int.emod_nonneg _ (by decide)
          have z1 : z < 2147483629 := by rw [← hz]; exact Int.emod_lt_of_pos _ (by decide)
          refine ⟨_, rfl, _, _, rfl, rfl, .inl ⟨by omega, by omega⟩, _, rfl, s, _, 2, _, rfl, rfl, SqL.of S9.at_s, rfl, _, _, rfl, rfl, .inl ⟨by decide, by decide⟩, _, _, rfl, rfl, _, _, rfl, rfl, _, _, rfl, rfl, ⟨by decide, by decide, pow_lt (by omega) (by omega)⟩, .inl ⟨_, rfl, _, _, rfl, rfl, (by show (0 : Int) < 1000000007; decide), _, rfl, _, _, rfl, rfl, h0, ?_⟩⟩
          exact k _ _ _ _ _ S9 (Int.emod_nonneg _ (by omega)) (Int.emod_lt_of_pos _ h0) hc hm hm'
      | cons x ns =>
        have S2 := S.new (o := .lst []) hp
        refine iteT ⟨_, fun _ _ h => ⟨_, Nat.lt_succ_self _, h⟩, ?_⟩
        -- cell = abs(stream[0].pop(0))
        refine ⟨_, rfl, s, _, 0, _, rfl, rfl, SqL.of S2.at_s, rfl, .inl ⟨rfl, _, SqL.of S2.at_l⟩, l, _, 0, 0, _, rfl, rfl, S2.at_l, by decide, by decide, (ixN_seq (by simp [ixN])).1, rfl, _, rfl, ?_⟩
        have S3 := S2.setL ns
        generalize hcell : (if x < 0 then -x else x) = cell
        have hcl : 0 ≤ cell := by rw [← hcell]; split <;> omega
        -- stream[3]
        refine ⟨_, rfl, s, _, 3, _, rfl, rfl, SqL.of S3.at_s, rfl, _, _, rfl, rfl, .inr ⟨by decide, by decide⟩, _, rfl, _, _, rfl, rfl, _, _, rfl, rfl, .inl ⟨_, rfl, _, _, rfl, rfl, (by show (0 : Int) < 2147483647; decide), _, rfl, s, _, 3, 3, rfl, rfl, S3.at_s, rfl, ?_⟩⟩
        have S4 := S3.setS 0 (n + 1) ((m * 8191 + cell + 3) % 2147483647)
        have m0 : 0 ≤ (m * 8191 + cell + 3) % 2147483647 := Int.emod_nonneg _ (by decide)
        have m1 : (m * 8191 + cell + 3) % 2147483647 < 2147483647 := Int.emod_lt_of_pos _ (by decide)
        -- stream[1]
        refine ⟨_, rfl, _, _, rfl, rfl, ⟨by decide, by decide, by decide⟩, _, _, rfl, rfl, _, rfl, ?_⟩
        by_cases hd : (10 : Int) ^ (18 : Int).toNat ≤ cell
        · rw [decide_eq_true hd]
          refine iteT ⟨_, rfl, _, rfl, s, _, 1, 1, rfl, rfl, S4.at_s, rfl, ?_⟩
          exact ⟨ns, cell, _, _, rfl, rfl, S4.setS cell (n + 1) _, hcl, m0, m1⟩
        · rw [decide_eq_false hd]
          refine iteF ⟨_, rfl, s, _, 1, 1, rfl, rfl, S4.at_s, rfl, ?_⟩
          exact ⟨ns, 0, _, _, rfl, rfl, S4.setS 0 (n + 1) _, by omega, m0, m1⟩
    · have S9 := S
      have e' : decide (V.int c = V.int 0) = false := decide_eq_false fun z => e (V.int.inj z)
      rw [e']
      refine iteF ?_
      refine iteF ?_
      refine ⟨_, rfl, s, _, 1, _, rfl, rfl, SqL.of S9.at_s, rfl, _, _, rfl, rfl, _, rfl, ?_⟩
      by_cases hd : 0 < c
      · rw [decide_eq_true hd]
        refine iteT ⟨_, rfl, s, _, 1, _, rfl, rfl, SqL.of S9.at_s, rfl, .inl ⟨_, rfl, _, rfl, _, _, rfl, rfl, h0, ?_⟩⟩
        refine ⟨_, rfl, s, _, 1, _, rfl, rfl, SqL.of S9.at_s, rfl, _, rfl, _, _, rfl, rfl, ⟨h0, by have := of_decide_eq_true hfit; omega⟩, _, rfl, s, _, 1, 1, rfl, rfl, S9.at_s, rfl, ?_⟩
        exact ⟨_, rfl, k _ _ _ _ _ (S9.setS (c / many) (n + 1) m) (Int.emod_nonneg c (by omega)) (Int.emod_lt_of_pos c h0) (Int.ediv_nonneg hc (by omega)) hm hm'⟩
      · rw [decide_eq_false hd]
        refine iteF ⟨_, rfl, s, _, 3, _, rfl, rfl, SqL.of S9.at_s, rfl, _, rfl, s, _, 2, _, rfl, rfl, SqL.of S9.at_s, rfl, _, _, rfl, rfl, .inl ⟨by decide, by decide⟩, _, _, rfl, rfl, _, _, rfl, rfl, _, _, rfl, rfl, ⟨by decide, by decide, pow_lt (by omega) (by omega)⟩, .inl ⟨_, rfl, _, _, rfl, rfl, (by show (0 : Int) < 2147483629; decide), ?_⟩⟩
        generalize hz : ((m + 7919 * (n + 1) + 104729) ^ (5 : Int).toNat % 2147483629 : Int) = z
        have z0 : 0 ≤ z := by rw [← hz]; exact Int.emod_nonneg _ (by decide)
        have z1 : z < 2147483629 := by rw [← hz]; exact Int.emod_lt_of_pos _ (by decide)
        refine ⟨_, rfl, _, _, rfl, rfl, .inl ⟨by omega, by omega⟩, _, rfl, s, _, 2, _, rfl, rfl, SqL.of S9.at_s, rfl, _, _, rfl, rfl, .inl ⟨by decide, by decide⟩, _, _, rfl, rfl, _, _, rfl, rfl, _, _, rfl, rfl, ⟨by decide, by decide, pow_lt (by omega) (by omega)⟩, .inl ⟨_, rfl, _, _, rfl, rfl, (by show (0 : Int) < 1000000007; decide), _, rfl, _, _, rfl, rfl, h0, ?_⟩⟩
        exact k _ _ _ _ _ S9 (Int.emod_nonneg _ (by omega)) (Int.emod_lt_of_pos _ h0) hc hm hm'
end
end Tw
end
section
set_option Elab.async false
set_option linter.all false
set_option maxRecDepth 100000
set_option maxHeartbeats 0
namespace Tw
open PySem PySem.Spec PyProof.Rows L2 DP

def c_ZERO : T := .tup (([0, 1] : List Int).map .int)
/-- what the top has written -/
structure Tx (K : KF) (mg : Str → Option Value) where
  Xc : Str → Addr × Str
  cA : Str → Addr
  a_BadMoment____init__ : Addr
  d_BadMoment____init__ : FuncData
  F_BadMoment____init__ : Fun K "__init__" "BadMoment.__init__" (inClass (top 3) 0) a_BadMoment____init__ d_BadMoment____init__
  b_BadMoment____init__ : Binds K d_BadMoment____init__ ["self", "thing"] []
  a_BadComers____init__ : Addr
  d_BadComers____init__ : FuncData
  F_BadComers____init__ : Fun K "__init__" "BadComers.__init__" (inClass (top 4) 0) a_BadComers____init__ d_BadComers____init__
  b_BadComers____init__ : Binds K d_BadComers____init__ ["self", "index"] []
  a_lowest : Addr
  d_lowest : FuncData
  mg_lowest : mg "lowest" = some (.ref a_lowest)
  F_lowest : Fun K "lowest" "lowest" (top 7) a_lowest d_lowest
  b_lowest : Binds K d_lowest ["top", "bottom"] []
  a_plus : Addr
  d_plus : FuncData
  mg_plus : mg "plus" = some (.ref a_plus)
  F_plus : Fun K "plus" "plus" (top 8) a_plus d_plus
  b_plus : Binds K d_plus ["one", "other"] []
  a_minus : Addr
  d_minus : FuncData
  mg_minus : mg "minus" = some (.ref a_minus)
  F_minus : Fun K "minus" "minus" (top 9) a_minus d_minus
  b_minus : Binds K d_minus ["one", "other"] []
  a_times : Addr
  d_times : FuncData
  mg_times : mg "times" = some (.ref a_times)
  F_times : Fun K "times" "times" (top 10) a_times d_times
  b_times : Binds K d_times ["one", "other"] []
  a_is_less : Addr
  d_is_less : FuncData
  mg_is_less : mg "is_less" = some (.ref a_is_less)
  F_is_less : Fun K "is_less" "is_less" (top 11) a_is_less d_is_less
  b_is_less : Binds K d_is_less ["one", "other"] []
  a_lesser : Addr
  d_lesser : FuncData
  mg_lesser : mg "lesser" = some (.ref a_lesser)
  F_lesser : Fun K "lesser" "lesser" (top 12) a_lesser d_lesser
  b_lesser : Binds K d_lesser ["one", "other"] []
  a_is_list : Addr
  d_is_list : FuncData
  mg_is_list : mg "is_list" = some (.ref a_is_list)
  F_is_list : Fun K "is_list" "is_list" (top 14) a_is_list d_is_list
  b_is_list : Binds K d_is_list ["thing"] []
  a_is_pair : Addr
  d_is_pair : FuncData
  mg_is_pair : mg "is_pair" = some (.ref a_is_pair)
  F_is_pair : Fun K "is_pair" "is_pair" (top 15) a_is_pair d_is_pair
  b_is_pair : Binds K d_is_pair ["thing"] []
  a_is_fraction : Addr
  d_is_fraction : FuncData
  mg_is_fraction : mg "is_fraction" = some (.ref a_is_fraction)
  F_is_fraction : Fun K "is_fraction" "is_fraction" (top 16) a_is_fraction d_is_fraction
  b_is_fraction : Binds K d_is_fraction ["thing"] []
  a_is_moment : Addr
  d_is_moment : FuncData
  mg_is_moment : mg "is_moment" = some (.ref a_is_moment)
  F_is_moment : Fun K "is_moment" "is_moment" (top 17) a_is_moment d_is_moment
  b_is_moment : Binds K d_is_moment ["thing"] []
  a_told_moment : Addr
  d_told_moment : FuncData
  mg_told_moment : mg "told_moment" = some (.ref a_told_moment)
  F_told_moment : Fun K "told_moment" "told_moment" (top 19) a_told_moment d_told_moment
  b_told_moment : Binds K d_told_moment ["thing"] []
  a_first_bad_comer : Addr
  d_first_bad_comer : FuncData
  mg_first_bad_comer : mg "first_bad_comer" = some (.ref a_first_bad_comer)
  F_first_bad_comer : Fun K "first_bad_comer" "first_bad_comer" (top 20) a_first_bad_comer d_first_bad_comer
  b_first_bad_comer : Binds K d_first_bad_comer ["thing"] []
  a_told_comers : Addr
  d_told_comers : FuncData
  mg_told_comers : mg "told_comers" = some (.ref a_told_comers)
  F_told_comers : Fun K "told_comers" "told_comers" (top 21) a_told_comers d_told_comers
  b_told_comers : Binds K d_told_comers ["comers"] []
  a_rate_at : Addr
  d_rate_at : FuncData
  mg_rate_at : mg "rate_at" = some (.ref a_rate_at)
  F_rate_at : Fun K "rate_at" "rate_at" (top 23) a_rate_at d_rate_at
  b_rate_at : Binds K d_rate_at ["comers", "moment"] []
  a_come_by : Addr
  d_come_by : FuncData
  mg_come_by : mg "come_by" = some (.ref a_come_by)
  F_come_by : Fun K "come_by" "come_by" (top 24) a_come_by d_come_by
  b_come_by : Binds K d_come_by ["comers", "moment"] []
  a__law_stream : Addr
  d__law_stream : FuncData
  mg__law_stream : mg "_law_stream" = some (.ref a__law_stream)
  F__law_stream : Fun K "_law_stream" "_law_stream" (top 26) a__law_stream d__law_stream
  b__law_stream : Binds K d__law_stream ["_law_script"] []
  a__law_draw : Addr
  d__law_draw : FuncData
  mg__law_draw : mg "_law_draw" = some (.ref a__law_draw)
  F__law_draw : Fun K "_law_draw" "_law_draw" (top 27) a__law_draw d__law_draw
  b__law_draw : Binds K d__law_draw ["_law_stream_here", "_law_many"] []
  a__law_pick : Addr
  d__law_pick : FuncData
  mg__law_pick : mg "_law_pick" = some (.ref a__law_pick)
  F__law_pick : Fun K "_law_pick" "_law_pick" (top 28) a__law_pick d__law_pick
  b__law_pick : Binds K d__law_pick ["_law_stream_here", "_law_things"] []
  a__law_same : Addr
  d__law_same : FuncData
  mg__law_same : mg "_law_same" = some (.ref a__law_same)
  F__law_same : Fun K "_law_same" "_law_same" (top 29) a__law_same d__law_same
  b__law_same : Binds K d__law_same ["_law_found", "_law_due"] []
  a__law_loose : Addr
  d__law_loose : FuncData
  mg__law_loose : mg "_law_loose" = some (.ref a__law_loose)
  F__law_loose : Fun K "_law_loose" "_law_loose" (top 30) a__law_loose d__law_loose
  b__law_loose : Binds K d__law_loose ["_law_stream_here", "_law_thing"] []
  a__law_common : Addr
  d__law_common : FuncData
  mg__law_common : mg "_law_common" = some (.ref a__law_common)
  F__law_common : Fun K "_law_common" "_law_common" (top 31) a__law_common d__law_common
  b__law_common : Binds K d__law_common ["_law_one", "_law_other"] []
  a__law_low : Addr
  d__law_low : FuncData
  mg__law_low : mg "_law_low" = some (.ref a__law_low)
  F__law_low : Fun K "_law_low" "_law_low" (top 32) a__law_low d__law_low
  b__law_low : Binds K d__law_low ["_law_top", "_law_bottom"] []
  a__law_plus : Addr
  d__law_plus : FuncData
  mg__law_plus : mg "_law_plus" = some (.ref a__law_plus)
  F__law_plus : Fun K "_law_plus" "_law_plus" (top 33) a__law_plus d__law_plus
  b__law_plus : Binds K d__law_plus ["_law_one", "_law_other"] []
  a__law_less : Addr
  d__law_less : FuncData
  mg__law_less : mg "_law_less" = some (.ref a__law_less)
  F__law_less : Fun K "_law_less" "_law_less" (top 34) a__law_less d__law_less
  b__law_less : Binds K d__law_less ["_law_one", "_law_other"] []
  a__law_times : Addr
  d__law_times : FuncData
  mg__law_times : mg "_law_times" = some (.ref a__law_times)
  F__law_times : Fun K "_law_times" "_law_times" (top 35) a__law_times d__law_times
  b__law_times : Binds K d__law_times ["_law_one", "_law_other"] []
  a__law_is_below : Addr
  d__law_is_below : FuncData
  mg__law_is_below : mg "_law_is_below" = some (.ref a__law_is_below)
  F__law_is_below : Fun K "_law_is_below" "_law_is_below" (top 36) a__law_is_below d__law_is_below
  b__law_is_below : Binds K d__law_is_below ["_law_one", "_law_other"] []
  a__law_least : Addr
  d__law_least : FuncData
  mg__law_least : mg "_law_least" = some (.ref a__law_least)
  F__law_least : Fun K "_law_least" "_law_least" (top 37) a__law_least d__law_least
  b__law_least : Binds K d__law_least ["_law_things"] []
  a__law_total : Addr
  d__law_total : FuncData
  mg__law_total : mg "_law_total" = some (.ref a__law_total)
  F__law_total : Fun K "_law_total" "_law_total" (top 38) a__law_total d__law_total
  b__law_total : Binds K d__law_total ["_law_things"] []
  a__law_raw : Addr
  d__law_raw : FuncData
  mg__law_raw : mg "_law_raw" = some (.ref a__law_raw)
  F__law_raw : Fun K "_law_raw" "_law_raw" (top 39) a__law_raw d__law_raw
  b__law_raw : Binds K d__law_raw ["_law_stream_here", "_law_thing"] []
  a__law_raw_comers : Addr
  d__law_raw_comers : FuncData
  mg__law_raw_comers : mg "_law_raw_comers" = some (.ref a__law_raw_comers)
  F__law_raw_comers : Fun K "_law_raw_comers" "_law_raw_comers" (top 40) a__law_raw_comers d__law_raw_comers
  b__law_raw_comers : Binds K d__law_raw_comers ["_law_stream_here", "_law_comers_here"] []
  a__law_comers : Addr
  d__law_comers : FuncData
  mg__law_comers : mg "_law_comers" = some (.ref a__law_comers)
  F__law_comers : Fun K "_law_comers" "_law_comers" (top 41) a__law_comers d__law_comers
  b__law_comers : Binds K d__law_comers ["_law_stream_here", "_law_most"] []
  a__law_rate_at : Addr
  d__law_rate_at : FuncData
  mg__law_rate_at : mg "_law_rate_at" = some (.ref a__law_rate_at)
  F__law_rate_at : Fun K "_law_rate_at" "_law_rate_at" (top 42) a__law_rate_at d__law_rate_at
  b__law_rate_at : Binds K d__law_rate_at ["_law_comers_here", "_law_moment"] []
  a__law_come : Addr
  d__law_come : FuncData
  mg__law_come : mg "_law_come" = some (.ref a__law_come)
  F__law_come : Fun K "_law_come" "_law_come" (top 44) a__law_come d__law_come
  b__law_come : Binds K d__law_come ["_law_comers_here", "_law_moment"] []
  a__law_split : Addr
  d__law_split : FuncData
  mg__law_split : mg "_law_split" = some (.ref a__law_split)
  F__law_split : Fun K "_law_split" "_law_split" (top 45) a__law_split d__law_split
  b__law_split : Binds K d__law_split ["_law_stream_here", "_law_comers_here"] []
  a__law_odds : Addr
  d__law_odds : FuncData
  mg__law_odds : mg "_law_odds" = some (.ref a__law_odds)
  F__law_odds : Fun K "_law_odds" "_law_odds" (top 46) a__law_odds d__law_odds
  b__law_odds : Binds K d__law_odds ["_law_comers_here", "_law_at"] []
  a__law_tried : Addr
  d__law_tried : FuncData
  mg__law_tried : mg "_law_tried" = some (.ref a__law_tried)
  F__law_tried : Fun K "_law_tried" "_law_tried" (top 43) a__law_tried d__law_tried
  b__law_tried : Binds K d__law_tried ["_law_ask"] []
  a_law : Addr
  d_law : FuncData
  mg_law : mg "law" = some (.ref a_law)
  F_law : Fun K "law" "law" (top 47) a_law d_law
  b_law : Binds K d_law ["_law_script"] []
  a_ZERO : Addr
  mg_ZERO : mg "ZERO" = some (.ref a_ZERO)
  rep_ZERO : ∀ F, Rep K F (.ref a_ZERO) c_ZERO
  xf_BadComers : XfC K (cA "BadComers")
  exm_BadComers : PySem.W.exmOne K (.ref (cA "BadComers")) (.ref (cA "BadComers")) = some true
  xf_BadMoment : XfC K (cA "BadMoment")
  exm_BadMoment : PySem.W.exmOne K (.ref (cA "BadMoment")) (.ref (cA "BadMoment")) = some true
  fa_come_by : a_come_by = cA "come_by"
  fv_come_by : ∀ F, Rep K F (.ref a_come_by) (.fn (cA "come_by"))
  fa_rate_at : a_rate_at = cA "rate_at"
  fv_rate_at : ∀ F, Rep K F (.ref a_rate_at) (.fn (cA "rate_at"))
  fa__law_draw : a__law_draw = cA "_law_draw"
  fv__law_draw : ∀ F, Rep K F (.ref a__law_draw) (.fn (cA "_law_draw"))
  exm_BadComers_BadMoment : PySem.W.exmOne K (.ref (cA "BadComers")) (.ref (cA "BadMoment")) = some false
  exm_BadMoment_BadComers : PySem.W.exmOne K (.ref (cA "BadMoment")) (.ref (cA "BadComers")) = some false
  E_BadMoment : ExcD K mg "BadMoment" "thing" (cA "BadMoment") a_BadMoment____init__
  X_BadMoment : Xc "BadMoment" = (cA "BadMoment", ("thing" : Str))
  E_BadComers : ExcD K mg "BadComers" "index" (cA "BadComers") a_BadComers____init__
  X_BadComers : Xc "BadComers" = (cA "BadComers", ("index" : Str))
  kw_come_by : KwB K d_come_by ["comers", "moment"] ["moment", "comers"] 2 @swp
  kw_rate_at : KwB K d_rate_at ["comers", "moment"] ["moment", "comers"] 2 @swp
  n_abs : mg "abs" = none
  n_all : mg "all" = none
  n_any : mg "any" = none
  n_bool : mg "bool" = none
  n_dict : mg "dict" = none
  n_enumerate : mg "enumerate" = none
  n_int : mg "int" = none
  n_isinstance : mg "isinstance" = none
  n_len : mg "len" = none
  n_list : mg "list" = none
  n_max : mg "max" = none
  n_min : mg "min" = none
  n_range : mg "range" = none
  n_repr : mg "repr" = none
  n_reversed : mg "reversed" = none
  n_set : mg "set" = none
  n_sorted : mg "sorted" = none
  n_str : mg "str" = none
  n_sum : mg "sum" = none
  n_tuple : mg "tuple" = none
  n_zip : mg "zip" = none
  mg_gcd : mg "gcd" = some (.builtin "math.gcd")
section
variable {P : Program} {w : World} {K : KF} {mg : Str → Option Value} {base : Heap} (Y : Tx K mg)
/-! BadMoment____init__ -/
abbrev s_BadMoment____init__ : Stmt := inClass (top 3) 0
theorem sc_BadMoment____init__ : FnScope ["self", "thing"] ["self", "thing"] (defScope s_BadMoment____init__) := ⟨rfl, rfl, rfl, by decide +kernel, rfl, by decide +kernel, by decide +kernel⟩
theorem ok_BadMoment____init__ : FnOk P w K mg base (L2.CX P w) 1 Y.a_BadMoment____init__ Y.d_BadMoment____init__ ["self", "thing"] (spExc (Y.cA "BadMoment") "thing") :=
  Y.F_BadMoment____init__.okX sc_BadMoment____init__ (fun _ _ _ _ h => exc_len rfl h) fun cdv A outer s H vs Q E hr h => ⟨_, pss_one (ps_ost (pv 0) (pv 1)), exc_read Y.E_BadMoment.cls Y.E_BadMoment.no h⟩
/-! BadComers____init__ -/
abbrev s_BadComers____init__ : Stmt := inClass (top 4) 0
theorem sc_BadComers____init__ : FnScope ["self", "index"] ["self", "index"] (defScope s_BadComers____init__) := ⟨rfl, rfl, rfl, by decide +kernel, rfl, by decide +kernel, by decide +kernel⟩
theorem ok_BadComers____init__ : FnOk P w K mg base (L2.CX P w) 1 Y.a_BadComers____init__ Y.d_BadComers____init__ ["self", "index"] (spExc (Y.cA "BadComers") "index") :=
  Y.F_BadComers____init__.okX sc_BadComers____init__ (fun _ _ _ _ h => exc_len rfl h) fun cdv A outer s H vs Q E hr h => ⟨_, pss_one (ps_ost (pv 0) (pv 1)), exc_read Y.E_BadComers.cls Y.E_BadComers.no h⟩
/-! lowest -/
abbrev s_lowest : Stmt := top 7
def G_lowest (cA : Str → Addr) : Env' → M Fl :=
  (sSeq (sSet 2 (e1 gcdT (aCons (eV 0) (aCons (eV 1) aNil))))
  (sRet (eTup (aCons (e2 fdivT (eV 0) (eV 2)) (aCons (e2 fdivT (eV 1) (eV 2)) aNil)))))
def m_lowest (cA : Str → Addr) : List T → M T := fnM false 3 (G_lowest cA)
theorem sc_lowest : FnScope ["top", "bottom", "shared"] ["top", "bottom"] (defScope s_lowest) := ⟨rfl, rfl, rfl, by decide +kernel, rfl, by decide +kernel, by decide +kernel⟩
theorem ok_lowest : FnOk P w K mg base (L2.CX P w) 1 Y.a_lowest Y.d_lowest ["top", "bottom"] (spD K Y.Xc false 2 (m_lowest Y.cA)) := by
  have h := (fn_deep (P := P) (w := w) (mg := mg) (base := base) (Xc := Y.Xc) (st := false) (np := 2) (k := 0) Y.F_lowest sc_lowest rfl fun cdv A outer s H E F0 S0 hr =>
  (dss_cons (ds_set (i := 2) sc_lowest.nd rfl (Or.inl rfl) (de_callF cr_gcd c_gcd Y.mg_gcd (da_cons (de_var 0 (pv 0)) (da_cons (de_var 1 (pv 1)) da_nil))))
  (dss_one (ds_ret (de_tup (da_cons (de_fdiv (de_var 0 (pv 0)) (de_var 2 (pv 2))) (da_cons (de_fdiv (de_var 1 (pv 1)) (de_var 2 (pv 2))) da_nil)))))))
  exact h
/-! plus -/
abbrev s_plus : Stmt := top 8
def G_plus (cA : Str → Addr) : Env' → M Fl :=
  (sSeq (sSet 2 (e2 addT (e2 mulT (e2 ixT (eVS 0) (eC (.int 0))) (e2 ixT (eVS 1) (eC (.int 1)))) (e2 mulT (e2 ixT (eVS 1) (eC (.int 0))) (e2 ixT (eVS 0) (eC (.int 1))))))
  (sSeq (sSet 3 (e2 mulT (e2 ixT (eVS 0) (eC (.int 1))) (e2 ixT (eVS 1) (eC (.int 1)))))
  (sSeq (sSet 4 (e1 gcdT (aCons (eV 2) (aCons (eV 3) aNil))))
  (sRet (eTup (aCons (e2 fdivT (eV 2) (eV 4)) (aCons (e2 fdivT (eV 3) (eV 4)) aNil)))))))
def m_plus (cA : Str → Addr) : List T → M T := fnM false 5 (G_plus cA)
theorem sc_plus : FnScope ["one", "other", "top", "bottom", "shared"] ["one", "other"] (defScope s_plus) := ⟨rfl, rfl, rfl, by decide +kernel, rfl, by decide +kernel, by decide +kernel⟩
theorem ok_plus : FnOk P w K mg base (L2.CX P w) 1 Y.a_plus Y.d_plus ["one", "other"] (spD K Y.Xc false 2 (m_plus Y.cA)) := by
  have h := (fn_deep (P := P) (w := w) (mg := mg) (base := base) (Xc := Y.Xc) (st := false) (np := 2) (k := 0) Y.F_plus sc_plus rfl fun cdv A outer s H E F0 S0 hr =>
  (dss_cons (ds_set (i := 2) sc_plus.nd rfl (Or.inl rfl) (de_add (de_mul (de_ix (dl_var 0 (pv 0)) de_int) (de_ix (dl_var 1 (pv 1)) de_int)) (de_mul (de_ix (dl_var 1 (pv 1)) de_int) (de_ix (dl_var 0 (pv 0)) de_int))))
  (dss_cons (ds_set (i := 3) sc_plus.nd rfl (Or.inl rfl) (de_mul (de_ix (dl_var 0 (pv 0)) de_int) (de_ix (dl_var 1 (pv 1)) de_int)))
  (dss_cons (ds_set (i := 4) sc_plus.nd rfl (Or.inl rfl) (de_callF cr_gcd c_gcd Y.mg_gcd (da_cons (de_var 2 (pv 2)) (da_cons (de_var 3 (pv 3)) da_nil))))
  (dss_one (ds_ret (de_tup (da_cons (de_fdiv (de_var 2 (pv 2)) (de_var 4 (pv 4))) (da_cons (de_fdiv (de_var 3 (pv 3)) (de_var 4 (pv 4))) da_nil)))))))))
  exact h
/-! minus -/
abbrev s_minus : Stmt := top 9
def G_minus (cA : Str → Addr) : Env' → M Fl :=
  (sSeq (sSet 2 (e2 subT (e2 mulT (e2 ixT (eVS 0) (eC (.int 0))) (e2 ixT (eVS 1) (eC (.int 1)))) (e2 mulT (e2 ixT (eVS 1) (eC (.int 0))) (e2 ixT (eVS 0) (eC (.int 1))))))
  (sSeq (sSet 3 (e2 mulT (e2 ixT (eVS 0) (eC (.int 1))) (e2 ixT (eVS 1) (eC (.int 1)))))
  (sSeq (sSet 4 (e1 gcdT (aCons (eV 2) (aCons (eV 3) aNil))))
  (sRet (eTup (aCons (e2 fdivT (eV 2) (eV 4)) (aCons (e2 fdivT (eV 3) (eV 4)) aNil)))))))
def m_minus (cA : Str → Addr) : List T → M T := fnM false 5 (G_minus cA)
theorem sc_minus : FnScope ["one", "other", "top", "bottom", "shared"] ["one", "other"] (defScope s_minus) := ⟨rfl, rfl, rfl, by decide +kernel, rfl, by decide +kernel, by decide +kernel⟩
theorem ok_minus : FnOk P w K mg base (L2.CX P w) 1 Y.a_minus Y.d_minus ["one", "other"] (spD K Y.Xc false 2 (m_minus Y.cA)) := by
  have h := (fn_deep (P := P) (w := w) (mg := mg) (base := base) (Xc := Y.Xc) (st := false) (np := 2) (k := 0) Y.F_minus sc_minus rfl fun cdv A outer s H E F0 S0 hr =>
  (dss_cons (ds_set (i := 2) sc_minus.nd rfl (Or.inl rfl) (de_sub (de_mul (de_ix (dl_var 0 (pv 0)) de_int) (de_ix (dl_var 1 (pv 1)) de_int)) (de_mul (de_ix (dl_var 1 (pv 1)) de_int) (de_ix (dl_var 0 (pv 0)) de_int))))
  (dss_cons (ds_set (i := 3) sc_minus.nd rfl (Or.inl rfl) (de_mul (de_ix (dl_var 0 (pv 0)) de_int) (de_ix (dl_var 1 (pv 1)) de_int)))
  (dss_cons (ds_set (i := 4) sc_minus.nd rfl (Or.inl rfl) (de_callF cr_gcd c_gcd Y.mg_gcd (da_cons (de_var 2 (pv 2)) (da_cons (de_var 3 (pv 3)) da_nil))))
  (dss_one (ds_ret (de_tup (da_cons (de_fdiv (de_var 2 (pv 2)) (de_var 4 (pv 4))) (da_cons (de_fdiv (de_var 3 (pv 3)) (de_var 4 (pv 4))) da_nil)))))))))
  exact h
/-! times -/
abbrev s_times : Stmt := top 10
def G_times (cA : Str → Addr) : Env' → M Fl :=
  (sSeq (sSet 2 (e2 mulT (e2 ixT (eVS 0) (eC (.int 0))) (e2 ixT (eVS 1) (eC (.int 0)))))
  (sSeq (sSet 3 (e2 mulT (e2 ixT (eVS 0) (eC (.int 1))) (e2 ixT (eVS 1) (eC (.int 1)))))
  (sSeq (sSet 4 (e1 gcdT (aCons (eV 2) (aCons (eV 3) aNil))))
  (sRet (eTup (aCons (e2 fdivT (eV 2) (eV 4)) (aCons (e2 fdivT (eV 3) (eV 4)) aNil)))))))
def m_times (cA : Str → Addr) : List T → M T := fnM false 5 (G_times cA)
theorem sc_times : FnScope ["one", "other", "top", "bottom", "shared"] ["one", "other"] (defScope s_times) := ⟨rfl, rfl, rfl, by decide +kernel, rfl, by decide +kernel, by decide +kernel⟩
theorem ok_times : FnOk P w K mg base (L2.CX P w) 1 Y.a_times Y.d_times ["one", "other"] (spD K Y.Xc false 2 (m_times Y.cA)) := by
  have h := (fn_deep (P := P) (w := w) (mg := mg) (base := base) (Xc := Y.Xc) (st := false) (np := 2) (k := 0) Y.F_times sc_times rfl fun cdv A outer s H E F0 S0 hr =>
  (dss_cons (ds_set (i := 2) sc_times.nd rfl (Or.inl rfl) (de_mul (de_ix (dl_var 0 (pv 0)) de_int) (de_ix (dl_var 1 (pv 1)) de_int)))
  (dss_cons (ds_set (i := 3) sc_times.nd rfl (Or.inl rfl) (de_mul (de_ix (dl_var 0 (pv 0)) de_int) (de_ix (dl_var 1 (pv 1)) de_int)))
  (dss_cons (ds_set (i := 4) sc_times.nd rfl (Or.inl rfl) (de_callF cr_gcd c_gcd Y.mg_gcd (da_cons (de_var 2 (pv 2)) (da_cons (de_var 3 (pv 3)) da_nil))))
  (dss_one (ds_ret (de_tup (da_cons (de_fdiv (de_var 2 (pv 2)) (de_var 4 (pv 4))) (da_cons (de_fdiv (de_var 3 (pv 3)) (de_var 4 (pv 4))) da_nil)))))))))
  exact h
/-! is_less -/
abbrev s_is_less : Stmt := top 11
def G_is_less (cA : Str → Addr) : Env' → M Fl :=
  (sRet (e2 ltT (e2 mulT (e2 ixT (eVS 0) (eC (.int 0))) (e2 ixT (eVS 1) (eC (.int 1)))) (e2 mulT (e2 ixT (eVS 1) (eC (.int 0))) (e2 ixT (eVS 0) (eC (.int 1))))))
def m_is_less (cA : Str → Addr) : List T → M T := fnM false 2 (G_is_less cA)
theorem sc_is_less : FnScope ["one", "other"] ["one", "other"] (defScope s_is_less) := ⟨rfl, rfl, rfl, by decide +kernel, rfl, by decide +kernel, by decide +kernel⟩
theorem ok_is_less : FnOk P w K mg base (L2.CX P w) 1 Y.a_is_less Y.d_is_less ["one", "other"] (spD K Y.Xc false 2 (m_is_less Y.cA)) := by
  have h := (fn_deep (P := P) (w := w) (mg := mg) (base := base) (Xc := Y.Xc) (st := false) (np := 2) (k := 0) Y.F_is_less sc_is_less rfl fun cdv A outer s H E F0 S0 hr =>
  (dss_one (ds_ret (de_lt (de_mul (de_ix (dl_var 0 (pv 0)) de_int) (de_ix (dl_var 1 (pv 1)) de_int)) (de_mul (de_ix (dl_var 1 (pv 1)) de_int) (de_ix (dl_var 0 (pv 0)) de_int))))))
  exact h
/-! lesser -/
abbrev s_lesser : Stmt := top 12
def G_lesser (cA : Str → Addr) : Env' → M Fl :=
  (sSeq (sIf (e1 boolT (eCall (m_is_less cA) (aCons (eV 1) (aCons (eV 0) aNil)))) (sRet (eV 1)) sNext)
  (sRet (eV 0)))
def m_lesser (cA : Str → Addr) : List T → M T := fnM false 2 (G_lesser cA)
theorem sc_lesser : FnScope ["one", "other"] ["one", "other"] (defScope s_lesser) := ⟨rfl, rfl, rfl, by decide +kernel, rfl, by decide +kernel, by decide +kernel⟩
theorem ok_lesser : FnOk P w K mg base (L2.CX P w) 2 Y.a_lesser Y.d_lesser ["one", "other"] (spD K Y.Xc false 2 (m_lesser Y.cA)) := by
  have h := (fn_deep (P := P) (w := w) (mg := mg) (base := base) (Xc := Y.Xc) (st := false) (np := 2) (k := 1) Y.F_lesser sc_lesser rfl fun cdv A outer s H E F0 S0 hr =>
  (dss_cons (ds_if (dt_val (de_call (ok_is_less Y) (hr.mono (by omega)) (takes_of rfl rfl rfl rfl) Y.mg_is_less Y.F_is_less.kp Y.b_is_less (da_cons (de_var 1 (pv 1)) (da_cons (de_var 0 (pv 0)) da_nil)) (aCons_len (aCons_len aNil_len)))) (dss_one (ds_ret (de_var 1 (pv 1)))) dss_nil)
  (dss_one (ds_ret (de_var 0 (pv 0))))))
  exact h
/-! is_list -/
abbrev s_is_list : Stmt := top 14
def G_is_list (cA : Str → Addr) : Env' → M Fl :=
  (sRet (e1 (isiT2 "list" "tuple") (eV 0)))
def m_is_list (cA : Str → Addr) : List T → M T := fnM false 1 (G_is_list cA)
theorem sc_is_list : FnScope ["thing"] ["thing"] (defScope s_is_list) := ⟨rfl, rfl, rfl, by decide +kernel, rfl, by decide +kernel, by decide +kernel⟩
theorem ok_is_list : FnOk P w K mg base (L2.CX P w) 1 Y.a_is_list Y.d_is_list ["thing"] (spD K Y.Xc false 1 (m_is_list Y.cA)) := by
  have h := (fn_deep (P := P) (w := w) (mg := mg) (base := base) (Xc := Y.Xc) (st := false) (np := 1) (k := 0) Y.F_is_list sc_is_list rfl fun cdv A outer s H E F0 S0 hr =>
  (dss_one (ds_ret (de_isi2 (n := "list") (m := "tuple") Y.n_isinstance Y.n_list (by decide +kernel) Y.n_tuple (by decide +kernel) (de_var 0 (pv 0))))))
  exact h
/-! is_pair -/
abbrev s_is_pair : Stmt := top 15
def G_is_pair (cA : Str → Addr) : Env' → M Fl :=
  (sRet (eAndV (eCall (m_is_list cA) (aCons (eV 0) aNil)) (e2 eqT (e1 lenT (eVS 0)) (eC (.int 2)))))
def m_is_pair (cA : Str → Addr) : List T → M T := fnM false 1 (G_is_pair cA)
theorem sc_is_pair : FnScope ["thing"] ["thing"] (defScope s_is_pair) := ⟨rfl, rfl, rfl, by decide +kernel, rfl, by decide +kernel, by decide +kernel⟩
theorem ok_is_pair : FnOk P w K mg base (L2.CX P w) 2 Y.a_is_pair Y.d_is_pair ["thing"] (spD K Y.Xc false 1 (m_is_pair Y.cA)) := by
  have h := (fn_deep (P := P) (w := w) (mg := mg) (base := base) (Xc := Y.Xc) (st := false) (np := 1) (k := 1) Y.F_is_pair sc_is_pair rfl fun cdv A outer s H E F0 S0 hr =>
  (dss_one (ds_ret (de_and (de_call (ok_is_list Y) (hr.mono (by omega)) (takes_of rfl rfl rfl rfl) Y.mg_is_list Y.F_is_list.kp Y.b_is_list (da_cons (de_var 0 (pv 0)) da_nil) (aCons_len aNil_len)) (de_one (de_eq hr (de_len rfl Y.n_len (by decide +kernel) (dl_var 0 (pv 0))) de_int))))))
  exact h
/-! is_fraction -/
abbrev s_is_fraction : Stmt := top 16
def G_is_fraction (cA : Str → Addr) : Env' → M Fl :=
  (sSeq (sIf (eOr (eNot (e1 boolT (e1 (isiT2 "list" "tuple") (eV 0)))) (e1 boolT (e2 neT (e1 lenT (eVS 0)) (eC (.int 2))))) (sRet (eC (.bl false))) sNext)
  (sSeq (sAsg (eV 0) (bTup (bCons (bName 1) (bCons (bName 2) bNil))))
  (sRet (eAndV (e1 (isiT "int") (eV 1)) (eAndV (e1 (isiT "int") (eV 2)) (eAndV (e2 geT (eV 2) (eC (.int 1))) (eAndV (e2 isntT (eV 2) (eC (.bl true))) (eAndV (e2 isntT (eV 1) (eC (.bl true))) (e2 isntT (eV 1) (eC (.bl false)))))))))))
def m_is_fraction (cA : Str → Addr) : List T → M T := fnM false 3 (G_is_fraction cA)
theorem sc_is_fraction : FnScope ["thing", "top", "bottom"] ["thing"] (defScope s_is_fraction) := ⟨rfl, rfl, rfl, by decide +kernel, rfl, by decide +kernel, by decide +kernel⟩
theorem ok_is_fraction : FnOk P w K mg base (L2.CX P w) 1 Y.a_is_fraction Y.d_is_fraction ["thing"] (spD K Y.Xc false 1 (m_is_fraction Y.cA)) := by
  have h := (fn_deep (P := P) (w := w) (mg := mg) (base := base) (Xc := Y.Xc) (st := false) (np := 1) (k := 0) Y.F_is_fraction sc_is_fraction rfl fun cdv A outer s H E F0 S0 hr =>
  (dss_cons (ds_if (dt_w (dw_or (dt_not (dt_val (de_isi2 (n := "list") (m := "tuple") Y.n_isinstance Y.n_list (by decide +kernel) Y.n_tuple (by decide +kernel) (de_var 0 (pv 0))))) (dw_or1 (dt_ne hr (de_len rfl Y.n_len (by decide +kernel) (dl_var 0 (pv 0))) de_int)))) (dss_one (ds_ret de_bl)) dss_nil)
  (dss_cons (ds_asg (de_var 0 (pv 0)) (dg_tup rfl (dgs_cons (dg_name (i := 1) sc_is_fraction.nd rfl (Or.inl rfl)) (dgs_cons (dg_name (i := 2) sc_is_fraction.nd rfl (Or.inl rfl)) dgs_nil)) (bCons_len (bCons_len bNil_len))))
  (dss_one (ds_ret (de_and (de_isi (n := "int") Y.n_isinstance Y.n_int (by decide +kernel) (de_var 1 (pv 1))) (de_and (de_isi (n := "int") Y.n_isinstance Y.n_int (by decide +kernel) (de_var 2 (pv 2))) (de_and (de_ge (de_var 2 (pv 2)) de_int) (de_and (de_isnt (de_var 2 (pv 2)) de_bl) (de_and (de_isnt (de_var 1 (pv 1)) de_bl) (de_one (de_isnt (de_var 1 (pv 1)) de_bl))))))))))))
  exact h
/-! is_moment -/
abbrev s_is_moment : Stmt := top 17
def G_is_moment (cA : Str → Addr) : Env' → M Fl :=
  (sRet (eAndV (eCall (m_is_fraction cA) (aCons (eV 0) aNil)) (e2 geT (e2 ixT (eVS 0) (eC (.int 0))) (eC (.int 0)))))
def m_is_moment (cA : Str → Addr) : List T → M T := fnM false 1 (G_is_moment cA)
theorem sc_is_moment : FnScope ["thing"] ["thing"] (defScope s_is_moment) := ⟨rfl, rfl, rfl, by decide +kernel, rfl, by decide +kernel, by decide +kernel⟩
theorem ok_is_moment : FnOk P w K mg base (L2.CX P w) 2 Y.a_is_moment Y.d_is_moment ["thing"] (spD K Y.Xc false 1 (m_is_moment Y.cA)) := by
  have h := (fn_deep (P := P) (w := w) (mg := mg) (base := base) (Xc := Y.Xc) (st := false) (np := 1) (k := 1) Y.F_is_moment sc_is_moment rfl fun cdv A outer s H E F0 S0 hr =>
  (dss_one (ds_ret (de_and (de_call (ok_is_fraction Y) (hr.mono (by omega)) (takes_of rfl rfl rfl rfl) Y.mg_is_fraction Y.F_is_fraction.kp Y.b_is_fraction (da_cons (de_var 0 (pv 0)) da_nil) (aCons_len aNil_len)) (de_one (de_ge (de_ix (dl_var 0 (pv 0)) de_int) de_int))))))
  exact h
/-! told_moment -/
abbrev s_told_moment : Stmt := top 19
def G_told_moment (cA : Str → Addr) : Env' → M Fl :=
  (sSeq (sIf (eNot (e1 boolT (eCall (m_is_moment cA) (aCons (eV 0) aNil)))) (sRaise "BadMoment" (eV 0)) sNext)
  (sRet (eCall (m_lowest cA) (aCons (e2 ixT (eVS 0) (eC (.int 0))) (aCons (e2 ixT (eVS 0) (eC (.int 1))) aNil)))))
def m_told_moment (cA : Str → Addr) : List T → M T := fnM false 1 (G_told_moment cA)
theorem sc_told_moment : FnScope ["thing"] ["thing"] (defScope s_told_moment) := ⟨rfl, rfl, rfl, by decide +kernel, rfl, by decide +kernel, by decide +kernel⟩
theorem ok_told_moment : FnOk P w K mg base (L2.CX P w) 3 Y.a_told_moment Y.d_told_moment ["thing"] (spD K Y.Xc false 1 (m_told_moment Y.cA)) := by
  have h := (fn_deep (P := P) (w := w) (mg := mg) (base := base) (Xc := Y.Xc) (st := false) (np := 1) (k := 2) Y.F_told_moment sc_told_moment rfl fun cdv A outer s H E F0 S0 hr =>
  (dss_cons (ds_if (dt_not (dt_val (de_call (ok_is_moment Y) (hr.mono (by omega)) (takes_of rfl rfl rfl rfl) Y.mg_is_moment Y.F_is_moment.kp Y.b_is_moment (da_cons (de_var 0 (pv 0)) da_nil) (aCons_len aNil_len)))) (dss_one (ds_raise rfl (takes_of rfl rfl rfl rfl) Y.E_BadMoment (ok_BadMoment____init__ Y) (hr.mono (by omega)) Y.b_BadMoment____init__ Y.X_BadMoment (de_var 0 (pv 0)))) dss_nil)
  (dss_one (ds_ret (de_call (ok_lowest Y) (hr.mono (by omega)) (takes_of rfl rfl rfl rfl) Y.mg_lowest Y.F_lowest.kp Y.b_lowest (da_cons (de_ix (dl_var 0 (pv 0)) de_int) (da_cons (de_ix (dl_var 0 (pv 0)) de_int) da_nil)) (aCons_len (aCons_len aNil_len)))))))
  exact h
/-! first_bad_comer -/
abbrev s_first_bad_comer : Stmt := top 20
def G_first_bad_comer (cA : Str → Addr) : Env' → M Fl :=
  (sSeq (sIf (eOr (eNot (e1 boolT (eCall (m_is_list cA) (aCons (eV 0) aNil)))) (e1 boolT (e2 eqT (e1 lenT (eVS 0)) (eC (.int 0))))) (sRet (eC (.int 0))) sNext)
  (sSeq (sFor (e1 enumB (aCons (eV 0) aNil)) (bTup (bCons (bName 1) (bCons (bName 2) bNil))) (sSeq (sIf (eNot (eAnd (e1 boolT (eCall (m_is_pair cA) (aCons (eV 2) aNil))) (eAnd (e1 boolT (eCall (m_is_moment cA) (aCons (e2 ixT (eVS 2) (eC (.int 0))) aNil))) (e1 boolT (eCall (m_is_moment cA) (aCons (e2 ixT (eVS 2) (eC (.int 1))) aNil)))))) (sRet (eV 1)) sNext)
  (sSeq (sIf (eAnd (e1 boolT (e2 eqT (eV 1) (eC (.int 0)))) (e1 boolT (e2 gtT (e2 ixT (e1 seqT (e2 ixT (eVS 2) (eC (.int 0)))) (eC (.int 0))) (eC (.int 0))))) (sRet (eV 1)) sNext)
  (sIf (eAnd (e1 boolT (e2 gtT (eV 1) (eC (.int 0)))) (eNot (e1 boolT (eCall (m_is_less cA) (aCons (e2 ixT (e1 seqT (e2 ixT (eVS 0) (e2 subT (eV 1) (eC (.int 1))))) (eC (.int 0))) (aCons (e2 ixT (eVS 2) (eC (.int 0))) aNil)))))) (sRet (eV 1)) sNext))))
  (sRet (eC .non))))
def m_first_bad_comer (cA : Str → Addr) : List T → M T := fnM false 3 (G_first_bad_comer cA)
theorem sc_first_bad_comer : FnScope ["thing", "index", "pair"] ["thing"] (defScope s_first_bad_comer) := ⟨rfl, rfl, rfl, by decide +kernel, rfl, by decide +kernel, by decide +kernel⟩
theorem ok_first_bad_comer : FnOk P w K mg base (L2.CX P w) 3 Y.a_first_bad_comer Y.d_first_bad_comer ["thing"] (spD K Y.Xc false 1 (m_first_bad_comer Y.cA)) := by
  have h := (fn_deep (P := P) (w := w) (mg := mg) (base := base) (Xc := Y.Xc) (st := false) (np := 1) (k := 2) Y.F_first_bad_comer sc_first_bad_comer rfl fun cdv A outer s H E F0 S0 hr =>
  (dss_cons (ds_if (dt_w (dw_or (dt_not (dt_val (de_call (ok_is_list Y) (hr.mono (by omega)) (takes_of rfl rfl rfl rfl) Y.mg_is_list Y.F_is_list.kp Y.b_is_list (da_cons (de_var 0 (pv 0)) da_nil) (aCons_len aNil_len)))) (dw_or1 (dt_eq hr (de_len rfl Y.n_len (by decide +kernel) (dl_var 0 (pv 0))) de_int)))) (dss_one (ds_ret de_int)) dss_nil)
  (dss_cons (ds_for (passes_of rfl) rfl (di_enumB Y.n_enumerate (da_cons (de_var 0 (pv 0)) da_nil)) (dg_tup rfl (dgs_cons (dg_name (i := 1) sc_first_bad_comer.nd rfl (Or.inl rfl)) (dgs_cons (dg_name (i := 2) sc_first_bad_comer.nd rfl (Or.inl rfl)) dgs_nil)) (bCons_len (bCons_len bNil_len))) (dss_cons (ds_if (dt_not (dt_w (dw_and (dt_val (de_call (ok_is_pair Y) (hr.mono (by omega)) (takes_of rfl rfl rfl rfl) Y.mg_is_pair Y.F_is_pair.kp Y.b_is_pair (da_cons (de_var 2 (pv 2)) da_nil) (aCons_len aNil_len))) (dw_and (dt_val (de_call (ok_is_moment Y) (hr.mono (by omega)) (takes_of rfl rfl rfl rfl) Y.mg_is_moment Y.F_is_moment.kp Y.b_is_moment (da_cons (de_ix (dl_var 2 (pv 2)) de_int) da_nil) (aCons_len aNil_len))) (dw_and1 (dt_val (de_call (ok_is_moment Y) (hr.mono (by omega)) (takes_of rfl rfl rfl rfl) Y.mg_is_moment Y.F_is_moment.kp Y.b_is_moment (da_cons (de_ix (dl_var 2 (pv 2)) de_int) da_nil) (aCons_len aNil_len)))))))) (dss_one (ds_ret (de_var 1 (pv 1)))) dss_nil)
  (dss_cons (ds_if (dt_w (dw_and (dt_eq hr (de_var 1 (pv 1)) de_int) (dw_and1 (dt_gt (de_ix (dl_de (de_ix (dl_var 2 (pv 2)) de_int)) de_int) de_int)))) (dss_one (ds_ret (de_var 1 (pv 1)))) dss_nil)
  (dss_one (ds_if (dt_w (dw_and (dt_gt (de_var 1 (pv 1)) de_int) (dw_and1 (dt_not (dt_val (de_call (ok_is_less Y) (hr.mono (by omega)) (takes_of rfl rfl rfl rfl) Y.mg_is_less Y.F_is_less.kp Y.b_is_less (da_cons (de_ix (dl_de (de_ix (dl_var 0 (pv 0)) (de_sub (de_var 1 (pv 1)) de_int))) de_int) (da_cons (de_ix (dl_var 2 (pv 2)) de_int) da_nil)) (aCons_len (aCons_len aNil_len)))))))) (dss_one (ds_ret (de_var 1 (pv 1)))) dss_nil)))))
  (dss_one (ds_ret de_non)))))
  exact h
/-! told_comers -/
abbrev s_told_comers : Stmt := top 21
def G_told_comers (cA : Str → Addr) : Env' → M Fl :=
  (sSeq (sSet 1 (eCall (m_first_bad_comer cA) (aCons (eV 0) aNil)))
  (sSeq (sIf (e1 boolT (e2 isntT (eV 1) (eC .non))) (sRaise "BadComers" (eV 1)) sNext)
  (sSeq (sOwn 2 (nLst aNil))
  (sSeq (sFor (e1 itemsT (eV 0)) (bTup (bCons (bName 3) (bCons (bName 4) bNil))) (sSeq (sSet 5 (eCall (m_lowest cA) (aCons (e2 ixT (eVS 4) (eC (.int 0))) (aCons (e2 ixT (eVS 4) (eC (.int 1))) aNil))))
  (sIf (eOr (eNot (e1 truL (eVS 2))) (e1 boolT (e2 neT (e2 ixT (e1 seqT (e2 ixT (eVS 2) (e1 negT (eC (.int 1))))) (eC (.int 1))) (eV 5)))) (sApp 2 (eTup (aCons (eCall (m_lowest cA) (aCons (e2 ixT (eVS 3) (eC (.int 0))) (aCons (e2 ixT (eVS 3) (eC (.int 1))) aNil))) (aCons (eV 5) aNil)))) sNext)))
  (sFz 2 (sRet (eV 2)))))))
def m_told_comers (cA : Str → Addr) : List T → M T := fnM false 6 (G_told_comers cA)
theorem sc_told_comers : FnScope ["comers", "index", "found", "moment", "rate", "told"] ["comers"] (defScope s_told_comers) := ⟨rfl, rfl, rfl, by decide +kernel, rfl, by decide +kernel, by decide +kernel⟩
theorem ok_told_comers : FnOk P w K mg base (L2.CX P w) 4 Y.a_told_comers Y.d_told_comers ["comers"] (spD K Y.Xc false 1 (m_told_comers Y.cA)) := by
  have h := (fn_deep (P := P) (w := w) (mg := mg) (base := base) (Xc := Y.Xc) (st := false) (np := 1) (k := 3) Y.F_told_comers sc_told_comers rfl fun cdv A outer s H E F0 S0 hr =>
  (dss_cons (ds_set (i := 1) sc_told_comers.nd rfl (Or.inl rfl) (de_call (ok_first_bad_comer Y) (hr.mono (by omega)) (takes_of rfl rfl rfl rfl) Y.mg_first_bad_comer Y.F_first_bad_comer.kp Y.b_first_bad_comer (da_cons (de_var 0 (pv 0)) da_nil) (aCons_len aNil_len)))
  (dss_cons (ds_if (dt_isnt (de_var 1 (pv 1)) de_non) (dss_one (ds_raise rfl (takes_of rfl rfl rfl rfl) Y.E_BadComers (ok_BadComers____init__ Y) (hr.mono (by omega)) Y.b_BadComers____init__ Y.X_BadComers (de_var 1 (pv 1)))) dss_nil)
  (dss_cons (ds_own (i := 2) sc_told_comers.nd rfl (Or.inl rfl) (dn_lst da_nil))
  (dss_cons (ds_for (passes_of rfl) rfl (di_seq (de_var 0 (pv 0))) (dg_tup rfl (dgs_cons (dg_name (i := 3) sc_told_comers.nd rfl (Or.inl rfl)) (dgs_cons (dg_name (i := 4) sc_told_comers.nd rfl (Or.inl rfl)) dgs_nil)) (bCons_len (bCons_len bNil_len))) (dss_cons (ds_set (i := 5) sc_told_comers.nd rfl (Or.inl rfl) (de_call (ok_lowest Y) (hr.mono (by omega)) (takes_of rfl rfl rfl rfl) Y.mg_lowest Y.F_lowest.kp Y.b_lowest (da_cons (de_ix (dl_var 4 (pv 4)) de_int) (da_cons (de_ix (dl_var 4 (pv 4)) de_int) da_nil)) (aCons_len (aCons_len aNil_len))))
  (dss_one (ds_if (dt_w (dw_or (dt_not (dt_truth (dl_var 2 (pv 2)))) (dw_or1 (dt_ne hr (de_ix (dl_de (de_ix (dl_var 2 (pv 2)) (de_neg de_int))) de_int) (de_var 5 (pv 5)))))) (dss_one (ds_append (pv 2) (de_tup (da_cons (de_call (ok_lowest Y) (hr.mono (by omega)) (takes_of rfl rfl rfl rfl) Y.mg_lowest Y.F_lowest.kp Y.b_lowest (da_cons (de_ix (dl_var 3 (pv 3)) de_int) (da_cons (de_ix (dl_var 3 (pv 3)) de_int) da_nil)) (aCons_len (aCons_len aNil_len))) (da_cons (de_var 5 (pv 5)) da_nil))))) dss_nil))))
  (dss_fz 2 (dss_one (ds_ret (de_var 2 (pv 2))))))))))
  exact h
/-! rate_at -/
abbrev s_rate_at : Stmt := top 23
def G_rate_at (cA : Str → Addr) : Env' → M Fl :=
  (sSeq (sSet 2 (eCall (m_told_comers cA) (aCons (eV 0) aNil)))
  (sSeq (sSet 3 (eCall (m_told_moment cA) (aCons (eV 1) aNil)))
  (sSeq (sSet 4 (eC c_ZERO))
  (sSeq (sFor (e1 itemsT (eV 2)) (bTup (bCons (bName 5) (bCons (bName 6) bNil))) (sIf (eNot (e1 boolT (eCall (m_is_less cA) (aCons (eV 3) (aCons (eV 5) aNil))))) (sSet 4 (eV 6)) sNext))
  (sRet (eV 4))))))
def m_rate_at (cA : Str → Addr) : List T → M T := fnM false 7 (G_rate_at cA)
theorem sc_rate_at : FnScope ["comers", "moment", "steps", "then", "found", "begin", "rate"] ["comers", "moment"] (defScope s_rate_at) := ⟨rfl, rfl, rfl, by decide +kernel, rfl, by decide +kernel, by decide +kernel⟩
theorem ok_rate_at : FnOk P w K mg base (L2.CX P w) 5 Y.a_rate_at Y.d_rate_at ["comers", "moment"] (spD K Y.Xc false 2 (m_rate_at Y.cA)) := by
  have h := (fn_deep (P := P) (w := w) (mg := mg) (base := base) (Xc := Y.Xc) (st := false) (np := 2) (k := 4) Y.F_rate_at sc_rate_at rfl fun cdv A outer s H E F0 S0 hr =>
  (dss_cons (ds_set (i := 2) sc_rate_at.nd rfl (Or.inl rfl) (de_call (ok_told_comers Y) (hr.mono (by omega)) (takes_of rfl rfl rfl rfl) Y.mg_told_comers Y.F_told_comers.kp Y.b_told_comers (da_cons (de_var 0 (pv 0)) da_nil) (aCons_len aNil_len)))
  (dss_cons (ds_set (i := 3) sc_rate_at.nd rfl (Or.inl rfl) (de_call (ok_told_moment Y) (hr.mono (by omega)) (takes_of rfl rfl rfl rfl) Y.mg_told_moment Y.F_told_moment.kp Y.b_told_moment (da_cons (de_var 1 (pv 1)) da_nil) (aCons_len aNil_len)))
  (dss_cons (ds_set (i := 4) sc_rate_at.nd rfl (Or.inl rfl) (de_glob (v := .ref Y.a_ZERO) Y.mg_ZERO rfl Y.rep_ZERO))
  (dss_cons (ds_for (passes_of rfl) rfl (di_seq (de_var 2 (pv 2))) (dg_tup rfl (dgs_cons (dg_name (i := 5) sc_rate_at.nd rfl (Or.inl rfl)) (dgs_cons (dg_name (i := 6) sc_rate_at.nd rfl (Or.inl rfl)) dgs_nil)) (bCons_len (bCons_len bNil_len))) (dss_one (ds_if (dt_not (dt_val (de_call (ok_is_less Y) (hr.mono (by omega)) (takes_of rfl rfl rfl rfl) Y.mg_is_less Y.F_is_less.kp Y.b_is_less (da_cons (de_var 3 (pv 3)) (da_cons (de_var 5 (pv 5)) da_nil)) (aCons_len (aCons_len aNil_len))))) (dss_one (ds_set (i := 4) sc_rate_at.nd rfl (Or.inl rfl) (de_var 6 (pv 6)))) dss_nil)))
  (dss_one (ds_ret (de_var 4 (pv 4)))))))))
  exact h
/-! come_by -/
abbrev s_come_by : Stmt := top 24
def G_come_by (cA : Str → Addr) : Env' → M Fl :=
  (sSeq (sSet 2 (eCall (m_told_comers cA) (aCons (eV 0) aNil)))
  (sSeq (sSet 3 (eCall (m_told_moment cA) (aCons (eV 1) aNil)))
  (sSeq (sSet 4 (eC c_ZERO))
  (sSeq (sFor (e1 enumB (aCons (eV 2) aNil)) (bTup (bCons (bName 5) (bCons (bTup (bCons (bName 6) (bCons (bName 7) bNil))) bNil))) (sSeq (sSet 8 (eV 3))
  (sSeq (sIf (e1 boolT (e2 ltT (e2 addT (eV 5) (eC (.int 1))) (e1 lenT (eVS 2)))) (sSet 8 (eCall (m_lesser cA) (aCons (eV 3) (aCons (e2 ixT (e1 seqT (e2 ixT (eVS 2) (e2 addT (eV 5) (eC (.int 1))))) (eC (.int 0))) aNil)))) sNext)
  (sIf (e1 boolT (eCall (m_is_less cA) (aCons (eV 6) (aCons (eV 8) aNil)))) (sSet 4 (eCall (m_plus cA) (aCons (eV 4) (aCons (eCall (m_times cA) (aCons (eV 7) (aCons (eCall (m_minus cA) (aCons (eV 8) (aCons (eV 6) aNil))) aNil))) aNil)))) sNext))))
  (sRet (eV 4))))))
def m_come_by (cA : Str → Addr) : List T → M T := fnM false 9 (G_come_by cA)
theorem sc_come_by : FnScope ["comers", "moment", "steps", "then", "heap", "index", "begin", "rate", "end"] ["comers", "moment"] (defScope s_come_by) := ⟨rfl, rfl, rfl, by decide +kernel, rfl, by decide +kernel, by decide +kernel⟩
theorem ok_come_by : FnOk P w K mg base (L2.CX P w) 5 Y.a_come_by Y.d_come_by ["comers", "moment"] (spD K Y.Xc false 2 (m_come_by Y.cA)) := by
  have h := (fn_deep (P := P) (w := w) (mg := mg) (base := base) (Xc := Y.Xc) (st := false) (np := 2) (k := 4) Y.F_come_by sc_come_by rfl fun cdv A outer s H E F0 S0 hr =>
  (dss_cons (ds_set (i := 2) sc_come_by.nd rfl (Or.inl rfl) (de_call (ok_told_comers Y) (hr.mono (by omega)) (takes_of rfl rfl rfl rfl) Y.mg_told_comers Y.F_told_comers.kp Y.b_told_comers (da_cons (de_var 0 (pv 0)) da_nil) (aCons_len aNil_len)))
  (dss_cons (ds_set (i := 3) sc_come_by.nd rfl (Or.inl rfl) (de_call (ok_told_moment Y) (hr.mono (by omega)) (takes_of rfl rfl rfl rfl) Y.mg_told_moment Y.F_told_moment.kp Y.b_told_moment (da_cons (de_var 1 (pv 1)) da_nil) (aCons_len aNil_len)))
  (dss_cons (ds_set (i := 4) sc_come_by.nd rfl (Or.inl rfl) (de_glob (v := .ref Y.a_ZERO) Y.mg_ZERO rfl Y.rep_ZERO))
  (dss_cons (ds_for (passes_of rfl) rfl (di_enumB Y.n_enumerate (da_cons (de_var 2 (pv 2)) da_nil)) (dg_tup rfl (dgs_cons (dg_name (i := 5) sc_come_by.nd rfl (Or.inl rfl)) (dgs_cons (dg_tup rfl (dgs_cons (dg_name (i := 6) sc_come_by.nd rfl (Or.inl rfl)) (dgs_cons (dg_name (i := 7) sc_come_by.nd rfl (Or.inl rfl)) dgs_nil)) (bCons_len (bCons_len bNil_len))) dgs_nil)) (bCons_len (bCons_len bNil_len))) (dss_cons (ds_set (i := 8) sc_come_by.nd rfl (Or.inl rfl) (de_var 3 (pv 3)))
  (dss_cons (ds_if (dt_lt (de_add (de_var 5 (pv 5)) de_int) (de_len rfl Y.n_len (by decide +kernel) (dl_var 2 (pv 2)))) (dss_one (ds_set (i := 8) sc_come_by.nd rfl (Or.inl rfl) (de_call (ok_lesser Y) (hr.mono (by omega)) (takes_of rfl rfl rfl rfl) Y.mg_lesser Y.F_lesser.kp Y.b_lesser (da_cons (de_var 3 (pv 3)) (da_cons (de_ix (dl_de (de_ix (dl_var 2 (pv 2)) (de_add (de_var 5 (pv 5)) de_int))) de_int) da_nil)) (aCons_len (aCons_len aNil_len))))) dss_nil)
  (dss_one (ds_if (dt_val (de_call (ok_is_less Y) (hr.mono (by omega)) (takes_of rfl rfl rfl rfl) Y.mg_is_less Y.F_is_less.kp Y.b_is_less (da_cons (de_var 6 (pv 6)) (da_cons (de_var 8 (pv 8)) da_nil)) (aCons_len (aCons_len aNil_len)))) (dss_one (ds_set (i := 4) sc_come_by.nd rfl (Or.inl rfl) (de_call (ok_plus Y) (hr.mono (by omega)) (takes_of rfl rfl rfl rfl) Y.mg_plus Y.F_plus.kp Y.b_plus (da_cons (de_var 4 (pv 4)) (da_cons (de_call (ok_times Y) (hr.mono (by omega)) (takes_of rfl rfl rfl rfl) Y.mg_times Y.F_times.kp Y.b_times (da_cons (de_var 7 (pv 7)) (da_cons (de_call (ok_minus Y) (hr.mono (by omega)) (takes_of rfl rfl rfl rfl) Y.mg_minus Y.F_minus.kp Y.b_minus (da_cons (de_var 8 (pv 8)) (da_cons (de_var 6 (pv 6)) da_nil)) (aCons_len (aCons_len aNil_len))) da_nil)) (aCons_len (aCons_len aNil_len))) da_nil)) (aCons_len (aCons_len aNil_len))))) dss_nil)))))
  (dss_one (ds_ret (de_var 4 (pv 4)))))))))
  exact h
/-! _law_stream -/
abbrev s__law_stream : Stmt := top 26
theorem sc__law_stream : FnScope ["_law_script"] ["_law_script"] (defScope s__law_stream) := ⟨rfl, rfl, rfl, by decide +kernel, rfl, by decide +kernel, by decide +kernel⟩
theorem ok__law_stream : FnOk P w K mg base (L2.CX P w) 1 Y.a__law_stream Y.d__law_stream ["_law_script"] (spStream K) :=
  Y.F__law_stream.okX sc__law_stream (fun _ _ _ _ h => stream_len h) fun cdv A outer s H vs Q E hr h => ⟨_, pss_one (ps_ret (pe_lst (pa_cons (pe_callTy call_list_of rfl Y.n_list (by decide +kernel) (pa_cons (pv 0) pa_nil)) (pa_cons pe_int (pa_cons pe_int (pa_cons pe_int pa_nil)))))), stream_read rfl h⟩
/-! _law_draw -/
abbrev s__law_draw : Stmt := s_draw
abbrev m__law_draw (_ : Str → Addr) : List T → M T := drawM
theorem ok__law_draw : FnOk P w K mg base (L2.CX P w) 1 Y.a__law_draw Y.d__law_draw ["_law_stream_here", "_law_many"] (spD K Y.Xc true 1 (m__law_draw Y.cA)) := ok_draw Y.F__law_draw Y.n_abs Y.n_int
/-! _law_pick -/
abbrev s__law_pick : Stmt := top 28
def G__law_pick (cA : Str → Addr) : Env' → M Fl :=
  (sRet (e2 ixT (eVS 1) (eCallS 0 (m__law_draw cA) (aCons (e1 lenT (eVS 1)) aNil))))
def m__law_pick (cA : Str → Addr) : List T → M T := fnM true 2 (G__law_pick cA)
theorem sc__law_pick : FnScope ["_law_stream_here", "_law_things"] ["_law_stream_here", "_law_things"] (defScope s__law_pick) := ⟨rfl, rfl, rfl, by decide +kernel, rfl, by decide +kernel, by decide +kernel⟩
theorem ok__law_pick : FnOk P w K mg base (L2.CX P w) 2 Y.a__law_pick Y.d__law_pick ["_law_stream_here", "_law_things"] (spD K Y.Xc true 1 (m__law_pick Y.cA)) := by
  have h := (fn_deep (P := P) (w := w) (mg := mg) (base := base) (Xc := Y.Xc) (st := true) (np := 1) (k := 1) Y.F__law_pick sc__law_pick rfl fun cdv A outer s H E F0 S0 hr =>
  (dss_one (ds_ret (de_ix (dl_var 1 (pv 1)) (de_callS (i := 0) (ok__law_draw Y) (hr.mono (by omega)) (takes_of rfl rfl rfl rfl) Y.mg__law_draw Y.F__law_draw.kp Y.b__law_draw (pv 0) (da_cons (de_len rfl Y.n_len (by decide +kernel) (dl_var 1 (pv 1))) da_nil) (aCons_len aNil_len))))))
  exact h
/-! _law_same -/
abbrev s__law_same : Stmt := top 29
def G__law_same (cA : Str → Addr) (rec : List T → M T) : Env' → M Fl :=
  (sSeq (sIf (e1 boolT (e1 (isiT2 "list" "tuple") (eV 1))) (sSeq (sIf (eOr (e1 boolT (e2 neT (e1 (isiT "list") (eV 0)) (e1 (isiT "list") (eV 1)))) (e1 boolT (e2 neT (e1 (isiT "tuple") (eV 0)) (e1 (isiT "tuple") (eV 1))))) (sRet (eC (.bl false))) sNext)
  (sRet (eAndV (e2 eqT (e1 lenT (eVS 0)) (e1 lenT (eVS 1))) (e1 allT (e1 seqN (nLc [2, 3] (e1 zipA (aCons (eV 0) (aCons (eV 1) aNil))) (bTup (bCons (bName 2) (bCons (bName 3) bNil))) cYes (eCall rec (aCons (eV 2) (aCons (eV 3) aNil))))))))) sNext)
  (sSeq (sIf (e1 boolT (e1 (isiT "dict") (eV 1))) (sRet (eAndV (e1 (isiT "dict") (eV 0)) (eCall rec (aCons (e1 lstT (e1 nItems (eV 0))) (aCons (e1 lstT (e1 nItems (eV 1))) aNil))))) sNext)
  (sSeq (sIf (eOr (e1 boolT (e1 (isiT "bool") (eV 1))) (e1 boolT (e1 (isiT "bool") (eV 0)))) (sRet (eAndV (e1 (isiT "bool") (eV 1)) (eAndV (e1 (isiT "bool") (eV 0)) (e2 eqT (eV 0) (eV 1))))) sNext)
  (sRet (eAndV (eNotV (e1 (isiT3 "list" "tuple" "dict") (eV 0))) (e2 eqT (eV 0) (eV 1)))))))
def m__law_same (cA : Str → Addr) : Nat → List T → M T := recM false 4 (G__law_same cA)
theorem sc__law_same : FnScope ["_law_found", "_law_due", "_law_mine", "_law_theirs"] ["_law_found", "_law_due"] (defScope s__law_same) := ⟨rfl, rfl, rfl, by decide +kernel, rfl, by decide +kernel, by decide +kernel⟩
theorem ok__law_same : ∀ n : Nat, FnOk P w K mg base (L2.CX P w) (1 + n) Y.a__law_same Y.d__law_same ["_law_found", "_law_due"] (spD K Y.Xc false 2 (m__law_same Y.cA n))
  | 0 => fn_never fun _ => rfl
  | n + 1 => by
    have ih := ok__law_same n
    have h := (fn_deep (P := P) (w := w) (mg := mg) (base := base) (Xc := Y.Xc) (st := false) (np := 2) (k := 1 + n) Y.F__law_same sc__law_same rfl fun cdv A outer s H E F0 S0 hr =>
  (dss_cons (ds_if (dt_val (de_isi2 (n := "list") (m := "tuple") Y.n_isinstance Y.n_list (by decide +kernel) Y.n_tuple (by decide +kernel) (de_var 1 (pv 1)))) (dss_cons (ds_if (dt_w (dw_or (dt_ne hr (de_isi (n := "list") Y.n_isinstance Y.n_list (by decide +kernel) (de_var 0 (pv 0))) (de_isi (n := "list") Y.n_isinstance Y.n_list (by decide +kernel) (de_var 1 (pv 1)))) (dw_or1 (dt_ne hr (de_isi (n := "tuple") Y.n_isinstance Y.n_tuple (by decide +kernel) (de_var 0 (pv 0))) (de_isi (n := "tuple") Y.n_isinstance Y.n_tuple (by decide +kernel) (de_var 1 (pv 1))))))) (dss_one (ds_ret de_bl)) dss_nil)
  (dss_one (ds_ret (de_and (de_eq hr (de_len rfl Y.n_len (by decide +kernel) (dl_var 0 (pv 0))) (de_len rfl Y.n_len (by decide +kernel) (dl_var 1 (pv 1)))) (de_one (de_all rfl Y.n_all (dl_dn (dn_lc (own := [("_law_mine", 2), ("_law_theirs", 3)]) rfl sc__law_same.nd (di_zip Y.n_zip (da_cons (de_var 0 (pv 0)) (da_cons (de_var 1 (pv 1)) da_nil))) (blkOk_by (own := [("_law_mine", 2), ("_law_theirs", 3)]) (N := ["_law_found", "_law_due", "_law_mine", "_law_theirs"]) (sc := defScope s__law_same) (by decide +kernel)) (fun _ _ _ _ _ => (dg_tup rfl (dgs_cons (dg_name (i := 2) sc__law_same.nd rfl (Or.inl rfl)) (dgs_cons (dg_name (i := 3) sc__law_same.nd rfl (Or.inl rfl)) dgs_nil)) (bCons_len (bCons_len bNil_len)))) (fun _ _ _ _ _ => dts_nil) (fun _ _ _ _ _ => (de_call ih hr takes0 Y.mg__law_same Y.F__law_same.kp Y.b__law_same (da_cons (de_var 2 (pv 2)) (da_cons (de_var 3 (pv 3)) da_nil)) (aCons_len (aCons_len aNil_len)))))))))))) dss_nil)
  (dss_cons (ds_if (dt_val (de_isi (n := "dict") Y.n_isinstance Y.n_dict (by decide +kernel) (de_var 1 (pv 1)))) (dss_one (ds_ret (de_and (de_isi (n := "dict") Y.n_isinstance Y.n_dict (by decide +kernel) (de_var 0 (pv 0))) (de_one (de_call ih hr (takes_of rfl rfl rfl rfl) Y.mg__law_same Y.F__law_same.kp Y.b__law_same (da_cons (de_dn (dn_items rfl Y.n_list (de_var 0 (pv 0)))) (da_cons (de_dn (dn_items rfl Y.n_list (de_var 1 (pv 1)))) da_nil)) (aCons_len (aCons_len aNil_len))))))) dss_nil)
  (dss_cons (ds_if (dt_w (dw_or (dt_val (de_isi (n := "bool") Y.n_isinstance Y.n_bool (by decide +kernel) (de_var 1 (pv 1)))) (dw_or1 (dt_val (de_isi (n := "bool") Y.n_isinstance Y.n_bool (by decide +kernel) (de_var 0 (pv 0))))))) (dss_one (ds_ret (de_and (de_isi (n := "bool") Y.n_isinstance Y.n_bool (by decide +kernel) (de_var 1 (pv 1))) (de_and (de_isi (n := "bool") Y.n_isinstance Y.n_bool (by decide +kernel) (de_var 0 (pv 0))) (de_one (de_eq hr (de_var 0 (pv 0)) (de_var 1 (pv 1)))))))) dss_nil)
  (dss_one (ds_ret (de_and (de_not (de_isi3 (n := "list") (m := "tuple") (l := "dict") Y.n_isinstance Y.n_list (by decide +kernel) Y.n_tuple (by decide +kernel) Y.n_dict (by decide +kernel) (de_var 0 (pv 0)))) (de_one (de_eq hr (de_var 0 (pv 0)) (de_var 1 (pv 1)))))))))))
    exact h
/-! _law_loose -/
abbrev s__law_loose : Stmt := top 30
def G__law_loose (cA : Str → Addr) (rec : List T → M T) : Env' → M Fl :=
  (sSeq (sIf (e1 boolT (e1 (isiT2 "list" "tuple") (eV 1))) (sSeq (sSet 2 (e1 lstT (nLc [3] (e1 itemsT (eV 1)) (bName 3) cYes (eCallS 0 rec (aCons (eV 3) aNil)))))
  (sRet (eIf (e1 boolT (e2 eqT (eCallS 0 (m__law_draw cA) (aCons (eC (.int 2)) aNil)) (eC (.int 0)))) (eV 2) (e1 tupT (eVS 2))))) sNext)
  (sRet (eV 1)))
def m__law_loose (cA : Str → Addr) : Nat → List T → M T := recM true 4 (G__law_loose cA)
theorem sc__law_loose : FnScope ["_law_stream_here", "_law_thing", "_law_some", "_law_one"] ["_law_stream_here", "_law_thing"] (defScope s__law_loose) := ⟨rfl, rfl, rfl, by decide +kernel, rfl, by decide +kernel, by decide +kernel⟩
theorem ok__law_loose : ∀ n : Nat, FnOk P w K mg base (L2.CX P w) (2 + n) Y.a__law_loose Y.d__law_loose ["_law_stream_here", "_law_thing"] (spD K Y.Xc true 1 (m__law_loose Y.cA n))
  | 0 => fn_never fun _ => rfl
  | n + 1 => by
    have ih := ok__law_loose n
    have h := (fn_deep (P := P) (w := w) (mg := mg) (base := base) (Xc := Y.Xc) (st := true) (np := 1) (k := 2 + n) Y.F__law_loose sc__law_loose rfl fun cdv A outer s H E F0 S0 hr =>
  (dss_cons (ds_if (dt_val (de_isi2 (n := "list") (m := "tuple") Y.n_isinstance Y.n_list (by decide +kernel) Y.n_tuple (by decide +kernel) (de_var 1 (pv 1)))) (dss_cons (ds_setLc (lc_set (i := 2) (own := [("_law_one", 3)]) rfl sc__law_loose.nd rfl rfl (sw_true rfl rfl rfl (by decide +kernel)) (di_seq (de_var 1 (pv 1))) (blkOk_by (own := [("_law_one", 3)]) (N := ["_law_stream_here", "_law_thing", "_law_some", "_law_one"]) (sc := defScope s__law_loose) (by decide +kernel)) (fun _ _ _ _ _ => (dg_name (i := 3) sc__law_loose.nd rfl (Or.inl rfl))) (fun _ _ _ _ _ => dts_nil) (fun _ _ _ _ _ => (de_callS (i := 0) ih hr takes0 Y.mg__law_loose Y.F__law_loose.kp Y.b__law_loose (pv 0) (da_cons (de_var 3 (pv 3)) da_nil) (aCons_len aNil_len)))))
  (dss_one (ds_ret (de_if (dt_eq hr (de_callS (i := 0) (ok__law_draw Y) (hr.mono (by omega)) (takes_of rfl rfl rfl rfl) Y.mg__law_draw Y.F__law_draw.kp Y.b__law_draw (pv 0) (da_cons de_int da_nil) (aCons_len aNil_len)) de_int) (de_var 2 (pv 2)) (de_tuple Y.n_tuple (dl_var 2 (pv 2))))))) dss_nil)
  (dss_one (ds_ret (de_var 1 (pv 1))))))
    exact h
/-! _law_common -/
abbrev s__law_common : Stmt := top 31
def G__law_common (cA : Str → Addr) : Env' → M Fl :=
  (sSeq (sPar 0 1 (pCons (e1 absT (aCons (eV 0) aNil)) (pCons (e1 absT (aCons (eV 1) aNil)) pNil)))
  (sSeq (sWhile 10000 (e1 boolT (e2 gtT (eV 1) (eC (.int 0)))) (sPar 0 1 (pCons (eV 1) (pCons (e2 modT (eV 0) (eV 1)) pNil))))
  (sRet (eV 0))))
def m__law_common (cA : Str → Addr) : List T → M T := fnM false 2 (G__law_common cA)
theorem sc__law_common : FnScope ["_law_one", "_law_other"] ["_law_one", "_law_other"] (defScope s__law_common) := ⟨rfl, rfl, rfl, by decide +kernel, rfl, by decide +kernel, by decide +kernel⟩
theorem ok__law_common : FnOk P w K mg base (L2.CX P w) 1 Y.a__law_common Y.d__law_common ["_law_one", "_law_other"] (spD K Y.Xc false 2 (m__law_common Y.cA)) := by
  have h := (fn_deep (P := P) (w := w) (mg := mg) (base := base) (Xc := Y.Xc) (st := false) (np := 2) (k := 0) Y.F__law_common sc__law_common rfl fun cdv A outer s H E F0 S0 hr =>
  (dss_cons (ds_par (i := 0) (j := 1) rfl sc__law_common.nd rfl rfl (by decide) rfl rfl (dp_cons (de_callB call_abs c_abs Y.n_abs (by decide +kernel) (da_cons (de_var 0 (pv 0)) da_nil)) (dp_cons (de_callB call_abs c_abs Y.n_abs (by decide +kernel) (da_cons (de_var 1 (pv 1)) da_nil)) dp_nil)))
  (dss_cons (ds_while 10000 (passes_of rfl) (dt_gt (de_var 1 (pv 1)) de_int) (dss_one (ds_par (i := 0) (j := 1) rfl sc__law_common.nd rfl rfl (by decide) rfl rfl (dp_cons (de_var 1 (pv 1)) (dp_cons (de_mod (de_var 0 (pv 0)) (de_var 1 (pv 1))) dp_nil)))))
  (dss_one (ds_ret (de_var 0 (pv 0)))))))
  exact h
/-! _law_low -/
abbrev s__law_low : Stmt := top 32
def G__law_low (cA : Str → Addr) : Env' → M Fl :=
  (sSeq (sSet 2 (eIf (e1 boolT (e2 gtT (eV 1) (eC (.int 0)))) (eCall (m__law_common cA) (aCons (eV 0) (aCons (eV 1) aNil))) (e2 subT (eC (.int 0)) (eCall (m__law_common cA) (aCons (eV 0) (aCons (eV 1) aNil))))))
  (sRet (eTup (aCons (e2 fdivT (eV 0) (eV 2)) (aCons (e2 fdivT (eV 1) (eV 2)) aNil)))))
def m__law_low (cA : Str → Addr) : List T → M T := fnM false 3 (G__law_low cA)
theorem sc__law_low : FnScope ["_law_top", "_law_bottom", "_law_common_here"] ["_law_top", "_law_bottom"] (defScope s__law_low) := ⟨rfl, rfl, rfl, by decide +kernel, rfl, by decide +kernel, by decide +kernel⟩
theorem ok__law_low : FnOk P w K mg base (L2.CX P w) 2 Y.a__law_low Y.d__law_low ["_law_top", "_law_bottom"] (spD K Y.Xc false 2 (m__law_low Y.cA)) := by
  have h := (fn_deep (P := P) (w := w) (mg := mg) (base := base) (Xc := Y.Xc) (st := false) (np := 2) (k := 1) Y.F__law_low sc__law_low rfl fun cdv A outer s H E F0 S0 hr =>
  (dss_cons (ds_set (i := 2) sc__law_low.nd rfl (Or.inl rfl) (de_if (dt_gt (de_var 1 (pv 1)) de_int) (de_call (ok__law_common Y) (hr.mono (by omega)) (takes_of rfl rfl rfl rfl) Y.mg__law_common Y.F__law_common.kp Y.b__law_common (da_cons (de_var 0 (pv 0)) (da_cons (de_var 1 (pv 1)) da_nil)) (aCons_len (aCons_len aNil_len))) (de_sub de_int (de_call (ok__law_common Y) (hr.mono (by omega)) (takes_of rfl rfl rfl rfl) Y.mg__law_common Y.F__law_common.kp Y.b__law_common (da_cons (de_var 0 (pv 0)) (da_cons (de_var 1 (pv 1)) da_nil)) (aCons_len (aCons_len aNil_len))))))
  (dss_one (ds_ret (de_tup (da_cons (de_fdiv (de_var 0 (pv 0)) (de_var 2 (pv 2))) (da_cons (de_fdiv (de_var 1 (pv 1)) (de_var 2 (pv 2))) da_nil)))))))
  exact h
/-! _law_plus -/
abbrev s__law_plus : Stmt := top 33
def G__law_plus (cA : Str → Addr) : Env' → M Fl :=
  (sRet (eCall (m__law_low cA) (aCons (e2 addT (e2 mulT (e2 ixT (eVS 0) (eC (.int 0))) (e2 ixT (eVS 1) (eC (.int 1)))) (e2 mulT (e2 ixT (eVS 1) (eC (.int 0))) (e2 ixT (eVS 0) (eC (.int 1))))) (aCons (e2 mulT (e2 ixT (eVS 0) (eC (.int 1))) (e2 ixT (eVS 1) (eC (.int 1)))) aNil))))
def m__law_plus (cA : Str → Addr) : List T → M T := fnM false 2 (G__law_plus cA)
theorem sc__law_plus : FnScope ["_law_one", "_law_other"] ["_law_one", "_law_other"] (defScope s__law_plus) := ⟨rfl, rfl, rfl, by decide +kernel, rfl, by decide +kernel, by decide +kernel⟩
theorem ok__law_plus : FnOk P w K mg base (L2.CX P w) 3 Y.a__law_plus Y.d__law_plus ["_law_one", "_law_other"] (spD K Y.Xc false 2 (m__law_plus Y.cA)) := by
  have h := (fn_deep (P := P) (w := w) (mg := mg) (base := base) (Xc := Y.Xc) (st := false) (np := 2) (k := 2) Y.F__law_plus sc__law_plus rfl fun cdv A outer s H E F0 S0 hr =>
  (dss_one (ds_ret (de_call (ok__law_low Y) (hr.mono (by omega)) (takes_of rfl rfl rfl rfl) Y.mg__law_low Y.F__law_low.kp Y.b__law_low (da_cons (de_add (de_mul (de_ix (dl_var 0 (pv 0)) de_int) (de_ix (dl_var 1 (pv 1)) de_int)) (de_mul (de_ix (dl_var 1 (pv 1)) de_int) (de_ix (dl_var 0 (pv 0)) de_int))) (da_cons (de_mul (de_ix (dl_var 0 (pv 0)) de_int) (de_ix (dl_var 1 (pv 1)) de_int)) da_nil)) (aCons_len (aCons_len aNil_len))))))
  exact h
/-! _law_less -/
abbrev s__law_less : Stmt := top 34
def G__law_less (cA : Str → Addr) : Env' → M Fl :=
  (sRet (eCall (m__law_low cA) (aCons (e2 subT (e2 mulT (e2 ixT (eVS 0) (eC (.int 0))) (e2 ixT (eVS 1) (eC (.int 1)))) (e2 mulT (e2 ixT (eVS 1) (eC (.int 0))) (e2 ixT (eVS 0) (eC (.int 1))))) (aCons (e2 mulT (e2 ixT (eVS 0) (eC (.int 1))) (e2 ixT (eVS 1) (eC (.int 1)))) aNil))))
def m__law_less (cA : Str → Addr) : List T → M T := fnM false 2 (G__law_less cA)
theorem sc__law_less : FnScope ["_law_one", "_law_other"] ["_law_one", "_law_other"] (defScope s__law_less) := ⟨rfl, rfl, rfl, by decide +kernel, rfl, by decide +kernel, by decide +kernel⟩
theorem ok__law_less : FnOk P w K mg base (L2.CX P w) 3 Y.a__law_less Y.d__law_less ["_law_one", "_law_other"] (spD K Y.Xc false 2 (m__law_less Y.cA)) := by
  have h := (fn_deep (P := P) (w := w) (mg := mg) (base := base) (Xc := Y.Xc) (st := false) (np := 2) (k := 2) Y.F__law_less sc__law_less rfl fun cdv A outer s H E F0 S0 hr =>
  (dss_one (ds_ret (de_call (ok__law_low Y) (hr.mono (by omega)) (takes_of rfl rfl rfl rfl) Y.mg__law_low Y.F__law_low.kp Y.b__law_low (da_cons (de_sub (de_mul (de_ix (dl_var 0 (pv 0)) de_int) (de_ix (dl_var 1 (pv 1)) de_int)) (de_mul (de_ix (dl_var 1 (pv 1)) de_int) (de_ix (dl_var 0 (pv 0)) de_int))) (da_cons (de_mul (de_ix (dl_var 0 (pv 0)) de_int) (de_ix (dl_var 1 (pv 1)) de_int)) da_nil)) (aCons_len (aCons_len aNil_len))))))
  exact h
/-! _law_times -/
abbrev s__law_times : Stmt := top 35
def G__law_times (cA : Str → Addr) : Env' → M Fl :=
  (sRet (eCall (m__law_low cA) (aCons (e2 mulT (e2 ixT (eVS 0) (eC (.int 0))) (e2 ixT (eVS 1) (eC (.int 0)))) (aCons (e2 mulT (e2 ixT (eVS 0) (eC (.int 1))) (e2 ixT (eVS 1) (eC (.int 1)))) aNil))))
def m__law_times (cA : Str → Addr) : List T → M T := fnM false 2 (G__law_times cA)
theorem sc__law_times : FnScope ["_law_one", "_law_other"] ["_law_one", "_law_other"] (defScope s__law_times) := ⟨rfl, rfl, rfl, by decide +kernel, rfl, by decide +kernel, by decide +kernel⟩
theorem ok__law_times : FnOk P w K mg base (L2.CX P w) 3 Y.a__law_times Y.d__law_times ["_law_one", "_law_other"] (spD K Y.Xc false 2 (m__law_times Y.cA)) := by
  have h := (fn_deep (P := P) (w := w) (mg := mg) (base := base) (Xc := Y.Xc) (st := false) (np := 2) (k := 2) Y.F__law_times sc__law_times rfl fun cdv A outer s H E F0 S0 hr =>
  (dss_one (ds_ret (de_call (ok__law_low Y) (hr.mono (by omega)) (takes_of rfl rfl rfl rfl) Y.mg__law_low Y.F__law_low.kp Y.b__law_low (da_cons (de_mul (de_ix (dl_var 0 (pv 0)) de_int) (de_ix (dl_var 1 (pv 1)) de_int)) (da_cons (de_mul (de_ix (dl_var 0 (pv 0)) de_int) (de_ix (dl_var 1 (pv 1)) de_int)) da_nil)) (aCons_len (aCons_len aNil_len))))))
  exact h
/-! _law_is_below -/
abbrev s__law_is_below : Stmt := top 36
def G__law_is_below (cA : Str → Addr) : Env' → M Fl :=
  (sRet (e2 ltT (e2 mulT (e2 ixT (eVS 0) (eC (.int 0))) (e2 ixT (eVS 1) (eC (.int 1)))) (e2 mulT (e2 ixT (eVS 1) (eC (.int 0))) (e2 ixT (eVS 0) (eC (.int 1))))))
def m__law_is_below (cA : Str → Addr) : List T → M T := fnM false 2 (G__law_is_below cA)
theorem sc__law_is_below : FnScope ["_law_one", "_law_other"] ["_law_one", "_law_other"] (defScope s__law_is_below) := ⟨rfl, rfl, rfl, by decide +kernel, rfl, by decide +kernel, by decide +kernel⟩
theorem ok__law_is_below : FnOk P w K mg base (L2.CX P w) 1 Y.a__law_is_below Y.d__law_is_below ["_law_one", "_law_other"] (spD K Y.Xc false 2 (m__law_is_below Y.cA)) := by
  have h := (fn_deep (P := P) (w := w) (mg := mg) (base := base) (Xc := Y.Xc) (st := false) (np := 2) (k := 0) Y.F__law_is_below sc__law_is_below rfl fun cdv A outer s H E F0 S0 hr =>
  (dss_one (ds_ret (de_lt (de_mul (de_ix (dl_var 0 (pv 0)) de_int) (de_ix (dl_var 1 (pv 1)) de_int)) (de_mul (de_ix (dl_var 1 (pv 1)) de_int) (de_ix (dl_var 0 (pv 0)) de_int))))))
  exact h
/-! _law_least -/
abbrev s__law_least : Stmt := top 37
def G__law_least (cA : Str → Addr) : Env' → M Fl :=
  (sSeq (sSet 1 (e2 ixT (eVS 0) (eC (.int 0))))
  (sSeq (sFor (e1 itemsT (eV 0)) (bName 2) (sSet 1 (eIf (e1 boolT (eCall (m__law_is_below cA) (aCons (eV 2) (aCons (eV 1) aNil)))) (eV 2) (eV 1))))
  (sRet (eV 1))))
def m__law_least (cA : Str → Addr) : List T → M T := fnM false 3 (G__law_least cA)
theorem sc__law_least : FnScope ["_law_things", "_law_found", "_law_thing"] ["_law_things"] (defScope s__law_least) := ⟨rfl, rfl, rfl, by decide +kernel, rfl, by decide +kernel, by decide +kernel⟩
theorem ok__law_least : FnOk P w K mg base (L2.CX P w) 2 Y.a__law_least Y.d__law_least ["_law_things"] (spD K Y.Xc false 1 (m__law_least Y.cA)) := by
  have h := (fn_deep (P := P) (w := w) (mg := mg) (base := base) (Xc := Y.Xc) (st := false) (np := 1) (k := 1) Y.F__law_least sc__law_least rfl fun cdv A outer s H E F0 S0 hr =>
  (dss_cons (ds_set (i := 1) sc__law_least.nd rfl (Or.inl rfl) (de_ix (dl_var 0 (pv 0)) de_int))
  (dss_cons (ds_for (passes_of rfl) rfl (di_seq (de_var 0 (pv 0))) (dg_name (i := 2) sc__law_least.nd rfl (Or.inl rfl)) (dss_one (ds_set (i := 1) sc__law_least.nd rfl (Or.inl rfl) (de_if (dt_val (de_call (ok__law_is_below Y) (hr.mono (by omega)) (takes_of rfl rfl rfl rfl) Y.mg__law_is_below Y.F__law_is_below.kp Y.b__law_is_below (da_cons (de_var 2 (pv 2)) (da_cons (de_var 1 (pv 1)) da_nil)) (aCons_len (aCons_len aNil_len)))) (de_var 2 (pv 2)) (de_var 1 (pv 1))))))
  (dss_one (ds_ret (de_var 1 (pv 1)))))))
  exact h
/-! _law_total -/
abbrev s__law_total : Stmt := top 38
def G__law_total (cA : Str → Addr) : Env' → M Fl :=
  (sSeq (sSet 1 (eTup (aCons (eC (.int 0)) (aCons (eC (.int 1)) aNil))))
  (sSeq (sFor (e1 itemsT (eV 0)) (bName 2) (sSet 1 (eCall (m__law_plus cA) (aCons (eV 1) (aCons (eV 2) aNil)))))
  (sRet (eV 1))))
def m__law_total (cA : Str → Addr) : List T → M T := fnM false 3 (G__law_total cA)
theorem sc__law_total : FnScope ["_law_things", "_law_found", "_law_thing"] ["_law_things"] (defScope s__law_total) := ⟨rfl, rfl, rfl, by decide +kernel, rfl, by decide +kernel, by decide +kernel⟩
theorem ok__law_total : FnOk P w K mg base (L2.CX P w) 4 Y.a__law_total Y.d__law_total ["_law_things"] (spD K Y.Xc false 1 (m__law_total Y.cA)) := by
  have h := (fn_deep (P := P) (w := w) (mg := mg) (base := base) (Xc := Y.Xc) (st := false) (np := 1) (k := 3) Y.F__law_total sc__law_total rfl fun cdv A outer s H E F0 S0 hr =>
  (dss_cons (ds_set (i := 1) sc__law_total.nd rfl (Or.inl rfl) (de_tup (da_cons de_int (da_cons de_int da_nil))))
  (dss_cons (ds_for (passes_of rfl) rfl (di_seq (de_var 0 (pv 0))) (dg_name (i := 2) sc__law_total.nd rfl (Or.inl rfl)) (dss_one (ds_set (i := 1) sc__law_total.nd rfl (Or.inl rfl) (de_call (ok__law_plus Y) (hr.mono (by omega)) (takes_of rfl rfl rfl rfl) Y.mg__law_plus Y.F__law_plus.kp Y.b__law_plus (da_cons (de_var 1 (pv 1)) (da_cons (de_var 2 (pv 2)) da_nil)) (aCons_len (aCons_len aNil_len))))))
  (dss_one (ds_ret (de_var 1 (pv 1)))))))
  exact h
/-! _law_raw -/
abbrev s__law_raw : Stmt := top 39
def G__law_raw (cA : Str → Addr) : Env' → M Fl :=
  (sSeq (sSet 2 (eCallS 0 (m__law_pick cA) (aCons (e1 lstT (nLst (aCons (eC (.int 1)) (aCons (eC (.int 1)) (aCons (eC (.int 1)) (aCons (eC (.int 2)) (aCons (eC (.int 3)) aNil))))))) aNil)))
  (sRet (eCallS 0 (m__law_loose cA 40) (aCons (eTup (aCons (e2 mulT (e2 ixT (eVS 1) (eC (.int 0))) (eV 2)) (aCons (e2 mulT (e2 ixT (eVS 1) (eC (.int 1))) (eV 2)) aNil))) aNil))))
def m__law_raw (cA : Str → Addr) : List T → M T := fnM true 3 (G__law_raw cA)
theorem sc__law_raw : FnScope ["_law_stream_here", "_law_thing", "_law_many"] ["_law_stream_here", "_law_thing"] (defScope s__law_raw) := ⟨rfl, rfl, rfl, by decide +kernel, rfl, by decide +kernel, by decide +kernel⟩
theorem ok__law_raw : FnOk P w K mg base (L2.CX P w) 43 Y.a__law_raw Y.d__law_raw ["_law_stream_here", "_law_thing"] (spD K Y.Xc true 1 (m__law_raw Y.cA)) := by
  have h := (fn_deep (P := P) (w := w) (mg := mg) (base := base) (Xc := Y.Xc) (st := true) (np := 1) (k := 42) Y.F__law_raw sc__law_raw rfl fun cdv A outer s H E F0 S0 hr =>
  (dss_cons (ds_set (i := 2) sc__law_raw.nd rfl (Or.inl rfl) (de_callS (i := 0) (ok__law_pick Y) (hr.mono (by omega)) (takes_of rfl rfl rfl rfl) Y.mg__law_pick Y.F__law_pick.kp Y.b__law_pick (pv 0) (da_cons (de_dn (dn_lst (da_cons de_int (da_cons de_int (da_cons de_int (da_cons de_int (da_cons de_int da_nil))))))) da_nil) (aCons_len aNil_len)))
  (dss_one (ds_ret (de_callS (i := 0) (ok__law_loose Y 40) (hr.mono (by omega)) (takes_of rfl rfl rfl rfl) Y.mg__law_loose Y.F__law_loose.kp Y.b__law_loose (pv 0) (da_cons (de_tup (da_cons (de_mul (de_ix (dl_var 1 (pv 1)) de_int) (de_var 2 (pv 2))) (da_cons (de_mul (de_ix (dl_var 1 (pv 1)) de_int) (de_var 2 (pv 2))) da_nil))) da_nil) (aCons_len aNil_len))))))
  exact h
/-! _law_raw_comers -/
abbrev s__law_raw_comers : Stmt := top 40
def G__law_raw_comers (cA : Str → Addr) : Env' → M Fl :=
  (sRet (eCallS 0 (m__law_loose cA 40) (aCons (e1 lstT (nLc [2] (e1 itemsT (eV 1)) (bName 2) cYes (e1 lstT (nLc [3] (e1 itemsT (eV 2)) (bName 3) cYes (eCallS 0 (m__law_raw cA) (aCons (eV 3) aNil)))))) aNil)))
def m__law_raw_comers (cA : Str → Addr) : List T → M T := fnM true 4 (G__law_raw_comers cA)
theorem sc__law_raw_comers : FnScope ["_law_stream_here", "_law_comers_here", "_law_pair", "_law_one"] ["_law_stream_here", "_law_comers_here"] (defScope s__law_raw_comers) := ⟨rfl, rfl, rfl, by decide +kernel, rfl, by decide +kernel, by decide +kernel⟩
theorem ok__law_raw_comers : FnOk P w K mg base (L2.CX P w) 44 Y.a__law_raw_comers Y.d__law_raw_comers ["_law_stream_here", "_law_comers_here"] (spD K Y.Xc true 1 (m__law_raw_comers Y.cA)) := by
  have h := (fn_deep (P := P) (w := w) (mg := mg) (base := base) (Xc := Y.Xc) (st := true) (np := 1) (k := 43) Y.F__law_raw_comers sc__law_raw_comers rfl fun cdv A outer s H E F0 S0 hr =>
  (dss_one (ds_ret (de_callS (i := 0) (ok__law_loose Y 40) (hr.mono (by omega)) (takes_of rfl rfl rfl rfl) Y.mg__law_loose Y.F__law_loose.kp Y.b__law_loose (pv 0) (da_cons (de_dn (dn_lc (own := [("_law_pair", 2)]) rfl sc__law_raw_comers.nd (di_seq (de_var 1 (pv 1))) (blkOk_by (own := [("_law_pair", 2)]) (N := ["_law_stream_here", "_law_comers_here", "_law_pair", "_law_one"]) (sc := defScope s__law_raw_comers) (by decide +kernel)) (fun _ _ _ _ _ => (dg_name (i := 2) sc__law_raw_comers.nd rfl (Or.inl rfl))) (fun _ _ _ _ _ => dts_nil) (fun _ _ _ _ _ => (de_dn (dn_lc (own := [("_law_one", 3)]) rfl sc__law_raw_comers.nd (di_seq (de_var 2 (pv 2))) (by apply blkOk_by; first | kernel_rfl | rfl) (fun _ _ _ _ _ => (dg_name (i := 3) sc__law_raw_comers.nd rfl (Or.inl rfl))) (fun _ _ _ _ _ => dts_nil) (fun _ _ _ _ _ => (de_callS (i := 0) (ok__law_raw Y) (hr.mono (by omega)) takes0 Y.mg__law_raw Y.F__law_raw.kp Y.b__law_raw (pv 0) (da_cons (de_var 3 (pv 3)) da_nil) (aCons_len aNil_len)))))))) da_nil) (aCons_len aNil_len)))))
  exact h
/-! _law_comers -/
abbrev s__law_comers : Stmt := top 41
def G__law_comers (cA : Str → Addr) : Env' → M Fl :=
  (sSeq (sPar3 2 3 4 (pConsN (nLst aNil) (pCons (eTup (aCons (eC (.int 0)) (aCons (eC (.int 1)) aNil))) (pCons (eCallS 0 (m__law_pick cA) (aCons (e1 lstT (nLst (aCons (eC (.int 1)) (aCons (eC (.int 1)) (aCons (eC (.int 2)) (aCons (eC (.int 3)) aNil)))))) aNil)) pNil))))
  (sSeq (sFor (e1 rng1 (aCons (e2 addT (eC (.int 1)) (eCallS 0 (m__law_draw cA) (aCons (eV 1) aNil))) aNil)) (bName 5) (sSeq (sSet 6 (eCall (m__law_low cA) (aCons (eCallS 0 (m__law_draw cA) (aCons (eCallS 0 (m__law_pick cA) (aCons (e1 lstT (nLst (aCons (eC (.int 1)) (aCons (eC (.int 5)) (aCons (eC (.int 9)) (aCons (eC (.int 25)) aNil)))))) aNil)) aNil)) (aCons (eCallS 0 (m__law_pick cA) (aCons (e1 lstT (nLst (aCons (eC (.int 1)) (aCons (eC (.int 1)) (aCons (eV 4) aNil))))) aNil)) aNil))))
  (sSeq (sIf (eOr (e1 boolT (e1 (eqNilT false) (eVS 2))) (e1 boolT (e2 neT (e2 ixT (e1 seqT (e2 ixT (eVS 2) (e1 negT (eC (.int 1))))) (eC (.int 1))) (eV 6)))) (sApp 2 (eTup (aCons (eV 3) (aCons (eV 6) aNil)))) sNext)
  (sSet 3 (eCall (m__law_plus cA) (aCons (eV 3) (aCons (eCall (m__law_low cA) (aCons (e2 addT (eC (.int 1)) (eCallS 0 (m__law_draw cA) (aCons (eC (.int 12)) aNil))) (aCons (eV 4) aNil))) aNil)))))))
  (sFz 2 (sRet (eV 2)))))
def m__law_comers (cA : Str → Addr) : List T → M T := fnM true 7 (G__law_comers cA)
theorem sc__law_comers : FnScope ["_law_stream_here", "_law_most", "_law_found", "_law_moment", "_law_bottom", "_law_k", "_law_rate"] ["_law_stream_here", "_law_most"] (defScope s__law_comers) := ⟨rfl, rfl, rfl, by decide +kernel, rfl, by decide +kernel, by decide +kernel⟩
theorem ok__law_comers : FnOk P w K mg base (L2.CX P w) 4 Y.a__law_comers Y.d__law_comers ["_law_stream_here", "_law_most"] (spD K Y.Xc true 1 (m__law_comers Y.cA)) := by
  have h := (fn_deep (P := P) (w := w) (mg := mg) (base := base) (Xc := Y.Xc) (st := true) (np := 1) (k := 3) Y.F__law_comers sc__law_comers rfl fun cdv A outer s H E F0 S0 hr =>
  (dss_cons (ds_par3 (i := 2) (j := 3) (l := 4) rfl sc__law_comers.nd rfl rfl rfl (by decide) (by decide) (by decide) (ps_par3 rfl sc__law_comers.nd rfl rfl rfl (by decide) (by decide) (by decide) rfl rfl rfl (dp_consN (dn_lst da_nil) (dp_cons (de_tup (da_cons de_int (da_cons de_int da_nil))) (dp_cons (de_callS (i := 0) (ok__law_pick Y) (hr.mono (by omega)) (takes_of rfl rfl rfl rfl) Y.mg__law_pick Y.F__law_pick.kp Y.b__law_pick (pv 0) (da_cons (de_dn (dn_lst (da_cons de_int (da_cons de_int (da_cons de_int (da_cons de_int da_nil)))))) da_nil) (aCons_len aNil_len)) dp_nil))) (by rfl)))
  (dss_cons (ds_for (passes_of rfl) rfl (di_range1 Y.n_range (da_cons (de_add de_int (de_callS (i := 0) (ok__law_draw Y) (hr.mono (by omega)) (takes_of rfl rfl rfl rfl) Y.mg__law_draw Y.F__law_draw.kp Y.b__law_draw (pv 0) (da_cons (de_var 1 (pv 1)) da_nil) (aCons_len aNil_len))) da_nil)) (dg_name (i := 5) sc__law_comers.nd rfl (Or.inl rfl)) (dss_cons (ds_set (i := 6) sc__law_comers.nd rfl (Or.inl rfl) (de_call (ok__law_low Y) (hr.mono (by omega)) (takes_of rfl rfl rfl rfl) Y.mg__law_low Y.F__law_low.kp Y.b__law_low (da_cons (de_callS (i := 0) (ok__law_draw Y) (hr.mono (by omega)) (takes_of rfl rfl rfl rfl) Y.mg__law_draw Y.F__law_draw.kp Y.b__law_draw (pv 0) (da_cons (de_callS (i := 0) (ok__law_pick Y) (hr.mono (by omega)) (takes_of rfl rfl rfl rfl) Y.mg__law_pick Y.F__law_pick.kp Y.b__law_pick (pv 0) (da_cons (de_dn (dn_lst (da_cons de_int (da_cons de_int (da_cons de_int (da_cons de_int da_nil)))))) da_nil) (aCons_len aNil_len)) da_nil) (aCons_len aNil_len)) (da_cons (de_callS (i := 0) (ok__law_pick Y) (hr.mono (by omega)) (takes_of rfl rfl rfl rfl) Y.mg__law_pick Y.F__law_pick.kp Y.b__law_pick (pv 0) (da_cons (de_dn (dn_lst (da_cons de_int (da_cons de_int (da_cons (de_var 4 (pv 4)) da_nil))))) da_nil) (aCons_len aNil_len)) da_nil)) (aCons_len (aCons_len aNil_len))))
  (dss_cons (ds_if (dt_w (dw_or (dt_eqnil hr (dl_var 2 (pv 2))) (dw_or1 (dt_ne hr (de_ix (dl_de (de_ix (dl_var 2 (pv 2)) (de_neg de_int))) de_int) (de_var 6 (pv 6)))))) (dss_one (ds_append (pv 2) (de_tup (da_cons (de_var 3 (pv 3)) (da_cons (de_var 6 (pv 6)) da_nil))))) dss_nil)
  (dss_one (ds_set (i := 3) sc__law_comers.nd rfl (Or.inl rfl) (de_call (ok__law_plus Y) (hr.mono (by omega)) (takes_of rfl rfl rfl rfl) Y.mg__law_plus Y.F__law_plus.kp Y.b__law_plus (da_cons (de_var 3 (pv 3)) (da_cons (de_call (ok__law_low Y) (hr.mono (by omega)) (takes_of rfl rfl rfl rfl) Y.mg__law_low Y.F__law_low.kp Y.b__law_low (da_cons (de_add de_int (de_callS (i := 0) (ok__law_draw Y) (hr.mono (by omega)) (takes_of rfl rfl rfl rfl) Y.mg__law_draw Y.F__law_draw.kp Y.b__law_draw (pv 0) (da_cons de_int da_nil) (aCons_len aNil_len))) (da_cons (de_var 4 (pv 4)) da_nil)) (aCons_len (aCons_len aNil_len))) da_nil)) (aCons_len (aCons_len aNil_len))))))))
  (dss_fz 2 (dss_one (ds_ret (de_var 2 (pv 2))))))))
  exact h
/-! _law_rate_at -/
abbrev s__law_rate_at : Stmt := top 42
def G__law_rate_at (cA : Str → Addr) : Env' → M Fl :=
  (sRet (e2 ixT (e1 seqN (nLc [2, 3] (e1 itemsT (eV 0)) (bTup (bCons (bName 2) (bCons (bName 3) bNil))) (eNot (e1 boolT (eCall (m__law_is_below cA) (aCons (eV 1) (aCons (eV 2) aNil))))) (eV 3))) (e1 negT (eC (.int 1)))))
def m__law_rate_at (cA : Str → Addr) : List T → M T := fnM false 4 (G__law_rate_at cA)
theorem sc__law_rate_at : FnScope ["_law_comers_here", "_law_moment", "_law_begin", "_law_rate"] ["_law_comers_here", "_law_moment"] (defScope s__law_rate_at) := ⟨rfl, rfl, rfl, by decide +kernel, rfl, by decide +kernel, by decide +kernel⟩
theorem ok__law_rate_at : FnOk P w K mg base (L2.CX P w) 2 Y.a__law_rate_at Y.d__law_rate_at ["_law_comers_here", "_law_moment"] (spD K Y.Xc false 2 (m__law_rate_at Y.cA)) := by
  have h := (fn_deep (P := P) (w := w) (mg := mg) (base := base) (Xc := Y.Xc) (st := false) (np := 2) (k := 1) Y.F__law_rate_at sc__law_rate_at rfl fun cdv A outer s H E F0 S0 hr =>
  (dss_one (ds_ret (de_ix (dl_dn (dn_lc (own := [("_law_begin", 2), ("_law_rate", 3)]) rfl sc__law_rate_at.nd (di_seq (de_var 0 (pv 0))) (blkOk_by (own := [("_law_begin", 2), ("_law_rate", 3)]) (N := ["_law_comers_here", "_law_moment", "_law_begin", "_law_rate"]) (sc := defScope s__law_rate_at) (by decide +kernel)) (fun _ _ _ _ _ => (dg_tup rfl (dgs_cons (dg_name (i := 2) sc__law_rate_at.nd rfl (Or.inl rfl)) (dgs_cons (dg_name (i := 3) sc__law_rate_at.nd rfl (Or.inl rfl)) dgs_nil)) (bCons_len (bCons_len bNil_len)))) (fun _ _ _ _ _ => (dts_one (dt_not (dt_val (de_call (ok__law_is_below Y) (hr.mono (by omega)) takes0 Y.mg__law_is_below Y.F__law_is_below.kp Y.b__law_is_below (da_cons (de_var 1 (pv 1)) (da_cons (de_var 2 (pv 2)) da_nil)) (aCons_len (aCons_len aNil_len))))))) (fun _ _ _ _ _ => (de_var 3 (pv 3))))) (de_neg de_int)))))
  exact h
/-! _law_come -/
abbrev s__law_come : Stmt := top 44
def G__law_come (cA : Str → Addr) : Env' → M Fl :=
  (sSeq (sOwn 2 (nLst aNil))
  (sSeq (sFor (e1 enumB (aCons (eV 0) aNil)) (bTup (bCons (bName 3) (bCons (bTup (bCons (bName 4) (bCons (bName 5) bNil))) bNil))) (sSeq (sSet 6 (eCall (m__law_least cA) (aCons (e1 lstT (e2 nCat (e1 seqN (nLst (aCons (eV 1) aNil))) (e1 seqN (nLc [7] (e1 itemsT (e1 lstT (nSl (eVS 0) (oSome (e2 addT (eV 3) (eC (.int 1)))) (oSome (e2 addT (eV 3) (eC (.int 2))))))) (bName 7) cYes (e2 ixT (eVS 7) (eC (.int 0))))))) aNil)))
  (sIf (e1 boolT (eCall (m__law_is_below cA) (aCons (eV 4) (aCons (eV 6) aNil)))) (sApp 2 (eCall (m__law_times cA) (aCons (eV 5) (aCons (eCall (m__law_less cA) (aCons (eV 6) (aCons (eV 4) aNil))) aNil)))) sNext)))
  (sFz 2 (sRet (eCall (m__law_total cA) (aCons (eV 2) aNil))))))
def m__law_come (cA : Str → Addr) : List T → M T := fnM false 8 (G__law_come cA)
theorem sc__law_come : FnScope ["_law_comers_here", "_law_moment", "_law_found", "_law_at", "_law_begin", "_law_rate", "_law_last", "_law_pair"] ["_law_comers_here", "_law_moment"] (defScope s__law_come) := ⟨rfl, rfl, rfl, by decide +kernel, rfl, by decide +kernel, by decide +kernel⟩
theorem ok__law_come : FnOk P w K mg base (L2.CX P w) 5 Y.a__law_come Y.d__law_come ["_law_comers_here", "_law_moment"] (spD K Y.Xc false 2 (m__law_come Y.cA)) := by
  have h := (fn_deep (P := P) (w := w) (mg := mg) (base := base) (Xc := Y.Xc) (st := false) (np := 2) (k := 4) Y.F__law_come sc__law_come rfl fun cdv A outer s H E F0 S0 hr =>
  (dss_cons (ds_own (i := 2) sc__law_come.nd rfl (Or.inl rfl) (dn_lst da_nil))
  (dss_cons (ds_for (passes_of rfl) rfl (di_enumB Y.n_enumerate (da_cons (de_var 0 (pv 0)) da_nil)) (dg_tup rfl (dgs_cons (dg_name (i := 3) sc__law_come.nd rfl (Or.inl rfl)) (dgs_cons (dg_tup rfl (dgs_cons (dg_name (i := 4) sc__law_come.nd rfl (Or.inl rfl)) (dgs_cons (dg_name (i := 5) sc__law_come.nd rfl (Or.inl rfl)) dgs_nil)) (bCons_len (bCons_len bNil_len))) dgs_nil)) (bCons_len (bCons_len bNil_len))) (dss_cons (ds_set (i := 6) sc__law_come.nd rfl (Or.inl rfl) (de_call (ok__law_least Y) (hr.mono (by omega)) (takes_of rfl rfl rfl rfl) Y.mg__law_least Y.F__law_least.kp Y.b__law_least (da_cons (de_dn (dn_cat (dl_dn (dn_lst (da_cons (de_var 1 (pv 1)) da_nil))) (dl_dn (dn_lc (own := [("_law_pair", 7)]) rfl sc__law_come.nd (di_seq (de_dn (dn_slice (dl_var 0 (pv 0)) (do_some (de_add (de_var 3 (pv 3)) de_int)) (do_some (de_add (de_var 3 (pv 3)) de_int))))) (blkOk_by (own := [("_law_pair", 7)]) (N := ["_law_comers_here", "_law_moment", "_law_found", "_law_at", "_law_begin", "_law_rate", "_law_last", "_law_pair"]) (sc := defScope s__law_come) (by decide +kernel)) (fun _ _ _ _ _ => (dg_name (i := 7) sc__law_come.nd rfl (Or.inl rfl))) (fun _ _ _ _ _ => dts_nil) (fun _ _ _ _ _ => (de_ix (dl_var 7 (pv 7)) de_int)))))) da_nil) (aCons_len aNil_len)))
  (dss_one (ds_if (dt_val (de_call (ok__law_is_below Y) (hr.mono (by omega)) (takes_of rfl rfl rfl rfl) Y.mg__law_is_below Y.F__law_is_below.kp Y.b__law_is_below (da_cons (de_var 4 (pv 4)) (da_cons (de_var 6 (pv 6)) da_nil)) (aCons_len (aCons_len aNil_len)))) (dss_one (ds_append (pv 2) (de_call (ok__law_times Y) (hr.mono (by omega)) (takes_of rfl rfl rfl rfl) Y.mg__law_times Y.F__law_times.kp Y.b__law_times (da_cons (de_var 5 (pv 5)) (da_cons (de_call (ok__law_less Y) (hr.mono (by omega)) (takes_of rfl rfl rfl rfl) Y.mg__law_less Y.F__law_less.kp Y.b__law_less (da_cons (de_var 6 (pv 6)) (da_cons (de_var 4 (pv 4)) da_nil)) (aCons_len (aCons_len aNil_len))) da_nil)) (aCons_len (aCons_len aNil_len))))) dss_nil))))
  (dss_fz 2 (dss_one (ds_ret (de_call (ok__law_total Y) (hr.mono (by omega)) (takes_of rfl rfl rfl rfl) Y.mg__law_total Y.F__law_total.kp Y.b__law_total (da_cons (de_var 2 (pv 2)) da_nil) (aCons_len aNil_len))))))))
  exact h
/-! _law_split -/
abbrev s__law_split : Stmt := top 45
def G__law_split (cA : Str → Addr) : Env' → M Fl :=
  (sSeq (sOwn 2 (nLst aNil))
  (sSeq (sFor (e1 enumB (aCons (eV 1) aNil)) (bTup (bCons (bName 3) (bCons (bTup (bCons (bName 4) (bCons (bName 5) bNil))) bNil))) (sSeq (sApp 2 (eTup (aCons (eV 4) (aCons (eV 5) aNil))))
  (sIf (eAnd (e1 boolT (e2 ltT (e2 addT (eV 3) (eC (.int 1))) (e1 lenT (eVS 1)))) (e1 boolT (e2 eqT (eCallS 0 (m__law_draw cA) (aCons (eC (.int 2)) aNil)) (eC (.int 0))))) (sSeq (sSet 6 (eCall (m__law_times cA) (aCons (eCall (m__law_plus cA) (aCons (eV 4) (aCons (e2 ixT (e1 seqT (e2 ixT (eVS 1) (e2 addT (eV 3) (eC (.int 1))))) (eC (.int 0))) aNil))) (aCons (eTup (aCons (eC (.int 1)) (aCons (eC (.int 2)) aNil))) aNil))))
  (sApp 2 (eTup (aCons (eV 6) (aCons (eV 5) aNil))))) sNext)))
  (sRet (e1 lstT (e2 nCat (eVS 2) (e1 seqN (nLst (aCons (eTup (aCons (eCall (m__law_plus cA) (aCons (e2 ixT (e1 seqT (e2 ixT (eVS 2) (e1 negT (eC (.int 1))))) (eC (.int 0))) (aCons (eTup (aCons (e2 addT (eC (.int 1)) (eCallS 0 (m__law_draw cA) (aCons (eC (.int 4)) aNil))) (aCons (eC (.int 1)) aNil))) aNil))) (aCons (e2 ixT (e1 seqT (e2 ixT (eVS 2) (e1 negT (eC (.int 1))))) (eC (.int 1))) aNil))) aNil))))))))
def m__law_split (cA : Str → Addr) : List T → M T := fnM true 7 (G__law_split cA)
theorem sc__law_split : FnScope ["_law_stream_here", "_law_comers_here", "_law_found", "_law_at", "_law_begin", "_law_rate", "_law_middle"] ["_law_stream_here", "_law_comers_here"] (defScope s__law_split) := ⟨rfl, rfl, rfl, by decide +kernel, rfl, by decide +kernel, by decide +kernel⟩
theorem ok__law_split : FnOk P w K mg base (L2.CX P w) 4 Y.a__law_split Y.d__law_split ["_law_stream_here", "_law_comers_here"] (spD K Y.Xc true 1 (m__law_split Y.cA)) := by
  have h := (fn_deep (P := P) (w := w) (mg := mg) (base := base) (Xc := Y.Xc) (st := true) (np := 1) (k := 3) Y.F__law_split sc__law_split rfl fun cdv A outer s H E F0 S0 hr =>
  (dss_cons (ds_own (i := 2) sc__law_split.nd rfl (Or.inl rfl) (dn_lst da_nil))
  (dss_cons (ds_for (passes_of rfl) rfl (di_enumB Y.n_enumerate (da_cons (de_var 1 (pv 1)) da_nil)) (dg_tup rfl (dgs_cons (dg_name (i := 3) sc__law_split.nd rfl (Or.inl rfl)) (dgs_cons (dg_tup rfl (dgs_cons (dg_name (i := 4) sc__law_split.nd rfl (Or.inl rfl)) (dgs_cons (dg_name (i := 5) sc__law_split.nd rfl (Or.inl rfl)) dgs_nil)) (bCons_len (bCons_len bNil_len))) dgs_nil)) (bCons_len (bCons_len bNil_len))) (dss_cons (ds_append (pv 2) (de_tup (da_cons (de_var 4 (pv 4)) (da_cons (de_var 5 (pv 5)) da_nil))))
  (dss_one (ds_if (dt_w (dw_and (dt_lt (de_add (de_var 3 (pv 3)) de_int) (de_len rfl Y.n_len (by decide +kernel) (dl_var 1 (pv 1)))) (dw_and1 (dt_eq hr (de_callS (i := 0) (ok__law_draw Y) (hr.mono (by omega)) (takes_of rfl rfl rfl rfl) Y.mg__law_draw Y.F__law_draw.kp Y.b__law_draw (pv 0) (da_cons de_int da_nil) (aCons_len aNil_len)) de_int)))) (dss_cons (ds_set (i := 6) sc__law_split.nd rfl (Or.inl rfl) (de_call (ok__law_times Y) (hr.mono (by omega)) (takes_of rfl rfl rfl rfl) Y.mg__law_times Y.F__law_times.kp Y.b__law_times (da_cons (de_call (ok__law_plus Y) (hr.mono (by omega)) (takes_of rfl rfl rfl rfl) Y.mg__law_plus Y.F__law_plus.kp Y.b__law_plus (da_cons (de_var 4 (pv 4)) (da_cons (de_ix (dl_de (de_ix (dl_var 1 (pv 1)) (de_add (de_var 3 (pv 3)) de_int))) de_int) da_nil)) (aCons_len (aCons_len aNil_len))) (da_cons (de_tup (da_cons de_int (da_cons de_int da_nil))) da_nil)) (aCons_len (aCons_len aNil_len))))
  (dss_one (ds_append (pv 2) (de_tup (da_cons (de_var 6 (pv 6)) (da_cons (de_var 5 (pv 5)) da_nil)))))) dss_nil))))
  (dss_one (ds_ret (de_dn (dn_cat (dl_var 2 (pv 2)) (dl_dn (dn_lst (da_cons (de_tup (da_cons (de_call (ok__law_plus Y) (hr.mono (by omega)) (takes_of rfl rfl rfl rfl) Y.mg__law_plus Y.F__law_plus.kp Y.b__law_plus (da_cons (de_ix (dl_de (de_ix (dl_var 2 (pv 2)) (de_neg de_int))) de_int) (da_cons (de_tup (da_cons (de_add de_int (de_callS (i := 0) (ok__law_draw Y) (hr.mono (by omega)) (takes_of rfl rfl rfl rfl) Y.mg__law_draw Y.F__law_draw.kp Y.b__law_draw (pv 0) (da_cons de_int da_nil) (aCons_len aNil_len))) (da_cons de_int da_nil))) da_nil)) (aCons_len (aCons_len aNil_len))) (da_cons (de_ix (dl_de (de_ix (dl_var 2 (pv 2)) (de_neg de_int))) de_int) da_nil))) da_nil))))))))))
  exact h
end
end Tw
end
section
set_option Elab.async false
set_option linter.all false
set_option maxRecDepth 100000
set_option maxHeartbeats 0
namespace Tw
open PySem PySem.Spec PyProof.Rows L2 DP

section
variable {P : Program} {w : World} {K : KF} {mg : Str → Option Value} {base : Heap} (Y : Tx K mg)
/-! _law_odds -/
abbrev s__law_odds : Stmt := top 46
def G__law_odds (cA : Str → Addr) : Env' → M Fl :=
  (sSeq (sOwn 2 (nLst (aCons (eC .non) (aCons (eC (.int 5)) (aCons (eC (.str "ab")) (aCons (eTup aNil) (aCons (eTup (aCons (eTup (aCons (eC (.int 0)) (aCons (eC (.int 1)) aNil))) aNil)) (aCons (eTup (aCons (eTup (aCons (eC (.int 0)) (aCons (eC (.int 1)) aNil))) (aCons (eTup (aCons (eC (.int 1)) (aCons (eC (.int 1)) aNil))) (aCons (eTup (aCons (eC (.int 1)) (aCons (eC (.int 1)) aNil))) aNil)))) (aCons (eC (.dct [])) (aCons (eC (.bl true)) (aCons (eTup (aCons (eC (.int 0)) (aCons (eC (.int 1)) aNil))) (aCons (eTup (aCons (eTup (aCons (eC (.int 0)) (aCons (eC (.int 1)) aNil))) (aCons (eC (.int 1)) aNil))) (aCons (eTup (aCons (eTup (aCons (eC (.int 0)) (aCons (eC (.int 1)) aNil))) (aCons (eTup (aCons (e1 negT (eC (.int 1))) (aCons (eC (.int 2)) aNil))) aNil))) aNil)))))))))))))
  (sSeq (sExt 2 (e1 seqN (nLst (aCons (eTup (aCons (eTup (aCons (eC (.int 0)) (aCons (eC (.int 1)) aNil))) (aCons (eTup (aCons (eC (.int 1)) (aCons (eC (.int 0)) aNil))) aNil))) (aCons (eTup (aCons (eTup (aCons (eC (.int 0)) (aCons (eC (.int 1)) aNil))) (aCons (eTup (aCons (eC (.bl true)) (aCons (eC (.int 1)) aNil))) aNil))) (aCons (eTup (aCons (eTup (aCons (eC (.int 0)) (aCons (eC (.int 1)) aNil))) (aCons (eTup (aCons (eC (.str "1")) (aCons (eC (.int 1)) aNil))) aNil))) (aCons (eTup (aCons (eTup (aCons (eC (.int 0)) (aCons (eC (.int 1)) aNil))) (aCons (eTup (aCons (eC (.int 1)) (aCons (eC (.int 1)) (aCons (eC (.int 1)) aNil)))) aNil))) (aCons (eTup (aCons (eTup (aCons (eC (.int 0)) (aCons (eC (.int 0)) aNil))) (aCons (eTup (aCons (eC (.int 1)) (aCons (eC (.int 1)) aNil))) aNil))) aNil))))))))
  (sSeq (sExt 2 (e1 seqN (nLst (aCons (eTup (aCons (eTup (aCons (e1 negT (eC (.int 1))) (aCons (eC (.int 1)) aNil))) (aCons (eTup (aCons (eC (.int 1)) (aCons (eC (.int 1)) aNil))) aNil))) (aCons (eTup (aCons (eTup (aCons (eC (.int 0)) (aCons (eC (.bl true)) aNil))) (aCons (eTup (aCons (eC (.int 1)) (aCons (eC (.int 1)) aNil))) aNil))) (aCons (eTup (aCons (e1 lstT (nLst (aCons (eC (.int 0)) (aCons (eC (.int 1)) aNil)))) (aCons (eC .non) aNil))) aNil))))))
  (sSeq (sExt 2 (e1 seqT (eIf (e1 boolT (e2 gtT (eV 1) (eC (.int 0)))) (e1 lstT (nLst (aCons (eTup (aCons (eTup (aCons (eC (.int 0)) (aCons (eC (.int 5)) aNil))) (aCons (eTup (aCons (eC (.int 1)) (aCons (eC (.int 1)) aNil))) aNil))) aNil))) (e1 lstT (nLst (aCons (eTup (aCons (eTup (aCons (eC (.int 1)) (aCons (eC (.int 7)) aNil))) (aCons (eTup (aCons (eC (.int 1)) (aCons (eC (.int 1)) aNil))) aNil))) (aCons (eTup (aCons (eTup (aCons (eC (.int 2)) (aCons (eC (.int 1)) aNil))) (aCons (eTup (aCons (eC (.int 1)) (aCons (eC (.int 1)) aNil))) aNil))) aNil)))))))
  (sFz 2 (sRet (eIf (e1 boolT (e2 gtT (eV 1) (eC (.int 0)))) (e1 lstT (e2 nCat (eVS 2) (e1 seqN (nLst (aCons (eTup (aCons (e2 ixT (e1 seqT (e2 ixT (eVS 0) (e2 subT (eV 1) (eC (.int 1))))) (eC (.int 0))) (aCons (eTup (aCons (eC (.int 77)) (aCons (eC (.int 1)) aNil))) aNil))) aNil))))) (eV 2))))))))
def m__law_odds (cA : Str → Addr) : List T → M T := fnM false 3 (G__law_odds cA)
theorem sc__law_odds : FnScope ["_law_comers_here", "_law_at", "_law_found"] ["_law_comers_here", "_law_at"] (defScope s__law_odds) := ⟨rfl, rfl, rfl, by decide +kernel, rfl, by decide +kernel, by decide +kernel⟩
theorem ok__law_odds : FnOk P w K mg base (L2.CX P w) 1 Y.a__law_odds Y.d__law_odds ["_law_comers_here", "_law_at"] (spD K Y.Xc false 2 (m__law_odds Y.cA)) := by
  have h := (fn_deep (P := P) (w := w) (mg := mg) (base := base) (Xc := Y.Xc) (st := false) (np := 2) (k := 0) Y.F__law_odds sc__law_odds rfl fun cdv A outer s H E F0 S0 hr =>
  (dss_cons (ds_own (i := 2) sc__law_odds.nd rfl (Or.inl rfl) (dn_lst (da_cons de_non (da_cons de_int (da_cons de_str (da_cons (de_tup da_nil) (da_cons (de_tup (da_cons (de_tup (da_cons de_int (da_cons de_int da_nil))) da_nil)) (da_cons (de_tup (da_cons (de_tup (da_cons de_int (da_cons de_int da_nil))) (da_cons (de_tup (da_cons de_int (da_cons de_int da_nil))) (da_cons (de_tup (da_cons de_int (da_cons de_int da_nil))) da_nil)))) (da_cons de_dict0 (da_cons de_bl (da_cons (de_tup (da_cons de_int (da_cons de_int da_nil))) (da_cons (de_tup (da_cons (de_tup (da_cons de_int (da_cons de_int da_nil))) (da_cons de_int da_nil))) (da_cons (de_tup (da_cons (de_tup (da_cons de_int (da_cons de_int da_nil))) (da_cons (de_tup (da_cons (de_neg de_int) (da_cons de_int da_nil))) da_nil))) da_nil)))))))))))))
  (dss_cons (ds_extend (pv 2) (dl_dn (dn_lst (da_cons (de_tup (da_cons (de_tup (da_cons de_int (da_cons de_int da_nil))) (da_cons (de_tup (da_cons de_int (da_cons de_int da_nil))) da_nil))) (da_cons (de_tup (da_cons (de_tup (da_cons de_int (da_cons de_int da_nil))) (da_cons (de_tup (da_cons de_bl (da_cons de_int da_nil))) da_nil))) (da_cons (de_tup (da_cons (de_tup (da_cons de_int (da_cons de_int da_nil))) (da_cons (de_tup (da_cons de_str (da_cons de_int da_nil))) da_nil))) (da_cons (de_tup (da_cons (de_tup (da_cons de_int (da_cons de_int da_nil))) (da_cons (de_tup (da_cons de_int (da_cons de_int (da_cons de_int da_nil)))) da_nil))) (da_cons (de_tup (da_cons (de_tup (da_cons de_int (da_cons de_int da_nil))) (da_cons (de_tup (da_cons de_int (da_cons de_int da_nil))) da_nil))) da_nil))))))))
  (dss_cons (ds_extend (pv 2) (dl_dn (dn_lst (da_cons (de_tup (da_cons (de_tup (da_cons (de_neg de_int) (da_cons de_int da_nil))) (da_cons (de_tup (da_cons de_int (da_cons de_int da_nil))) da_nil))) (da_cons (de_tup (da_cons (de_tup (da_cons de_int (da_cons de_bl da_nil))) (da_cons (de_tup (da_cons de_int (da_cons de_int da_nil))) da_nil))) (da_cons (de_tup (da_cons (de_dn (dn_lst (da_cons de_int (da_cons de_int da_nil)))) (da_cons de_non da_nil))) da_nil))))))
  (dss_cons (ds_extend (pv 2) (dl_de (de_if (dt_gt (de_var 1 (pv 1)) de_int) (de_dn (dn_lst (da_cons (de_tup (da_cons (de_tup (da_cons de_int (da_cons de_int da_nil))) (da_cons (de_tup (da_cons de_int (da_cons de_int da_nil))) da_nil))) da_nil))) (de_dn (dn_lst (da_cons (de_tup (da_cons (de_tup (da_cons de_int (da_cons de_int da_nil))) (da_cons (de_tup (da_cons de_int (da_cons de_int da_nil))) da_nil))) (da_cons (de_tup (da_cons (de_tup (da_cons de_int (da_cons de_int da_nil))) (da_cons (de_tup (da_cons de_int (da_cons de_int da_nil))) da_nil))) da_nil)))))))
  (dss_fz 2 (dss_one (ds_ret (de_if (dt_gt (de_var 1 (pv 1)) de_int) (de_dn (dn_cat (dl_var 2 (pv 2)) (dl_dn (dn_lst (da_cons (de_tup (da_cons (de_ix (dl_de (de_ix (dl_var 0 (pv 0)) (de_sub (de_var 1 (pv 1)) de_int))) de_int) (da_cons (de_tup (da_cons de_int (da_cons de_int da_nil))) da_nil))) da_nil))))) (de_var 2 (pv 2)))))))))))
  exact h
/-! _law_tried -/
abbrev s__law_tried : Stmt := top 43
theorem sc__law_tried : FnScope ["_law_ask", "e"] ["_law_ask"] (defScope s__law_tried) := ⟨rfl, rfl, rfl, by decide +kernel, rfl, by decide +kernel, by decide +kernel⟩
end
end Tw
end
section
set_option Elab.async false
set_option linter.all false
set_option maxRecDepth 100000
set_option maxHeartbeats 0
namespace Tw
open PySem PySem.Spec PyProof.Rows L2 DP

section
variable {P : Program} {w : World} {K : KF} {mg : Str → Option Value} {base : Heap} (Y : Tx K mg)
/-! law -/
abbrev s_law : Stmt := top 47
noncomputable def G_law (cA : Str → Addr) : Env' → M Fl :=
  (sSeq (sFor (e1 rng1 (aCons (eC (.int 6)) aNil)) (bName 2) (sSeq (sSet 3 (eCallS 1 (m__law_comers cA) (aCons (eC (.int 6)) aNil)))
  (sSeq (sParN [4, 5] (pCons (eCallS 1 (m__law_raw_comers cA) (aCons (eV 3) aNil)) (pCons (eCallS 1 (m__law_split cA) (aCons (eV 3) aNil)) pNil)))
  (sSeq (sSet 6 (e1 reprT (aCons (eV 4) aNil)))
  (sSeq (sOwn 7 (nLc [19] (e1 itemsT (eV 3)) (bName 19) cYes (e2 ixT (eVS 19) (eC (.int 0)))))
  (sSeq (sExt 7 (e1 seqN (nLc [20] (e1 rng1 (aCons (eC (.int 4)) aNil)) (bName 20) cYes (eCall (m__law_low cA) (aCons (eCallS 1 (m__law_draw cA) (aCons (eC (.int 200)) aNil)) (aCons (e2 addT (eC (.int 1)) (eCallS 1 (m__law_draw cA) (aCons (eC (.int 4)) aNil))) aNil))))))
  (sFz 7 (sSeq (sFor (e1 itemsT (eV 7)) (bName 8) (sSeq (sSet 9 (e1 lstT (nLst (aCons (eCall (m__law_rate_at cA) (aCons (eV 3) (aCons (eV 8) aNil))) (aCons (eCall (m__law_come cA) (aCons (eV 3) (aCons (eV 8) aNil))) aNil)))))
  (sSeq (sSet 10 (eCallS 1 (m__law_raw cA) (aCons (eV 8) aNil)))
  (sSeq (sOwn 11 (nLst (aCons (eCall (m_rate_at cA) (aCons (eV 4) (aCons (eV 10) aNil))) (aCons (eCall (m_come_by cA) (aCons (eV 4) (aCons (eV 10) aNil))) aNil))))
  (sSeq (sSet 12 (e1 lstT (nLst (aCons (eCallK swp (m_rate_at cA) (aCons (eV 8) (aCons (eV 5) aNil))) (aCons (eCallK swp (m_come_by cA) (aCons (eV 8) (aCons (eV 5) aNil))) aNil)))))
  (sFz 11 (sIf (eOr (eNot (e1 boolT (eCall (m__law_same cA 40) (aCons (eV 11) (aCons (eV 9) aNil))))) (eOr (eNot (e1 boolT (eCall (m__law_same cA 40) (aCons (eV 12) (aCons (eV 9) aNil))))) (e1 boolT (e2 neT (e1 reprT (aCons (eV 4) aNil)) (eV 6))))) (sRet (eC (.bl false))) sNext)))))))
  (sSeq (sFor (e1 itemsT (e1 lstT (nLst (aCons (eC .non) (aCons (eC (.int 5)) (aCons (eTup (aCons (eC (.int 1)) aNil)) (aCons (eTup (aCons (eC (.int 1)) (aCons (eC (.int 0)) aNil))) (aCons (eTup (aCons (e1 negT (eC (.int 1))) (aCons (eC (.int 1)) aNil))) (aCons (eTup (aCons (eC (.int 1)) (aCons (eC (.int 1)) (aCons (eC (.int 1)) aNil)))) (aCons (eC (.bl true)) (aCons (eC (.str "1")) (aCons (eTup (aCons (eC (.bl true)) (aCons (eC (.int 1)) aNil))) (aCons (eTup (aCons (eC (.int 1)) (aCons (eC (.bl true)) aNil))) (aCons (eC (.dct [])) (aCons (e1 lstT (nLst aNil)) (aCons (eTup (aCons (eTup (aCons (eC (.int 0)) (aCons (eC (.int 1)) aNil))) (aCons (eC (.int 1)) aNil))) aNil)))))))))))))))) (bName 13) (sFor (e1 itemsT (eTup (aCons (eC (.fn (cA "rate_at"))) (aCons (eC (.fn (cA "come_by"))) aNil)))) (bName 14) (sIf (eNot (e1 boolT (eCall (m__law_same cA 40) (aCons (eTried "told" [("BadComers", "comers"), ("BadMoment", "moment")] (eCallV 14 (cA "rate_at") (m_rate_at cA) (cA "come_by") (m_come_by cA) (aCons (eV 4) (aCons (eV 13) aNil)))) (aCons (eTup (aCons (eC (.str "moment")) (aCons (eV 13) aNil))) aNil))))) (sRet (eC (.bl false))) sNext)))
  (sSeq (sSet 15 (eCallS 1 (m__law_draw cA) (aCons (e2 addT (e1 lenT (eVS 3)) (eC (.int 1))) aNil)))
  (sSeq (sFor (e1 itemsT (eCall (m__law_odds cA) (aCons (eV 3) (aCons (eV 15) aNil)))) (bName 13) (sSeq (sSet 16 (e1 lstT (e2 nCat (e1 seqN (e2 nCat (e1 seqN (nSl (eVS 3) oNone (oSome (eV 15)))) (e1 seqN (nLst (aCons (eV 13) (aCons (eC .non) aNil)))))) (e1 seqN (nSl (eVS 3) (oSome (eV 15)) oNone)))))
  (sSeq (sSet 16 (eIf (e1 boolT (e2 eqT (eCallS 1 (m__law_draw cA) (aCons (eC (.int 2)) aNil)) (eC (.int 0)))) (eV 16) (e1 tupT (eVS 16))))
  (sFor (e1 itemsT (eTup (aCons (eC (.fn (cA "rate_at"))) (aCons (eC (.fn (cA "come_by"))) aNil)))) (bName 14) (sIf (eNot (e1 boolT (eCall (m__law_same cA 40) (aCons (eTried "told" [("BadComers", "comers"), ("BadMoment", "moment")] (eCallV 14 (cA "rate_at") (m_rate_at cA) (cA "come_by") (m_come_by cA) (aCons (eV 16) (aCons (eC .non) aNil)))) (aCons (eTup (aCons (eC (.str "comers")) (aCons (eV 15) aNil))) aNil))))) (sRet (eC (.bl false))) sNext)))))
  (sSeq (sSet 17 (eCallS 1 (m__law_split cA) (aCons (eV 3) aNil)))
  (sSeq (sSet 15 (e2 addT (eC (.int 1)) (eCallS 1 (m__law_draw cA) (aCons (e1 lenT (eVS 17)) aNil))))
  (sSeq (sFor (e1 itemsT (eTup (aCons (eC .non) (aCons (eTup (aCons (e2 ixT (e1 seqT (e2 ixT (eVS 17) (e2 subT (eV 15) (eC (.int 1))))) (eC (.int 0))) (aCons (eTup (aCons (eC (.int 77)) (aCons (eC (.int 1)) aNil))) aNil))) aNil)))) (bName 13) (sSeq (sSet 16 (e1 lstT (e2 nCat (e1 seqN (e2 nCat (e1 seqN (nSl (eVS 17) oNone (oSome (eV 15)))) (e1 seqN (nLst (aCons (eV 13) aNil))))) (e1 seqN (nSl (eVS 17) (oSome (eV 15)) oNone)))))
  (sFor (e1 itemsT (eTup (aCons (eC (.fn (cA "rate_at"))) (aCons (eC (.fn (cA "come_by"))) aNil)))) (bName 14) (sIf (eNot (e1 boolT (eCall (m__law_same cA 40) (aCons (eTried "told" [("BadComers", "comers"), ("BadMoment", "moment")] (eCallV 14 (cA "rate_at") (m_rate_at cA) (cA "come_by") (m_come_by cA) (aCons (eV 16) (aCons (eC .non) aNil)))) (aCons (eTup (aCons (eC (.str "comers")) (aCons (eV 15) aNil))) aNil))))) (sRet (eC (.bl false))) sNext))))
  (sSeq (sFor (e1 itemsT (e1 lstT (nLst (aCons (eC .non) (aCons (eC (.int 5)) (aCons (eC (.str "ab")) (aCons (eC (.dct [])) (aCons (eC (.bl true)) (aCons (e1 lstT (nLst aNil)) (aCons (eTup aNil) (aCons (eC (.fn (cA "_law_draw"))) aNil))))))))))) (bName 13) (sSeq (sOwn 11 (nLst (aCons (eTried "told" [("BadComers", "comers"), ("BadMoment", "moment")] (eCall (m_rate_at cA) (aCons (eV 13) (aCons (eC .non) aNil)))) aNil)))
  (sSeq (sApp 11 (eTried "told" [("BadComers", "comers"), ("BadMoment", "moment")] (eCall (m_come_by cA) (aCons (eV 13) (aCons (eC .non) aNil)))))
  (sFz 11 (sIf (e1 boolT (e2 neT (eV 11) (e1 lstT (e2 nRep (e1 seqN (nLst (aCons (eTup (aCons (eC (.str "comers")) (aCons (eC (.int 0)) aNil))) aNil))) (eC (.int 2)))))) (sRet (eC (.bl false))) sNext)))))
  (sSeq (sOwn 18 (nLst (aCons (eC (.int 1)) (aCons (e1 negT (eC (.int 1))) aNil))))
  (sSeq (sHeld 18 11 (eTried "told" [("BadComers", "comers"), ("BadMoment", "moment")] (eCall (m_rate_at cA) (aCons (eV 3) (aCons (eV 18) aNil)))) "moment" "late")
  (sFz 11 (sIf (eNot (e1 boolT (eCall (m__law_same cA 40) (aCons (eV 11) (aCons (eTup (aCons (eC (.str "moment")) (aCons (e1 lstT (nLst (aCons (eC (.int 1)) (aCons (e1 negT (eC (.int 1))) (aCons (eC (.str "late")) aNil))))) aNil))) aNil))))) (sRet (eC (.bl false))) sNext)))))))))))))))))))
  (sRet (eC (.bl true))))
theorem sc_law : FnScope ["_law_script", "_law_stream_here", "_law_turn", "_law_comers_here", "_law_given", "_law_split_here", "_law_was", "_law_some", "_law_moment", "_law_due", "_law_raw_here", "_law_found", "_law_other", "_law_odd", "_law_ask", "_law_at", "_law_bad", "_law_rows", "_law_held", "_law_pair", "_law_k"] ["_law_script"] (defScope s_law) := ⟨rfl, rfl, rfl, by decide +kernel, rfl, by decide +kernel, by decide +kernel⟩
theorem ps_law {cL PL : Addr} (TB : LamX.TabB base mg cL PL) (s : Shared) (H : Hp) (E : XK) (hr : Room 44 (callerA.deeper (envOfC "law" (defScope s_law) s.heap.objs.size Y.a_law (.ref cL)))) : PS (cxOf (L2.CX P w) P w K mg base ["_law_script", "_law_stream_here", "_law_turn", "_law_comers_here", "_law_given", "_law_split_here", "_law_was", "_law_some", "_law_moment", "_law_due", "_law_raw_here", "_law_found", "_law_other", "_law_odd", "_law_ask", "_law_at", "_law_bad", "_law_rows", "_law_held", "_law_pair", "_law_k"] "law" (defScope s_law) Y.a_law (.ref cL) callerA [] s H E) ((defBody s_law).headD (.Pass ⟨0, 0, 0, 0⟩)) (tAsg (tCall (spStream K) [] E0 (tCons (tVar 0) tNil)) (gName 1)) :=
  ps_set (i := 1) sc_law.nd rfl (Or.inr rfl) (pe_call (ok__law_stream Y) (hr.mono (by omega)) rfl Y.mg__law_stream Y.F__law_stream.kp Y.b__law_stream .nil passL (pa_cons (pv 0) pa_nil))
theorem ds_law {cL PL : Addr} (TB : LamX.TabB base mg cL PL) (s : Shared) (H : Hp) (E : XK) (H0 : Hp) (S0 : Option (Addr × Addr)) (hr : Room 44 (callerA.deeper (envOfC "law" (defScope s_law) s.heap.objs.size Y.a_law (.ref cL)))) : DSs (cxOf (L2.CX P w) P w K mg base ["_law_script", "_law_stream_here", "_law_turn", "_law_comers_here", "_law_given", "_law_split_here", "_law_was", "_law_some", "_law_moment", "_law_due", "_law_raw_here", "_law_found", "_law_other", "_law_odd", "_law_ask", "_law_at", "_law_bad", "_law_rows", "_law_held", "_law_pair", "_law_k"] "law" (defScope s_law) Y.a_law (.ref cL) callerA [] s H E) ⟨K, H0, fun _ => none, S0, Y.Xc, none, SetTO P w, [(PL, ("law" : Str) ++ ".<locals>." ++ "<lambda>")]⟩ (fun cls d _ H => E cls d H) (defBody s_law).tail (G_law Y.cA) :=
  have hG : (cxOf (L2.CX P w) P w K mg base ["_law_script", "_law_stream_here", "_law_turn", "_law_comers_here", "_law_given", "_law_split_here", "_law_was", "_law_some", "_law_moment", "_law_due", "_law_raw_here", "_law_found", "_law_other", "_law_odd", "_law_ask", "_law_at", "_law_bad", "_law_rows", "_law_held", "_law_pair", "_law_k"] "law" (defScope s_law) Y.a_law (.ref cL) callerA [] s H E).A.guards = some [] := rfl
  (dss_cons (ds_for (passes_of rfl) rfl (di_range1 Y.n_range (da_cons de_int da_nil)) (dg_name (i := 2) sc_law.nd rfl (Or.inl rfl)) (dss_cons (ds_set (i := 3) sc_law.nd rfl (Or.inr rfl) (de_callS (i := 1) (ok__law_comers Y) (hr.mono (by omega)) (takes_of rfl rfl rfl rfl) Y.mg__law_comers Y.F__law_comers.kp Y.b__law_comers (pv 1) (da_cons de_int da_nil) (aCons_len aNil_len)))
  (dss_cons (ds_parN rfl (dp_cons (de_callS (i := 1) (ok__law_raw_comers Y) (hr.mono (by omega)) (takes_of rfl rfl rfl rfl) Y.mg__law_raw_comers Y.F__law_raw_comers.kp Y.b__law_raw_comers (pv 1) (da_cons (de_var 3 (pv 3)) da_nil) (aCons_len aNil_len)) (dp_cons (de_callS (i := 1) (ok__law_split Y) (hr.mono (by omega)) (takes_of rfl rfl rfl rfl) Y.mg__law_split Y.F__law_split.kp Y.b__law_split (pv 1) (da_cons (de_var 3 (pv 3)) da_nil) (aCons_len aNil_len)) dp_nil)) (dgp_cons (i := 4) sc_law.nd rfl (Or.inr rfl) (dgp_cons (i := 5) sc_law.nd rfl (Or.inl rfl) dgp_nil)))
  (dss_cons (ds_set (i := 6) sc_law.nd rfl (Or.inl rfl) (de_repr hG hr Y.n_repr (da_cons (de_var 4 (pv 4)) da_nil)))
  (dss_cons (ds_ownLc (lc_set (i := 7) (own := [("_law_pair", 19)]) rfl sc_law.nd rfl rfl (sw_true rfl rfl rfl (by decide +kernel)) (di_seq (de_var 3 (pv 3))) (blkOk_by (own := [("_law_pair", 19)]) (N := ["_law_script", "_law_stream_here", "_law_turn", "_law_comers_here", "_law_given", "_law_split_here", "_law_was", "_law_some", "_law_moment", "_law_due", "_law_raw_here", "_law_found", "_law_other", "_law_odd", "_law_ask", "_law_at", "_law_bad", "_law_rows", "_law_held", "_law_pair", "_law_k"]) (sc := defScope s_law) (by decide +kernel)) (fun _ _ _ _ _ => (dg_name (i := 19) sc_law.nd rfl (Or.inl rfl))) (fun _ _ _ _ _ => dts_nil) (fun _ _ _ _ _ => (de_ix (dl_var 19 (pv 19)) de_int))))
  (dss_cons (ds_extend (pv 7) (dl_dn (dn_lc (own := [("_law_k", 20)]) rfl sc_law.nd (di_range1 Y.n_range (da_cons de_int da_nil)) (blkOk_by (own := [("_law_k", 20)]) (N := ["_law_script", "_law_stream_here", "_law_turn", "_law_comers_here", "_law_given", "_law_split_here", "_law_was", "_law_some", "_law_moment", "_law_due", "_law_raw_here", "_law_found", "_law_other", "_law_odd", "_law_ask", "_law_at", "_law_bad", "_law_rows", "_law_held", "_law_pair", "_law_k"]) (sc := defScope s_law) (by decide +kernel)) (fun _ _ _ _ _ => (dg_name (i := 20) sc_law.nd rfl (Or.inl rfl))) (fun _ _ _ _ _ => dts_nil) (fun _ _ _ _ _ => (de_call (ok__law_low Y) (hr.mono (by omega)) takes0 Y.mg__law_low Y.F__law_low.kp Y.b__law_low (da_cons (de_callS (i := 1) (ok__law_draw Y) (hr.mono (by omega)) takes0 Y.mg__law_draw Y.F__law_draw.kp Y.b__law_draw (pv 1) (da_cons de_int da_nil) (aCons_len aNil_len)) (da_cons (de_add de_int (de_callS (i := 1) (ok__law_draw Y) (hr.mono (by omega)) takes0 Y.mg__law_draw Y.F__law_draw.kp Y.b__law_draw (pv 1) (da_cons de_int da_nil) (aCons_len aNil_len))) da_nil)) (aCons_len (aCons_len aNil_len)))))))
  (dss_fz 7 (dss_cons (ds_for (passes_of rfl) rfl (di_seq (de_var 7 (pv 7))) (dg_name (i := 8) sc_law.nd rfl (Or.inl rfl)) (dss_cons (ds_set (i := 9) sc_law.nd rfl (Or.inl rfl) (de_dn (dn_lst (da_cons (de_call (ok__law_rate_at Y) (hr.mono (by omega)) (takes_of rfl rfl rfl rfl) Y.mg__law_rate_at Y.F__law_rate_at.kp Y.b__law_rate_at (da_cons (de_var 3 (pv 3)) (da_cons (de_var 8 (pv 8)) da_nil)) (aCons_len (aCons_len aNil_len))) (da_cons (de_call (ok__law_come Y) (hr.mono (by omega)) (takes_of rfl rfl rfl rfl) Y.mg__law_come Y.F__law_come.kp Y.b__law_come (da_cons (de_var 3 (pv 3)) (da_cons (de_var 8 (pv 8)) da_nil)) (aCons_len (aCons_len aNil_len))) da_nil)))))
  (dss_cons (ds_set (i := 10) sc_law.nd rfl (Or.inl rfl) (de_callS (i := 1) (ok__law_raw Y) (hr.mono (by omega)) (takes_of rfl rfl rfl rfl) Y.mg__law_raw Y.F__law_raw.kp Y.b__law_raw (pv 1) (da_cons (de_var 8 (pv 8)) da_nil) (aCons_len aNil_len)))
  (dss_cons (ds_own (i := 11) sc_law.nd rfl (Or.inl rfl) (dn_lst (da_cons (de_call (ok_rate_at Y) (hr.mono (by omega)) (takes_of rfl rfl rfl rfl) Y.mg_rate_at Y.F_rate_at.kp Y.b_rate_at (da_cons (de_var 4 (pv 4)) (da_cons (de_var 10 (pv 10)) da_nil)) (aCons_len (aCons_len aNil_len))) (da_cons (de_call (ok_come_by Y) (hr.mono (by omega)) (takes_of rfl rfl rfl rfl) Y.mg_come_by Y.F_come_by.kp Y.b_come_by (da_cons (de_var 4 (pv 4)) (da_cons (de_var 10 (pv 10)) da_nil)) (aCons_len (aCons_len aNil_len))) da_nil))))
  (dss_cons (ds_set (i := 12) sc_law.nd rfl (Or.inl rfl) (de_dn (dn_lst (da_cons (de_callK (np := 2) (π := @swp) (ok_rate_at Y) (hr.mono (by omega)) (takes_of rfl rfl rfl rfl) Y.mg_rate_at Y.F_rate_at.kp Y.kw_rate_at (dk_cons (de_var 8 (pv 8)) (dk_cons (de_var 5 (pv 5)) dk_nil)) (aCons_len (aCons_len aNil_len)) swp_vals swp_reps fun _ h => swp_len _ h) (da_cons (de_callK (np := 2) (π := @swp) (ok_come_by Y) (hr.mono (by omega)) (takes_of rfl rfl rfl rfl) Y.mg_come_by Y.F_come_by.kp Y.kw_come_by (dk_cons (de_var 8 (pv 8)) (dk_cons (de_var 5 (pv 5)) dk_nil)) (aCons_len (aCons_len aNil_len)) swp_vals swp_reps fun _ h => swp_len _ h) da_nil)))))
  (dss_fz 11 (dss_one (ds_if (dt_w (dw_or (dt_not (dt_val (de_call (ok__law_same Y 40) (hr.mono (by omega)) (takes_of rfl rfl rfl rfl) Y.mg__law_same Y.F__law_same.kp Y.b__law_same (da_cons (de_var 11 (pv 11)) (da_cons (de_var 9 (pv 9)) da_nil)) (aCons_len (aCons_len aNil_len))))) (dw_or (dt_not (dt_val (de_call (ok__law_same Y 40) (hr.mono (by omega)) (takes_of rfl rfl rfl rfl) Y.mg__law_same Y.F__law_same.kp Y.b__law_same (da_cons (de_var 12 (pv 12)) (da_cons (de_var 9 (pv 9)) da_nil)) (aCons_len (aCons_len aNil_len))))) (dw_or1 (dt_ne hr (de_repr hG hr Y.n_repr (da_cons (de_var 4 (pv 4)) da_nil)) (de_var 6 (pv 6))))))) (dss_one (ds_ret de_bl)) dss_nil))))))))
  (dss_cons (ds_for (passes_of rfl) rfl (di_seq (de_dn (dn_lst (da_cons de_non (da_cons de_int (da_cons (de_tup (da_cons de_int da_nil)) (da_cons (de_tup (da_cons de_int (da_cons de_int da_nil))) (da_cons (de_tup (da_cons (de_neg de_int) (da_cons de_int da_nil))) (da_cons (de_tup (da_cons de_int (da_cons de_int (da_cons de_int da_nil)))) (da_cons de_bl (da_cons de_str (da_cons (de_tup (da_cons de_bl (da_cons de_int da_nil))) (da_cons (de_tup (da_cons de_int (da_cons de_bl da_nil))) (da_cons de_dict0 (da_cons (de_dn (dn_lst da_nil)) (da_cons (de_tup (da_cons (de_tup (da_cons de_int (da_cons de_int da_nil))) (da_cons de_int da_nil))) da_nil)))))))))))))))) (dg_name (i := 13) sc_law.nd rfl (Or.inr rfl)) (dss_one (ds_for (passes_of rfl) rfl (di_seq (de_tup (da_cons (de_glob (v := .ref Y.a_rate_at) Y.mg_rate_at rfl Y.fv_rate_at) (da_cons (de_glob (v := .ref Y.a_come_by) Y.mg_come_by rfl Y.fv_come_by) da_nil)))) (dg_name (i := 14) sc_law.nd rfl (Or.inr rfl)) (dss_one (ds_if (dt_not (dt_val (de_call (ok__law_same Y 40) (hr.mono (by omega)) (takes_of rfl rfl rfl rfl) Y.mg__law_same Y.F__law_same.kp Y.b__law_same (da_cons (de_tried (k := 5) (cs := [⟨"BadComers", Y.cA "BadComers", "index", "comers"⟩, ⟨"BadMoment", Y.cA "BadMoment", "thing", "moment"⟩]) (a := "_law_ask") (en := "e") (c := cL) (P := PL) Y.F__law_tried Y.b__law_tried sc__law_tried rfl (.inl rfl) rfl (fun cdv s H => (clk_cons (p := ⟨"BadComers", Y.cA "BadComers", "index", "comers"⟩) ⟨rfl, (by decide : (("BadComers" : Str) == ("__debug__" : Str)) = false), .inl Y.E_BadComers.at_⟩ (fun e o cl d pn hz hf => ck_suite (p := ⟨"BadComers", Y.cA "BadComers", "index", "comers"⟩) Y.xf_BadComers Y.E_BadComers.no hz hf (pv 1)) (clk_cons (p := ⟨"BadMoment", Y.cA "BadMoment", "thing", "moment"⟩) ⟨rfl, (by decide : (("BadMoment" : Str) == ("__debug__" : Str)) = false), .inl Y.E_BadMoment.at_⟩ (fun e o cl d pn hz hf => ck_suite (p := ⟨"BadMoment", Y.cA "BadMoment", "thing", "moment"⟩) Y.xf_BadMoment Y.E_BadMoment.no hz hf (pv 1)) clk_nil))) (cks_cons Y.X_BadComers Y.exm_BadComers (cks_o_cons Y.exm_BadComers_BadMoment Y.exm_BadMoment_BadComers (by decide : ("BadComers" : Str) ≠ "BadMoment") cks_o_nil) (cks_cons Y.X_BadMoment Y.exm_BadMoment cks_o_nil cks_nil)) rfl Y.mg__law_tried TB rfl (List.mem_singleton.mpr rfl) (fun _ m => one_tab m) (hr.mono (by omega)) (LamX.lamS_by (sc := defScope s_law) (by decide +kernel)) rfl (fun _ _ _ _ _ => rfl) (fun A outer s H E f c hr => (de_callV2 (k := 5) (i := 14) Y.fa_rate_at Y.fa_come_by ((ok_rate_at Y).mono (by omega)) ((ok_come_by Y).mono (by omega)) (hr.mono (by omega)) (takes_of rfl rfl rfl rfl) Y.F_rate_at.kp Y.F_come_by.kp Y.b_rate_at Y.b_come_by (da_cons (de_var 4 (pv 4)) (da_cons (de_var 13 (pv 13)) da_nil)) (aCons_len (aCons_len aNil_len))))) (da_cons (de_tup (da_cons de_str (da_cons (de_var 13 (pv 13)) da_nil))) da_nil)) (aCons_len (aCons_len aNil_len))))) (dss_one (ds_ret de_bl)) dss_nil)))))
  (dss_cons (ds_set (i := 15) sc_law.nd rfl (Or.inl rfl) (de_callS (i := 1) (ok__law_draw Y) (hr.mono (by omega)) (takes_of rfl rfl rfl rfl) Y.mg__law_draw Y.F__law_draw.kp Y.b__law_draw (pv 1) (da_cons (de_add (de_len rfl Y.n_len (by decide +kernel) (dl_var 3 (pv 3))) de_int) da_nil) (aCons_len aNil_len)))
  (dss_cons (ds_for (passes_of rfl) rfl (di_seq (de_call (ok__law_odds Y) (hr.mono (by omega)) (takes_of rfl rfl rfl rfl) Y.mg__law_odds Y.F__law_odds.kp Y.b__law_odds (da_cons (de_var 3 (pv 3)) (da_cons (de_var 15 (pv 15)) da_nil)) (aCons_len (aCons_len aNil_len)))) (dg_name (i := 13) sc_law.nd rfl (Or.inr rfl)) (dss_cons (ds_set (i := 16) sc_law.nd rfl (Or.inr rfl) (de_dn (dn_cat (dl_dn (dn_cat (dl_dn (dn_slice (dl_var 3 (pv 3)) do_none (do_some (de_var 15 (pv 15))))) (dl_dn (dn_lst (da_cons (de_var 13 (pv 13)) (da_cons de_non da_nil)))))) (dl_dn (dn_slice (dl_var 3 (pv 3)) (do_some (de_var 15 (pv 15))) do_none)))))
  (dss_cons (ds_set (i := 16) sc_law.nd rfl (Or.inr rfl) (de_if (dt_eq hr (de_callS (i := 1) (ok__law_draw Y) (hr.mono (by omega)) (takes_of rfl rfl rfl rfl) Y.mg__law_draw Y.F__law_draw.kp Y.b__law_draw (pv 1) (da_cons de_int da_nil) (aCons_len aNil_len)) de_int) (de_var 16 (pv 16)) (de_tuple Y.n_tuple (dl_var 16 (pv 16)))))
  (dss_one (ds_for (passes_of rfl) rfl (di_seq (de_tup (da_cons (de_glob (v := .ref Y.a_rate_at) Y.mg_rate_at rfl Y.fv_rate_at) (da_cons (de_glob (v := .ref Y.a_come_by) Y.mg_come_by rfl Y.fv_come_by) da_nil)))) (dg_name (i := 14) sc_law.nd rfl (Or.inr rfl)) (dss_one (ds_if (dt_not (dt_val (de_call (ok__law_same Y 40) (hr.mono (by omega)) (takes_of rfl rfl rfl rfl) Y.mg__law_same Y.F__law_same.kp Y.b__law_same (da_cons (de_tried (k := 5) (cs := [⟨"BadComers", Y.cA "BadComers", "index", "comers"⟩, ⟨"BadMoment", Y.cA "BadMoment", "thing", "moment"⟩]) (a := "_law_ask") (en := "e") (c := cL) (P := PL) Y.F__law_tried Y.b__law_tried sc__law_tried rfl (.inl rfl) rfl (fun cdv s H => (clk_cons (p := ⟨"BadComers", Y.cA "BadComers", "index", "comers"⟩) ⟨rfl, (by decide : (("BadComers" : Str) == ("__debug__" : Str)) = false), .inl Y.E_BadComers.at_⟩ (fun e o cl d pn hz hf => ck_suite (p := ⟨"BadComers", Y.cA "BadComers", "index", "comers"⟩) Y.xf_BadComers Y.E_BadComers.no hz hf (pv 1)) (clk_cons (p := ⟨"BadMoment", Y.cA "BadMoment", "thing", "moment"⟩) ⟨rfl, (by decide : (("BadMoment" : Str) == ("__debug__" : Str)) = false), .inl Y.E_BadMoment.at_⟩ (fun e o cl d pn hz hf => ck_suite (p := ⟨"BadMoment", Y.cA "BadMoment", "thing", "moment"⟩) Y.xf_BadMoment Y.E_BadMoment.no hz hf (pv 1)) clk_nil))) (cks_cons Y.X_BadComers Y.exm_BadComers (cks_o_cons Y.exm_BadComers_BadMoment Y.exm_BadMoment_BadComers (by decide : ("BadComers" : Str) ≠ "BadMoment") cks_o_nil) (cks_cons Y.X_BadMoment Y.exm_BadMoment cks_o_nil cks_nil)) rfl Y.mg__law_tried TB rfl (List.mem_singleton.mpr rfl) (fun _ m => one_tab m) (hr.mono (by omega)) (LamX.lamS_by (sc := defScope s_law) (by decide +kernel)) rfl (fun _ _ _ _ _ => rfl) (fun A outer s H E f c hr => (de_callV2 (k := 5) (i := 14) Y.fa_rate_at Y.fa_come_by ((ok_rate_at Y).mono (by omega)) ((ok_come_by Y).mono (by omega)) (hr.mono (by omega)) (takes_of rfl rfl rfl rfl) Y.F_rate_at.kp Y.F_come_by.kp Y.b_rate_at Y.b_come_by (da_cons (de_var 16 (pv 16)) (da_cons de_non da_nil)) (aCons_len (aCons_len aNil_len))))) (da_cons (de_tup (da_cons de_str (da_cons (de_var 15 (pv 15)) da_nil))) da_nil)) (aCons_len (aCons_len aNil_len))))) (dss_one (ds_ret de_bl)) dss_nil)))))))
  (dss_cons (ds_set (i := 17) sc_law.nd rfl (Or.inl rfl) (de_callS (i := 1) (ok__law_split Y) (hr.mono (by omega)) (takes_of rfl rfl rfl rfl) Y.mg__law_split Y.F__law_split.kp Y.b__law_split (pv 1) (da_cons (de_var 3 (pv 3)) da_nil) (aCons_len aNil_len)))
  (dss_cons (ds_set (i := 15) sc_law.nd rfl (Or.inl rfl) (de_add de_int (de_callS (i := 1) (ok__law_draw Y) (hr.mono (by omega)) (takes_of rfl rfl rfl rfl) Y.mg__law_draw Y.F__law_draw.kp Y.b__law_draw (pv 1) (da_cons (de_len rfl Y.n_len (by decide +kernel) (dl_var 17 (pv 17))) da_nil) (aCons_len aNil_len))))
  (dss_cons (ds_for (passes_of rfl) rfl (di_seq (de_tup (da_cons de_non (da_cons (de_tup (da_cons (de_ix (dl_de (de_ix (dl_var 17 (pv 17)) (de_sub (de_var 15 (pv 15)) de_int))) de_int) (da_cons (de_tup (da_cons de_int (da_cons de_int da_nil))) da_nil))) da_nil)))) (dg_name (i := 13) sc_law.nd rfl (Or.inr rfl)) (dss_cons (ds_set (i := 16) sc_law.nd rfl (Or.inr rfl) (de_dn (dn_cat (dl_dn (dn_cat (dl_dn (dn_slice (dl_var 17 (pv 17)) do_none (do_some (de_var 15 (pv 15))))) (dl_dn (dn_lst (da_cons (de_var 13 (pv 13)) da_nil))))) (dl_dn (dn_slice (dl_var 17 (pv 17)) (do_some (de_var 15 (pv 15))) do_none)))))
  (dss_one (ds_for (passes_of rfl) rfl (di_seq (de_tup (da_cons (de_glob (v := .ref Y.a_rate_at) Y.mg_rate_at rfl Y.fv_rate_at) (da_cons (de_glob (v := .ref Y.a_come_by) Y.mg_come_by rfl Y.fv_come_by) da_nil)))) (dg_name (i := 14) sc_law.nd rfl (Or.inr rfl)) (dss_one (ds_if (dt_not (dt_val (de_call (ok__law_same Y 40) (hr.mono (by omega)) (takes_of rfl rfl rfl rfl) Y.mg__law_same Y.F__law_same.kp Y.b__law_same (da_cons (de_tried (k := 5) (cs := [⟨"BadComers", Y.cA "BadComers", "index", "comers"⟩, ⟨"BadMoment", Y.cA "BadMoment", "thing", "moment"⟩]) (a := "_law_ask") (en := "e") (c := cL) (P := PL) Y.F__law_tried Y.b__law_tried sc__law_tried rfl (.inl rfl) rfl (fun cdv s H => (clk_cons (p := ⟨"BadComers", Y.cA "BadComers", "index", "comers"⟩) ⟨rfl, (by decide : (("BadComers" : Str) == ("__debug__" : Str)) = false), .inl Y.E_BadComers.at_⟩ (fun e o cl d pn hz hf => ck_suite (p := ⟨"BadComers", Y.cA "BadComers", "index", "comers"⟩) Y.xf_BadComers Y.E_BadComers.no hz hf (pv 1)) (clk_cons (p := ⟨"BadMoment", Y.cA "BadMoment", "thing", "moment"⟩) ⟨rfl, (by decide : (("BadMoment" : Str) == ("__debug__" : Str)) = false), .inl Y.E_BadMoment.at_⟩ (fun e o cl d pn hz hf => ck_suite (p := ⟨"BadMoment", Y.cA "BadMoment", "thing", "moment"⟩) Y.xf_BadMoment Y.E_BadMoment.no hz hf (pv 1)) clk_nil))) (cks_cons Y.X_BadComers Y.exm_BadComers (cks_o_cons Y.exm_BadComers_BadMoment Y.exm_BadMoment_BadComers (by decide : ("BadComers" : Str) ≠ "BadMoment") cks_o_nil) (cks_cons Y.X_BadMoment Y.exm_BadMoment cks_o_nil cks_nil)) rfl Y.mg__law_tried TB rfl (List.mem_singleton.mpr rfl) (fun _ m => one_tab m) (hr.mono (by omega)) (LamX.lamS_by (sc := defScope s_law) (by decide +kernel)) rfl (fun _ _ _ _ _ => rfl) (fun A outer s H E f c hr => (de_callV2 (k := 5) (i := 14) Y.fa_rate_at Y.fa_come_by ((ok_rate_at Y).mono (by omega)) ((ok_come_by Y).mono (by omega)) (hr.mono (by omega)) (takes_of rfl rfl rfl rfl) Y.F_rate_at.kp Y.F_come_by.kp Y.b_rate_at Y.b_come_by (da_cons (de_var 16 (pv 16)) (da_cons de_non da_nil)) (aCons_len (aCons_len aNil_len))))) (da_cons (de_tup (da_cons de_str (da_cons (de_var 15 (pv 15)) da_nil))) da_nil)) (aCons_len (aCons_len aNil_len))))) (dss_one (ds_ret de_bl)) dss_nil))))))
  (dss_cons (ds_for (passes_of rfl) rfl (di_seq (de_dn (dn_lst (da_cons de_non (da_cons de_int (da_cons de_str (da_cons de_dict0 (da_cons de_bl (da_cons (de_dn (dn_lst da_nil)) (da_cons (de_tup da_nil) (da_cons (de_glob (v := .ref Y.a__law_draw) Y.mg__law_draw rfl Y.fv__law_draw) da_nil))))))))))) (dg_name (i := 13) sc_law.nd rfl (Or.inr rfl)) (dss_cons (ds_own (i := 11) sc_law.nd rfl (Or.inl rfl) (dn_lst (da_cons (de_tried (k := 5) (cs := [⟨"BadComers", Y.cA "BadComers", "index", "comers"⟩, ⟨"BadMoment", Y.cA "BadMoment", "thing", "moment"⟩]) (a := "_law_ask") (en := "e") (c := cL) (P := PL) Y.F__law_tried Y.b__law_tried sc__law_tried rfl (.inl rfl) rfl (fun cdv s H => (clk_cons (p := ⟨"BadComers", Y.cA "BadComers", "index", "comers"⟩) ⟨rfl, (by decide : (("BadComers" : Str) == ("__debug__" : Str)) = false), .inl Y.E_BadComers.at_⟩ (fun e o cl d pn hz hf => ck_suite (p := ⟨"BadComers", Y.cA "BadComers", "index", "comers"⟩) Y.xf_BadComers Y.E_BadComers.no hz hf (pv 1)) (clk_cons (p := ⟨"BadMoment", Y.cA "BadMoment", "thing", "moment"⟩) ⟨rfl, (by decide : (("BadMoment" : Str) == ("__debug__" : Str)) = false), .inl Y.E_BadMoment.at_⟩ (fun e o cl d pn hz hf => ck_suite (p := ⟨"BadMoment", Y.cA "BadMoment", "thing", "moment"⟩) Y.xf_BadMoment Y.E_BadMoment.no hz hf (pv 1)) clk_nil))) (cks_cons Y.X_BadComers Y.exm_BadComers (cks_o_cons Y.exm_BadComers_BadMoment Y.exm_BadMoment_BadComers (by decide : ("BadComers" : Str) ≠ "BadMoment") cks_o_nil) (cks_cons Y.X_BadMoment Y.exm_BadMoment cks_o_nil cks_nil)) rfl Y.mg__law_tried TB rfl (List.mem_singleton.mpr rfl) (fun _ m => one_tab m) (hr.mono (by omega)) (LamX.lamS_by (sc := defScope s_law) (by decide +kernel)) rfl (fun _ _ _ _ _ => rfl) (fun A outer s H E f c hr => (de_call (ok_rate_at Y) (hr.mono (by omega)) (takes_of rfl rfl rfl rfl) Y.mg_rate_at Y.F_rate_at.kp Y.b_rate_at (da_cons (de_var 13 (pv 13)) (da_cons de_non da_nil)) (aCons_len (aCons_len aNil_len))))) da_nil)))
  (dss_cons (ds_append (pv 11) (de_tried (k := 5) (cs := [⟨"BadComers", Y.cA "BadComers", "index", "comers"⟩, ⟨"BadMoment", Y.cA "BadMoment", "thing", "moment"⟩]) (a := "_law_ask") (en := "e") (c := cL) (P := PL) Y.F__law_tried Y.b__law_tried sc__law_tried rfl (.inl rfl) rfl (fun cdv s H => (clk_cons (p := ⟨"BadComers", Y.cA "BadComers", "index", "comers"⟩) ⟨rfl, (by decide : (("BadComers" : Str) == ("__debug__" : Str)) = false), .inl Y.E_BadComers.at_⟩ (fun e o cl d pn hz hf => ck_suite (p := ⟨"BadComers", Y.cA "BadComers", "index", "comers"⟩) Y.xf_BadComers Y.E_BadComers.no hz hf (pv 1)) (clk_cons (p := ⟨"BadMoment", Y.cA "BadMoment", "thing", "moment"⟩) ⟨rfl, (by decide : (("BadMoment" : Str) == ("__debug__" : Str)) = false), .inl Y.E_BadMoment.at_⟩ (fun e o cl d pn hz hf => ck_suite (p := ⟨"BadMoment", Y.cA "BadMoment", "thing", "moment"⟩) Y.xf_BadMoment Y.E_BadMoment.no hz hf (pv 1)) clk_nil))) (cks_cons Y.X_BadComers Y.exm_BadComers (cks_o_cons Y.exm_BadComers_BadMoment Y.exm_BadMoment_BadComers (by decide : ("BadComers" : Str) ≠ "BadMoment") cks_o_nil) (cks_cons Y.X_BadMoment Y.exm_BadMoment cks_o_nil cks_nil)) rfl Y.mg__law_tried TB rfl (List.mem_singleton.mpr rfl) (fun _ m => one_tab m) (hr.mono (by omega)) (LamX.lamS_by (sc := defScope s_law) (by decide +kernel)) rfl (fun _ _ _ _ _ => rfl) (fun A outer s H E f c hr => (de_call (ok_come_by Y) (hr.mono (by omega)) (takes_of rfl rfl rfl rfl) Y.mg_come_by Y.F_come_by.kp Y.b_come_by (da_cons (de_var 13 (pv 13)) (da_cons de_non da_nil)) (aCons_len (aCons_len aNil_len))))))
  (dss_fz 11 (dss_one (ds_if (dt_ne hr (de_var 11 (pv 11)) (de_dn (dn_rep (dl_dn (dn_lst (da_cons (de_tup (da_cons de_str (da_cons de_int da_nil))) da_nil))) de_int))) (dss_one (ds_ret de_bl)) dss_nil))))))
  (dss_cons (ds_own (i := 18) sc_law.nd rfl (Or.inr rfl) (dn_lst (da_cons de_int (da_cons (de_neg de_int) da_nil))))
  (dss_held (i := 18) (j := 11) (w := "moment") (by decide) sc_law.nd rfl (Or.inl rfl) (de_tried (k := 5) (cs := [⟨"BadComers", Y.cA "BadComers", "index", "comers"⟩, ⟨"BadMoment", Y.cA "BadMoment", "thing", "moment"⟩]) (a := "_law_ask") (en := "e") (c := cL) (P := PL) Y.F__law_tried Y.b__law_tried sc__law_tried rfl (.inl rfl) rfl (fun cdv s H => (clk_cons (p := ⟨"BadComers", Y.cA "BadComers", "index", "comers"⟩) ⟨rfl, (by decide : (("BadComers" : Str) == ("__debug__" : Str)) = false), .inl Y.E_BadComers.at_⟩ (fun e o cl d pn hz hf => ck_suite (p := ⟨"BadComers", Y.cA "BadComers", "index", "comers"⟩) Y.xf_BadComers Y.E_BadComers.no hz hf (pv 1)) (clk_cons (p := ⟨"BadMoment", Y.cA "BadMoment", "thing", "moment"⟩) ⟨rfl, (by decide : (("BadMoment" : Str) == ("__debug__" : Str)) = false), .inl Y.E_BadMoment.at_⟩ (fun e o cl d pn hz hf => ck_suite (p := ⟨"BadMoment", Y.cA "BadMoment", "thing", "moment"⟩) Y.xf_BadMoment Y.E_BadMoment.no hz hf (pv 1)) clk_nil))) (cks_cons Y.X_BadComers Y.exm_BadComers (cks_o_cons Y.exm_BadComers_BadMoment Y.exm_BadMoment_BadComers (by decide : ("BadComers" : Str) ≠ "BadMoment") cks_o_nil) (cks_cons Y.X_BadMoment Y.exm_BadMoment cks_o_nil cks_nil)) rfl Y.mg__law_tried TB rfl (List.mem_singleton.mpr rfl) (fun _ m => one_tab m) (hr.mono (by omega)) (LamX.lamS_by (sc := defScope s_law) (by decide +kernel)) rfl (fun _ _ _ _ _ => rfl) (fun A outer s H E f c hr => (de_call (ok_rate_at Y) (hr.mono (by omega)) (takes_of rfl rfl rfl rfl) Y.mg_rate_at Y.F_rate_at.kp Y.b_rate_at (da_cons (de_var 3 (pv 3)) (da_cons (de_var 18 (pv 18)) da_nil)) (aCons_len (aCons_len aNil_len))))) (pv 18)
  (dss_fz 11 (dss_one (ds_if (dt_not (dt_val (de_call (ok__law_same Y 40) (hr.mono (by omega)) (takes_of rfl rfl rfl rfl) Y.mg__law_same Y.F__law_same.kp Y.b__law_same (da_cons (de_var 11 (pv 11)) (da_cons (de_tup (da_cons de_str (da_cons (de_dn (dn_lst (da_cons de_int (da_cons (de_neg de_int) (da_cons de_str da_nil))))) da_nil))) da_nil)) (aCons_len (aCons_len aNil_len))))) (dss_one (ds_ret de_bl)) dss_nil))))))))))))))))))))
  (dss_one (ds_ret de_bl)))
theorem ok_law {cL PL : Addr} (TB : LamX.TabB base mg cL PL) (cq : ∀ cdv, CodeAt K Y.a_law "law" cdv → cdv = .ref cL) (good : (G_law Y.cA ((List.replicate 21 Sl.any).set 1 .strm)).wp (10 ^ 13) (fun _ fl => fl = .ret (.bl true)) fun _ _ _ => False) : OutOk P w K mg base Y.a_law Y.d_law ["_law_script"] (spLawT K [(PL, ("law" : Str) ++ ".<locals>." ++ "<lambda>")]) :=
  law_out (k := 44) (i := 1) Y.F_law sc_law rfl ⟨by decide +kernel, by decide +kernel, by decide +kernel⟩ (fun cdv s H E hc hr => by cases cq cdv hc; exact ps_law Y TB s H E hr) (fun cdv s H E H0 S0 hc hr => by cases cq cdv hc; exact ds_law Y TB s H E H0 S0 hr) good
end
end Tw
end
section
set_option Elab.async false
set_option linter.all false
set_option maxRecDepth 100000
set_option maxHeartbeats 0
namespace Tw
open PySem PySem.Spec PyProof.Rows L2 DP

def fb0 : List (KF → Bool) := [excB "BadMoment" "thing", excB "BadComers" "index", tupB "ZERO" [0, 1], bltB "gcd" "math.gcd", (fun K => xfB K (He.ga K "BadComers")), (fun K => xfB K (He.ga K "BadMoment")), (fun K => decide (PySem.W.typeIn K (.ref (He.ga K "come_by")) = some (.type "function"))), (fun K => decide (PySem.W.typeIn K (.ref (He.ga K "rate_at")) = some (.type "function"))), (fun K => decide (PySem.W.typeIn K (.ref (He.ga K "_law_draw")) = some (.type "function")))]
def fb : List (KF → Bool) := fb0
def fa0 : List He.Fa := [.glo "lowest", .glo "plus", .glo "minus", .glo "times", .glo "is_less", .glo "lesser", .glo "is_list", .glo "is_pair", .glo "is_fraction", .glo "is_moment", .glo "told_moment", .glo "first_bad_comer", .glo "told_comers", .glo "rate_at", .glo "come_by", .glo "_law_stream", .glo "_law_draw", .glo "_law_pick", .glo "_law_same", .glo "_law_loose", .glo "_law_common", .glo "_law_low", .glo "_law_plus", .glo "_law_less", .glo "_law_times", .glo "_law_is_below", .glo "_law_least", .glo "_law_total", .glo "_law_raw", .glo "_law_raw_comers", .glo "_law_comers", .glo "_law_rate_at", .glo "_law_come", .glo "_law_split", .glo "_law_odds", .glo "_law_tried", .glo "law", .exm "BadComers" "BadComers" true, .exm "BadMoment" "BadMoment" true, .exm "BadComers" "BadMoment" false]
def fa1 : List He.Fa := [.exm "BadMoment" "BadComers" false, .free "abs", .free "all", .free "any", .free "bool", .free "dict", .free "enumerate", .free "int", .free "isinstance", .free "len", .free "list", .free "max", .free "min", .free "range", .free "repr", .free "reversed", .free "set", .free "sorted", .free "str", .free "sum", .free "tuple", .free "zip"]
def fa : List He.Fa := fa0 ++ fa1
def fn0 : List He.DefD := [⟨("BadMoment", some "__init__"), "__init__", "BadMoment.__init__", defArgs s_BadMoment____init__, defBody s_BadMoment____init__, defScope s_BadMoment____init__, [], []⟩, ⟨("BadComers", some "__init__"), "__init__", "BadComers.__init__", defArgs s_BadComers____init__, defBody s_BadComers____init__, defScope s_BadComers____init__, [], []⟩, ⟨("lowest", none), "lowest", "lowest", defArgs s_lowest, defBody s_lowest, defScope s_lowest, [], []⟩, ⟨("plus", none), "plus", "plus", defArgs s_plus, defBody s_plus, defScope s_plus, [], []⟩, ⟨("minus", none), "minus", "minus", defArgs s_minus, defBody s_minus, defScope s_minus, [], []⟩, ⟨("times", none), "times", "times", defArgs s_times, defBody s_times, defScope s_times, [], []⟩, ⟨("is_less", none), "is_less", "is_less", defArgs s_is_less, defBody s_is_less, defScope s_is_less, [], []⟩, ⟨("lesser", none), "lesser", "lesser", defArgs s_lesser, defBody s_lesser, defScope s_lesser, [], []⟩, ⟨("is_list", none), "is_list", "is_list", defArgs s_is_list, defBody s_is_list, defScope s_is_list, [], []⟩, ⟨("is_pair", none), "is_pair", "is_pair", defArgs s_is_pair, defBody s_is_pair, defScope s_is_pair, [], []⟩, ⟨("is_fraction", none), "is_fraction", "is_fraction", defArgs s_is_fraction, defBody s_is_fraction, defScope s_is_fraction, [], []⟩, ⟨("is_moment", none), "is_moment", "is_moment", defArgs s_is_moment, defBody s_is_moment, defScope s_is_moment, [], []⟩, ⟨("told_moment", none), "told_moment", "told_moment", defArgs s_told_moment, defBody s_told_moment, defScope s_told_moment, [], []⟩, ⟨("first_bad_comer", none), "first_bad_comer", "first_bad_comer", defArgs s_first_bad_comer, defBody s_first_bad_comer, defScope s_first_bad_comer, [], []⟩, ⟨("told_comers", none), "told_comers", "told_comers", defArgs s_told_comers, defBody s_told_comers, defScope s_told_comers, [], []⟩, ⟨("rate_at", none), "rate_at", "rate_at", defArgs s_rate_at, defBody s_rate_at, defScope s_rate_at, [], []⟩, ⟨("come_by", none), "come_by", "come_by", defArgs s_come_by, defBody s_come_by, defScope s_come_by, [], []⟩, ⟨("_law_stream", none), "_law_stream", "_law_stream", defArgs s__law_stream, defBody s__law_stream, defScope s__law_stream, [], []⟩, ⟨("_law_draw", none), "_law_draw", "_law_draw", defArgs s__law_draw, defBody s__law_draw, defScope s__law_draw, [], []⟩, ⟨("_law_pick", none), "_law_pick", "_law_pick", defArgs s__law_pick, defBody s__law_pick, defScope s__law_pick, [], []⟩, ⟨("_law_same", none), "_law_same", "_law_same", defArgs s__law_same, defBody s__law_same, defScope s__law_same, [], []⟩, ⟨("_law_loose", none), "_law_loose", "_law_loose", defArgs s__law_loose, defBody s__law_loose, defScope s__law_loose, [], []⟩, ⟨("_law_common", none), "_law_common", "_law_common", defArgs s__law_common, defBody s__law_common, defScope s__law_common, [], []⟩, ⟨("_law_low", none), "_law_low", "_law_low", defArgs s__law_low, defBody s__law_low, defScope s__law_low, [], []⟩, ⟨("_law_plus", none), "_law_plus", "_law_plus", defArgs s__law_plus, defBody s__law_plus, defScope s__law_plus, [], []⟩, ⟨("_law_less", none), "_law_less", "_law_less", defArgs s__law_less, defBody s__law_less, defScope s__law_less, [], []⟩, ⟨("_law_times", none), "_law_times", "_law_times", defArgs s__law_times, defBody s__law_times, defScope s__law_times, [], []⟩, ⟨("_law_is_below", none), "_law_is_below", "_law_is_below", defArgs s__law_is_below, defBody s__law_is_below, defScope s__law_is_below, [], []⟩, ⟨("_law_least", none), "_law_least", "_law_least", defArgs s__law_least, defBody s__law_least, defScope s__law_least, [], []⟩, ⟨("_law_total", none), "_law_total", "_law_total", defArgs s__law_total, defBody s__law_total, defScope s__law_total, [], []⟩, ⟨("_law_raw", none), "_law_raw", "_law_raw", defArgs s__law_raw, defBody s__law_raw, defScope s__law_raw, [], []⟩, ⟨("_law_raw_comers", none), "_law_raw_comers", "_law_raw_comers", defArgs s__law_raw_comers, defBody s__law_raw_comers, defScope s__law_raw_comers, [], []⟩, ⟨("_law_comers", none), "_law_comers", "_law_comers", defArgs s__law_comers, defBody s__law_comers, defScope s__law_comers, [], []⟩, ⟨("_law_rate_at", none), "_law_rate_at", "_law_rate_at", defArgs s__law_rate_at, defBody s__law_rate_at, defScope s__law_rate_at, [], []⟩, ⟨("_law_come", none), "_law_come", "_law_come", defArgs s__law_come, defBody s__law_come, defScope s__law_come, [], []⟩, ⟨("_law_split", none), "_law_split", "_law_split", defArgs s__law_split, defBody s__law_split, defScope s__law_split, [], []⟩, ⟨("_law_odds", none), "_law_odds", "_law_odds", defArgs s__law_odds, defBody s__law_odds, defScope s__law_odds, [], []⟩, ⟨("_law_tried", none), "_law_tried", "_law_tried", defArgs s__law_tried, defBody s__law_tried, defScope s__law_tried, [], []⟩, ⟨("law", none), "law", "law", defArgs s_law, defBody s_law, defScope s_law, [], []⟩]
def fn : List He.DefD := fn0
def xc (K : KF) : Str → Addr × Str := fun s => match [(("BadMoment" : Str), ("thing" : Str)), (("BadComers" : Str), ("index" : Str))].lookup s with
  | some f => (He.ga K s, f)
  | none => (0, s)
theorem txa {K : KF} {h : Heap} {mg : Str → Option Value} (X : K.In h) (G : h.Ns mainGlobals mg) (c : SaysF fb fa fn K) : ∃ Y : Tx K mg, Y.a_law = He.ga K "law" := by
  obtain ⟨d0, F0⟩ := c.d.def_ 0 rfl
  obtain ⟨d1, F1⟩ := c.d.def_ 1 rfl
  obtain ⟨d2, F2⟩ := c.d.def_ 2 rfl
  obtain ⟨d3, F3⟩ := c.d.def_ 3 rfl
  obtain ⟨d4, F4⟩ := c.d.def_ 4 rfl
  obtain ⟨d5, F5⟩ := c.d.def_ 5 rfl
  obtain ⟨d6, F6⟩ := c.d.def_ 6 rfl
  obtain ⟨d7, F7⟩ := c.d.def_ 7 rfl
  obtain ⟨d8, F8⟩ := c.d.def_ 8 rfl
  obtain ⟨d9, F9⟩ := c.d.def_ 9 rfl
  obtain ⟨d10, F10⟩ := c.d.def_ 10 rfl
  obtain ⟨d11, F11⟩ := c.d.def_ 11 rfl
  obtain ⟨d12, F12⟩ := c.d.def_ 12 rfl
  obtain ⟨d13, F13⟩ := c.d.def_ 13 rfl
  obtain ⟨d14, F14⟩ := c.d.def_ 14 rfl
  obtain ⟨d15, F15⟩ := c.d.def_ 15 rfl
  obtain ⟨d16, F16⟩ := c.d.def_ 16 rfl
  obtain ⟨d17, F17⟩ := c.d.def_ 17 rfl
  obtain ⟨d18, F18⟩ := c.d.def_ 18 rfl
  obtain ⟨d19, F19⟩ := c.d.def_ 19 rfl
  obtain ⟨d20, F20⟩ := c.d.def_ 20 rfl
  obtain ⟨d21, F21⟩ := c.d.def_ 21 rfl
  obtain ⟨d22, F22⟩ := c.d.def_ 22 rfl
  obtain ⟨d23, F23⟩ := c.d.def_ 23 rfl
  obtain ⟨d24, F24⟩ := c.d.def_ 24 rfl
  obtain ⟨d25, F25⟩ := c.d.def_ 25 rfl
  obtain ⟨d26, F26⟩ := c.d.def_ 26 rfl
  obtain ⟨d27, F27⟩ := c.d.def_ 27 rfl
  obtain ⟨d28, F28⟩ := c.d.def_ 28 rfl
  obtain ⟨d29, F29⟩ := c.d.def_ 29 rfl
  obtain ⟨d30, F30⟩ := c.d.def_ 30 rfl
  obtain ⟨d31, F31⟩ := c.d.def_ 31 rfl
  obtain ⟨d32, F32⟩ := c.d.def_ 32 rfl
  obtain ⟨d33, F33⟩ := c.d.def_ 33 rfl
  obtain ⟨d34, F34⟩ := c.d.def_ 34 rfl
  obtain ⟨d35, F35⟩ := c.d.def_ 35 rfl
  obtain ⟨d36, F36⟩ := c.d.def_ 36 rfl
  obtain ⟨d37, F37⟩ := c.d.def_ 37 rfl
  obtain ⟨d38, F38⟩ := c.d.def_ 38 rfl
  exact ⟨{
    Xc := xc K
    cA := He.ga K
    a_BadMoment____init__ := He.ma K (He.ga K "BadMoment") "__init__"
    d_BadMoment____init__ := d0
    F_BadMoment____init__ := fun_of F0
    b_BadMoment____init__ := (fun_of (st := s_BadMoment____init__) F0).binds (ps := ["self", "thing"]) fun _ _ _ _ _ _ us hl => match us, hl with | [_, _], _ => rfl
    a_BadComers____init__ := He.ma K (He.ga K "BadComers") "__init__"
    d_BadComers____init__ := d1
    F_BadComers____init__ := fun_of F1
    b_BadComers____init__ := (fun_of (st := s_BadComers____init__) F1).binds (ps := ["self", "index"]) fun _ _ _ _ _ _ us hl => match us, hl with | [_, _], _ => rfl
    a_lowest := He.ga K "lowest"
    d_lowest := d2
    mg_lowest := He.glo_ok X G (c.d.fact 0)
    F_lowest := fun_of F2
    b_lowest := (fun_of (st := s_lowest) F2).binds (ps := ["top", "bottom"]) fun _ _ _ _ _ _ us hl => match us, hl with | [_, _], _ => rfl
    a_plus := He.ga K "plus"
    d_plus := d3
    mg_plus := He.glo_ok X G (c.d.fact 1)
    F_plus := fun_of F3
    b_plus := (fun_of (st := s_plus) F3).binds (ps := ["one", "other"]) fun _ _ _ _ _ _ us hl => match us, hl with | [_, _], _ => rfl
    a_minus := He.ga K "minus"
    d_minus := d4
    mg_minus := He.glo_ok X G (c.d.fact 2)
    F_minus := fun_of F4
    b_minus := (fun_of (st := s_minus) F4).binds (ps := ["one", "other"]) fun _ _ _ _ _ _ us hl => match us, hl with | [_, _], _ => rfl
    a_times := He.ga K "times"
    d_times := d5
    mg_times := He.glo_ok X G (c.d.fact 3)
    F_times := fun_of F5
    b_times := (fun_of (st := s_times) F5).binds (ps := ["one", "other"]) fun _ _ _ _ _ _ us hl => match us, hl with | [_, _], _ => rfl
    a_is_less := He.ga K "is_less"
    d_is_less := d6
    mg_is_less := He.glo_ok X G (c.d.fact 4)
    F_is_less := fun_of F6
    b_is_less := (fun_of (st := s_is_less) F6).binds (ps := ["one", "other"]) fun _ _ _ _ _ _ us hl => match us, hl with | [_, _], _ => rfl
    a_lesser := He.ga K "lesser"
    d_lesser := d7
    mg_lesser := He.glo_ok X G (c.d.fact 5)
    F_lesser := fun_of F7
    b_lesser := (fun_of (st := s_lesser) F7).binds (ps := ["one", "other"]) fun _ _ _ _ _ _ us hl => match us, hl with | [_, _], _ => rfl
    a_is_list := He.ga K "is_list"
    d_is_list := d8
    mg_is_list := He.glo_ok X G (c.d.fact 6)
    F_is_list := fun_of F8
    b_is_list := (fun_of (st := s_is_list) F8).binds (ps := ["thing"]) fun _ _ _ _ _ _ us hl => match us, hl with | [_], _ => rfl
    a_is_pair := He.ga K "is_pair"
    d_is_pair := d9
    mg_is_pair := He.glo_ok X G (c.d.fact 7)
    F_is_pair := fun_of F9
    b_is_pair := (fun_of (st := s_is_pair) F9).binds (ps := ["thing"]) fun _ _ _ _ _ _ us hl => match us, hl with | [_], _ => rfl
    a_is_fraction := He.ga K "is_fraction"
    d_is_fraction := d10
    mg_is_fraction := He.glo_ok X G (c.d.fact 8)
    F_is_fraction := fun_of F10
    b_is_fraction := (fun_of (st := s_is_fraction) F10).binds (ps := ["thing"]) fun _ _ _ _ _ _ us hl => match us, hl with | [_], _ => rfl
    a_is_moment := He.ga K "is_moment"
    d_is_moment := d11
    mg_is_moment := He.glo_ok X G (c.d.fact 9)
    F_is_moment := fun_of F11
    b_is_moment := (fun_of (st := s_is_moment) F11).binds (ps := ["thing"]) fun _ _ _ _ _ _ us hl => match us, hl with | [_], _ => rfl
    a_told_moment := He.ga K "told_moment"
    d_told_moment := d12
    mg_told_moment := He.glo_ok X G (c.d.fact 10)
    F_told_moment := fun_of F12
    b_told_moment := (fun_of (st := s_told_moment) F12).binds (ps := ["thing"]) fun _ _ _ _ _ _ us hl => match us, hl with | [_], _ => rfl
    a_first_bad_comer := He.ga K "first_bad_comer"
    d_first_bad_comer := d13
    mg_first_bad_comer := He.glo_ok X G (c.d.fact 11)
    F_first_bad_comer := fun_of F13
    b_first_bad_comer := (fun_of (st := s_first_bad_comer) F13).binds (ps := ["thing"]) fun _ _ _ _ _ _ us hl => match us, hl with | [_], _ => rfl
    a_told_comers := He.ga K "told_comers"
    d_told_comers := d14
    mg_told_comers := He.glo_ok X G (c.d.fact 12)
    F_told_comers := fun_of F14
    b_told_comers := (fun_of (st := s_told_comers) F14).binds (ps := ["comers"]) fun _ _ _ _ _ _ us hl => match us, hl with | [_], _ => rfl
    a_rate_at := He.ga K "rate_at"
    d_rate_at := d15
    mg_rate_at := He.glo_ok X G (c.d.fact 13)
    F_rate_at := fun_of F15
    kw_rate_at := kw_of (st := s_rate_at) (fun_of F15) fun _ _ _ _ _ _ ws hl => match ws, hl with | [_, _], _ => rfl
    b_rate_at := (fun_of (st := s_rate_at) F15).binds (ps := ["comers", "moment"]) fun _ _ _ _ _ _ us hl => match us, hl with | [_, _], _ => rfl
    a_come_by := He.ga K "come_by"
    d_come_by := d16
    mg_come_by := He.glo_ok X G (c.d.fact 14)
    F_come_by := fun_of F16
    kw_come_by := kw_of (st := s_come_by) (fun_of F16) fun _ _ _ _ _ _ ws hl => match ws, hl with | [_, _], _ => rfl
    b_come_by := (fun_of (st := s_come_by) F16).binds (ps := ["comers", "moment"]) fun _ _ _ _ _ _ us hl => match us, hl with | [_, _], _ => rfl
    a__law_stream := He.ga K "_law_stream"
    d__law_stream := d17
    mg__law_stream := He.glo_ok X G (c.d.fact 15)
    F__law_stream := fun_of F17
    b__law_stream := (fun_of (st := s__law_stream) F17).binds (ps := ["_law_script"]) fun _ _ _ _ _ _ us hl => match us, hl with | [_], _ => rfl
    a__law_draw := He.ga K "_law_draw"
    d__law_draw := d18
    mg__law_draw := He.glo_ok X G (c.d.fact 16)
    F__law_draw := fun_of F18
    b__law_draw := (fun_of (st := s__law_draw) F18).binds (ps := ["_law_stream_here", "_law_many"]) fun _ _ _ _ _ _ us hl => match us, hl with | [_, _], _ => rfl
    a__law_pick := He.ga K "_law_pick"
    d__law_pick := d19
    mg__law_pick := He.glo_ok X G (c.d.fact 17)
    F__law_pick := fun_of F19
    b__law_pick := (fun_of (st := s__law_pick) F19).binds (ps := ["_law_stream_here", "_law_things"]) fun _ _ _ _ _ _ us hl => match us, hl with | [_, _], _ => rfl
    a__law_same := He.ga K "_law_same"
    d__law_same := d20
    mg__law_same := He.glo_ok X G (c.d.fact 18)
    F__law_same := fun_of F20
    b__law_same := (fun_of (st := s__law_same) F20).binds (ps := ["_law_found", "_law_due"]) fun _ _ _ _ _ _ us hl => match us, hl with | [_, _], _ => rfl
    a__law_loose := He.ga K "_law_loose"
    d__law_loose := d21
    mg__law_loose := He.glo_ok X G (c.d.fact 19)
    F__law_loose := fun_of F21
    b__law_loose := (fun_of (st := s__law_loose) F21).binds (ps := ["_law_stream_here", "_law_thing"]) fun _ _ _ _ _ _ us hl => match us, hl with | [_, _], _ => rfl
    a__law_common := He.ga K "_law_common"
    d__law_common := d22
    mg__law_common := He.glo_ok X G (c.d.fact 20)
    F__law_common := fun_of F22
    b__law_common := (fun_of (st := s__law_common) F22).binds (ps := ["_law_one", "_law_other"]) fun _ _ _ _ _ _ us hl => match us, hl with | [_, _], _ => rfl
    a__law_low := He.ga K "_law_low"
    d__law_low := d23
    mg__law_low := He.glo_ok X G (c.d.fact 21)
    F__law_low := fun_of F23
    b__law_low := (fun_of (st := s__law_low) F23).binds (ps := ["_law_top", "_law_bottom"]) fun _ _ _ _ _ _ us hl => match us, hl with | [_, _], _ => rfl
    a__law_plus := He.ga K "_law_plus"
    d__law_plus := d24
    mg__law_plus := He.glo_ok X G (c.d.fact 22)
    F__law_plus := fun_of F24
    b__law_plus := (fun_of (st := s__law_plus) F24).binds (ps := ["_law_one", "_law_other"]) fun _ _ _ _ _ _ us hl => match us, hl with | [_, _], _ => rfl
    a__law_less := He.ga K "_law_less"
    d__law_less := d25
    mg__law_less := He.glo_ok X G (c.d.fact 23)
    F__law_less := fun_of F25
    b__law_less := (fun_of (st := s__law_less) F25).binds (ps := ["_law_one", "_law_other"]) fun _ _ _ _ _ _ us hl => match us, hl with | [_, _], _ => rfl
    a__law_times := He.ga K "_law_times"
    d__law_times := d26
    mg__law_times := He.glo_ok X G (c.d.fact 24)
    F__law_times := fun_of F26
    b__law_times := (fun_of (st := s__law_times) F26).binds (ps := ["_law_one", "_law_other"]) fun _ _ _ _ _ _ us hl => match us, hl with | [_, _], _ => rfl
    a__law_is_below := He.ga K "_law_is_below"
    d__law_is_below := d27
    mg__law_is_below := He.glo_ok X G (c.d.fact 25)
    F__law_is_below := fun_of F27
    b__law_is_below := (fun_of (st := s__law_is_below) F27).binds (ps := ["_law_one", "_law_other"]) fun _ _ _ _ _ _ us hl => match us, hl with | [_, _], _ => rfl
    a__law_least := He.ga K "_law_least"
    d__law_least := d28
    mg__law_least := He.glo_ok X G (c.d.fact 26)
    F__law_least := fun_of F28
    b__law_least := (fun_of (st := s__law_least) F28).binds (ps := ["_law_things"]) fun _ _ _ _ _ _ us hl => match us, hl with | [_], _ => rfl
    a__law_total := He.ga K "_law_total"
    d__law_total := d29
    mg__law_total := He.glo_ok X G (c.d.fact 27)
    F__law_total := fun_of F29
    b__law_total := (fun_of (st := s__law_total) F29).binds (ps := ["_law_things"]) fun _ _ _ _ _ _ us hl => match us, hl with | [_], _ => rfl
    a__law_raw := He.ga K "_law_raw"
    d__law_raw := d30
    mg__law_raw := He.glo_ok X G (c.d.fact 28)
    F__law_raw := fun_of F30
    b__law_raw := (fun_of (st := s__law_raw) F30).binds (ps := ["_law_stream_here", "_law_thing"]) fun _ _ _ _ _ _ us hl => match us, hl with | [_, _], _ => rfl
    a__law_raw_comers := He.ga K "_law_raw_comers"
    d__law_raw_comers := d31
    mg__law_raw_comers := He.glo_ok X G (c.d.fact 29)
    F__law_raw_comers := fun_of F31
    b__law_raw_comers := (fun_of (st := s__law_raw_comers) F31).binds (ps := ["_law_stream_here", "_law_comers_here"]) fun _ _ _ _ _ _ us hl => match us, hl with | [_, _], _ => rfl
    a__law_comers := He.ga K "_law_comers"
    d__law_comers := d32
    mg__law_comers := He.glo_ok X G (c.d.fact 30)
    F__law_comers := fun_of F32
    b__law_comers := (fun_of (st := s__law_comers) F32).binds (ps := ["_law_stream_here", "_law_most"]) fun _ _ _ _ _ _ us hl => match us, hl with | [_, _], _ => rfl
    a__law_rate_at := He.ga K "_law_rate_at"
    d__law_rate_at := d33
    mg__law_rate_at := He.glo_ok X G (c.d.fact 31)
    F__law_rate_at := fun_of F33
    b__law_rate_at := (fun_of (st := s__law_rate_at) F33).binds (ps := ["_law_comers_here", "_law_moment"]) fun _ _ _ _ _ _ us hl => match us, hl with | [_, _], _ => rfl
    a__law_come := He.ga K "_law_come"
    d__law_come := d34
    mg__law_come := He.glo_ok X G (c.d.fact 32)
    F__law_come := fun_of F34
    b__law_come := (fun_of (st := s__law_come) F34).binds (ps := ["_law_comers_here", "_law_moment"]) fun _ _ _ _ _ _ us hl => match us, hl with | [_, _], _ => rfl
    a__law_split := He.ga K "_law_split"
    d__law_split := d35
    mg__law_split := He.glo_ok X G (c.d.fact 33)
    F__law_split := fun_of F35
    b__law_split := (fun_of (st := s__law_split) F35).binds (ps := ["_law_stream_here", "_law_comers_here"]) fun _ _ _ _ _ _ us hl => match us, hl with | [_, _], _ => rfl
    a__law_odds := He.ga K "_law_odds"
    d__law_odds := d36
    mg__law_odds := He.glo_ok X G (c.d.fact 34)
    F__law_odds := fun_of F36
    b__law_odds := (fun_of (st := s__law_odds) F36).binds (ps := ["_law_comers_here", "_law_at"]) fun _ _ _ _ _ _ us hl => match us, hl with | [_, _], _ => rfl
    a__law_tried := He.ga K "_law_tried"
    d__law_tried := d37
    mg__law_tried := He.glo_ok X G (c.d.fact 35)
    F__law_tried := fun_of F37
    b__law_tried := (fun_of (st := s__law_tried) F37).binds (ps := ["_law_ask"]) fun _ _ _ _ _ _ us hl => match us, hl with | [_], _ => rfl
    a_law := He.ga K "law"
    d_law := d38
    mg_law := He.glo_ok X G (c.d.fact 36)
    F_law := fun_of F38
    b_law := (fun_of (st := s_law) F38).binds (ps := ["_law_script"]) fun _ _ _ _ _ _ us hl => match us, hl with | [_], _ => rfl
    E_BadMoment := exc_of X G (c.b 0)
    X_BadMoment := by rfl
    E_BadComers := exc_of X G (c.b 1)
    X_BadComers := by rfl
    a_ZERO := He.ga K "ZERO"
    mg_ZERO := (tup_of (ks := [0, 1]) X G (by decide) (c.b 2)).1
    rep_ZERO := (tup_of (ks := [0, 1]) X G (by decide) (c.b 2)).2
    mg_gcd := blt_of X G (c.b 3)
    xf_BadComers := xfB_ok (c.b 4)
    exm_BadComers := He.exm_ok (c.d.fact 37)
    xf_BadMoment := xfB_ok (c.b 5)
    exm_BadMoment := He.exm_ok (c.d.fact 38)
    fa_come_by := rfl
    fv_come_by := fun _ => .fn (of_decide_eq_true (c.b 6))
    fa_rate_at := rfl
    fv_rate_at := fun _ => .fn (of_decide_eq_true (c.b 7))
    fa__law_draw := rfl
    fv__law_draw := fun _ => .fn (of_decide_eq_true (c.b 8))
    exm_BadComers_BadMoment := He.exm_ok (c.d.fact 39)
    exm_BadMoment_BadComers := He.exm_ok (c.d.fact 40)
    n_abs := He.free_ok X G (c.d.fact 41)
    n_all := He.free_ok X G (c.d.fact 42)
    n_any := He.free_ok X G (c.d.fact 43)
    n_bool := He.free_ok X G (c.d.fact 44)
    n_dict := He.free_ok X G (c.d.fact 45)
    n_enumerate := He.free_ok X G (c.d.fact 46)
    n_int := He.free_ok X G (c.d.fact 47)
    n_isinstance := He.free_ok X G (c.d.fact 48)
    n_len := He.free_ok X G (c.d.fact 49)
    n_list := He.free_ok X G (c.d.fact 50)
    n_max := He.free_ok X G (c.d.fact 51)
    n_min := He.free_ok X G (c.d.fact 52)
    n_range := He.free_ok X G (c.d.fact 53)
    n_repr := He.free_ok X G (c.d.fact 54)
    n_reversed := He.free_ok X G (c.d.fact 55)
    n_set := He.free_ok X G (c.d.fact 56)
    n_sorted := He.free_ok X G (c.d.fact 57)
    n_str := He.free_ok X G (c.d.fact 58)
    n_sum := He.free_ok X G (c.d.fact 59)
    n_tuple := He.free_ok X G (c.d.fact 60)
    n_zip := He.free_ok X G (c.d.fact 61) }, rfl⟩
def tf : List He.Defn := [("law", none)]
end Tw
end
section
set_option Elab.async false
set_option linter.all false
set_option maxRecDepth 100000
set_option maxHeartbeats 0
namespace Tw
open PySem PySem.Spec PyProof.Rows L2 DP
abbrev R : PySem.W.OpenRow := PySem.W.OpenLaw.row PySem.Challenge.rw_quickbythen_k02_whole_comers
def ex (K : KF) : Bool := fb.all fun f => f K
abbrev hk : PySem.W.Hook := He.hookX 5 fa fn [] tf ex
def ob (s : PySem.W.SharedT) : He.AlX := He.obsX 5 fa fn [] tf ex (HandSHeadRun.getT s)
theorem ob_eq (s : PySem.W.SharedT) : ob s = hk.obs s.abs := He.obsX_eq (HandSHeadRun.getT_eq s)
def loose0 : List PySem.Str := ["QuickError", "BadMoment", "BadComers", "lowest", "plus", "minus", "times", "is_less", "lesser", "is_list", "is_pair", "is_fraction", "is_moment", "told_moment", "first_bad_comer", "told_comers", "rate_at", "come_by", "_law_stream", "_law_draw"]
def loose1 : List PySem.Str := ["_law_pick", "_law_same", "_law_loose", "_law_common", "_law_low", "_law_plus", "_law_less", "_law_times", "_law_is_below", "_law_least", "_law_total", "_law_raw", "_law_raw_comers", "_law_comers", "_law_rate_at", "_law_tried", "_law_come", "_law_split", "_law_odds", "ZERO"]
def loose : List PySem.Str := loose0 ++ loose1
theorem run (w : World) : HandSHeadRun.RunEqI R (PySem.W.view R.prog [0, 47]) hk ob 20000 loose w := by
  unfold HandSHeadRun.RunEqI
  kernel_rfl
end Tw
end
section
set_option Elab.async false
set_option linter.all false
set_option maxRecDepth 100000
namespace DP
open PySem PySem.Spec PyProof.Rows L2

/-! ### programs that end well: at most n draws, and then a value of which P is so -/
structure Tk {α : Type} (m : M α) (n : Nat) (P : α → Prop) : Prop where
  go : ∀ (b : Nat) (Q : Nat → α → Prop) (E : Nat → Str → T → Prop), n ≤ b → (∀ b' a, b ≤ b' + n → P a → Q b' a) → m.wp b Q E
section
variable {α β γ : Type} {m : M α} {n n' n1 n2 n3 : Nat} {P P' : α → Prop} {R : β → Prop} {S : γ → Prop} {f : α → M β}
theorem Tk.ret {a : α} (h : P a) : Tk (.ret a) 0 P := ⟨fun b Q E _ k => k b a (by omega) h⟩
theorem Tk.pure {a : α} (h : m = .ret a) : Tk m 0 (fun x => x = a) := by rw [h]; exact Tk.ret rfl
theorem Tk.eq {a : α} (h : m = .ret a) (p : P a) : Tk m 0 P := by rw [h]; exact Tk.ret p
theorem Tk.bind (h : Tk m n P) (k : ∀ a, P a → Tk (f a) n2 R) : Tk (m.bind f) (n + n2) R := ⟨fun b Q E hb kk =>
  M.wp_bind.mpr (h.go b _ E (by omega) fun b' a hb' pa => (k a pa).go b' Q E (by omega) fun b2 c h2 rc => kk b2 c (by omega) rc)⟩
theorem Tk.mono (h : Tk m n P) (hn : n ≤ n') (hp : ∀ a, P a → P' a) : Tk m n' P' := ⟨fun b Q E hb kk => h.go b Q E (by omega) fun b' a h1 pa => kk b' a (by omega) (hp a pa)⟩
theorem Tk.le (h : Tk m n P) (hn : n ≤ n') : Tk m n' P := h.mono hn fun _ p => p
theorem Tk.imp (h : Tk m n P) (hp : ∀ a, P a → P' a) : Tk m n P' := h.mono (Nat.le_refl _) hp
theorem Tk.draw {k : Int} {g : Int → M α} (h0 : 0 < k) (h : ∀ d, 0 ≤ d → d < k → Tk (g d) n P) : Tk (.draw k g) (n + 1) P := ⟨fun b Q E hb kk =>
  ⟨h0, by omega, fun d h1 h2 => (h d h1 h2).go (b - 1) Q E (by omega) fun b' a hb' pa => kk b' a (by omega) pa⟩⟩
theorem Tk.good {Q : Nat → α → Prop} {E : Nat → Str → T → Prop} {b : Nat} (h : Tk m n P) (hb : n ≤ b) (hq : ∀ b' a, P a → Q b' a) : m.wp b Q E := h.go b Q E hb fun b' a _ p => hq b' a p
theorem wp_noExc : ∀ {m : M α} {b : Nat} {Q : Nat → α → Prop} {E : Nat → Str → T → Prop}, m.wp b Q (fun _ _ _ => False) → (noExc m).wp b Q E
  | .ret _, _, _, _, h => h
  | .draw _ k, _, _, _, h => ⟨h.1, h.2.1, fun d h1 h2 => wp_noExc (m := k d) (h.2.2 d h1 h2)⟩
  | .exc _ _, _, _, _, h => h.elim
  | .stuck, _, _, _, h => h.elim
theorem Tk.noExc (h : Tk m n P) : Tk (noExc m) n P := ⟨fun b Q E hb kk => wp_noExc (h.go b Q _ hb kk)⟩
theorem wp_calm' : ∀ {m : M α} {b : Nat} {Q : Nat → α → Prop} {E : Nat → Str → T → Prop}, m.wp b Q (fun _ _ _ => False) → m.calm.wp b Q E
  | .ret _, _, _, _, h => h
  | .draw _ k, _, _, _, h => ⟨h.1, h.2.1, fun d h1 h2 => wp_calm' (m := k d) (h.2.2 d h1 h2)⟩
  | .exc _ _, _, _, _, h => h.elim
  | .stuck, _, _, _, h => h.elim
theorem Tk.calm (h : Tk m n P) : Tk m.calm n P := ⟨fun b Q E hb kk => wp_calm' (h.go b Q _ hb kk)⟩
end

/-! ### by the parts of a def -/
section
variable {n n1 n2 n3 c : Nat} {ρ : Env'} {P : T → Prop} {α β γ : Type}
theorem Tk.fn {st : Bool} {k : Nat} {G : Env' → M Fl} {ts : List T} (h : Tk (G (start' st k ts)) n (fun fl => ∃ t, fl = .ret t ∧ P t)) : Tk (fnM st k G ts) n P :=
  (Tk.bind (n2 := 0) h fun fl ⟨t, e, p⟩ => by rw [e]; exact Tk.ret p)
theorem Tk.sRet {f : Env' → M T} (h : Tk (f ρ) n P) : Tk (sRet f ρ) n (fun fl => ∃ t, fl = .ret t ∧ P t) := Tk.bind (n2 := 0) h fun t p => Tk.ret ⟨t, rfl, p⟩
theorem Tk.e1 {A : α → Prop} {B : β → Prop} {k : α → M β} {f : Env' → M α} (h : Tk (f ρ) n A) (hk : ∀ a, A a → Tk (k a) n2 B) : Tk (e1 k f ρ) (n + n2) B := Tk.bind h hk
theorem Tk.e2 {A : α → Prop} {B : β → Prop} {C : γ → Prop} {k : α → β → M γ} {f : Env' → M α} {g : Env' → M β} (h : Tk (f ρ) n1 A) (h2 : Tk (g ρ) n2 B) (hk : ∀ a b, A a → B b → Tk (k a b) n3 C) : Tk (e2 k f g ρ) (n1 + (n2 + n3)) C :=
  Tk.bind h fun a pa => Tk.bind h2 fun b pb => hk a b pa pb
/-- a loop: I holds behind so many turns -/
theorem Tk.forL {bd : T → Env' → Option Env'} {G : Env' → M Fl} (I : Nat → Env' → Prop) : ∀ (ts : List T) (i : Nat) (ρ : Env'), I i ρ →
    (∀ (j : Nat) (t : T) (ρ : Env'), ts[j]? = some t → I (i + j) ρ → ∃ ρ1, bd t ρ = some ρ1 ∧ Tk (G ρ1) c (fun fl => ∃ ρ', fl = .next ρ' ∧ I (i + j + 1) ρ')) →
    Tk (forL bd G ts ρ) (c * ts.length) (fun fl => ∃ ρ', fl = .next ρ' ∧ I (i + ts.length) ρ')
  | [], i, ρ, h, _ => Tk.ret ⟨ρ, rfl, h⟩
  | t :: ts, i, ρ, h, hs => by
    obtain ⟨ρ1, e, h1⟩ := hs 0 t ρ rfl h
    have h2 : Tk (DP.forL bd G (t :: ts) ρ) (c + c * ts.length) (fun fl => ∃ ρ', fl = .next ρ' ∧ I (i + (t :: ts).length) ρ') := by
      unfold DP.forL
      rw [e]
      refine Tk.bind h1 fun fl ⟨ρ', e', hi⟩ => ?_
      rw [e']
      refine (Tk.forL I ts (i + 1) ρ' hi fun j t ρ ht hj => ?_).imp fun fl ⟨ρ', e, h⟩ => ⟨ρ', e, by rw [List.length_cons]; rw [show i + (ts.length + 1) = i + 1 + ts.length by omega]; exact h⟩
      have := hs (j + 1) t ρ (by simpa using ht) (by rw [show i + (j + 1) = i + 1 + j by omega]; exact hj)
      rw [show i + (j + 1) + 1 = i + 1 + j + 1 by omega] at this
      exact this
    exact h2.le (by rw [List.length_cons, Nat.mul_add]; omega)
theorem Tk.sFor {fi : Env' → M (List T)} {bd : T → Env' → Option Env'} {G : Env' → M Fl} {A : List T → Prop} {L : Nat} (I : Nat → Env' → Prop) (h : Tk (fi ρ) n A) (hl : ∀ ts, A ts → ts.length ≤ L) (h0 : I 0 ρ)
    (hs : ∀ ts, A ts → ∀ (j : Nat) (t : T) (ρ : Env'), ts[j]? = some t → I j ρ → ∃ ρ1, bd t ρ = some ρ1 ∧ Tk (G ρ1) c (fun fl => ∃ ρ', fl = .next ρ' ∧ I (j + 1) ρ')) :
    Tk (sFor fi bd G ρ) (n + c * L) (fun fl => ∃ ρ' ts, fl = .next ρ' ∧ A ts ∧ I ts.length ρ') :=
  Tk.bind h fun ts ha => (Tk.forL I ts 0 ρ h0 fun j t ρ ht hj => by
    have := hs ts ha j t ρ ht (by rw [Nat.zero_add] at hj; exact hj)
    rw [Nat.zero_add]
    exact this).mono (Nat.mul_le_mul_left _ (hl ts ha)) fun fl ⟨ρ', e, h⟩ => ⟨ρ', ts, e, ha, by rw [Nat.zero_add] at h; exact h⟩
theorem Tk.seq {G1 G2 : Env' → M Fl} {I : Env' → Prop} {R : Fl → Prop} (h : Tk (G1 ρ) n (fun fl => ∃ ρ', fl = .next ρ' ∧ I ρ')) (k : ∀ ρ', I ρ' → Tk (G2 ρ') n2 R) : Tk (sSeq G1 G2 ρ) (n + n2) R :=
  Tk.bind h fun fl ⟨ρ', e, hi⟩ => by rw [e]; exact k ρ' hi
theorem Tk.sSet {i : Nat} {f : Env' → M T} (h : Tk (f ρ) n P) : Tk (sSet i f ρ) n (fun fl => ∃ ρ', fl = .next ρ' ∧ ∃ t, P t ∧ ρ' = ρ.set i (.val t)) := Tk.bind (n2 := 0) h fun t p => Tk.ret ⟨_, rfl, t, p, rfl⟩
theorem Tk.call {m : List T → M T} {f : Env' → M (List T)} {A : List T → Prop} (h : Tk (f ρ) n A) (k : ∀ ts, A ts → Tk (m ts) n2 P) : Tk (eCall m f ρ) (n + n2) P := Tk.bind h k
theorem Tk.callS {i : Nat} {m : List T → M T} {f : Env' → M (List T)} {A : List T → Prop} (hi : ρ[i]? = some .strm) (h : Tk (f ρ) n A) (k : ∀ ts, A ts → Tk (m ts) n2 P) : Tk (eCallS i m f ρ) (n + n2) P := by
  unfold eCallS
  rw [hi]
  exact Tk.bind h k
theorem Tk.cons {f : Env' → M T} {fs : Env' → M (List T)} {A : List T → Prop} (h : Tk (f ρ) n P) (h2 : Tk (fs ρ) n2 A) : Tk (aCons f fs ρ) (n + n2) (fun ts => ∃ t us, P t ∧ A us ∧ ts = t :: us) :=
  (Tk.e2 h h2 fun a b pa pb => Tk.ret ⟨a, b, pa, pb, rfl⟩).le (by omega)
theorem Tk.if_ {cnd : Env' → M Bool} {G1 G2 : Env' → M Fl} {B : Bool → Prop} {R : Fl → Prop} (h : Tk (cnd ρ) n B) (k1 : B true → Tk (G1 ρ) n2 R) (k2 : B false → Tk (G2 ρ) n2 R) : Tk (sIf cnd G1 G2 ρ) (n + n2) R := Tk.bind h fun b hb => by
  cases b with
  | true => rw [if_pos rfl]; exact k1 hb
  | false => rw [if_neg Bool.false_ne_true]; exact k2 hb
/-- a comprehension: R tells of item and element -/
theorem Tk.lcL {vs : List Nat} {bd : T → Env' → Option Env'} {cnd : Env' → M Bool} {f : Env' → M T} {ρ : Env'} (R : T → T → Prop) : ∀ (ts acc : List T), acc.length + ts.length ≤ 1000000 →
    (∀ t ∈ ts, ∃ ρ1, bd t (wipeE ρ vs) = some ρ1 ∧ cnd ρ1 = .ret true ∧ Tk (f ρ1) c (R t)) → Tk (lcL vs bd cnd f ρ ts acc) (c * ts.length) (fun us => ∃ ys, us = acc ++ ys ∧ Paired R ts ys)
  | [], acc, _, _ => Tk.ret ⟨[], by simp, .nil⟩
  | t :: ts, acc, hl, hs => by
    obtain ⟨ρ1, e, ec, h⟩ := hs t List.mem_cons_self
    have h2 : Tk (DP.lcL vs bd cnd f ρ (t :: ts) acc) (0 + (c + c * ts.length)) (fun us => ∃ ys, us = acc ++ ys ∧ Paired R (t :: ts) ys) := by
      unfold DP.lcL
      rw [e]
      refine Tk.bind (P := fun b => b = true) (by rw [ec]; exact Tk.ret rfl) fun b hb => ?_
      rw [hb, if_pos rfl]
      refine Tk.bind h.noExc fun y hy => ?_
      rw [if_pos (by unfold okLen; simp at hl ⊢; omega)]
      refine (Tk.lcL R ts (acc ++ [y]) (by simp at hl ⊢; omega) fun t ht => hs t (List.mem_cons_of_mem _ ht)).imp fun us ⟨ys, e, p⟩ => ⟨y :: ys, by rw [e]; simp, .cons hy p⟩
    exact h2.le (by rw [List.length_cons, Nat.mul_add]; omega)
theorem Tk.nLc {vs : List Nat} {fi : Env' → M (List T)} {bd : T → Env' → Option Env'} {cnd : Env' → M Bool} {f : Env' → M T} {ts : List T} (R : T → T → Prop) (h : fi ρ = .ret ts) (no : noOwnB vs ρ = true) (hl : ts.length ≤ 1000000)
    (hs : ∀ t ∈ ts, ∃ ρ1, bd t (wipeE ρ vs) = some ρ1 ∧ cnd ρ1 = .ret true ∧ Tk (f ρ1) c (R t)) : Tk (nLc vs fi bd cnd f ρ) (c * ts.length) (fun us => Paired R ts us) := by
  unfold DP.nLc
  rw [h]
  show Tk (if noOwnB vs ρ = true then DP.lcL vs bd cnd f ρ ts [] else .stuck) _ _
  rw [if_pos no]
  exact (Tk.lcL R ts [] (by simpa using hl) hs).imp fun us ⟨ys, e, p⟩ => by rw [e]; exact p
/-- .. that draws nothing -/
theorem lcL_eq {vs : List Nat} {bd : T → Env' → Option Env'} {cnd : Env' → M Bool} {f : Env' → M T} {ρ : Env'} (p : T → Bool) (g : T → T) : ∀ (ts acc : List T), acc.length + ts.length ≤ 1000000 →
    (∀ t ∈ ts, ∃ ρ1, bd t (wipeE ρ vs) = some ρ1 ∧ cnd ρ1 = .ret (p t) ∧ (p t = true → f ρ1 = .ret (g t))) → lcL vs bd cnd f ρ ts acc = .ret (acc ++ (ts.filter p).map g)
  | [], acc, _, _ => by simp [lcL]
  | t :: ts, acc, hl, hs => by
    obtain ⟨ρ1, e, ec, h⟩ := hs t List.mem_cons_self
    unfold lcL
    rw [e]
    dsimp only
    rw [ec]
    show (if p t = true then (noExc (f ρ1)).bind _ else _) = _
    cases hp : p t with
    | true =>
      rw [if_pos rfl, h hp]
      show (if okLen acc.length = true then lcL vs bd cnd f ρ ts (acc ++ [g t]) else .stuck) = _
      rw [if_pos (by unfold okLen; simp at hl ⊢; omega), lcL_eq p g ts _ (by simp at hl ⊢; omega) fun t ht => hs t (List.mem_cons_of_mem _ ht)]
      simp [hp]
    | false =>
      rw [if_neg Bool.false_ne_true, lcL_eq p g ts _ (by simp at hl ⊢; omega) fun t ht => hs t (List.mem_cons_of_mem _ ht)]
      simp [hp]
theorem nLc_eq {vs : List Nat} {fi : Env' → M (List T)} {bd : T → Env' → Option Env'} {cnd : Env' → M Bool} {f : Env' → M T} {ts : List T} (p : T → Bool) (g : T → T) (h : fi ρ = .ret ts) (no : noOwnB vs ρ = true) (hl : ts.length ≤ 1000000)
    (hs : ∀ t ∈ ts, ∃ ρ1, bd t (wipeE ρ vs) = some ρ1 ∧ cnd ρ1 = .ret (p t) ∧ (p t = true → f ρ1 = .ret (g t))) : nLc vs fi bd cnd f ρ = .ret ((ts.filter p).map g) := by
  unfold nLc
  rw [h]
  show (if noOwnB vs ρ = true then lcL vs bd cnd f ρ ts [] else .stuck) = _
  rw [if_pos no, lcL_eq p g ts [] (by simpa using hl) hs]
  rfl
end
theorem tk_draw {k : Int} (h0 : 0 < k) (h1 : k ≤ 1000000) : Tk (drawM [.int k]) 1 (fun t => ∃ d, t = .int d ∧ 0 ≤ d ∧ d < k) := by
  have hf : fit k = true := by
    unfold fit
    have : k.natAbs.log2 < 8000 := by
      have h : k.natAbs.log2 < 20 := (Nat.log2_lt (by omega)).mpr (by omega)
      omega
    simpa using this
  show Tk (if fit k = true then M.draw k fun d => M.ret (T.int d) else M.stuck) _ _
  rw [if_pos hf]
  exact Tk.draw h0 fun d h1 h2 => Tk.ret ⟨d, rfl, h1, h2⟩
end DP
end
section
set_option Elab.async false
set_option linter.all false
set_option maxRecDepth 100000
namespace Tw
open PySem PySem.Spec PyProof.Rows L2 DP
variable {cA : Str → Addr}
theorem erase_perm {α : Type} : ∀ {l : List α} {i : Nat} (h : i < l.length), (l[i] :: l.eraseIdx i).Perm l
  | _ :: _, 0, _ => .refl _
  | a :: l, i + 1, h => by
    have h' : i < l.length := by simpa using h
    exact (List.Perm.swap a l[i] (l.eraseIdx i)).trans ((erase_perm h').cons a)
theorem tk_pick {xs : List T} (h0 : xs ≠ []) (hl : xs.length ≤ 1000000) : Tk (m__law_pick cA [.lst xs]) 1 (fun t => t ∈ xs) := by
  have hp : 0 < xs.length := List.length_pos_iff.mpr h0
  refine (Tk.fn (Tk.sRet (Tk.e2 (n3 := 0) (A := fun p => p = (true, xs)) (B := fun t => ∃ d, t = .int d ∧ 0 ≤ d ∧ d < (xs.length : Int)) (Tk.pure rfl) (Tk.callS rfl (A := fun ts => ts = [.int xs.length]) (Tk.pure rfl) fun ts e => by rw [e]; exact tk_draw (by omega) (by omega)) fun p t hp ht => ?_))).le (by omega)
  obtain ⟨d, rfl, h1, h2⟩ := ht
  subst hp
  have e : atI xs d = some (xs[d.toNat]'(by omega)) := by
    unfold atI ixN
    rw [if_pos h1, if_pos h2]
    exact List.getElem?_eq_getElem (by omega)
  refine Tk.eq (a := xs[d.toNat]'(by omega)) ?_ (List.getElem_mem _)
  show (match atI xs d with | some t => M.ret t | none => M.stuck) = _
  rw [e]
end Tw
end
section
set_option Elab.async false
set_option linter.all false
set_option maxRecDepth 100000
namespace Tw
open PySem PySem.Spec PyProof.Rows L2 DP
variable {cA : Str → Addr}
theorem shaped_int (i : Int) : SeqAt.shaped (.int i) = true := by simp [SeqAt.shaped, PyData.canLay0, PyData.depth]
theorem eqT_int (i j : Int) : DP.eqT (.int i) (.int j) = .ret (.bl (decide (i = j))) := by
  unfold DP.eqT
  simp [dataT, shaped_int, PyData.eqv]
  by_cases h : i = j <;> simp [h]
theorem neT_int (i j : Int) : DP.neT (.int i) (.int j) = .ret (.bl (!decide (i = j))) := by
  unfold DP.neT
  simp [dataT, shaped_int, PyData.eqv]
  by_cases h : i = j <;> simp [h]
theorem Tk.eIf {n n2 : Nat} {ρ : Env'} {P : T → Prop} {cnd : Env' → M Bool} {f h : Env' → M T} {B : Bool → Prop} (hc : Tk (cnd ρ) n B) (k1 : B true → Tk (f ρ) n2 P) (k2 : B false → Tk (h ρ) n2 P) : Tk (eIf cnd f h ρ) (n + n2) P := Tk.bind hc fun b hb => by
  cases b with
  | true => rw [if_pos rfl]; exact k1 hb
  | false => rw [if_neg Bool.false_ne_true]; exact k2 hb
/-! ### kinds -/
theorem k_nl : kitB "NoneType" "list" = some false := by decide +kernel
theorem k_nt : kitB "NoneType" "tuple" = some false := by decide +kernel
theorem k_nd : kitB "NoneType" "dict" = some false := by decide +kernel
theorem k_nb : kitB "NoneType" "bool" = some false := by decide +kernel
theorem k_ni : kitB "NoneType" "int" = some false := by decide +kernel
theorem k_bl : kitB "bool" "list" = some false := by decide +kernel
theorem k_bt : kitB "bool" "tuple" = some false := by decide +kernel
theorem k_bd : kitB "bool" "dict" = some false := by decide +kernel
theorem k_bb : kitB "bool" "bool" = some true := by decide +kernel
theorem k_bi : kitB "bool" "int" = some true := by decide +kernel
theorem k_il : kitB "int" "list" = some false := by decide +kernel
theorem k_it : kitB "int" "tuple" = some false := by decide +kernel
theorem k_id : kitB "int" "dict" = some false := by decide +kernel
theorem k_ib : kitB "int" "bool" = some false := by decide +kernel
theorem k_ii : kitB "int" "int" = some true := by decide +kernel
theorem k_sl : kitB "str" "list" = some false := by decide +kernel
theorem k_st : kitB "str" "tuple" = some false := by decide +kernel
theorem k_sd : kitB "str" "dict" = some false := by decide +kernel
theorem k_sb : kitB "str" "bool" = some false := by decide +kernel
theorem k_si : kitB "str" "int" = some false := by decide +kernel
theorem k_tl : kitB "tuple" "list" = some false := by decide +kernel
theorem k_tt : kitB "tuple" "tuple" = some true := by decide +kernel
theorem k_td : kitB "tuple" "dict" = some false := by decide +kernel
theorem k_tb : kitB "tuple" "bool" = some false := by decide +kernel
theorem k_ti : kitB "tuple" "int" = some false := by decide +kernel
theorem k_ll : kitB "list" "list" = some true := by decide +kernel
theorem k_lt : kitB "list" "tuple" = some false := by decide +kernel
theorem k_ld : kitB "list" "dict" = some false := by decide +kernel
theorem k_lb : kitB "list" "bool" = some false := by decide +kernel
theorem k_li : kitB "list" "int" = some false := by decide +kernel
theorem k_dl : kitB "dict" "list" = some false := by decide +kernel
theorem k_dt : kitB "dict" "tuple" = some false := by decide +kernel
theorem k_dd : kitB "dict" "dict" = some true := by decide +kernel
theorem k_db : kitB "dict" "bool" = some false := by decide +kernel
theorem k_di : kitB "dict" "int" = some false := by decide +kernel
/-- a list or a tuple of these -/
def SeqOf (t : T) (ys : List T) : Prop := t = .lst ys ∨ t = .tup ys
theorem isi2_seq {t : T} {ys : List T} (h : SeqOf t ys) : isiT2 "list" "tuple" t = .ret (.bl true) := by
  rcases h with rfl | rfl
  · unfold isiT2
    simp only [tyName, k_ll, k_lt, Bool.or_false]
  · unfold isiT2
    simp only [tyName, k_tl, k_tt, Bool.or_true]
theorem isi2_flat {t : T} (h : t = .non ∨ (∃ b, t = .bl b) ∨ (∃ i, t = .int i) ∨ (∃ x, t = .str x) ∨ ∃ kvs, t = .dct kvs) : isiT2 "list" "tuple" t = .ret (.bl false) := by
  unfold isiT2
  rcases h with rfl | ⟨b, rfl⟩ | ⟨i, rfl⟩ | ⟨x, rfl⟩ | ⟨k, rfl⟩
  · simp only [tyName, k_nl, k_nt, Bool.or_false]
  · simp only [tyName, k_bl, k_bt, Bool.or_false]
  · simp only [tyName, k_il, k_it, Bool.or_false]
  · simp only [tyName, k_sl, k_st, Bool.or_false]
  · simp only [tyName, k_dl, k_dt, Bool.or_false]
theorem items_seq {t : T} {ys : List T} (h : SeqOf t ys) : itemsT t = .ret ys := by rcases h with rfl | rfl <;> rfl
theorem tk_loose_seq {rec : List T → M T} {t : T} {xs : List T} {c : Nat} (R : T → T → Prop) (ht : SeqOf t xs) (hl : xs.length ≤ 1000000) (hx : ∀ x ∈ xs, Tk (rec [x]) c (R x)) :
    Tk (fnM true 4 (G__law_loose cA rec) [t]) (c * xs.length + 1) (fun u => ∃ ys, SeqOf u ys ∧ Paired R xs ys) := by
  refine Tk.fn ?_
  show Tk (sSeq _ _ [.strm, .val t, .any, .any]) _ _
  unfold sSeq
  refine (Tk.bind (n := 0 + (c * xs.length + 1)) (n2 := 0) (P := fun fl => ∃ u, fl = .ret u ∧ ∃ ys, SeqOf u ys ∧ Paired R xs ys) ?_ fun fl ⟨u, e, h⟩ => by rw [e]; exact Tk.ret ⟨u, rfl, h⟩).le (by omega)
  refine Tk.if_ (B := fun b => b = true) (Tk.eq (a := true) ?_ rfl) (fun _ => ?_) fun h => nomatch h
  · show (isiT2 "list" "tuple" t).bind boolT = _
    rw [isi2_seq ht]
    rfl
  refine Tk.seq (n := c * xs.length) (n2 := 1) (I := fun ρ' => ∃ ys, Paired R xs ys ∧ ρ' = [.strm, .val t, .val (.lst ys), .any]) ?_ fun ρ' ⟨ys, hp, e⟩ => ?_
  · refine (Tk.sSet (P := fun u => ∃ ys, u = .lst ys ∧ Paired R xs ys) ?_).imp fun fl ⟨ρ', e, u, ⟨ys, eu, hp⟩, er⟩ => ⟨ρ', e, ys, hp, by rw [er, eu]; rfl⟩
    refine (Tk.e1 (n2 := 0) (Tk.nLc R (ts := xs) (c := c) ?_ rfl hl fun x hx' => ⟨_, rfl, rfl, ?_⟩) fun ys hp => Tk.ret ⟨ys, rfl, hp⟩)
    · show (M.ret t).bind itemsT = _
      exact items_seq ht
    · exact (Tk.callS rfl (n := 0) (A := fun ts => ts = [x]) (Tk.pure rfl) fun ts e => by rw [e]; exact hx x hx').le (by omega)
  · subst e
    refine Tk.sRet ?_
    refine (Tk.eIf (n := 1) (n2 := 0) (B := fun _ => True) ?_ (fun _ => Tk.eq rfl ⟨ys, .inl rfl, hp⟩) fun _ => Tk.eq rfl ⟨ys, .inr rfl, hp⟩)
    refine (Tk.e1 (n := 1) (n2 := 0) (A := fun u => ∃ b, u = .bl b) (Tk.e2 (n1 := 1) (n2 := 0) (n3 := 0) (A := fun u => ∃ d, u = .int d) (B := fun u => u = T.int 0) ?_ (Tk.eq (a := T.int 0) rfl rfl) fun a b ⟨d, e⟩ e2 => ?_) fun u ⟨b, e⟩ => by rw [e]; exact Tk.ret trivial)
    · exact (Tk.callS rfl (n := 0) (A := fun ts => ts = [.int 2]) (Tk.pure rfl) fun ts e => by rw [e]; exact (tk_draw (by decide) (by decide)).imp fun u ⟨d, e, _⟩ => ⟨d, e⟩).le (by omega)
    · subst e e2
      exact Tk.eq (eqT_int d 0) ⟨_, rfl⟩
theorem loose_int {rec : List T → M T} (i : Int) : fnM true 4 (G__law_loose cA rec) [.int i] = .ret (.int i) := by
  show M.bind ((M.bind (M.bind (M.bind (isiT2 "list" "tuple" (.int i)) boolT) _) _)) _ = _
  rw [isi2_flat (.inr (.inr (.inl ⟨i, rfl⟩)))]
  rfl
theorem paired_int {xs : List Int} {ys : List T} (h : Paired (fun x y => y = x) (xs.map T.int) ys) : ys = xs.map T.int := by
  generalize e : xs.map T.int = zs at h
  clear e
  induction h with
  | nil => rfl
  | cons r _ ih => rw [r, ih]
theorem tk_loose_ints {n : Nat} {t : T} {xs : List Int} (ht : SeqOf t (xs.map T.int)) (hl : xs.length ≤ 1000000) : Tk (m__law_loose cA (n + 2) [t]) 1 (fun u => SeqOf u (xs.map T.int)) := by
  refine (tk_loose_seq (cA := cA) (rec := m__law_loose cA (n + 1)) (c := 0) (fun x y => y = x) ht (by simpa using hl) fun x hx => ?_).mono (by omega) fun u ⟨ys, h1, h2⟩ => by rw [paired_int h2] at h1; exact h1
  obtain ⟨i, _, rfl⟩ := List.mem_map.mp hx
  exact Tk.pure (loose_int (cA := cA) (rec := m__law_loose cA n) i)
/-- rows of ints, told loosely -/
def RowOf (x y : T) : Prop := ∃ k : List Int, x = iT k ∧ SeqOf y (k.map T.int)
theorem tk_loose_rows {n : Nat} {t : T} {ks : List (List Int)} (ht : SeqOf t (ks.map iT)) (hl : ks.length ≤ 1000000) (hk : ∀ k ∈ ks, k.length ≤ 1000000) : Tk (m__law_loose cA (n + 3) [t]) (ks.length + 1) (fun u => ∃ ys, SeqOf u ys ∧ Paired RowOf (ks.map iT) ys) := by
  refine (tk_loose_seq (cA := cA) (rec := m__law_loose cA (n + 2)) (c := 1) RowOf ht (by simpa using hl) fun x hx => ?_).le (by simp)
  obtain ⟨k, hk', rfl⟩ := List.mem_map.mp hx
  exact (tk_loose_ints (.inr rfl) (hk k hk')).imp fun u h => ⟨k, rfl, h⟩
end Tw
end
section
set_option Elab.async false
set_option linter.all false
set_option maxRecDepth 100000
namespace DP
open PySem PySem.Spec PyProof.Rows L2
/-! ### what draws nothing, part by part -/
section
variable {ρ ρ' : Env'} {α β γ : Type} {a : α} {b : β} {c : γ} {t u : T} {ts us : List T} {cb cc : Bool} {i : Nat}
theorem v_var {x : T} (h : ρ[i]? = some (.val x)) : eV i ρ = .ret x := by unfold eV; rw [h]
theorem v_seq {p : Bool × List T} (h : ρ[i]? = some (.val t)) (hp : seqT t = .ret p) : eVS i ρ = .ret p := by unfold eVS; rw [h]; exact hp
theorem v_own (h : ρ[i]? = some (.own ts)) : eVS i ρ = .ret (true, ts) := by unfold eVS; rw [h]
theorem v_c : eC t ρ = .ret t := rfl
theorem v_1 {k : α → M β} {f : Env' → M α} (h : f ρ = .ret a) (hk : k a = .ret b) : e1 k f ρ = .ret b := by unfold e1; rw [h]; exact hk
theorem v_2 {k : α → β → M γ} {f : Env' → M α} {g : Env' → M β} (h : f ρ = .ret a) (h2 : g ρ = .ret b) (hk : k a b = .ret c) : e2 k f g ρ = .ret c := by
  unfold e2; rw [h]; show (g ρ).bind (k a) = _; rw [h2]; exact hk
theorem v_nil : aNil ρ = .ret [] := rfl
theorem v_cons {f : Env' → M T} {fs : Env' → M (List T)} (h : f ρ = .ret t) (h2 : fs ρ = .ret ts) : aCons f fs ρ = .ret (t :: ts) := v_2 h h2 rfl
theorem v_call {m : List T → M T} {f : Env' → M (List T)} (h : f ρ = .ret ts) (hm : m ts = .ret t) : eCall m f ρ = .ret t := by unfold eCall; rw [h]; exact hm
theorem v_tup {f : Env' → M (List T)} (h : f ρ = .ret ts) (hl : ts.length ≤ 1000000) : eTup f ρ = .ret (.tup ts) := by
  unfold eTup; rw [h]; show (if okLen ts.length = true then M.ret (T.tup ts) else .stuck) = _; rw [if_pos (by unfold okLen; simpa using hl)]
theorem v_lst {f : Env' → M (List T)} (h : f ρ = .ret ts) (hl : ts.length ≤ 1000000) : nLst f ρ = .ret ts := by
  unfold nLst; rw [h]; show (if okLen ts.length = true then M.ret ts else .stuck) = _; rw [if_pos (by unfold okLen; simpa using hl)]
theorem v_lstT {f : Env' → M (List T)} (h : f ρ = .ret ts) : e1 lstT f ρ = .ret (.lst ts) := v_1 h rfl
theorem v_bool {f : Env' → M T} (h : f ρ = .ret (.bl cb)) : e1 boolT f ρ = .ret cb := v_1 h rfl
theorem v_not {f : Env' → M Bool} (h : f ρ = .ret cb) : eNot f ρ = .ret (!cb) := by unfold eNot; rw [h]; rfl
theorem v_orT {f g : Env' → M Bool} (h : f ρ = .ret true) : eOr f g ρ = .ret true := by unfold eOr; rw [h]; rfl
theorem v_orF {f g : Env' → M Bool} (h : f ρ = .ret false) (h2 : g ρ = .ret cc) : eOr f g ρ = .ret cc := by unfold eOr; rw [h]; exact h2
theorem v_andT {f g : Env' → M Bool} (h : f ρ = .ret true) (h2 : g ρ = .ret cc) : eAnd f g ρ = .ret cc := by unfold eAnd; rw [h]; exact h2
theorem v_andF {f g : Env' → M Bool} (h : f ρ = .ret false) : eAnd f g ρ = .ret false := by unfold eAnd; rw [h]; rfl
theorem v_andVT {f g : Env' → M T} (h : f ρ = .ret (.bl true)) (h2 : g ρ = .ret t) : eAndV f g ρ = .ret t := by unfold eAndV; rw [h]; exact h2
theorem v_andVF {f g : Env' → M T} (h : f ρ = .ret (.bl false)) : eAndV f g ρ = .ret (.bl false) := by unfold eAndV; rw [h]; rfl
theorem v_notV {f : Env' → M T} (h : f ρ = .ret (.bl cb)) : eNotV f ρ = .ret (.bl (!cb)) := by unfold eNotV; rw [h]; rfl
theorem v_ifT {q : Env' → M Bool} {f g : Env' → M T} (h : q ρ = .ret true) (h2 : f ρ = .ret t) : eIf q f g ρ = .ret t := by unfold eIf; rw [h]; exact h2
theorem v_ifF {q : Env' → M Bool} {f g : Env' → M T} (h : q ρ = .ret false) (h2 : g ρ = .ret t) : eIf q f g ρ = .ret t := by unfold eIf; rw [h]; exact h2
variable {fl : Fl} {G1 G2 : Env' → M Fl}
theorem g_seq (h : G1 ρ = .ret (.next ρ')) (h2 : G2 ρ' = .ret fl) : sSeq G1 G2 ρ = .ret fl := by unfold sSeq; rw [h]; exact h2
theorem g_seqR (h : G1 ρ = .ret (.ret t)) : sSeq G1 G2 ρ = .ret (.ret t) := by unfold sSeq; rw [h]; rfl
theorem g_ifT {q : Env' → M Bool} (h : q ρ = .ret true) (h2 : G1 ρ = .ret fl) : sIf q G1 G2 ρ = .ret fl := by unfold sIf; rw [h]; exact h2
theorem g_ifF {q : Env' → M Bool} (h : q ρ = .ret false) (h2 : G2 ρ = .ret fl) : sIf q G1 G2 ρ = .ret fl := by unfold sIf; rw [h]; exact h2
theorem g_ret {f : Env' → M T} (h : f ρ = .ret t) : sRet f ρ = .ret (.ret t) := by unfold sRet; rw [h]; rfl
theorem g_set {f : Env' → M T} (h : f ρ = .ret t) : sSet i f ρ = .ret (.next (ρ.set i (.val t))) := by unfold sSet; rw [h]; rfl
theorem g_fn {st : Bool} {n : Nat} {G : Env' → M Fl} (h : G (start' st n ts) = .ret (.ret t)) : fnM st n G ts = .ret t := by unfold fnM; rw [h]; rfl
theorem g_for {fi : Env' → M (List T)} {bd : T → Env' → Option Env'} {G : Env' → M Fl} (h : fi ρ = .ret ts) (h2 : forL bd G ts ρ = .ret fl) : sFor fi bd G ρ = .ret fl := by unfold sFor; rw [h]; exact h2
theorem g_asg {f : Env' → M T} {bd : T → Env' → Option Env'} (h : f ρ = .ret t) (h2 : bd t ρ = some ρ') : sAsg f bd ρ = .ret (.next ρ') := by unfold sAsg; rw [h]; show (match bd t ρ with | some ρ' => M.ret (Fl.next ρ') | none => .stuck) = _; rw [h2]
theorem Tk.out {α : Type} {m : M α} {P : α → Prop} (h : Tk m 0 P) : ∃ a, m = .ret a ∧ P a := by
  have h := h.go 0 (fun _ a => P a) (fun _ _ _ => False) (Nat.le_refl _) fun _ _ _ p => p
  cases m with
  | ret a => exact ⟨a, rfl, h⟩
  | draw n k => exact absurd h.2.1 (Nat.lt_irrefl _)
  | exc _ _ => exact h.elim
  | stuck => exact h.elim
end
end DP
end
section
set_option Elab.async false
set_option linter.all false
set_option maxRecDepth 100000
namespace Tw
open PySem PySem.Spec PyProof.Rows L2 DP
variable {cA : Str → Addr}
theorem isi_int (i : Int) : isiT "int" (.int i) = .ret (.bl true) := by unfold isiT; simp only [tyName, k_ii]
theorem isb_int (i : Int) : isiT "bool" (.int i) = .ret (.bl false) := by unfold isiT; simp only [tyName, k_ib]
theorem isi_bl (i : Bool) : isiT "int" (.bl i) = .ret (.bl true) := by unfold isiT; simp only [tyName, k_bi]
theorem isb_bl (i : Bool) : isiT "bool" (.bl i) = .ret (.bl true) := by unfold isiT; simp only [tyName, k_bb]
/-- what is no integer, and no bool -/
def Odd (t : T) : Prop := t = .non ∨ (∃ x, t = .str x) ∨ (∃ ys, t = .lst ys) ∨ (∃ ys, t = .tup ys) ∨ ∃ kvs, t = .dct kvs
theorem isi_odd {t : T} (h : Odd t) : isiT "int" t = .ret (.bl false) := by
  rcases h with rfl | ⟨x, rfl⟩ | ⟨x, rfl⟩ | ⟨x, rfl⟩ | ⟨x, rfl⟩
  · unfold isiT; simp only [tyName, k_ni]
  · unfold isiT; simp only [tyName, k_si]
  · unfold isiT; simp only [tyName, k_li]
  · unfold isiT; simp only [tyName, k_ti]
  · unfold isiT; simp only [tyName, k_di]
theorem k_fl : kitB "function" "list" = some false := by decide +kernel
theorem k_ft : kitB "function" "tuple" = some false := by decide +kernel
theorem list_seq {t : T} {ys : List T} (h : SeqOf t ys) : m_is_list cA [t] = .ret (.bl true) := by
  show M.bind (M.bind (isiT2 "list" "tuple" t) _) _ = _
  rw [isi2_seq h]
  rfl
def Flat (t : T) : Prop := t = .non ∨ (∃ b, t = .bl b) ∨ (∃ i, t = .int i) ∨ (∃ x, t = .str x) ∨ (∃ kvs, t = .dct kvs) ∨ ∃ a, t = .fn a
theorem isi2_flat' {t : T} (h : Flat t) : isiT2 "list" "tuple" t = .ret (.bl false) := by
  rcases h with h | h | h | h | h | ⟨a, rfl⟩
  · exact isi2_flat (.inl h)
  · exact isi2_flat (.inr (.inl h))
  · exact isi2_flat (.inr (.inr (.inl h)))
  · exact isi2_flat (.inr (.inr (.inr (.inl h))))
  · exact isi2_flat (.inr (.inr (.inr (.inr h))))
  · unfold isiT2
    simp only [tyName, k_fl, k_ft, Bool.or_false]
theorem list_flat {t : T} (h : Flat t) : m_is_list cA [t] = .ret (.bl false) := by
  show M.bind (M.bind (isiT2 "list" "tuple" t) _) _ = _
  rw [isi2_flat' h]
  rfl
/-! ### pairs, fractions -/
theorem seqQ {t : T} {ys : List T} (h : SeqOf t ys) : ∃ q, seqT t = .ret (q, ys) := by
  rcases h with rfl | rfl
  · exact ⟨true, rfl⟩
  · exact ⟨false, rfl⟩
theorem pair_flat {t : T} (h : Flat t) : m_is_pair cA [t] = .ret (.bl false) := g_fn (g_ret (v_andVF (v_call (v_cons (v_var rfl) v_nil) (list_flat h))))
theorem pair_seq {t : T} {ys : List T} (h : SeqOf t ys) : m_is_pair cA [t] = .ret (.bl (decide ((ys.length : Int) = 2))) := by
  obtain ⟨q, sq⟩ := seqQ h
  exact g_fn (g_ret (v_andVT (v_call (v_cons (v_var rfl) v_nil) (list_seq h)) (v_2 (v_1 (v_seq rfl sq) rfl) v_c (eqT_int _ _))))
theorem fraction_ints {t : T} {a b : Int} (h : SeqOf t [.int a, .int b]) : m_is_fraction cA [t] = .ret (.bl (decide (1 ≤ b))) := by
  obtain ⟨q, sq⟩ := seqQ h
  refine g_fn (g_seq (g_ifF (v_orF (v_not (cb := true) (v_bool (v_1 (v_var rfl) (isi2_seq h)))) (v_bool (v_2 (v_1 (v_seq rfl sq) rfl) v_c (neT_int _ _)))) rfl) (g_seq (ρ' := [.val t, .val (.int a), .val (.int b)]) (g_asg (v_var rfl) (by rcases h with rfl | rfl <;> rfl)) (g_ret ?_)))
  refine v_andVT (v_1 (v_var rfl) (isi_int a)) (v_andVT (v_1 (v_var rfl) (isi_int b)) ?_)
  have g : e2 geT (eV 2) (eC (.int 1)) [.val t, .val (.int a), .val (.int b)] = .ret (.bl (decide (1 ≤ b))) := v_2 (v_var rfl) v_c rfl
  by_cases hb : 1 ≤ b
  · rw [decide_eq_true hb] at g ⊢
    exact v_andVT g (v_andVT (v_2 (v_var rfl) v_c rfl) (v_andVT (v_2 (v_var rfl) v_c rfl) (v_2 (v_var rfl) v_c rfl)))
  · rw [decide_eq_false hb] at g ⊢
    exact v_andVF g
theorem moment_no {t : T} (h : m_is_fraction cA [t] = .ret (.bl false)) : m_is_moment cA [t] = .ret (.bl false) := g_fn (g_ret (v_andVF (v_call (v_cons (v_var rfl) v_nil) h)))
theorem geT_int (i j : Int) : DP.geT (.int i) (.int j) = .ret (.bl (decide (j ≤ i))) := rfl
theorem moment_frac {t : T} {a b : Int} (h : SeqOf t [.int a, .int b]) : m_is_moment cA [t] = .ret (.bl (decide (1 ≤ b) && decide (0 ≤ a))) := by
  obtain ⟨q, sq⟩ := seqQ h
  have f : m_is_fraction cA [t] = .ret (.bl (decide (1 ≤ b))) := fraction_ints h
  by_cases hb : 1 ≤ b
  · rw [decide_eq_true hb] at f ⊢
    exact g_fn (g_ret (v_andVT (v_call (v_cons (v_var rfl) v_nil) f) (v_2 (v_2 (v_seq rfl sq) v_c rfl) v_c (geT_int _ _))))
  · rw [decide_eq_false hb] at f ⊢
    exact moment_no f
end Tw
end
section
set_option Elab.async false
set_option linter.all false
set_option maxRecDepth 100000
namespace Tw
open PySem PySem.Spec PyProof.Rows L2 DP
variable {cA : Str → Addr}
theorem fit_of {i : Int} (h : i.natAbs ≤ 10 ^ 12) : fit i = true := by
  unfold fit
  have h2 : i.natAbs.log2 < 8000 := by
    have : i.natAbs.log2 < 40 ∨ i.natAbs = 0 := by
      by_cases z : i.natAbs = 0
      · exact .inr z
      · exact .inl ((Nat.log2_lt z).mpr (by omega))
    rcases this with h | h
    · omega
    · rw [h]; decide
  simpa using h2
theorem mulT_int {i j : Int} (h1 : i.natAbs ≤ 10 ^ 12) (h2 : j.natAbs ≤ 10 ^ 12) : DP.mulT (.int i) (.int j) = .ret (.int (i * j)) := by
  show (if (fit i && fit j) = true then M.ret (T.int (i * j)) else .stuck) = _
  rw [fit_of h1, fit_of h2]; rfl
theorem fdivT_int {i j : Int} (h1 : 0 < j) (h2 : j.natAbs ≤ 10 ^ 12) : DP.fdivT (.int i) (.int j) = .ret (.int (i / j)) := by
  show (if (decide (0 < j) && fit j) = true then M.ret (T.int (i / j)) else .stuck) = _
  rw [decide_eq_true h1, fit_of h2]; rfl
theorem addT_int (i j : Int) : DP.addT (.int i) (.int j) = .ret (.int (i + j)) := rfl
theorem subT_int (i j : Int) : DP.subT (.int i) (.int j) = .ret (.int (i - j)) := rfl
theorem ltT_int (i j : Int) : DP.ltT (.int i) (.int j) = .ret (.bl (decide (i < j))) := rfl
theorem gtT_int (i j : Int) : DP.gtT (.int i) (.int j) = .ret (.bl (decide (j < i))) := rfl
def gI (a b : Int) : Int := ((Nat.gcd a.natAbs b.natAbs : Nat) : Int)
/-- in lowest terms -/
def low (a b : Int) : T := .tup [.int (a / gI a b), .int (b / gI a b)]
theorem gI_pos {a b : Int} (h : 0 < b) : 0 < gI a b := by
  have : 0 < Nat.gcd a.natAbs b.natAbs := Nat.gcd_pos_of_pos_right _ (by omega)
  unfold gI; omega
theorem gI_le {a b : Int} (h : 0 < b) : gI a b ≤ b := by
  have : Nat.gcd a.natAbs b.natAbs ≤ b.natAbs := Nat.gcd_le_right _ (by omega)
  unfold gI; omega
theorem lowest_eq {a b : Int} (h : 0 < b) (hb : b ≤ 10 ^ 6) : m_lowest cA [.int a, .int b] = .ret (low a b) := by
  have hg := gI_pos (a := a) h
  have hl := gI_le (a := a) h
  have e : e1 gcdT (aCons (eV 0) (aCons (eV 1) aNil)) [.val (.int a), .val (.int b), .any] = .ret (.int (gI a b)) := v_1 (v_cons (v_var rfl) (v_cons (v_var rfl) v_nil)) rfl
  refine g_fn (g_seq (g_set e) (g_ret (v_tup (v_cons (v_2 (v_var rfl) (v_var rfl) (fdivT_int hg (by omega))) (v_cons (v_2 (v_var rfl) (v_var rfl) (fdivT_int hg (by omega))) v_nil)) (by simp))))
/-! the law's own -/
theorem modT_int {i j : Int} (h : 0 < j) : DP.modT (.int i) (.int j) = .ret (.int (i % j)) := if_pos h
theorem v_1' {f : Env' → M (List T)} {k : List T → M T} {ρ : Env'} {ts : List T} {t : T} (h : f ρ = .ret ts) (hk : k ts = .ret t) : e1 k f ρ = .ret t := v_1 h hk
theorem g_par {i j : Nat} {f g : Env' → M T} {t u : T} {ρ : Env'} (hf : f ρ = .ret t) (hg : g ρ = .ret u) : sPar i j (pCons f (pCons g pNil)) ρ = .ret (.next ((ρ.set i (.val t)).set j (.val u))) := by
  unfold sPar
  rw [show (pCons f (pCons g pNil)) ρ = .ret [.val t, .val u] from v_2 hf (v_2 hg rfl rfl) rfl]
  rfl
theorem g_whT {c : Env' → M Bool} {G : Env' → M Fl} {n : Nat} {ρ ρ' : Env'} {r : M Fl} (hc : c ρ = .ret true) (hG : G ρ = .ret (.next ρ')) (h : whileL c G n ρ' = r) : whileL c G (n + 1) ρ = r := by
  unfold whileL
  rw [hc]
  show M.bind (G ρ) _ = _
  rw [hG]
  exact h
theorem g_whF {c : Env' → M Bool} {G : Env' → M Fl} {n : Nat} {ρ : Env'} (hc : c ρ = .ret false) : whileL c G (n + 1) ρ = .ret (.next ρ) := by
  unfold whileL
  rw [hc]
  rfl
noncomputable abbrev euC : Env' → M Bool := e1 boolT (e2 gtT (eV 1) (eC (.int 0)))
noncomputable abbrev euB : Env' → M Fl := sPar 0 1 (pCons (eV 1) (pCons (e2 modT (eV 0) (eV 1)) pNil))
theorem euclid : ∀ (n x y : Nat), y < n → whileL euC euB n [.val (.int x), .val (.int y)] = .ret (.next [.val (.int (Nat.gcd x y : Nat)), .val (.int 0)])
  | 0, _, _, h => absurd h (Nat.not_lt_zero _)
  | n + 1, x, 0, _ => by
    rw [Nat.gcd_zero_right]
    exact g_whF rfl
  | n + 1, x, y + 1, h => by
    have ih := euclid n (y + 1) (x % (y + 1)) (Nat.lt_of_lt_of_le (Nat.mod_lt _ (Nat.succ_pos _)) (by omega))
    rw [show Nat.gcd x (y + 1) = Nat.gcd (y + 1) (x % (y + 1)) from by rw [Nat.gcd_comm x (y + 1), Nat.gcd_rec (y + 1) x, Nat.gcd_comm]]
    refine g_whT (v_bool (v_2 (v_var rfl) v_c (by rw [gtT_int, decide_eq_true (by omega)]))) (g_par (v_var rfl) (v_2 (v_var rfl) (v_var rfl) (modT_int (by omega)))) ?_
    rw [show ((x : Int) % ((y + 1 : Nat) : Int)) = ((x % (y + 1) : Nat) : Int) from rfl]
    exact ih
theorem abs_nat (a : Int) : (if a < 0 then -a else a) = (a.natAbs : Int) := by split <;> omega
theorem common_eq {a b : Int} (h : b.natAbs < 9000) : m__law_common cA [.int a, .int b] = .ret (.int (gI a b)) := by
  refine g_fn (g_seq (g_par (v_1 (v_cons (v_var rfl) v_nil) rfl) (v_1 (v_cons (v_var rfl) v_nil) rfl)) ?_)
  rw [abs_nat, abs_nat]
  exact g_seq (euclid 10000 a.natAbs b.natAbs (by omega)) (g_ret (v_var rfl))
theorem law_low_eq {a b : Int} (h : 0 < b) (hb : b < 9000) : m__law_low cA [.int a, .int b] = .ret (low a b) := by
  have hg := gI_pos (a := a) h
  have hl := gI_le (a := a) h
  have e := v_ifT (g := e2 subT (eC (.int 0)) (eCall (m__law_common cA) (aCons (eV 0) (aCons (eV 1) aNil)))) (ρ := [.val (.int a), .val (.int b), .any]) (q := e1 boolT (e2 gtT (eV 1) (eC (.int 0)))) (f := eCall (m__law_common cA) (aCons (eV 0) (aCons (eV 1) aNil)))
    (v_bool (v_2 (v_var rfl) v_c (by rw [gtT_int, decide_eq_true h]))) (v_call (v_cons (v_var rfl) (v_cons (v_var rfl) v_nil)) (common_eq (cA := cA) (a := a) (by omega)))
  refine g_fn (g_seq (g_set e) (g_ret (v_tup (v_cons (v_2 (v_var rfl) (v_var rfl) (fdivT_int hg (by omega))) (v_cons (v_2 (v_var rfl) (v_var rfl) (fdivT_int hg (by omega))) v_nil)) (by simp))))
/-! ### parts of 72 -/
theorem low_scale {k a b : Int} (hk : 0 < k) (hb : 0 < b) : low (k * a) (k * b) = low a b := by
  have e : gI (k * a) (k * b) = k * gI a b := by
    unfold gI
    rw [Int.natAbs_mul, Int.natAbs_mul, Nat.gcd_mul_left]
    have : (k.natAbs : Int) = k := by omega
    rw [Int.natCast_mul, this]
  have hg := gI_pos (a := a) hb
  unfold low
  rw [e, Int.mul_ediv_mul_of_pos _ _ hk, Int.mul_ediv_mul_of_pos _ _ hk]
def fr (n : Int) : T := low n 72
theorem low_fr {a b n : Int} (hb : 0 < b) (h : a * 72 = n * b) : low a b = fr n := by
  rw [← low_scale (k := 72) (by decide) hb, show (72 : Int) * a = b * n from by rw [Int.mul_comm, h, Int.mul_comm], show (72 : Int) * b = b * 72 from Int.mul_comm _ _]
  exact low_scale hb (by decide)
theorem fr_ex (n : Int) : ∃ a b : Int, fr n = .tup [.int a, .int b] ∧ 0 < b ∧ b ≤ 72 ∧ a * 72 = n * b ∧ a.natAbs ≤ n.natAbs := by
  have hg : 0 < gI n 72 := gI_pos (by decide)
  have d1 : gI n 72 ∣ n := by unfold gI; exact Int.ofNat_dvd_left.mpr (Nat.gcd_dvd_left _ _)
  have d2 : gI n 72 ∣ 72 := by unfold gI; exact Int.ofNat_dvd_left.mpr (Nat.gcd_dvd_right _ _)
  obtain ⟨a, ha⟩ := d1
  obtain ⟨b, hb⟩ := d2
  have ea : n / gI n 72 = a := by
    rw [show n / gI n 72 = (gI n 72 * a) / gI n 72 from by rw [← ha]]
    exact Int.mul_ediv_cancel_left _ (by omega)
  have eb : (72 : Int) / gI n 72 = b := by
    rw [show (72 : Int) / gI n 72 = (gI n 72 * b) / gI n 72 from by rw [← hb]]
    exact Int.mul_ediv_cancel_left _ (by omega)
  have bp : 0 < b := by
    rcases Int.lt_or_le 0 b with h | h
    · exact h
    · have := Int.mul_nonpos_of_nonneg_of_nonpos (Int.le_of_lt hg) h
      omega
  refine ⟨a, b, by unfold fr low; rw [ea, eb], bp, ?_, ?_, ?_⟩
  · have := Int.mul_le_mul_of_nonneg_right (show (1 : Int) ≤ gI n 72 by omega) (Int.le_of_lt bp)
    omega
  · calc a * 72 = a * (gI n 72 * b) := by rw [← hb]
      _ = (gI n 72 * a) * b := by rw [← Int.mul_assoc, Int.mul_comm a]
      _ = n * b := by rw [← ha]
  · have e : n.natAbs = (gI n 72).natAbs * a.natAbs := by rw [← Int.natAbs_mul, ← ha]
    have h1 : 1 ≤ (gI n 72).natAbs := by omega
    calc a.natAbs = 1 * a.natAbs := by simp
      _ ≤ (gI n 72).natAbs * a.natAbs := Nat.mul_le_mul_right _ h1
      _ = n.natAbs := e.symm
end Tw
end
section
set_option Elab.async false
set_option linter.all false
set_option maxRecDepth 100000
namespace Tw
open PySem PySem.Spec PyProof.Rows L2 DP
variable {cA : Str → Addr}
/-- a pair, in whatever form, that is n parts of 72 -/
structure Fr (t : T) (n : Int) : Prop where
  ex : ∃ a b : Int, SeqOf t [.int a, .int b] ∧ 0 < b ∧ b ≤ 1000 ∧ a * 72 = n * b ∧ a.natAbs ≤ 10 ^ 9
theorem fr_Fr {n : Int} (h : n.natAbs ≤ 10 ^ 9) : Fr (fr n) n := by
  obtain ⟨a, b, e, h1, h2, h3, h4⟩ := fr_ex n
  exact ⟨a, b, .inr e, h1, by omega, h3, by omega⟩
section
variable {ρ : Env'} {i : Nat} {t x y : T}
theorem v_ix0 (h : SeqOf t [x, y]) (hi : ρ[i]? = some (.val t)) : e2 ixT (eVS i) (eC (.int 0)) ρ = .ret x := by
  obtain ⟨q, sq⟩ := seqQ h
  exact v_2 (v_seq hi sq) v_c rfl
theorem v_ix1 (h : SeqOf t [x, y]) (hi : ρ[i]? = some (.val t)) : e2 ixT (eVS i) (eC (.int 1)) ρ = .ret y := by
  obtain ⟨q, sq⟩ := seqQ h
  exact v_2 (v_seq hi sq) v_c rfl
end
theorem prod_le {a b : Int} {m n : Nat} (h1 : a.natAbs ≤ m) (h2 : b.natAbs ≤ n) : (a * b).natAbs ≤ m * n := by
  rw [Int.natAbs_mul]; exact Nat.mul_le_mul h1 h2
theorem cross {a b c d n m : Int} (hb : 0 < b) (hd : 0 < d) (h1 : a * 72 = n * b) (h2 : c * 72 = m * d) : (a * d < c * b) ↔ n < m := by
  have e1 : a * d * 72 = n * (b * d) := by grind
  have e2 : c * b * 72 = m * (b * d) := by grind
  have p : 0 < b * d := Int.mul_pos hb hd
  constructor
  · intro h
    have : n * (b * d) < m * (b * d) := by omega
    exact Int.lt_of_mul_lt_mul_right this (Int.le_of_lt p)
  · intro h
    have : n * (b * d) < m * (b * d) := Int.mul_lt_mul_of_pos_right h p
    omega
theorem is_less_fr {x y : T} {n m : Int} (hx : Fr x n) (hy : Fr y m) : m_is_less cA [x, y] = .ret (.bl (decide (n < m))) := by
  obtain ⟨a, b, s1, p1, q1, r1, u1⟩ := hx.ex
  obtain ⟨c, d, s2, p2, q2, r2, u2⟩ := hy.ex
  rw [show decide (n < m) = decide (a * d < c * b) from decide_eq_decide.mpr (cross p1 p2 r1 r2).symm]
  exact g_fn (g_ret (v_2 (v_2 (v_ix0 s1 rfl) (v_ix1 s2 rfl) (mulT_int (by omega) (by omega))) (v_2 (v_ix0 s2 rfl) (v_ix1 s1 rfl) (mulT_int (by omega) (by omega))) (ltT_int _ _)))
theorem is_below_fr {x y : T} {n m : Int} (hx : Fr x n) (hy : Fr y m) : m__law_is_below cA [x, y] = .ret (.bl (decide (n < m))) := by
  obtain ⟨a, b, s1, p1, q1, r1, u1⟩ := hx.ex
  obtain ⟨c, d, s2, p2, q2, r2, u2⟩ := hy.ex
  rw [show decide (n < m) = decide (a * d < c * b) from decide_eq_decide.mpr (cross p1 p2 r1 r2).symm]
  exact g_fn (g_ret (v_2 (v_2 (v_ix0 s1 rfl) (v_ix1 s2 rfl) (mulT_int (by omega) (by omega))) (v_2 (v_ix0 s2 rfl) (v_ix1 s1 rfl) (mulT_int (by omega) (by omega))) (ltT_int _ _)))
/-- the lowest terms of what is passed -/
theorem lowest_Fr {x : T} {n a b : Int} (s : SeqOf x [.int a, .int b]) (h : Fr x n) : m_lowest cA [.int a, .int b] = .ret (fr n) := by
  obtain ⟨a', b', s', p, q, r, u⟩ := h.ex
  have e : [T.int a, .int b] = [.int a', .int b'] := by
    rcases s with rfl | rfl
    · rcases s' with s' | s'
      · exact T.lst.inj s'
      · cases s'
    · rcases s' with s' | s'
      · cases s'
      · exact T.tup.inj s'
  injection e with e1 e2
  injection e2 with e2 _
  injection e1 with e1
  injection e2 with e2
  subst e1 e2
  rw [lowest_eq p (by omega), low_fr p r]
section
variable {n m k : Int}
theorem mixed_le {a b c d : Int} (h1 : a.natAbs ≤ 10 ^ 9) (h2 : c.natAbs ≤ 10 ^ 9) (p1 : 0 < b) (q1 : b ≤ 72) (p2 : 0 < d) (q2 : d ≤ 72) : 0 < b * d ∧ b * d ≤ 5184 := by
  refine ⟨Int.mul_pos p1 p2, ?_⟩
  have := Int.mul_le_mul q1 q2 (Int.le_of_lt p2) (by decide)
  simpa using this
/-- two told fractions: their parts -/
theorem two (hn : n.natAbs ≤ 10 ^ 9) (hm : m.natAbs ≤ 10 ^ 9) : ∃ a b c d : Int, fr n = .tup [.int a, .int b] ∧ fr m = .tup [.int c, .int d] ∧ 0 < b ∧ b ≤ 72 ∧ 0 < d ∧ d ≤ 72 ∧ a * 72 = n * b ∧ c * 72 = m * d ∧ a.natAbs ≤ 10 ^ 9 ∧ c.natAbs ≤ 10 ^ 9 ∧ 0 < b * d ∧ b * d ≤ 5184 := by
  obtain ⟨a, b, e1, p1, q1, r1, u1⟩ := fr_ex n
  obtain ⟨c, d, e2, p2, q2, r2, u2⟩ := fr_ex m
  obtain ⟨z1, z2⟩ := mixed_le (a := a) (c := c) (by omega) (by omega) p1 q1 p2 q2
  exact ⟨a, b, c, d, e1, e2, p1, q1, p2, q2, r1, r2, by omega, by omega, z1, z2⟩
theorem low_tail {ρ : Env'} {A B : Int} (h2 : ρ[2]? = some (.val (.int A))) (h3 : ρ[3]? = some (.val (.int B))) (hn : ρ.length = 5) (h : 0 < B) (hb : B ≤ 10 ^ 6) :
    sSeq (sSet 4 (e1 gcdT (aCons (eV 2) (aCons (eV 3) aNil)))) (sRet (eTup (aCons (e2 fdivT (eV 2) (eV 4)) (aCons (e2 fdivT (eV 3) (eV 4)) aNil)))) ρ = .ret (.ret (low A B)) := by
  have hg := gI_pos (a := A) h
  have hl := gI_le (a := A) h
  have e : e1 gcdT (aCons (eV 2) (aCons (eV 3) aNil)) ρ = .ret (.int (gI A B)) := v_1 (v_cons (v_var h2) (v_cons (v_var h3) v_nil)) rfl
  have k2 : (ρ.set 4 (.val (.int (gI A B))))[2]? = some (.val (.int A)) := by rw [List.getElem?_set_ne (by decide)]; exact h2
  have k3 : (ρ.set 4 (.val (.int (gI A B))))[3]? = some (.val (.int B)) := by rw [List.getElem?_set_ne (by decide)]; exact h3
  have k4 : (ρ.set 4 (.val (.int (gI A B))))[4]? = some (.val (.int (gI A B))) := by rw [List.getElem?_set_self (by omega)]
  exact g_seq (g_set e) (g_ret (v_tup (v_cons (v_2 (v_var k2) (v_var k4) (fdivT_int hg (by omega))) (v_cons (v_2 (v_var k3) (v_var k4) (fdivT_int hg (by omega))) v_nil)) (by simp)))
theorem plus_fr (hn : n.natAbs ≤ 10 ^ 9) (hm : m.natAbs ≤ 10 ^ 9) : m_plus cA [fr n, fr m] = .ret (fr (n + m)) := by
  obtain ⟨a, b, c, d, e1, e2, p1, q1, p2, q2, r1, r2, u1, u2, z1, z2⟩ := two hn hm
  have key : low (a * d + c * b) (b * d) = fr (n + m) := low_fr z1 (by grind)
  have s1 : SeqOf (fr n) [.int a, .int b] := .inr e1
  have s2 : SeqOf (fr m) [.int c, .int d] := .inr e2
  rw [← key]
  exact g_fn (g_seq (g_set (v_2 (v_2 (v_ix0 s1 rfl) (v_ix1 s2 rfl) (mulT_int (by omega) (by omega))) (v_2 (v_ix0 s2 rfl) (v_ix1 s1 rfl) (mulT_int (by omega) (by omega))) (addT_int _ _))) (g_seq (g_set (v_2 (v_ix1 s1 rfl) (v_ix1 s2 rfl) (mulT_int (by omega) (by omega)))) (low_tail rfl rfl rfl z1 (by omega))))
theorem minus_fr (hn : n.natAbs ≤ 10 ^ 9) (hm : m.natAbs ≤ 10 ^ 9) : m_minus cA [fr n, fr m] = .ret (fr (n - m)) := by
  obtain ⟨a, b, c, d, e1, e2, p1, q1, p2, q2, r1, r2, u1, u2, z1, z2⟩ := two hn hm
  have key : low (a * d - c * b) (b * d) = fr (n - m) := low_fr z1 (by grind)
  have s1 : SeqOf (fr n) [.int a, .int b] := .inr e1
  have s2 : SeqOf (fr m) [.int c, .int d] := .inr e2
  rw [← key]
  exact g_fn (g_seq (g_set (v_2 (v_2 (v_ix0 s1 rfl) (v_ix1 s2 rfl) (mulT_int (by omega) (by omega))) (v_2 (v_ix0 s2 rfl) (v_ix1 s1 rfl) (mulT_int (by omega) (by omega))) (subT_int _ _))) (g_seq (g_set (v_2 (v_ix1 s1 rfl) (v_ix1 s2 rfl) (mulT_int (by omega) (by omega)))) (low_tail rfl rfl rfl z1 (by omega))))
theorem times_eq {a b c d : Int} (h : n * m = 72 * k) (r1 : a * 72 = n * b) (r2 : c * 72 = m * d) : a * c * 72 = k * (b * d) := by
  have : (a * c * 72) * 72 = (k * (b * d)) * 72 := by grind
  omega
theorem times_fr (hn : n.natAbs ≤ 10 ^ 9) (hm : m.natAbs ≤ 10 ^ 9) (h : n * m = 72 * k) : m_times cA [fr n, fr m] = .ret (fr k) := by
  obtain ⟨a, b, c, d, e1, e2, p1, q1, p2, q2, r1, r2, u1, u2, z1, z2⟩ := two hn hm
  have key : low (a * c) (b * d) = fr (k) := low_fr z1 (times_eq h r1 r2)
  have s1 : SeqOf (fr n) [.int a, .int b] := .inr e1
  have s2 : SeqOf (fr m) [.int c, .int d] := .inr e2
  rw [← key]
  exact g_fn (g_seq (g_set (v_2 (v_ix0 s1 rfl) (v_ix0 s2 rfl) (mulT_int (by omega) (by omega)))) (g_seq (g_set (v_2 (v_ix1 s1 rfl) (v_ix1 s2 rfl) (mulT_int (by omega) (by omega)))) (low_tail rfl rfl rfl z1 (by omega))))
theorem law_plus_fr (hn : n.natAbs ≤ 10 ^ 9) (hm : m.natAbs ≤ 10 ^ 9) : m__law_plus cA [fr n, fr m] = .ret (fr (n + m)) := by
  obtain ⟨a, b, c, d, e1, e2, p1, q1, p2, q2, r1, r2, u1, u2, z1, z2⟩ := two hn hm
  have key := (law_low_eq (cA := cA) (a := a * d + c * b) z1 (by omega)).trans (congrArg M.ret (low_fr (n := n + m) z1 (by grind)))
  have s1 : SeqOf (fr n) [.int a, .int b] := .inr e1
  have s2 : SeqOf (fr m) [.int c, .int d] := .inr e2
  exact g_fn (g_ret (v_call (v_cons (v_2 (v_2 (v_ix0 s1 rfl) (v_ix1 s2 rfl) (mulT_int (by omega) (by omega))) (v_2 (v_ix0 s2 rfl) (v_ix1 s1 rfl) (mulT_int (by omega) (by omega))) (addT_int _ _)) (v_cons (v_2 (v_ix1 s1 rfl) (v_ix1 s2 rfl) (mulT_int (by omega) (by omega))) v_nil)) key))
theorem law_less_fr (hn : n.natAbs ≤ 10 ^ 9) (hm : m.natAbs ≤ 10 ^ 9) : m__law_less cA [fr n, fr m] = .ret (fr (n - m)) := by
  obtain ⟨a, b, c, d, e1, e2, p1, q1, p2, q2, r1, r2, u1, u2, z1, z2⟩ := two hn hm
  have key := (law_low_eq (cA := cA) (a := a * d - c * b) z1 (by omega)).trans (congrArg M.ret (low_fr (n := n - m) z1 (by grind)))
  have s1 : SeqOf (fr n) [.int a, .int b] := .inr e1
  have s2 : SeqOf (fr m) [.int c, .int d] := .inr e2
  exact g_fn (g_ret (v_call (v_cons (v_2 (v_2 (v_ix0 s1 rfl) (v_ix1 s2 rfl) (mulT_int (by omega) (by omega))) (v_2 (v_ix0 s2 rfl) (v_ix1 s1 rfl) (mulT_int (by omega) (by omega))) (subT_int _ _)) (v_cons (v_2 (v_ix1 s1 rfl) (v_ix1 s2 rfl) (mulT_int (by omega) (by omega))) v_nil)) key))
theorem law_times_fr (hn : n.natAbs ≤ 10 ^ 9) (hm : m.natAbs ≤ 10 ^ 9) (h : n * m = 72 * k) : m__law_times cA [fr n, fr m] = .ret (fr k) := by
  obtain ⟨a, b, c, d, e1, e2, p1, q1, p2, q2, r1, r2, u1, u2, z1, z2⟩ := two hn hm
  have key := (law_low_eq (cA := cA) (a := a * c) z1 (by omega)).trans (congrArg M.ret (low_fr (n := k) z1 (times_eq h r1 r2)))
  have s1 : SeqOf (fr n) [.int a, .int b] := .inr e1
  have s2 : SeqOf (fr m) [.int c, .int d] := .inr e2
  exact g_fn (g_ret (v_call (v_cons (v_2 (v_ix0 s1 rfl) (v_ix0 s2 rfl) (mulT_int (by omega) (by omega))) (v_cons (v_2 (v_ix1 s1 rfl) (v_ix1 s2 rfl) (mulT_int (by omega) (by omega))) v_nil)) key))
theorem lesser_fr {x y : T} (hx : Fr x n) (hy : Fr y m) : m_lesser cA [x, y] = .ret (if m < n then y else x) := by
  have e : eCall (m_is_less cA) (aCons (eV 1) (aCons (eV 0) aNil)) [.val x, .val y] = .ret (.bl (decide (m < n))) := v_call (v_cons (v_var rfl) (v_cons (v_var rfl) v_nil)) (is_less_fr hy hx)
  by_cases h : m < n
  · rw [decide_eq_true h] at e
    rw [if_pos h]
    exact g_fn (g_seqR (g_ifT (v_bool e) (g_ret (v_var rfl))))
  · rw [decide_eq_false h] at e
    rw [if_neg h]
    exact g_fn (g_seq (g_ifF (v_bool e) rfl) (g_ret (v_var rfl)))
end
end Tw
end
section
set_option Elab.async false
set_option linter.all false
set_option maxRecDepth 100000
namespace Tw
open PySem PySem.Spec PyProof.Rows L2 DP
variable {cA : Str → Addr}
/-! ### loops that draw nothing -/
section
variable {bd : T → Env' → Option Env'} {G : Env' → M Fl}
theorem for_nil {ρ : Env'} : forL bd G [] ρ = .ret (.next ρ) := rfl
theorem for_next {t : T} {ts : List T} {ρ ρ1 ρ2 : Env'} {r : M Fl} (h1 : bd t ρ = some ρ1) (h2 : G ρ1 = .ret (.next ρ2)) (h3 : forL bd G ts ρ2 = r) : forL bd G (t :: ts) ρ = r := by
  unfold forL
  rw [h1]
  show M.bind (G ρ1) _ = _
  rw [h2]
  exact h3
theorem for_ret {t u : T} {ts : List T} {ρ ρ1 : Env'} (h1 : bd t ρ = some ρ1) (h2 : G ρ1 = .ret (.ret u)) : forL bd G (t :: ts) ρ = .ret (.ret u) := by
  unfold forL
  rw [h1]
  show M.bind (G ρ1) _ = _
  rw [h2]
  rfl
/-- so many turns that go on, then the rest -/
theorem for_app (I : Nat → Env' → Prop) : ∀ (xs : List T) (k : Nat) (ρ : Env'), I k ρ → (∀ (j : Nat) (t : T) (ρ : Env'), xs[j]? = some t → I (k + j) ρ → ∃ ρ1 ρ2, bd t ρ = some ρ1 ∧ G ρ1 = .ret (.next ρ2) ∧ I (k + j + 1) ρ2) →
    ∃ ρ', I (k + xs.length) ρ' ∧ ∀ ys, forL bd G (xs ++ ys) ρ = forL bd G ys ρ'
  | [], k, ρ, h, _ => ⟨ρ, h, fun _ => rfl⟩
  | t :: xs, k, ρ, h, hs => by
    obtain ⟨ρ1, ρ2, e1, e2, i2⟩ := hs 0 t ρ rfl h
    obtain ⟨ρ', i3, e3⟩ := for_app I xs (k + 1) ρ2 i2 fun j t ρ ht hj => by
      have := hs (j + 1) t ρ (by simpa using ht) (by rw [show k + (j + 1) = k + 1 + j by omega]; exact hj)
      rw [show k + (j + 1) + 1 = k + 1 + j + 1 by omega] at this
      exact this
    refine ⟨ρ', by rw [List.length_cons, show k + (xs.length + 1) = k + 1 + xs.length by omega]; exact i3, fun ys => ?_⟩
    exact for_next e1 e2 (e3 ys)
theorem for_all (I : Nat → Env' → Prop) {xs : List T} {ρ : Env'} (h : I 0 ρ) (hs : ∀ (j : Nat) (t : T) (ρ : Env'), xs[j]? = some t → I j ρ → ∃ ρ1 ρ2, bd t ρ = some ρ1 ∧ G ρ1 = .ret (.next ρ2) ∧ I (j + 1) ρ2) :
    ∃ ρ', forL bd G xs ρ = .ret (.next ρ') ∧ I xs.length ρ' := by
  obtain ⟨ρ', i, e⟩ := for_app I xs 0 ρ h fun j t ρ ht hj => by
    rw [Nat.zero_add] at hj ⊢
    exact hs j t ρ ht hj
  rw [Nat.zero_add] at i
  exact ⟨ρ', by rw [← List.append_nil xs, e]; rfl, i⟩
end
theorem enum_get {ys : List T} {j : Nat} {t : T} (h : (enumL ys)[j]? = some t) : ∃ y, ys[j]? = some y ∧ t = .tup [.int (j : Nat), y] := by
  unfold enumL at h
  rw [List.getElem?_mapIdx] at h
  cases e : ys[j]? with
  | none => rw [e] at h; cases h
  | some y => rw [e] at h; exact ⟨y, rfl, (Option.some.inj h).symm⟩
theorem enum_at {ys : List T} {j : Nat} {y : T} (h : ys[j]? = some y) : (enumL ys)[j]? = some (.tup [.int (j : Nat), y]) := by
  unfold enumL
  rw [List.getElem?_mapIdx, h]
  rfl
theorem enum_len (ys : List T) : (enumL ys).length = ys.length := by unfold enumL; simp
theorem enum_of {t : T} {ys : List T} (ht : SeqOf t ys) : enumB [t] = .ret (enumL ys) := by rcases ht with rfl | rfl <;> rfl
/-! ### comers -/
/-- a pair, in whatever form: a moment and a rate -/
structure Cm (y : T) (c : Int × Int) : Prop where
  ex : ∃ u v, SeqOf y [u, v] ∧ Fr u c.1 ∧ Fr v c.2 ∧ 0 ≤ c.1 ∧ 0 ≤ c.2
theorem moment_Fr {t : T} {n : Int} (h : Fr t n) (h0 : 0 ≤ n) : m_is_moment cA [t] = .ret (.bl true) := by
  obtain ⟨a, b, s, p, q, r, u⟩ := h.ex
  rw [moment_frac s, decide_eq_true (by omega : (1 : Int) ≤ b)]
  have : 0 ≤ a := by
    rcases Int.lt_or_le a 0 with z | z
    · have : n * b < 0 := by omega
      have := Int.mul_nonneg h0 (Int.le_of_lt p)
      omega
    · exact z
  rw [decide_eq_true this]
  rfl
noncomputable abbrev fbB (cA : Str → Addr) : Env' → M Fl := (sSeq (sIf (eNot (eAnd (e1 boolT (eCall (m_is_pair cA) (aCons (eV 2) aNil))) (eAnd (e1 boolT (eCall (m_is_moment cA) (aCons (e2 ixT (eVS 2) (eC (.int 0))) aNil))) (e1 boolT (eCall (m_is_moment cA) (aCons (e2 ixT (eVS 2) (eC (.int 1))) aNil)))))) (sRet (eV 1)) sNext)
  (sSeq (sIf (eAnd (e1 boolT (e2 eqT (eV 1) (eC (.int 0)))) (e1 boolT (e2 gtT (e2 ixT (e1 seqT (e2 ixT (eVS 2) (eC (.int 0)))) (eC (.int 0))) (eC (.int 0))))) (sRet (eV 1)) sNext)
  (sIf (eAnd (e1 boolT (e2 gtT (eV 1) (eC (.int 0)))) (eNot (e1 boolT (eCall (m_is_less cA) (aCons (e2 ixT (e1 seqT (e2 ixT (eVS 0) (e2 subT (eV 1) (eC (.int 1))))) (eC (.int 0))) (aCons (e2 ixT (eVS 2) (eC (.int 0))) aNil)))))) (sRet (eV 1)) sNext)))
section
variable {t y y' : T} {ys : List T} {j : Nat} {c c' : Int × Int}
abbrev fbE (t : T) (j : Nat) (y : T) : Env' := [.val t, .val (.int j), .val y]
/-- the first test: a pair of a moment and a rate -/
theorem fb1_ok (h : Cm y c) : (eNot (eAnd (e1 boolT (eCall (m_is_pair cA) (aCons (eV 2) aNil))) (eAnd (e1 boolT (eCall (m_is_moment cA) (aCons (e2 ixT (eVS 2) (eC (.int 0))) aNil))) (e1 boolT (eCall (m_is_moment cA) (aCons (e2 ixT (eVS 2) (eC (.int 1))) aNil)))))) (fbE t j y) = .ret false := by
  obtain ⟨u, v, s, f1, f2, p1, p2⟩ := h.ex
  exact v_not (cb := true) (v_andT (v_bool (v_call (v_cons (v_var rfl) v_nil) (pair_seq s))) (v_andT (v_bool (v_call (v_cons (v_ix0 s rfl) v_nil) (moment_Fr f1 p1))) (v_bool (v_call (v_cons (v_ix1 s rfl) v_nil) (moment_Fr f2 p2)))))
theorem v_top {u v : T} {a b : Int} (s : SeqOf y [u, v]) (su : SeqOf u [.int a, .int b]) : e2 ixT (e1 seqT (e2 ixT (eVS 2) (eC (.int 0)))) (eC (.int 0)) (fbE t j y) = .ret (.int a) := by
  obtain ⟨q, sq⟩ := seqQ su
  exact v_2 (v_1 (v_ix0 s rfl) sq) v_c rfl
theorem fb_ok0 (h : Cm y c) (h0 : c.1 = 0) : fbB cA (fbE t 0 y) = .ret (.next (fbE t 0 y)) := by
  obtain ⟨u, v, s, f1, f2, p1, p2⟩ := h.ex
  obtain ⟨a, b, su, pb, _, r, _⟩ := f1.ex
  have ha : a = 0 := by rw [h0] at r; omega
  refine g_seq (g_ifF (fb1_ok h) rfl) (g_seq (g_ifF (v_andT (v_bool (v_2 (v_var rfl) v_c (eqT_int _ _))) (v_bool (v_2 (v_top s su) v_c (by rw [gtT_int, ha]; rfl)))) rfl) (g_ifF (v_andF (v_bool (v_2 (v_var rfl) v_c (gtT_int _ _)))) rfl))
theorem ix_at {q : Bool} {ys : List T} {k : Nat} {y : T} {i : Int} (h : ys[k]? = some y) (hi : i = (k : Int)) : ixT (q, ys) (.int i) = .ret y := by
  subst hi
  have hl := (List.getElem?_eq_some_iff.mp h).1
  have e : atI ys (k : Int) = some y := by
    unfold atI ixN
    rw [if_pos (by omega : (0 : Int) ≤ (k : Int)), if_pos (by omega : (k : Int) < ys.length)]
    simpa using h
  show (match atI ys (k : Int) with | some t => M.ret t | none => M.stuck) = _
  rw [e]
/-- what the last test asks -/
theorem v_prev {u v x1 x2 : T} (ht : SeqOf t ys) (hy : ys[j]? = some y') (s' : SeqOf y' [x1, x2]) (s : SeqOf y [u, v]) :
    (aCons (e2 ixT (e1 seqT (e2 ixT (eVS 0) (e2 subT (eV 1) (eC (.int 1))))) (eC (.int 0))) (aCons (e2 ixT (eVS 2) (eC (.int 0))) aNil)) (fbE t (j + 1) y) = .ret [x1, u] := by
  obtain ⟨q, sq⟩ := seqQ ht
  obtain ⟨q', sq'⟩ := seqQ s'
  have ix : ixT (q, ys) (.int (((j + 1 : Nat) : Int) - 1)) = .ret y' := ix_at hy (by omega)
  exact v_cons (v_2 (v_1 (v_2 (v_seq rfl sq) (v_2 (v_var rfl) v_c (subT_int _ _)) ix) sq') v_c rfl) (v_cons (v_ix0 s rfl) v_nil)
theorem fb2_ok : (eAnd (e1 boolT (e2 eqT (eV 1) (eC (.int 0)))) (e1 boolT (e2 gtT (e2 ixT (e1 seqT (e2 ixT (eVS 2) (eC (.int 0)))) (eC (.int 0))) (eC (.int 0))))) (fbE t (j + 1) y) = .ret false :=
  v_andF (v_bool (v_2 (v_var rfl) v_c (by rw [eqT_int, decide_eq_false (by omega)])))
theorem fb_ok1 (ht : SeqOf t ys) (hy : ys[j]? = some y') (h' : Cm y' c') (h : Cm y c) (hl : c'.1 < c.1) : fbB cA (fbE t (j + 1) y) = .ret (.next (fbE t (j + 1) y)) := by
  obtain ⟨u, v, s, f1, f2, p1, p2⟩ := h.ex
  obtain ⟨u', v', s', f1', f2', p1', p2'⟩ := h'.ex
  have less := is_less_fr (cA := cA) f1' f1
  rw [decide_eq_true hl] at less
  refine g_seq (g_ifF (fb1_ok h) rfl) (g_seq (g_ifF fb2_ok rfl) (g_ifF (v_andT (v_bool (v_2 (v_var rfl) v_c (by rw [gtT_int, decide_eq_true (by omega)]))) (v_not (cb := true) (v_bool (v_call (v_prev ht hy s' s) less)))) rfl))
/-! bad ones -/
theorem fb_bad (h : (eAnd (e1 boolT (eCall (m_is_pair cA) (aCons (eV 2) aNil))) (eAnd (e1 boolT (eCall (m_is_moment cA) (aCons (e2 ixT (eVS 2) (eC (.int 0))) aNil))) (e1 boolT (eCall (m_is_moment cA) (aCons (e2 ixT (eVS 2) (eC (.int 1))) aNil))))) (fbE t j y) = .ret false) :
    fbB cA (fbE t j y) = .ret (.ret (.int j)) := g_seqR (g_ifT (v_not h) (g_ret (v_var rfl)))
theorem fb_bad0 (h : Cm y c) (h0 : 0 < c.1) : fbB cA (fbE t 0 y) = .ret (.ret (.int 0)) := by
  obtain ⟨u, v, s, f1, f2, p1, p2⟩ := h.ex
  obtain ⟨a, b, su, pb, _, r, _⟩ := f1.ex
  have ha : 0 < a := by
    have := Int.mul_pos h0 pb
    omega
  refine g_seq (g_ifF (fb1_ok h) rfl) (g_seqR (g_ifT (v_andT (v_bool (v_2 (v_var rfl) v_c (eqT_int _ _))) (v_bool (v_2 (v_top s su) v_c (by rw [gtT_int, decide_eq_true ha])))) (g_ret (v_var rfl))))
theorem fb_bad1 (ht : SeqOf t ys) (hy : ys[j]? = some y') (h' : Cm y' c') (h : Cm y c) (hl : ¬ c'.1 < c.1) : fbB cA (fbE t (j + 1) y) = .ret (.ret (.int ((j + 1 : Nat) : Int))) := by
  obtain ⟨u, v, s, f1, f2, p1, p2⟩ := h.ex
  obtain ⟨u', v', s', f1', f2', p1', p2'⟩ := h'.ex
  have less := is_less_fr (cA := cA) f1' f1
  rw [decide_eq_false hl] at less
  refine g_seq (g_ifF (fb1_ok h) rfl) (g_seq (g_ifF fb2_ok rfl) (g_ifT (v_andT (v_bool (v_2 (v_var rfl) v_c (by rw [gtT_int, decide_eq_true (by omega)]))) (v_not (cb := false) (v_bool (v_call (v_prev ht hy s' s) less)))) (g_ret (v_var rfl))))
end
end Tw
end
section
set_option Elab.async false
set_option linter.all false
set_option maxRecDepth 100000
namespace Tw
open PySem PySem.Spec PyProof.Rows L2 DP
variable {cA : Str → Addr}
/-- from 0 on, rising -/
structure Asc (cs : List (Int × Int)) : Prop where
  first : ∀ c, cs[0]? = some c → c.1 = 0
  step : ∀ (j : Nat) (c c' : Int × Int), cs[j]? = some c → cs[j + 1]? = some c' → c.1 < c'.1
noncomputable abbrev fbBd : T → Env' → Option Env' := (bTup (bCons (bName 1) (bCons (bName 2) bNil)))
theorem paired_get {α β : Type} {R : α → β → Prop} {xs : List α} {ys : List β} {j : Nat} {x : α} (h : Paired R xs ys) (e : xs[j]? = some x) : ∃ y, ys[j]? = some y ∧ R x y := by
  induction h generalizing j with
  | nil => simp at e
  | cons r _ ih =>
    cases j with
    | zero => simp at e; subst e; exact ⟨_, rfl, r⟩
    | succ j => simpa using ih (by simpa using e)
theorem paired_len {α β : Type} {R : α → β → Prop} {xs : List α} {ys : List β} (h : Paired R xs ys) : xs.length = ys.length := by
  induction h with
  | nil => rfl
  | cons _ _ ih => simp [ih]
section
variable {t : T} {xs rest : List T} {cs : List (Int × Int)}
theorem fb_pre (ht : SeqOf t (xs ++ rest)) (hp : Paired Cm xs cs) (A : Asc cs) (a b : Sl) :
    ∃ a' b', ∀ items, forL fbBd (fbB cA) ((enumL (xs ++ rest)).take xs.length ++ items) [.val t, a, b] = forL fbBd (fbB cA) items [.val t, a', b'] := by
  obtain ⟨ρ', ⟨a', b', e⟩, h⟩ := for_app (bd := fbBd) (G := fbB cA) (fun _ ρ => ∃ a b, ρ = [.val t, a, b]) ((enumL (xs ++ rest)).take xs.length) 0 [.val t, a, b] ⟨a, b, rfl⟩ fun j it ρ hit ⟨a, b, e⟩ => by
    subst e
    have hj : j < xs.length := by
      have := (List.getElem?_eq_some_iff.mp hit).1
      rw [List.length_take] at this
      omega
    rw [List.getElem?_take_of_lt hj] at hit
    obtain ⟨y, hy, rfl⟩ := enum_get hit
    rw [List.getElem?_append_left hj] at hy
    obtain ⟨c, hc, cm⟩ := paired_get hp hy
    refine ⟨fbE t j y, fbE t j y, rfl, ?_, _, _, rfl⟩
    cases j with
    | zero => exact fb_ok0 cm (A.first c hc)
    | succ j =>
      have hj' : j < xs.length := by omega
      have hx : xs[j]? = some xs[j] := List.getElem?_eq_getElem hj'
      obtain ⟨c', hc', cm'⟩ := paired_get hp hx
      exact fb_ok1 ht (by rw [List.getElem?_append_left hj']; exact hx) cm' cm (A.step j c' c hc' hc)
  subst e
  exact ⟨a', b', h⟩
theorem fb_head {ys : List T} {r : M Fl} (ht : SeqOf t ys) (hn : ys ≠ []) (h : sSeq (sFor (e1 enumB (aCons (eV 0) aNil)) fbBd (fbB cA)) (sRet (eC .non)) [.val t, .any, .any] = r) : G_first_bad_comer cA [.val t, .any, .any] = r := by
  obtain ⟨q, sq⟩ := seqQ ht
  have n0 : ((ys.length : Int) = 0) = False := by
    have := List.length_pos_iff.mpr hn
    simp; omega
  have c : (eOr (eNot (e1 boolT (eCall (m_is_list cA) (aCons (eV 0) aNil)))) (e1 boolT (e2 eqT (e1 lenT (eVS 0)) (eC (.int 0))))) [.val t, .any, .any] = .ret false :=
    v_orF (v_not (cb := true) (v_bool (v_call (v_cons (v_var rfl) v_nil) (list_seq ht)))) (v_bool (v_2 (v_1 (v_seq rfl sq) rfl) v_c (by rw [eqT_int, decide_eq_false (by rw [n0]; exact id)])))
  show M.bind (sIf _ _ _ [.val t, .any, .any]) _ = _
  rw [show sIf _ (sRet (eC (.int 0))) sNext [.val t, .any, .any] = .ret (.next [.val t, .any, .any]) from g_ifF c rfl]
  exact h
/-- all is well -/
theorem fb_none (ht : SeqOf t xs) (hp : Paired Cm xs cs) (A : Asc cs) (hn : xs ≠ []) : m_first_bad_comer cA [t] = .ret .non := by
  have ht' : SeqOf t (xs ++ []) := by rw [List.append_nil]; exact ht
  obtain ⟨a, b, h⟩ := fb_pre (cA := cA) ht' hp A .any .any
  have e : forL fbBd (fbB cA) (enumL xs) [.val t, .any, .any] = .ret (.next [.val t, a, b]) := by
    have := h []
    rw [List.append_nil, List.append_nil, List.take_of_length_le (by rw [enum_len]; exact Nat.le_refl _)] at this
    rw [this]; rfl
  exact g_fn (fb_head ht hn (g_seq (g_for (v_1 (v_cons (v_var rfl) v_nil) (enum_of ht)) e) (g_ret v_c)))
/-- the first bad one -/
theorem fb_at {y : T} (ht : SeqOf t (xs ++ y :: rest)) (hp : Paired Cm xs cs) (A : Asc cs) (bad : fbB cA (fbE t xs.length y) = .ret (.ret (.int xs.length))) : m_first_bad_comer cA [t] = .ret (.int xs.length) := by
  obtain ⟨a, b, h⟩ := fb_pre (cA := cA) ht hp A .any .any
  have hy : (xs ++ y :: rest)[xs.length]? = some y := by simp
  have hd : (enumL (xs ++ y :: rest)).drop xs.length = .tup [.int (xs.length : Nat), y] :: (enumL (xs ++ y :: rest)).drop (xs.length + 1) := by
    have e := enum_at hy
    rw [List.drop_eq_getElem_cons (by rw [enum_len]; simp)]
    congr 1
    exact Option.some.inj ((List.getElem?_eq_getElem _).symm.trans e)
  have e : forL fbBd (fbB cA) (enumL (xs ++ y :: rest)) [.val t, .any, .any] = .ret (.ret (.int xs.length)) := by
    rw [← List.take_append_drop xs.length (enumL (xs ++ y :: rest)), h, hd]
    exact for_ret rfl bad
  exact g_fn (fb_head ht (by simp) (g_seqR (g_for (v_1 (v_cons (v_var rfl) v_nil) (enum_of ht)) e)))
theorem fb_flat (h : Flat t) : m_first_bad_comer cA [t] = .ret (.int 0) :=
  g_fn (g_seqR (g_ifT (v_orT (v_not (cb := false) (v_bool (v_call (v_cons (v_var rfl) v_nil) (list_flat h))))) (g_ret v_c)))
theorem fb_empty (h : SeqOf t []) : m_first_bad_comer cA [t] = .ret (.int 0) := by
  obtain ⟨q, sq⟩ := seqQ h
  exact g_fn (g_seqR (g_ifT (v_orF (v_not (cb := true) (v_bool (v_call (v_cons (v_var rfl) v_nil) (list_seq h)))) (v_bool (v_2 (v_1 (v_seq rfl sq) rfl) v_c rfl))) (g_ret v_c)))
end
/-! told -/
theorem exc_seq {G1 G2 : Env' → M Fl} {ρ : Env'} {c : Str} {t : T} (h : G1 ρ = .exc c t) : sSeq G1 G2 ρ = .exc c t := by unfold sSeq; rw [h]; rfl
theorem exc_fn {st : Bool} {n : Nat} {G : Env' → M Fl} {ts : List T} {c : Str} {t : T} (h : G (start' st n ts) = .exc c t) : fnM st n G ts = .exc c t := by unfold fnM; rw [h]; rfl
theorem exc_if {q : Env' → M Bool} {G1 G2 : Env' → M Fl} {ρ : Env'} {c : Str} {t : T} (hq : q ρ = .ret true) (h : G1 ρ = .exc c t) : sIf q G1 G2 ρ = .exc c t := by unfold sIf; rw [hq]; exact h
theorem exc_raise {x : Str} {f : Env' → M T} {ρ : Env'} {t : T} (h : f ρ = .ret t) : sRaise x f ρ = .exc x t := by unfold sRaise; rw [h]; rfl
theorem exc_call {m : List T → M T} {f : Env' → M (List T)} {ρ : Env'} {ts : List T} {c : Str} {t : T} (h : f ρ = .ret ts) (hm : m ts = .exc c t) : eCall m f ρ = .exc c t := by unfold eCall; rw [h]; exact hm
theorem exc_set {i : Nat} {f : Env' → M T} {ρ : Env'} {c : Str} {t : T} (h : f ρ = .exc c t) : sSet i f ρ = .exc c t := by unfold sSet; rw [h]; rfl
/-- BadComers with the index -/
theorem told_bad {t : T} {i : Int} (h : m_first_bad_comer cA [t] = .ret (.int i)) : m_told_comers cA [t] = .exc "BadComers" (.int i) :=
  exc_fn ((show _ = _ from by
    unfold G_told_comers
    refine (show sSeq _ _ _ = _ from ?_)
    unfold sSeq
    rw [show sSet 1 (eCall (m_first_bad_comer cA) (aCons (eV 0) aNil)) (start' false 6 [t]) = .ret (.next ((start' false 6 [t]).set 1 (.val (.int i)))) from g_set (v_call (v_cons (v_var rfl) v_nil) h)]
    exact exc_seq (exc_if (v_bool (v_2 (v_var rfl) v_c rfl)) (exc_raise (v_var rfl)))))
theorem told_moment_bad {t : T} (h : m_is_moment cA [t] = .ret (.bl false)) : m_told_moment cA [t] = .exc "BadMoment" t :=
  exc_fn (exc_seq (exc_if (v_not (cb := false) (v_bool (v_call (v_cons (v_var rfl) v_nil) h))) (exc_raise (v_var rfl))))
theorem told_moment_ok {t : T} {n : Int} (h : Fr t n) (h0 : 0 ≤ n) : m_told_moment cA [t] = .ret (fr n) := by
  obtain ⟨a, b, s, p, q, r, u⟩ := h.ex
  exact g_fn (g_seq (g_ifF (v_not (cb := true) (v_bool (v_call (v_cons (v_var rfl) v_nil) (moment_Fr h h0)))) rfl) (g_ret (v_call (v_cons (v_ix0 s rfl) (v_cons (v_ix1 s rfl) v_nil)) (lowest_Fr s h))))
end Tw
end
section
set_option Elab.async false
set_option linter.all false
set_option maxRecDepth 100000
namespace Tw
open PySem PySem.Spec PyProof.Rows L2 DP
variable {cA : Str → Addr}
/-- a told pair -/
def cm (c : Int × Int) : T := .tup [fr c.1, fr c.2]
/-- without what tells a rate once more -/
def squ : List (Int × Int) → List (Int × Int) → List (Int × Int)
  | acc, [] => acc
  | acc, c :: cs => squ (match acc.getLast? with
    | some l => if l.2 = c.2 then acc else acc ++ [c]
    | none => acc ++ [c]) cs
/-- told fractions are the same just if their parts are -/
theorem fr_inj {n m : Int} (h : fr n = fr m) : n = m := by
  obtain ⟨a, b, e1, p1, _, r1, _⟩ := fr_ex n
  obtain ⟨c, d, e2, p2, _, r2, _⟩ := fr_ex m
  have e := e1.symm.trans (h.trans e2)
  have e := T.tup.inj e
  injection e with e3 e4
  injection e4 with e4 _
  injection e3 with e3
  injection e4 with e4
  subst e3 e4
  have : n * b = m * b := by omega
  exact Int.eq_of_mul_eq_mul_right (by omega) this
theorem neT_fr (n m : Int) : DP.neT (fr n) (fr m) = .ret (.bl (!decide (n = m))) := by
  obtain ⟨a, b, e1, p1, _, r1, _⟩ := fr_ex n
  obtain ⟨c, d, e2, p2, _, r2, _⟩ := fr_ex m
  have key : decide (n = m) = (decide (a = c) && decide (b = d)) := by
    by_cases h : n = m
    · subst h
      have e := T.tup.inj (e1.symm.trans e2)
      injection e with e3 e4
      injection e4 with e4 _
      injection e3 with e3
      injection e4 with e4
      rw [decide_eq_true rfl, decide_eq_true e3, decide_eq_true e4]; rfl
    · rw [decide_eq_false h]
      by_cases h1 : a = c
      · by_cases h2 : b = d
        · subst h1 h2
          exact absurd (Int.eq_of_mul_eq_mul_right (by omega : b ≠ 0) (r1.symm.trans r2)) h
        · rw [decide_eq_false h2, Bool.and_false]
      · rw [decide_eq_false h1, Bool.false_and]
  rw [e1, e2, key]
  unfold DP.neT
  simp [dataT, dataTs, SeqAt.shaped, PyData.canLay0, PyData.canLayAll0, PyData.depth, PyData.depthAll, PyData.eqv, PyData.eqvAll]
  by_cases h1 : a = c <;> by_cases h2 : b = d <;> simp [h1, h2]
noncomputable abbrev tcB (cA : Str → Addr) : Env' → M Fl := (sSeq (sSet 5 (eCall (m_lowest cA) (aCons (e2 ixT (eVS 4) (eC (.int 0))) (aCons (e2 ixT (eVS 4) (eC (.int 1))) aNil))))
  (sIf (eOr (eNot (e1 truL (eVS 2))) (e1 boolT (e2 neT (e2 ixT (e1 seqT (e2 ixT (eVS 2) (e1 negT (eC (.int 1))))) (eC (.int 1))) (eV 5)))) (sApp 2 (eTup (aCons (eCall (m_lowest cA) (aCons (e2 ixT (eVS 3) (eC (.int 0))) (aCons (e2 ixT (eVS 3) (eC (.int 1))) aNil))) (aCons (eV 5) aNil)))) sNext))
noncomputable abbrev tcBd : T → Env' → Option Env' := (bTup (bCons (bName 3) (bCons (bName 4) bNil)))
/-- one turn -/
def squ1 (acc : List (Int × Int)) (c : Int × Int) : List (Int × Int) := match acc.getLast? with
  | some l => if l.2 = c.2 then acc else acc ++ [c]
  | none => acc ++ [c]
theorem tc_turn {t y : T} {acc : List (Int × Int)} {c : Int × Int} {a b d : Sl} (h : Cm y c) (hl : acc.length ≤ 1000) :
    ∃ ρ1 ρ2, tcBd y [.val t, .val .non, .own (acc.map cm), a, b, d] = some ρ1 ∧ tcB cA ρ1 = .ret (.next ρ2) ∧ ∃ a' b' d', ρ2 = [.val t, .val .non, .own ((squ1 acc c).map cm), a', b', d'] := by
  obtain ⟨u, v, s, f1, f2, p1, p2⟩ := h.ex
  obtain ⟨a1, b1, s1, _⟩ := f1.ex
  obtain ⟨a2, b2, s2, _⟩ := f2.ex
  refine ⟨[.val t, .val .non, .own (acc.map cm), .val u, .val v, d], ?_⟩
  have e0 : tcBd y [.val t, .val .non, .own (acc.map cm), a, b, d] = some [.val t, .val .non, .own (acc.map cm), .val u, .val v, d] := by rcases s with rfl | rfl <;> rfl
  have hset : sSet 5 (eCall (m_lowest cA) (aCons (e2 ixT (eVS 4) (eC (.int 0))) (aCons (e2 ixT (eVS 4) (eC (.int 1))) aNil))) [.val t, .val .non, .own (acc.map cm), .val u, .val v, d] = .ret (.next [.val t, .val .non, .own (acc.map cm), .val u, .val v, .val (fr c.2)]) :=
    g_set (v_call (v_cons (v_ix0 s2 rfl) (v_cons (v_ix1 s2 rfl) v_nil)) (lowest_Fr s2 f2))
  have happ : sApp 2 (eTup (aCons (eCall (m_lowest cA) (aCons (e2 ixT (eVS 3) (eC (.int 0))) (aCons (e2 ixT (eVS 3) (eC (.int 1))) aNil))) (aCons (eV 5) aNil))) [.val t, .val .non, .own (acc.map cm), .val u, .val v, .val (fr c.2)] = .ret (.next [.val t, .val .non, .own ((acc ++ [c]).map cm), .val u, .val v, .val (fr c.2)]) := by
    have z : eTup (aCons (eCall (m_lowest cA) (aCons (e2 ixT (eVS 3) (eC (.int 0))) (aCons (e2 ixT (eVS 3) (eC (.int 1))) aNil))) (aCons (eV 5) aNil)) [.val t, .val .non, .own (acc.map cm), .val u, .val v, .val (fr c.2)] = .ret (cm c) := v_tup (v_cons (v_call (v_cons (v_ix0 s1 rfl) (v_cons (v_ix1 s1 rfl) v_nil)) (lowest_Fr s1 f1)) (v_cons (v_var rfl) v_nil)) (by simp)
    show M.bind (eTup _ _) _ = _
    rw [z]
    show (if okLen (acc.map cm).length = true then _ else M.stuck) = _
    rw [if_pos (by unfold okLen; simp; omega), List.map_append]
    rfl
  unfold squ1
  cases hq : acc.getLast? with
  | none =>
    have : acc = [] := List.getLast?_eq_none_iff.mp hq
    subst this
    refine ⟨_, e0, g_seq hset (g_ifT (v_orT (v_not (cb := false) (v_1 (v_own rfl) rfl))) happ), _, _, _, rfl⟩
  | some l =>
    have hne : acc ≠ [] := fun z => by rw [z] at hq; cases hq
    obtain ⟨ini, rfl⟩ : ∃ ini, acc = ini ++ [l] := List.getLast?_eq_some_iff.mp hq
    have last : e2 ixT (eVS 2) (e1 negT (eC (.int 1))) [.val t, .val .non, .own ((ini ++ [l]).map cm), .val u, .val v, .val (fr c.2)] = .ret (cm l) := by
      refine v_2 (v_own rfl) (v_1 v_c rfl) ?_
      have e : atI ((ini ++ [l]).map cm) (-1) = some (cm l) := by
        unfold atI ixN
        rw [if_neg (by decide : ¬ (0 : Int) ≤ -1), if_pos (by simp; omega)]
        have : ((-1 : Int) + (((ini ++ [l]).map cm).length : Nat)).toNat = ini.length := by simp; omega
        show ((ini ++ [l]).map cm)[((-1 : Int) + (((ini ++ [l]).map cm).length : Nat)).toNat]? = _
        rw [this]
        simp
      show (match atI ((ini ++ [l]).map cm) (-1) with | some t => M.ret t | none => M.stuck) = _
      rw [e]
    have tr : e1 truL (eVS 2) [.val t, .val .non, .own ((ini ++ [l]).map cm), .val u, .val v, .val (fr c.2)] = .ret true := v_1 (v_own rfl) (by unfold truL; simp)
    have ne : e1 boolT (e2 neT (e2 ixT (e1 seqT (e2 ixT (eVS 2) (e1 negT (eC (.int 1))))) (eC (.int 1))) (eV 5)) [.val t, .val .non, .own ((ini ++ [l]).map cm), .val u, .val v, .val (fr c.2)] = .ret (!decide (l.2 = c.2)) :=
      v_bool (v_2 (v_2 (v_1 last rfl) v_c rfl) (v_var rfl) (neT_fr _ _))
    by_cases z : l.2 = c.2
    · rw [decide_eq_true z] at ne
      dsimp only
      rw [if_pos z]
      exact ⟨_, e0, g_seq hset (g_ifF (v_orF (v_not (cb := true) tr) ne) rfl), _, _, _, rfl⟩
    · rw [decide_eq_false z] at ne
      dsimp only
      rw [if_neg z]
      exact ⟨_, e0, g_seq hset (g_ifT (v_orF (v_not (cb := true) tr) ne) happ), _, _, _, rfl⟩
theorem squ1_len (acc : List (Int × Int)) (c : Int × Int) : (squ1 acc c).length ≤ acc.length + 1 := by
  unfold squ1
  split
  · split
    · omega
    · simp
  · simp
theorem tc_loop {t : T} : ∀ {ys : List T} {cs acc : List (Int × Int)} {a b d : Sl}, Paired Cm ys cs → acc.length + ys.length ≤ 1000 →
    ∃ a' b' d', forL tcBd (tcB cA) ys [.val t, .val .non, .own (acc.map cm), a, b, d] = .ret (.next [.val t, .val .non, .own ((cs.foldl squ1 acc).map cm), a', b', d'])
  | _, _, acc, a, b, d, .nil, _ => ⟨a, b, d, rfl⟩
  | y :: ys, c :: cs, acc, a, b, d, .cons h p, hl => by
    obtain ⟨ρ1, ρ2, e0, e1, a', b', d', rfl⟩ := tc_turn (cA := cA) (t := t) (acc := acc) (a := a) (b := b) (d := d) h (by simp at hl; omega)
    obtain ⟨a2, b2, d2, e2⟩ := tc_loop (t := t) (acc := squ1 acc c) (a := a') (b := b') (d := d') p (by have := squ1_len acc c; simp at hl; omega)
    exact ⟨a2, b2, d2, for_next e0 e1 e2⟩
/-- good comers, told -/
theorem told_ok {t : T} {ys : List T} {cs : List (Int × Int)} (ht : SeqOf t ys) (hp : Paired Cm ys cs) (A : Asc cs) (hn : ys ≠ []) (hl : ys.length ≤ 1000) : m_told_comers cA [t] = .ret (.lst ((cs.foldl squ1 []).map cm)) := by
  obtain ⟨a, b, d, e⟩ := tc_loop (cA := cA) (t := t) (acc := []) (a := .any) (b := .any) (d := .any) hp (by simpa using hl)
  refine g_fn (g_seq (g_set (v_call (v_cons (v_var rfl) v_nil) (fb_none ht hp A hn))) (g_seq (g_ifF (v_bool (v_2 (v_var rfl) v_c rfl)) rfl) ?_))
  refine g_seq (ρ' := [.val t, .val .non, .own [], .any, .any, .any]) rfl (g_seq (g_for (v_1 (v_var rfl) (items_seq ht)) e) ?_)
  rfl
end Tw
end
section
set_option Elab.async false
set_option linter.all false
set_option maxRecDepth 100000
namespace Tw
open PySem PySem.Spec PyProof.Rows L2 DP
variable {cA : Str → Addr}
/-- within bounds, such that products come out even -/
structure OkC (c : Int × Int) : Prop where
  d1 : ∃ k, c.1 = 6 * k
  d2 : ∃ k, c.2 = 12 * k
  b1 : 0 ≤ c.1 ∧ c.1 ≤ 30000
  b2 : 0 ≤ c.2 ∧ c.2 ≤ 3000
structure OkN (n : Int) : Prop where
  d : ∃ k, n = 6 * k
  b : 0 ≤ n ∧ n ≤ 30000
def rateAt (cs : List (Int × Int)) (n : Int) (z : Int) : Int := cs.foldl (fun r c => if n < c.1 then r else c.2) z
theorem frB {n : Int} (h0 : 0 ≤ n) (h : n ≤ 30000) : Fr (fr n) n := fr_Fr (by omega)
/-! rate_at -/
noncomputable abbrev raB (cA : Str → Addr) : Env' → M Fl := (sIf (eNot (e1 boolT (eCall (m_is_less cA) (aCons (eV 3) (aCons (eV 5) aNil))))) (sSet 4 (eV 6)) sNext)
noncomputable abbrev raBd : T → Env' → Option Env' := (bTup (bCons (bName 5) (bCons (bName 6) bNil)))
theorem ra_loop {t u w : T} {n : Int} (hn : OkN n) : ∀ {cs : List (Int × Int)} {z : Int} {a b : Sl}, (∀ c ∈ cs, OkC c) →
    ∃ a' b', forL raBd (raB cA) (cs.map cm) [.val t, .val u, .val w, .val (fr n), .val (fr z), a, b] = .ret (.next [.val t, .val u, .val w, .val (fr n), .val (fr (rateAt cs n z)), a', b'])
  | [], z, a, b, _ => ⟨a, b, rfl⟩
  | c :: cs, z, a, b, h => by
    have hc := h c List.mem_cons_self
    have less := is_less_fr (cA := cA) (frB hn.b.1 hn.b.2) (frB hc.b1.1 hc.b1.2)
    have q : (eNot (e1 boolT (eCall (m_is_less cA) (aCons (eV 3) (aCons (eV 5) aNil))))) [.val t, .val u, .val w, .val (fr n), .val (fr z), .val (fr c.1), .val (fr c.2)] = .ret (!decide (n < c.1)) := v_not (v_bool (v_call (v_cons (v_var rfl) (v_cons (v_var rfl) v_nil)) less))
    by_cases hlt : n < c.1
    · rw [decide_eq_true hlt] at q
      obtain ⟨a', b', e⟩ := ra_loop (t := t) (u := u) (w := w) hn (z := z) (a := .val (fr c.1)) (b := .val (fr c.2)) (fun c hc => h c (List.mem_cons_of_mem _ hc))
      refine ⟨a', b', for_next rfl (g_ifF q rfl) (e.trans ?_)⟩
      have : rateAt (c :: cs) n z = rateAt cs n z := by
        show rateAt cs n (if n < c.1 then z else c.2) = _
        rw [if_pos hlt]
      rw [this]
    · rw [decide_eq_false hlt] at q
      obtain ⟨a', b', e⟩ := ra_loop (t := t) (u := u) (w := w) hn (z := c.2) (a := .val (fr c.1)) (b := .val (fr c.2)) (fun c hc => h c (List.mem_cons_of_mem _ hc))
      refine ⟨a', b', for_next rfl (g_ifT q (g_set (v_var rfl))) (e.trans ?_)⟩
      have : rateAt (c :: cs) n z = rateAt cs n c.2 := by
        show rateAt cs n (if n < c.1 then z else c.2) = _
        rw [if_neg hlt]
      rw [this]
theorem zero_fr : c_ZERO = fr 0 := rfl
theorem rate_at_ok {t u : T} {n : Int} {cs : List (Int × Int)} (h : m_told_comers cA [t] = .ret (.lst (cs.map cm))) (hu : Fr u n) (hn : OkN n) (hc : ∀ c ∈ cs, OkC c) : m_rate_at cA [t, u] = .ret (fr (rateAt cs n 0)) := by
  obtain ⟨a, b, e⟩ := ra_loop (cA := cA) (t := t) (u := u) (w := .lst (cs.map cm)) hn (z := 0) (a := .any) (b := .any) hc
  refine g_fn (g_seq (g_set (v_call (v_cons (v_var rfl) v_nil) h)) (g_seq (g_set (v_call (v_cons (v_var rfl) v_nil) (told_moment_ok hu hn.b.1))) (g_seq (g_set v_c) (g_seq (g_for (v_1 (v_var rfl) rfl) e) (g_ret (v_var rfl))))))
/-! come_by -/
/-- up to where the pair with this index counts -/
def endAt (cs : List (Int × Int)) (n : Int) (j : Nat) : Int := match cs[j + 1]? with
  | some c => if c.1 < n then c.1 else n
  | none => n
def termI (cs : List (Int × Int)) (n : Int) (j : Nat) : Int := match cs[j]? with
  | some c => if c.1 < endAt cs n j then (c.2 * (endAt cs n j - c.1)) / 72 else 0
  | none => 0
def sumI (cs : List (Int × Int)) (n : Int) : Nat → Int
  | 0 => 0
  | j + 1 => sumI cs n j + termI cs n j
theorem end_ok {cs : List (Int × Int)} {n : Int} (hn : OkN n) (hc : ∀ c ∈ cs, OkC c) (j : Nat) : OkN (endAt cs n j) := by
  unfold endAt
  split
  · rename_i c e
    have h := hc c (List.mem_of_getElem? e)
    split
    · exact ⟨h.d1, h.b1⟩
    · exact hn
  · exact hn
theorem term_eq {cs : List (Int × Int)} {n : Int} (hn : OkN n) (hc : ∀ c ∈ cs, OkC c) {j : Nat} {c : Int × Int} (e : cs[j]? = some c) (hl : c.1 < endAt cs n j) : c.2 * (endAt cs n j - c.1) = 72 * termI cs n j ∧ 0 ≤ termI cs n j ∧ termI cs n j ≤ 1250000 := by
  have he := end_ok hn hc j
  have h := hc c (List.mem_of_getElem? e)
  obtain ⟨k1, e1⟩ := h.d1
  obtain ⟨k2, e2⟩ := h.d2
  obtain ⟨k3, e3⟩ := he.d
  have t : termI cs n j = (c.2 * (endAt cs n j - c.1)) / 72 := by
    unfold termI
    rw [e]
    dsimp only
    rw [if_pos hl]
  have p : c.2 * (endAt cs n j - c.1) = 72 * (k2 * (k3 - k1)) := by rw [e2, e3, e1]; grind
  have q : termI cs n j = k2 * (k3 - k1) := by rw [t, p]; exact Int.mul_ediv_cancel_left _ (by decide)
  refine ⟨by rw [p, q], ?_, ?_⟩
  · rw [q]
    exact Int.mul_nonneg (by have := h.b2; omega) (by omega)
  · have h1 : c.2 * (endAt cs n j - c.1) ≤ 3000 * 30000 := by
      have a1 : c.2 * (endAt cs n j - c.1) ≤ 3000 * (endAt cs n j - c.1) := Int.mul_le_mul_of_nonneg_right h.b2.2 (by omega)
      have a2 := he.b
      have a3 := h.b1
      omega
    rw [t]
    omega
theorem term_zero {cs : List (Int × Int)} {n : Int} {j : Nat} {c : Int × Int} (e : cs[j]? = some c) (hl : ¬ c.1 < endAt cs n j) : termI cs n j = 0 := by
  unfold termI
  rw [e]
  dsimp only
  rw [if_neg hl]
theorem term_le {cs : List (Int × Int)} {n : Int} (hn : OkN n) (hc : ∀ c ∈ cs, OkC c) (j : Nat) : 0 ≤ termI cs n j ∧ termI cs n j ≤ 1250000 := by
  cases e : cs[j]? with
  | none =>
    have : termI cs n j = 0 := by unfold termI; rw [e]
    omega
  | some c =>
    by_cases hl : c.1 < endAt cs n j
    · exact (term_eq hn hc e hl).2
    · have := term_zero e hl
      omega
theorem sum_le {cs : List (Int × Int)} {n : Int} (hn : OkN n) (hc : ∀ c ∈ cs, OkC c) : ∀ j : Nat, 0 ≤ sumI cs n j ∧ sumI cs n j ≤ 1250000 * j
  | 0 => ⟨Int.le_refl _, Int.le_refl _⟩
  | j + 1 => by
    have h := sum_le hn hc j
    have t := term_le hn hc j
    show 0 ≤ sumI cs n j + termI cs n j ∧ _
    constructor
    · omega
    · show sumI cs n j + termI cs n j ≤ _
      omega
end Tw
end
section
set_option Elab.async false
set_option linter.all false
set_option maxRecDepth 100000
namespace Tw
open PySem PySem.Spec PyProof.Rows L2 DP
variable {cA : Str → Addr}
theorem cut_one (ts : List T) (k : Nat) : cutT ts (some (k : Int)) (some ((k : Int) + 1)) = (ts.drop k).take 1 := by
  unfold cutT
  rw [show ((k : Int) + 1) = ((k + 1 : Nat) : Int) by omega, HT.sIx_nat, HT.sIx_nat]
  by_cases h : k < ts.length
  · rw [Nat.min_eq_left (by omega), Nat.min_eq_left (by omega)]
    congr 1
    omega
  · rw [Nat.min_eq_right (by omega), Nat.min_eq_right (by omega)]
    simp
    omega
theorem drop_one {α : Type} (xs : List α) (k : Nat) : (xs.drop k).take 1 = (xs[k]?).toList := by
  cases e : xs[k]? with
  | none => rw [List.drop_of_length_le (List.getElem?_eq_none_iff.mp e)]; rfl
  | some x =>
    have h := (List.getElem?_eq_some_iff.mp e)
    rw [List.drop_eq_getElem_cons h.1, ← h.2]
    rfl
theorem nextR (ρ : Env') : sNext ρ = .ret (.next ρ) := rfl
theorem end_none {n : Int} {cs : List (Int × Int)} {j : Nat} (e : cs[j + 1]? = none) : endAt cs n j = n := by unfold endAt; rw [e]
theorem end_some {n : Int} {cs : List (Int × Int)} {j : Nat} {c : Int × Int} (e : cs[j + 1]? = some c) : endAt cs n j = if c.1 < n then c.1 else n := by unfold endAt; rw [e]
section
variable {n : Int} {cs : List (Int × Int)} (hn : OkN n) (hc : ∀ c ∈ cs, OkC c) (hl : cs.length ≤ 60)
include hn hc hl
theorem sumB (j : Nat) (hj : j ≤ cs.length) : (sumI cs n j).natAbs ≤ 10 ^ 9 := by
  have h := sum_le hn hc j
  omega
/-! the program's -/
noncomputable abbrev cbB (cA : Str → Addr) : Env' → M Fl := (sSeq (sSet 8 (eV 3))
  (sSeq (sIf (e1 boolT (e2 ltT (e2 addT (eV 5) (eC (.int 1))) (e1 lenT (eVS 2)))) (sSet 8 (eCall (m_lesser cA) (aCons (eV 3) (aCons (e2 ixT (e1 seqT (e2 ixT (eVS 2) (e2 addT (eV 5) (eC (.int 1))))) (eC (.int 0))) aNil)))) sNext)
  (sIf (e1 boolT (eCall (m_is_less cA) (aCons (eV 6) (aCons (eV 8) aNil)))) (sSet 4 (eCall (m_plus cA) (aCons (eV 4) (aCons (eCall (m_times cA) (aCons (eV 7) (aCons (eCall (m_minus cA) (aCons (eV 8) (aCons (eV 6) aNil))) aNil))) aNil)))) sNext)))
noncomputable abbrev cbBd : T → Env' → Option Env' := (bTup (bCons (bName 5) (bCons (bTup (bCons (bName 6) (bCons (bName 7) bNil))) bNil)))
theorem cb_turn {t u : T} {j : Nat} {c : Int × Int} (e : cs[j]? = some c) (a b d f : Sl) :
    ∃ ρ1 ρ2, cbBd (.tup [.int (j : Nat), cm c]) [.val t, .val u, .val (.lst (cs.map cm)), .val (fr n), .val (fr (sumI cs n j)), a, b, d, f] = some ρ1 ∧ cbB cA ρ1 = .ret (.next ρ2) ∧
      ∃ a' b' d' f', ρ2 = [.val t, .val u, .val (.lst (cs.map cm)), .val (fr n), .val (fr (sumI cs n (j + 1))), a', b', d', f'] := by
  have hj := (List.getElem?_eq_some_iff.mp e).1
  have h := hc c (List.mem_of_getElem? e)
  have he := end_ok hn hc j
  let E (z : T) (w : T) : Env' := [.val t, .val u, .val (.lst (cs.map cm)), .val (fr n), .val z, .val (.int (j : Nat)), .val (fr c.1), .val (fr c.2), .val w]
  have s2 : sIf (e1 boolT (e2 ltT (e2 addT (eV 5) (eC (.int 1))) (e1 lenT (eVS 2)))) (sSet 8 (eCall (m_lesser cA) (aCons (eV 3) (aCons (e2 ixT (e1 seqT (e2 ixT (eVS 2) (e2 addT (eV 5) (eC (.int 1))))) (eC (.int 0))) aNil)))) sNext (E (fr (sumI cs n j)) (fr n)) = .ret (.next (E (fr (sumI cs n j)) (fr (endAt cs n j)))) := by
    have q : (e1 boolT (e2 ltT (e2 addT (eV 5) (eC (.int 1))) (e1 lenT (eVS 2)))) (E (fr (sumI cs n j)) (fr n)) = .ret (decide (((j : Nat) : Int) + 1 < ((cs.map cm).length : Nat))) := v_bool (v_2 (v_2 (v_var rfl) v_c (addT_int _ _)) (v_1 (v_seq rfl rfl) rfl) (ltT_int _ _))
    cases e' : cs[j + 1]? with
    | none =>
      have := List.getElem?_eq_none_iff.mp e'
      rw [decide_eq_false (by simp; omega)] at q
      rw [end_none e']
      exact g_ifF q (nextR _)
    | some c' =>
      have hj' := (List.getElem?_eq_some_iff.mp e').1
      have h' := hc c' (List.mem_of_getElem? e')
      rw [decide_eq_true (by simp; omega)] at q
      have em : (cs.map cm)[j + 1]? = some (cm c') := by rw [List.getElem?_map, e']; rfl
      rw [end_some e']
      have ls := lesser_fr (cA := cA) (frB hn.b.1 hn.b.2) (frB h'.b1.1 h'.b1.2)
      rw [show (if c'.1 < n then fr c'.1 else fr n) = fr (if c'.1 < n then c'.1 else n) from by split <;> rfl] at ls
      exact g_ifT q (g_set (v_call (v_cons (v_var rfl) (v_cons (v_2 (v_1 (v_2 (v_seq rfl rfl) (v_2 (v_var rfl) v_c (addT_int _ _)) (ix_at em (by omega))) rfl) v_c rfl) v_nil)) ls))
  have less := is_less_fr (cA := cA) (frB h.b1.1 h.b1.2) (frB he.b.1 he.b.2)
  have q : (e1 boolT (eCall (m_is_less cA) (aCons (eV 6) (aCons (eV 8) aNil)))) (E (fr (sumI cs n j)) (fr (endAt cs n j))) = .ret (decide (c.1 < endAt cs n j)) := v_bool (v_call (v_cons (v_var rfl) (v_cons (v_var rfl) v_nil)) less)
  refine ⟨_, E (fr (sumI cs n (j + 1))) (fr (endAt cs n j)), rfl, g_seq (g_set (v_var rfl)) (g_seq s2 ?_), _, _, _, _, rfl⟩
  by_cases hlt : c.1 < endAt cs n j
  · rw [decide_eq_true hlt] at q
    obtain ⟨t1, t2, t3⟩ := term_eq hn hc e hlt
    have sb := sumB hn hc hl j (by omega)
    have b1 := h.b1; have b2 := h.b2; have b3 := he.b
    exact g_ifT q (g_set (v_call (v_cons (v_var rfl) (v_cons (v_call (v_cons (v_var rfl) (v_cons (v_call (v_cons (v_var rfl) (v_cons (v_var rfl) v_nil)) (minus_fr (by omega) (by omega))) v_nil)) (times_fr (by omega) (by omega) t1)) v_nil)) (plus_fr sb (by omega))))
  · rw [decide_eq_false hlt] at q
    have z := term_zero e hlt
    have : sumI cs n (j + 1) = sumI cs n j := by show sumI cs n j + termI cs n j = _; omega
    rw [this]
    exact g_ifF q (nextR _)
theorem come_by_ok {t u : T} (h : m_told_comers cA [t] = .ret (.lst (cs.map cm))) (hu : Fr u n) : m_come_by cA [t, u] = .ret (fr (sumI cs n cs.length)) := by
  obtain ⟨ρ', e, a, b, d, f, rfl⟩ := for_all (bd := cbBd) (G := cbB cA) (fun j ρ => ∃ a b d f, ρ = [.val t, .val u, .val (.lst (cs.map cm)), .val (fr n), .val (fr (sumI cs n j)), a, b, d, f]) (xs := enumL (cs.map cm))
    (ρ := [.val t, .val u, .val (.lst (cs.map cm)), .val (fr n), .val (fr 0), .any, .any, .any, .any]) ⟨.any, .any, .any, .any, rfl⟩ fun j it ρ hit ⟨a, b, d, f, e⟩ => by
      subst e
      obtain ⟨y, hy, rfl⟩ := enum_get hit
      rw [List.getElem?_map] at hy
      cases hcj : cs[j]? with
      | none => rw [hcj] at hy; cases hy
      | some c =>
        rw [hcj] at hy
        cases hy
        obtain ⟨ρ1, ρ2, h1, h2, h3⟩ := cb_turn (cA := cA) hn hc hl (t := t) (u := u) hcj a b d f
        exact ⟨ρ1, ρ2, h1, h2, h3⟩
  rw [enum_len, List.length_map] at e
  refine g_fn (g_seq (g_set (v_call (v_cons (v_var rfl) v_nil) h)) (g_seq (g_set (v_call (v_cons (v_var rfl) v_nil) (told_moment_ok hu hn.b.1))) (g_seq (g_set v_c) (g_seq (g_for (v_1 (v_cons (v_var rfl) v_nil) rfl) e) (g_ret (v_var rfl))))))
end
end Tw
end
section
set_option Elab.async false
set_option linter.all false
set_option maxRecDepth 100000
namespace Tw
open PySem PySem.Spec PyProof.Rows L2 DP
variable {cA : Str → Addr}
/-- a comprehension over told things, without draws -/
theorem lcL_of {α : Type} {vs : List Nat} {bd : T → Env' → Option Env'} {cnd : Env' → M Bool} {f : Env' → M T} {ρ : Env'} (k : α → T) (p : α → Bool) (g : α → T) : ∀ (xs : List α) (acc : List T), acc.length + xs.length ≤ 1000000 →
    (∀ x ∈ xs, ∃ ρ1, bd (k x) (wipeE ρ vs) = some ρ1 ∧ cnd ρ1 = .ret (p x) ∧ (p x = true → f ρ1 = .ret (g x))) → lcL vs bd cnd f ρ (xs.map k) acc = .ret (acc ++ (xs.filter p).map g)
  | [], acc, _, _ => by simp [lcL]
  | x :: xs, acc, hl, hs => by
    obtain ⟨ρ1, e, ec, h⟩ := hs x List.mem_cons_self
    rw [List.map_cons]
    unfold lcL
    rw [e]
    dsimp only
    rw [ec]
    show (if p x = true then (noExc (f ρ1)).bind _ else _) = _
    cases hp : p x with
    | true =>
      rw [if_pos rfl, h hp]
      show (if okLen acc.length = true then lcL vs bd cnd f ρ (xs.map k) (acc ++ [g x]) else .stuck) = _
      rw [if_pos (by unfold okLen; simp at hl ⊢; omega), lcL_of k p g xs _ (by simp at hl ⊢; omega) fun t ht => hs t (List.mem_cons_of_mem _ ht)]
      simp [hp]
    | false =>
      rw [if_neg Bool.false_ne_true, lcL_of k p g xs _ (by simp at hl ⊢; omega) fun t ht => hs t (List.mem_cons_of_mem _ ht)]
      simp [hp]
theorem nLc_of {α : Type} {vs : List Nat} {fi : Env' → M (List T)} {bd : T → Env' → Option Env'} {cnd : Env' → M Bool} {f : Env' → M T} {ρ : Env'} {xs : List α} (k : α → T) (p : α → Bool) (g : α → T) (h : fi ρ = .ret (xs.map k)) (no : noOwnB vs ρ = true) (hl : xs.length ≤ 1000000)
    (hs : ∀ x ∈ xs, ∃ ρ1, bd (k x) (wipeE ρ vs) = some ρ1 ∧ cnd ρ1 = .ret (p x) ∧ (p x = true → f ρ1 = .ret (g x))) : nLc vs fi bd cnd f ρ = .ret ((xs.filter p).map g) := by
  unfold nLc
  rw [h]
  show (if noOwnB vs ρ = true then lcL vs bd cnd f ρ (xs.map k) [] else .stuck) = _
  rw [if_pos no, lcL_of k p g xs [] (by simpa using hl) hs]
  rfl
theorem ix_last {q : Bool} {L : List T} {x : T} (h : L.getLast? = some x) : ixT (q, L) (.int (-1)) = .ret x := by
  obtain ⟨ini, rfl⟩ := List.getLast?_eq_some_iff.mp h
  have e : atI (ini ++ [x]) (-1) = some x := by
    unfold atI ixN
    rw [if_neg (by decide : ¬ (0 : Int) ≤ -1), if_pos (by simp; omega)]
    have : ((-1 : Int) + ((ini ++ [x]).length : Nat)).toNat = ini.length := by simp; omega
    show (ini ++ [x])[((-1 : Int) + ((ini ++ [x]).length : Nat)).toNat]? = _
    rw [this]
    simp
  show (match atI (ini ++ [x]) (-1) with | some t => M.ret t | none => M.stuck) = _
  rw [e]
theorem rateAt_last (n : Int) : ∀ (cs : List (Int × Int)) (z : Int), rateAt cs n z = ((cs.filter fun c => !decide (n < c.1)).getLast?.map (·.2)).getD z
  | [], z => rfl
  | c :: cs, z => by
    show rateAt cs n (if n < c.1 then z else c.2) = _
    rw [rateAt_last n cs]
    by_cases h : n < c.1
    · rw [if_pos h, List.filter_cons_of_neg (by simp [h])]
    · rw [if_neg h, List.filter_cons_of_pos (by simp [h]), List.getLast?_cons]
      cases (cs.filter fun c => !decide (n < c.1)).getLast? <;> rfl
section
variable {n : Int} {cs : List (Int × Int)} (hn : OkN n) (hc : ∀ c ∈ cs, OkC c) (hl : cs.length ≤ 60)
include hn hc hl
theorem law_rate_at_ok (A : Asc cs) (ne : cs ≠ []) : m__law_rate_at cA [.lst (cs.map cm), fr n] = .ret (fr (rateAt cs n 0)) := by
  have lc := nLc_of (vs := [2, 3]) (fi := e1 itemsT (eV 0)) (bd := (bTup (bCons (bName 2) (bCons (bName 3) bNil)))) (cnd := (eNot (e1 boolT (eCall (m__law_is_below cA) (aCons (eV 1) (aCons (eV 2) aNil)))))) (f := eV 3) (ρ := [.val (.lst (cs.map cm)), .val (fr n), .any, .any]) cm (fun c => !decide (n < c.1)) (fun c => fr c.2) (v_1 (v_var rfl) rfl) rfl (by omega)
    (fun c hcm => ⟨[.val (.lst (cs.map cm)), .val (fr n), .val (fr c.1), .val (fr c.2)], rfl, v_not (v_bool (v_call (v_cons (v_var rfl) (v_cons (v_var rfl) v_nil)) (is_below_fr (frB hn.b.1 hn.b.2) (frB (hc c hcm).b1.1 (hc c hcm).b1.2)))), fun _ => v_var rfl⟩)
  obtain ⟨c, hcl⟩ : ∃ c, (cs.filter fun c => !decide (n < c.1)).getLast? = some c := by
    cases e : (cs.filter fun c => !decide (n < c.1)).getLast? with
    | some c => exact ⟨c, rfl⟩
    | none =>
      have z := List.getLast?_eq_none_iff.mp e
      cases cs with
      | nil => exact absurd rfl ne
      | cons c cs =>
        have h0 := A.first c rfl
        rw [List.filter_cons_of_pos (by have := hn.b; simp; omega)] at z
        cases z
  have last : ((cs.filter fun c => !decide (n < c.1)).map fun c => fr c.2).getLast? = some (fr (rateAt cs n 0)) := by
    rw [List.getLast?_map, rateAt_last, hcl]
    rfl
  exact g_fn (g_ret (v_2 (v_1 lc rfl) (v_1 v_c rfl) (ix_last last)))
end
/-! the law's least, and its total -/
noncomputable abbrev leB (cA : Str → Addr) : Env' → M Fl := (sSet 1 (eIf (e1 boolT (eCall (m__law_is_below cA) (aCons (eV 2) (aCons (eV 1) aNil)))) (eV 2) (eV 1)))
theorem le_turn {t : T} {a : Sl} {n m : Int} (h1 : Fr (fr n) n) (h2 : Fr (fr m) m) : leB cA [.val t, .val (fr n), .val (fr m)] = .ret (.next [.val t, .val (fr (if m < n then m else n)), .val (fr m)]) := by
  have q : e1 boolT (eCall (m__law_is_below cA) (aCons (eV 2) (aCons (eV 1) aNil))) [.val t, .val (fr n), .val (fr m)] = .ret (decide (m < n)) := v_bool (v_call (v_cons (v_var rfl) (v_cons (v_var rfl) v_nil)) (is_below_fr h2 h1))
  by_cases h : m < n
  · rw [decide_eq_true h] at q
    rw [if_pos h]
    exact g_set (v_ifT q (v_var rfl))
  · rw [decide_eq_false h] at q
    rw [if_neg h]
    exact g_set (v_ifF q (v_var rfl))
theorem least_one {n : Int} (h : Fr (fr n) n) : m__law_least cA [.lst [fr n]] = .ret (fr n) := by
  have e := le_turn (cA := cA) (t := .lst [fr n]) (a := .any) h h
  rw [show (if n < n then n else n) = n from by split <;> rfl] at e
  exact g_fn (g_seq (g_set (v_2 (v_seq rfl rfl) v_c rfl)) (g_seq (g_for (v_1 (v_var rfl) rfl) (for_next rfl e for_nil)) (g_ret (v_var rfl))))
theorem least_two {n m : Int} (h : Fr (fr n) n) (h2 : Fr (fr m) m) : m__law_least cA [.lst [fr n, fr m]] = .ret (fr (if m < n then m else n)) := by
  have e := le_turn (cA := cA) (t := .lst [fr n, fr m]) (a := .any) h h
  rw [show (if n < n then n else n) = n from by split <;> rfl] at e
  exact g_fn (g_seq (g_set (v_2 (v_seq rfl rfl) v_c rfl)) (g_seq (g_for (v_1 (v_var rfl) rfl) (for_next rfl e (for_next rfl (le_turn (a := .any) h h2) for_nil))) (g_ret (v_var rfl))))
theorem total_loop {t : T} : ∀ {zs : List Int} {z : Int} {a : Sl}, (∀ y ∈ zs, 0 ≤ y ∧ y ≤ 1250000) → 0 ≤ z → z + 1250000 * zs.length ≤ 10 ^ 9 →
    ∃ a', forL (bName 2) (sSet 1 (eCall (m__law_plus cA) (aCons (eV 1) (aCons (eV 2) aNil)))) (zs.map fr) [.val t, .val (fr z), a] = .ret (.next [.val t, .val (fr (z + zs.sum)), a'])
  | [], z, a, _, _, _ => ⟨a, by simp; rfl⟩
  | y :: zs, z, a, h, h0, hb => by
    have hy := h y List.mem_cons_self
    simp only [List.length_cons] at hb
    obtain ⟨a', e⟩ := total_loop (t := t) (zs := zs) (z := z + y) (a := .val (fr y)) (fun y hy => h y (List.mem_cons_of_mem _ hy)) (by omega) (by omega)
    refine ⟨a', for_next rfl (g_set (v_call (v_cons (v_var rfl) (v_cons (v_var rfl) v_nil)) (law_plus_fr (n := z) (m := y) (by omega) (by omega)))) (e.trans ?_)⟩
    rw [List.sum_cons, Int.add_assoc]
theorem total_ok {zs : List Int} (h : ∀ y ∈ zs, 0 ≤ y ∧ y ≤ 1250000) (hl : zs.length ≤ 60) : m__law_total cA [.lst (zs.map fr)] = .ret (fr zs.sum) := by
  obtain ⟨a, e⟩ := total_loop (cA := cA) (t := .lst (zs.map fr)) (zs := zs) (z := 0) (a := .any) h (by omega) (by omega)
  rw [Int.zero_add] at e
  exact g_fn (g_seq (g_set (t := fr 0) (v_tup (v_cons v_c (v_cons v_c v_nil)) (by simp))) (g_seq (g_for (v_1 (v_var rfl) rfl) e) (g_ret (v_var rfl))))
end Tw
end
section
set_option Elab.async false
set_option linter.all false
set_option maxRecDepth 100000
namespace Tw
open PySem PySem.Spec PyProof.Rows L2 DP
variable {cA : Str → Addr}
theorem v_sl1 {ρ : Env'} {f : Env' → M (Bool × List T)} {g h : Env' → M T} {ts : List T} {k : Nat} (hf : f ρ = .ret (true, ts)) (hg : g ρ = .ret (.int k)) (hh : h ρ = .ret (.int ((k : Int) + 1))) : nSl f (oSome g) (oSome h) ρ = .ret ((ts.drop k).take 1) := by
  unfold nSl oSome
  rw [hf]
  show M.bind (M.bind (g ρ) _) _ = _
  rw [hg]
  show M.bind (M.bind (h ρ) _) _ = _
  rw [hh, ← cut_one]
  rfl
theorem v_cat {ρ : Env'} {f g : Env' → M (Bool × List T)} {xs ys : List T} (h : f ρ = .ret (true, xs)) (h2 : g ρ = .ret (true, ys)) (hl : xs.length + ys.length ≤ 1000000) : e2 nCat f g ρ = .ret (xs ++ ys) := by
  refine v_2 h h2 ?_
  unfold nCat
  rw [if_pos]
  unfold okLen
  simpa using hl
noncomputable abbrev lcN (cA : Str → Addr) : Env' → M (List T) := (e2 nCat (e1 seqN (nLst (aCons (eV 1) aNil))) (e1 seqN (nLc [7] (e1 itemsT (e1 lstT (nSl (eVS 0) (oSome (e2 addT (eV 3) (eC (.int 1)))) (oSome (e2 addT (eV 3) (eC (.int 2))))))) (bName 7) cYes (e2 ixT (eVS 7) (eC (.int 0))))))
noncomputable abbrev coB (cA : Str → Addr) : Env' → M Fl := (sSeq (sSet 6 (eCall (m__law_least cA) (aCons (e1 lstT (lcN cA)) aNil)))
  (sIf (e1 boolT (eCall (m__law_is_below cA) (aCons (eV 4) (aCons (eV 6) aNil)))) (sApp 2 (eCall (m__law_times cA) (aCons (eV 5) (aCons (eCall (m__law_less cA) (aCons (eV 6) (aCons (eV 4) aNil))) aNil)))) sNext))
noncomputable abbrev coBd : T → Env' → Option Env' := (bTup (bCons (bName 3) (bCons (bTup (bCons (bName 4) (bCons (bName 5) bNil))) bNil)))
section
variable {n : Int} {cs : List (Int × Int)} (hn : OkN n) (hc : ∀ c ∈ cs, OkC c) (hl : cs.length ≤ 60)
include hn hc hl
theorem co_list (zs : List T) (j : Nat) (c : Int × Int) (d : Sl) : lcN cA [.val (.lst (cs.map cm)), .val (fr n), .own zs, .val (.int (j : Nat)), .val (fr c.1), .val (fr c.2), d, .any] = .ret (fr n :: ((cs[j + 1]?).toList.map fun c => fr c.1)) := by
  have sl : e1 itemsT (e1 lstT (nSl (eVS 0) (oSome (e2 addT (eV 3) (eC (.int 1)))) (oSome (e2 addT (eV 3) (eC (.int 2)))))) [.val (.lst (cs.map cm)), .val (fr n), .own zs, .val (.int (j : Nat)), .val (fr c.1), .val (fr c.2), d, .any] = .ret ((cs[j + 1]?).toList.map cm) := by
    refine v_1 (v_1 (v_sl1 (k := j + 1) (v_seq rfl rfl) (v_2 (v_var rfl) v_c (addT_int _ _)) (v_2 (v_var rfl) v_c (by rw [addT_int]; congr 2))) rfl) ?_
    rw [drop_one, List.getElem?_map]
    cases cs[j + 1]? <;> rfl
  have lc := nLc_of (vs := [7]) (bd := bName 7) (cnd := cYes) (f := e2 ixT (eVS 7) (eC (.int 0))) (ρ := [.val (.lst (cs.map cm)), .val (fr n), .own zs, .val (.int (j : Nat)), .val (fr c.1), .val (fr c.2), d, .any]) cm (fun _ => true) (fun c => fr c.1) sl rfl
    (by cases cs[j + 1]? <;> simp) (fun c' _ => ⟨_, rfl, rfl, fun _ => v_2 (v_seq rfl rfl) v_c rfl⟩)
  rw [List.filter_eq_self.mpr (fun _ _ => rfl)] at lc
  have f1 : e1 seqN (nLst (aCons (eV 1) aNil)) [.val (.lst (cs.map cm)), .val (fr n), .own zs, .val (.int (j : Nat)), .val (fr c.1), .val (fr c.2), d, .any] = .ret (true, [fr n]) := v_1 (v_lst (v_cons (v_var rfl) v_nil) (by simp)) rfl
  exact v_cat (xs := [fr n]) (ys := (cs[j + 1]?).toList.map fun c => fr c.1) f1 (v_1 (k := seqN) lc rfl) (by cases cs[j + 1]? <;> simp)
theorem co_turn {j : Nat} {c : Int × Int} (e : cs[j]? = some c) {zs : List Int} (hz : zs.sum = sumI cs n j) (hb : ∀ y ∈ zs, 0 ≤ y ∧ y ≤ 1250000) (hzl : zs.length ≤ j) (a b d f : Sl) :
    ∃ ρ1 ρ2, coBd (.tup [.int (j : Nat), cm c]) [.val (.lst (cs.map cm)), .val (fr n), .own (zs.map fr), a, b, d, f, .any] = some ρ1 ∧ coB cA ρ1 = .ret (.next ρ2) ∧
      ∃ ws a' b' d' f', ρ2 = [.val (.lst (cs.map cm)), .val (fr n), .own (List.map fr ws), a', b', d', f', .any] ∧ ws.sum = sumI cs n (j + 1) ∧ (∀ y ∈ ws, 0 ≤ y ∧ y ≤ 1250000) ∧ ws.length ≤ j + 1 := by
  have hj := (List.getElem?_eq_some_iff.mp e).1
  have h := hc c (List.mem_of_getElem? e)
  have he := end_ok hn hc j
  have ls : m__law_least cA [.lst (fr n :: ((cs[j + 1]?).toList.map fun c => fr c.1))] = .ret (fr (endAt cs n j)) := by
    cases e' : cs[j + 1]? with
    | none => rw [end_none e']; exact least_one (frB hn.b.1 hn.b.2)
    | some c' =>
      have h' := hc c' (List.mem_of_getElem? e')
      rw [end_some e']
      exact least_two (frB hn.b.1 hn.b.2) (frB h'.b1.1 h'.b1.2)
  have set6 : sSet 6 (eCall (m__law_least cA) (aCons (e1 lstT (lcN cA)) aNil)) [.val (.lst (cs.map cm)), .val (fr n), .own (zs.map fr), .val (.int (j : Nat)), .val (fr c.1), .val (fr c.2), f, .any] = .ret (.next [.val (.lst (cs.map cm)), .val (fr n), .own (zs.map fr), .val (.int (j : Nat)), .val (fr c.1), .val (fr c.2), .val (fr (endAt cs n j)), .any]) :=
    g_set (v_call (v_cons (v_1 (co_list (cA := cA) hn hc hl (zs.map fr) j c f) rfl) v_nil) ls)
  have below := is_below_fr (cA := cA) (frB h.b1.1 h.b1.2) (frB he.b.1 he.b.2)
  have q : (e1 boolT (eCall (m__law_is_below cA) (aCons (eV 4) (aCons (eV 6) aNil)))) [.val (.lst (cs.map cm)), .val (fr n), .own (zs.map fr), .val (.int (j : Nat)), .val (fr c.1), .val (fr c.2), .val (fr (endAt cs n j)), .any] = .ret (decide (c.1 < endAt cs n j)) := v_bool (v_call (v_cons (v_var rfl) (v_cons (v_var rfl) v_nil)) below)
  by_cases hlt : c.1 < endAt cs n j
  · rw [decide_eq_true hlt] at q
    obtain ⟨t1, t2, t3⟩ := term_eq hn hc e hlt
    have b1 := h.b1; have b2 := h.b2; have b3 := he.b
    have v : eCall (m__law_times cA) (aCons (eV 5) (aCons (eCall (m__law_less cA) (aCons (eV 6) (aCons (eV 4) aNil))) aNil)) [.val (.lst (cs.map cm)), .val (fr n), .own (zs.map fr), .val (.int (j : Nat)), .val (fr c.1), .val (fr c.2), .val (fr (endAt cs n j)), .any] = .ret (fr (termI cs n j)) :=
      v_call (v_cons (v_var rfl) (v_cons (v_call (v_cons (v_var rfl) (v_cons (v_var rfl) v_nil)) (law_less_fr (by omega) (by omega))) v_nil)) (law_times_fr (by omega) (by omega) t1)
    have app : sApp 2 (eCall (m__law_times cA) (aCons (eV 5) (aCons (eCall (m__law_less cA) (aCons (eV 6) (aCons (eV 4) aNil))) aNil))) [.val (.lst (cs.map cm)), .val (fr n), .own (zs.map fr), .val (.int (j : Nat)), .val (fr c.1), .val (fr c.2), .val (fr (endAt cs n j)), .any] = .ret (.next [.val (.lst (cs.map cm)), .val (fr n), .own ((zs ++ [termI cs n j]).map fr), .val (.int (j : Nat)), .val (fr c.1), .val (fr c.2), .val (fr (endAt cs n j)), .any]) := by
      show M.bind (eCall _ _ _) _ = _
      rw [v]
      show (if okLen (zs.map fr).length = true then _ else M.stuck) = _
      rw [if_pos (by unfold okLen; simp; omega), List.map_append]
      rfl
    refine ⟨_, _, rfl, g_seq set6 (g_ifT q app), zs ++ [termI cs n j], _, _, _, _, rfl, ?_, fun y hy => ?_, by simp; omega⟩
    · show _ = sumI cs n j + termI cs n j
      rw [List.sum_append, hz]
      simp
    · rcases List.mem_append.mp hy with hy | hy
      · exact hb y hy
      · rw [List.mem_singleton.mp hy]; exact ⟨t2, t3⟩
  · rw [decide_eq_false hlt] at q
    have z := term_zero e hlt
    refine ⟨_, _, rfl, g_seq set6 (g_ifF q (nextR _)), zs, _, _, _, _, rfl, ?_, hb, by omega⟩
    show _ = sumI cs n j + termI cs n j
    omega
theorem law_come_ok : m__law_come cA [.lst (cs.map cm), fr n] = .ret (fr (sumI cs n cs.length)) := by
  obtain ⟨ρ', e, zs, a, b, d, f, rfl, hz, hb, hzl⟩ := for_all (bd := coBd) (G := coB cA) (fun j ρ => ∃ (zs : List Int) (a b d f : Sl), ρ = [.val (.lst (cs.map cm)), .val (fr n), .own (zs.map fr), a, b, d, f, .any] ∧ zs.sum = sumI cs n j ∧ (∀ y ∈ zs, 0 ≤ y ∧ y ≤ 1250000) ∧ zs.length ≤ j) (xs := enumL (cs.map cm))
    (ρ := [.val (.lst (cs.map cm)), .val (fr n), .own [], .any, .any, .any, .any, .any]) ⟨[], .any, .any, .any, .any, rfl, rfl, (fun _ h => nomatch h), Nat.le_refl _⟩ fun j it ρ hit ⟨zs, a, b, d, f, e, hz, hb, hzl⟩ => by
      subst e
      obtain ⟨y, hy, rfl⟩ := enum_get hit
      rw [List.getElem?_map] at hy
      cases hcj : cs[j]? with
      | none => rw [hcj] at hy; cases hy
      | some c =>
        rw [hcj] at hy
        cases hy
        obtain ⟨ρ1, ρ2, h1, h2, ws, a', b', d', f', h3, h4, h5, h6⟩ := co_turn (cA := cA) hn hc hl hcj hz hb hzl a b d f
        exact ⟨ρ1, ρ2, h1, h2, ws, a', b', d', f', h3, h4, h5, h6⟩
  rw [enum_len, List.length_map] at hz hzl
  rw [← hz]
  refine g_fn (g_seq (ρ' := [.val (.lst (cs.map cm)), .val (fr n), .own [], .any, .any, .any, .any, .any]) rfl (g_seq (g_for (v_1 (v_cons (v_var rfl) v_nil) rfl) e) ?_))
  show sRet _ [.val (.lst (cs.map cm)), .val (fr n), .val (.lst (zs.map fr)), a, b, d, f, .any] = _
  exact g_ret (v_call (v_cons (v_var rfl) v_nil) (total_ok hb (by omega)))
end
end Tw
end
section
set_option Elab.async false
set_option linter.all false
set_option maxRecDepth 100000
namespace Tw
open PySem PySem.Spec PyProof.Rows L2 DP
variable {cA : Str → Addr}
section
variable {ρ : Env'} {n1 n2 : Nat}
/-- a part of a beat, or of a drop: d by b -/
theorem tk_low {f g : Env' → M T} {lo hi : Int} (hf : Tk (f ρ) n1 (fun t => ∃ d, t = .int d ∧ lo ≤ d ∧ d ≤ hi)) (hg : Tk (g ρ) n2 (fun t => ∃ b, t = .int b ∧ (b = 1 ∨ b = 2 ∨ b = 3))) (h0 : 0 ≤ lo) (h1 : hi ≤ 1000) :
    Tk (eCall (m__law_low cA) (aCons f (aCons g aNil)) ρ) (n1 + n2) (fun t => ∃ n, t = fr n ∧ (∃ k, n = 12 * k) ∧ 24 * lo ≤ n ∧ n ≤ 72 * hi) := by
  refine (Tk.call (n := n1 + (n2 + 0)) (n2 := 0) (Tk.cons hf (Tk.cons hg (Tk.eq (a := []) rfl rfl))) ?_).le (by omega)
  rintro ts ⟨t, us, ⟨d, rfl, d0, d1⟩, ⟨u, vs, ⟨b, rfl, hb⟩, rfl, rfl⟩, rfl⟩
  have key : ∀ w : Int, b * w = 72 → (∃ k, w = 12 * k) → 24 ≤ w → w ≤ 72 → Tk (m__law_low cA [.int d, .int b]) 0 (fun t => ∃ n, t = fr n ∧ (∃ k, n = 12 * k) ∧ 24 * lo ≤ n ∧ n ≤ 72 * hi) := fun w hw ⟨k, hk⟩ w0 w1 => by
    have b0 : 0 < b := by rcases hb with rfl | rfl | rfl <;> decide
    refine Tk.eq (law_low_eq b0 (by rcases hb with rfl | rfl | rfl <;> decide)) ⟨d * w, low_fr b0 (by rw [← hw]; grind), ⟨d * k, by rw [hk]; grind⟩, ?_, ?_⟩
    · have a1 := Int.mul_le_mul d0 w0 (by decide) (by omega)
      omega
    · have a1 := Int.mul_le_mul d1 w1 (by omega) (by omega)
      omega
  rcases hb with rfl | rfl | rfl
  · exact key 72 (by decide) ⟨6, by decide⟩ (by decide) (by decide)
  · exact key 36 (by decide) ⟨3, by decide⟩ (by decide) (by decide)
  · exact key 24 (by decide) ⟨2, by decide⟩ (by decide) (by decide)
/-- one of some numbers -/
theorem tk_pk {i : Nat} {f : Env' → M T} {xs : List T} (hs : ρ[i]? = some .strm) (hf : f ρ = .ret (.lst xs)) (h0 : xs ≠ []) (hl : xs.length ≤ 1000000) : Tk (eCallS i (m__law_pick cA) (aCons f aNil) ρ) 1 (fun t => t ∈ xs) := by
  refine (Tk.callS (n := 0) (n2 := 1) hs (A := fun ts => ts = [.lst xs]) (Tk.eq (v_cons hf v_nil) rfl) ?_).le (by decide)
  rintro ts rfl
  exact tk_pick h0 hl
theorem tk_dr {i : Nat} {f : Env' → M T} {n : Nat} {hi : Int} (hs : ρ[i]? = some .strm) (hf : Tk (f ρ) n (fun t => ∃ k, t = .int k ∧ 1 ≤ k ∧ k ≤ hi)) (h1 : hi ≤ 1000000) : Tk (eCallS i (m__law_draw cA) (aCons f aNil) ρ) (n + 1) (fun t => ∃ d, t = .int d ∧ 0 ≤ d ∧ d ≤ hi - 1) := by
  refine (Tk.callS (n := n + 0) (n2 := 1) hs (Tk.cons hf (Tk.eq (a := []) rfl rfl)) ?_).le (by omega)
  rintro ts ⟨t, us, ⟨k, rfl, k0, k1⟩, rfl, rfl⟩
  refine (tk_draw (by omega) (by omega)).imp ?_
  rintro t ⟨d, rfl, d0, d1⟩
  exact ⟨d, rfl, d0, by omega⟩
theorem tk_c {k hi : Int} (h0 : 1 ≤ k) (h1 : k ≤ hi) : Tk (eC (T.int k) ρ) 0 (fun t => ∃ j, t = .int j ∧ 1 ≤ j ∧ j ≤ hi) := Tk.eq rfl ⟨k, rfl, h0, h1⟩
theorem tk_plus1 {f : Env' → M T} {n : Nat} {hi : Int} (hf : Tk (f ρ) n (fun t => ∃ d, t = .int d ∧ 0 ≤ d ∧ d ≤ hi)) : Tk (e2 addT (eC (.int 1)) f ρ) n (fun t => ∃ d, t = .int d ∧ 1 ≤ d ∧ d ≤ hi + 1) := by
  refine (Tk.e2 (n1 := 0) (n2 := n) (n3 := 0) (A := fun t => t = T.int 1) (f := eC (T.int 1)) (Tk.eq rfl rfl) hf ?_).le (by omega)
  rintro a b rfl ⟨d, rfl, d0, d1⟩
  exact Tk.eq (addT_int 1 d) ⟨_, rfl, by omega, by omega⟩
end
/-- drawn comers behind so many turns; m, where the next one begins -/
structure Drawn (cs : List (Int × Int)) (m : Int) (i : Nat) : Prop where
  ok : ∀ c ∈ cs, (∃ k, c.1 = 12 * k) ∧ (∃ k, c.2 = 12 * k) ∧ 0 ≤ c.1 ∧ c.1 < m ∧ 0 ≤ c.2 ∧ c.2 ≤ 1800
  m12 : ∃ k, m = 12 * k
  mb : 0 ≤ m ∧ m ≤ 864 * i
  asc : Asc cs
  unl : ∀ (j : Nat) (c c' : Int × Int), cs[j]? = some c → cs[j + 1]? = some c' → c.2 ≠ c'.2
  ne : 0 < i → cs ≠ []
  len : cs.length ≤ i
  zero : cs = [] → m = 0
theorem get_snoc {α : Type} {xs : List α} {x y : α} {j : Nat} (h : (xs ++ [x])[j]? = some y) : xs[j]? = some y ∨ (j = xs.length ∧ y = x) := by
  by_cases hj : j < xs.length
  · rw [List.getElem?_append_left hj] at h; exact .inl h
  · rw [List.getElem?_append_right (by omega)] at h
    have : j - xs.length = 0 := by
      have := (List.getElem?_eq_some_iff.mp h).1
      simp at this; omega
    rw [this] at h
    simp at h
    exact .inr ⟨by omega, h.symm⟩
theorem Drawn.grow {cs : List (Int × Int)} {m r w : Int} {i : Nat} (D : Drawn cs m i) (hw : ∃ k, w = 12 * k) (w0 : 24 ≤ w) (w1 : w ≤ 864) (hr : ∃ k, r = 12 * k) (r0 : 0 ≤ r) (r1 : r ≤ 1800) (nl : ∀ l, cs.getLast? = some l → l.2 ≠ r) : Drawn (cs ++ [(m, r)]) (m + w) (i + 1) where
  ok := fun c hc => by
    have mb := D.mb
    rcases List.mem_append.mp hc with hc | hc
    · obtain ⟨h1, h2, h3, h4, h5⟩ := D.ok c hc
      exact ⟨h1, h2, h3, by omega, h5⟩
    · rw [List.mem_singleton.mp hc]
      exact ⟨D.m12, hr, mb.1, by show m < m + w; omega, r0, r1⟩
  m12 := by obtain ⟨k, hk⟩ := D.m12; obtain ⟨l, hl⟩ := hw; exact ⟨k + l, by omega⟩
  mb := by have := D.mb; omega
  asc := ⟨fun c hc => by
      rcases get_snoc hc with h | ⟨h1, rfl⟩
      · exact D.asc.first c h
      · exact D.zero (List.eq_nil_of_length_eq_zero h1.symm), fun j c c' h1 h2 => by
      rcases get_snoc h2 with h | ⟨e, rfl⟩
      · rcases get_snoc h1 with h' | ⟨e', rfl⟩
        · exact D.asc.step j c c' h' h
        · have := (List.getElem?_eq_some_iff.mp h).1
          omega
      · rcases get_snoc h1 with h' | ⟨e', rfl⟩
        · exact (D.ok c (List.mem_of_getElem? h')).2.2.2.1
        · omega⟩
  unl := fun j c c' h1 h2 => by
    rcases get_snoc h2 with h | ⟨e, rfl⟩
    · rcases get_snoc h1 with h' | ⟨e', rfl⟩
      · exact D.unl j c c' h' h
      · have := (List.getElem?_eq_some_iff.mp h).1
        omega
    · rcases get_snoc h1 with h' | ⟨e', rfl⟩
      · refine nl c ?_
        rw [List.getLast?_eq_getElem?, ← e]
        exact h'
      · omega
  ne := fun _ h => by simp at h
  len := by have := D.len; simp; omega
  zero := fun h => by simp at h
theorem Drawn.stay {cs : List (Int × Int)} {m w : Int} {i : Nat} (D : Drawn cs m i) (hw : ∃ k, w = 12 * k) (w0 : 24 ≤ w) (w1 : w ≤ 864) (hn : cs ≠ []) : Drawn cs (m + w) (i + 1) where
  ok := fun c hc => by
    obtain ⟨h1, h2, h3, h4, h5⟩ := D.ok c hc
    exact ⟨h1, h2, h3, by omega, h5⟩
  m12 := by obtain ⟨k, hk⟩ := D.m12; obtain ⟨l, hl⟩ := hw; exact ⟨k + l, by omega⟩
  mb := by have := D.mb; omega
  asc := D.asc
  unl := D.unl
  ne := fun _ => hn
  len := by have := D.len; omega
  zero := fun h => absurd h hn
end Tw
end
section
set_option Elab.async false
set_option linter.all false
set_option maxRecDepth 100000
namespace Tw
open PySem PySem.Spec PyProof.Rows L2 DP
variable {cA : Str → Addr}
/-! ### told pairs as data -/
theorem data_fr (n : Int) : ∃ d, dataT (fr n) = some d ∧ PyData.canLay0 d = true ∧ PyData.depth d ≤ 1 := by
  obtain ⟨a, b, e, _⟩ := fr_ex n
  rw [e]
  exact ⟨.tuple [.int a, .int b], rfl, by simp [PyData.canLay0, PyData.canLayAll0], by simp [PyData.depth, PyData.depthAll]⟩
theorem data_cm (c : Int × Int) : ∃ d, dataT (cm c) = some d ∧ PyData.canLay0 d = true ∧ PyData.depth d ≤ 2 := by
  obtain ⟨d1, e1, h1, k1⟩ := data_fr c.1
  obtain ⟨d2, e2, h2, k2⟩ := data_fr c.2
  refine ⟨.tuple [d1, d2], ?_, by simp [PyData.canLay0, PyData.canLayAll0, h1, h2], by simp [PyData.depth, PyData.depthAll]; omega⟩
  show ((dataT (fr c.1)).bind fun d => ((dataT (fr c.2)).bind fun d => (dataTs []).map fun ds => d :: ds).map fun ds => d :: ds).map PyData.tuple = _
  rw [e1, e2]
  rfl
theorem data_cms : ∀ cs : List (Int × Int), ∃ ds, dataTs (cs.map cm) = some ds ∧ PyData.canLayAll0 ds = true ∧ PyData.depthAll ds ≤ 2
  | [] => ⟨[], rfl, by simp [PyData.canLayAll0], by simp [PyData.depthAll]⟩
  | c :: cs => by
    obtain ⟨d, e, h, k⟩ := data_cm c
    obtain ⟨ds, e2, h2, k2⟩ := data_cms cs
    refine ⟨d :: ds, ?_, by simp [PyData.canLayAll0, h, h2], by simp [PyData.depthAll]; omega⟩
    show ((dataT (cm c)).bind fun d => (dataTs (cs.map cm)).map fun ds => d :: ds) = _
    rw [e, e2]
    rfl
theorem eqNil_cm (cs : List (Int × Int)) : eqNilT false (true, cs.map cm) = .ret (.bl cs.isEmpty) := by
  obtain ⟨ds, e, h, k⟩ := data_cms cs
  have hs : SeqAt.shaped (.list ds) = true := by
    simp [SeqAt.shaped, PyData.canLay0, PyData.depth, h]
    omega
  unfold eqNilT
  dsimp only
  rw [e]
  dsimp only
  rw [hs, Bool.true_and, if_pos rfl]
  cases cs <;> rfl
/-! ### _law_comers -/
noncomputable abbrev dcR (cA : Str → Addr) : Env' → M Fl := (sSet 6 (eCall (m__law_low cA) (aCons (eCallS 0 (m__law_draw cA) (aCons (eCallS 0 (m__law_pick cA) (aCons (e1 lstT (nLst (aCons (eC (.int 1)) (aCons (eC (.int 5)) (aCons (eC (.int 9)) (aCons (eC (.int 25)) aNil)))))) aNil)) aNil)) (aCons (eCallS 0 (m__law_pick cA) (aCons (e1 lstT (nLst (aCons (eC (.int 1)) (aCons (eC (.int 1)) (aCons (eV 4) aNil))))) aNil)) aNil))))
noncomputable abbrev dcI (cA : Str → Addr) : Env' → M Fl := (sIf (eOr (e1 boolT (e1 (eqNilT false) (eVS 2))) (e1 boolT (e2 neT (e2 ixT (e1 seqT (e2 ixT (eVS 2) (e1 negT (eC (.int 1))))) (eC (.int 1))) (eV 6)))) (sApp 2 (eTup (aCons (eV 3) (aCons (eV 6) aNil)))) sNext)
noncomputable abbrev dcM (cA : Str → Addr) : Env' → M Fl := (sSet 3 (eCall (m__law_plus cA) (aCons (eV 3) (aCons (eCall (m__law_low cA) (aCons (e2 addT (eC (.int 1)) (eCallS 0 (m__law_draw cA) (aCons (eC (.int 12)) aNil))) (aCons (eV 4) aNil))) aNil))))
noncomputable abbrev dcB (cA : Str → Addr) : Env' → M Fl := sSeq (dcR cA) (sSeq (dcI cA) (dcM cA))
abbrev dcE (b : Int) (cs : List (Int × Int)) (m : Int) (k r : Sl) : Env' := [.strm, .val (.int 6), .own (cs.map cm), .val (fr m), .val (.int b), k, r]
theorem mem_ints {x : T} {ks : List Int} (h : x ∈ ks.map T.int) : ∃ k ∈ ks, x = .int k := by
  obtain ⟨k, hk, rfl⟩ := List.mem_map.mp h
  exact ⟨k, hk, rfl⟩
theorem dc_rate {b : Int} {cs : List (Int × Int)} {m : Int} {k r : Sl} (hb : b = 1 ∨ b = 2 ∨ b = 3) :
    Tk (dcR cA (dcE b cs m k r)) 3 (fun fl => ∃ ρ', fl = .next ρ' ∧ ∃ q, ((∃ k, q = 12 * k) ∧ 0 ≤ q ∧ q ≤ 1800) ∧ ρ' = dcE b cs m k (.val (fr q))) := by
  have h1 := tk_pk (cA := cA) (i := 0) (ρ := dcE b cs m k r) (f := e1 lstT (nLst (aCons (eC (.int 1)) (aCons (eC (.int 5)) (aCons (eC (.int 9)) (aCons (eC (.int 25)) aNil)))))) (xs := [1, 5, 9, 25].map T.int) rfl rfl (by simp) (by simp)
  have h2 := tk_pk (cA := cA) (i := 0) (ρ := dcE b cs m k r) (f := e1 lstT (nLst (aCons (eC (.int 1)) (aCons (eC (.int 1)) (aCons (eV 4) aNil))))) (xs := [1, 1, b].map T.int) rfl rfl (by simp) (by simp)
  have h3 := tk_dr (cA := cA) (i := 0) (ρ := dcE b cs m k r) (hi := 25) rfl (h1.imp fun t ht => by
    obtain ⟨j, hj, rfl⟩ := mem_ints ht
    refine ⟨j, rfl, ?_⟩
    simp only [List.mem_cons, List.not_mem_nil, or_false] at hj
    omega) (by decide)
  have h4 := tk_low (cA := cA) (lo := 0) (hi := 24) (h3.imp fun t ⟨d, e, a, c⟩ => ⟨d, e, a, by omega⟩) (h2.imp fun t ht => by
    obtain ⟨j, hj, rfl⟩ := mem_ints ht
    refine ⟨j, rfl, ?_⟩
    simp only [List.mem_cons, List.not_mem_nil, or_false] at hj
    omega) (by decide) (by decide)
  refine ((Tk.sSet (i := 6) h4).le (by decide)).imp ?_
  rintro fl ⟨ρ', e, t, ⟨q, rfl, q0, q1, q2⟩, rfl⟩
  exact ⟨_, e, q, ⟨q0, by omega, by omega⟩, rfl⟩
theorem dc_moment {b : Int} {cs : List (Int × Int)} {m : Int} {k r : Sl} (hb : b = 1 ∨ b = 2 ∨ b = 3) (hm : m.natAbs ≤ 10 ^ 8) :
    Tk (dcM cA (dcE b cs m k r)) 1 (fun fl => ∃ ρ', fl = .next ρ' ∧ ∃ w, ((∃ k, w = 12 * k) ∧ 24 ≤ w ∧ w ≤ 864) ∧ ρ' = dcE b cs (m + w) k r) := by
  have h1 := tk_dr (cA := cA) (i := 0) (ρ := dcE b cs m k r) (n := 0) (hi := 12) (f := eC (T.int 12)) rfl (tk_c (by decide) (by decide)) (by decide)
  have h2 := tk_low (cA := cA) (lo := 1) (hi := 12) (tk_plus1 (hi := 11) h1) (Tk.eq (a := T.int b) rfl ⟨b, rfl, hb⟩ : Tk (eV 4 (dcE b cs m k r)) 0 _) (by decide) (by decide)
  have h3 : Tk (eCall (m__law_plus cA) (aCons (eV 3) (aCons (eCall (m__law_low cA) (aCons (e2 addT (eC (.int 1)) (eCallS 0 (m__law_draw cA) (aCons (eC (.int 12)) aNil))) (aCons (eV 4) aNil))) aNil)) (dcE b cs m k r)) 1 (fun t => ∃ w, t = fr (m + w) ∧ (∃ k, w = 12 * k) ∧ 24 ≤ w ∧ w ≤ 864) := by
    refine (Tk.call (n := 0 + (1 + 0)) (n2 := 0) (Tk.cons (P := fun t => t = fr m) (Tk.eq rfl rfl) (Tk.cons h2 (Tk.eq (a := []) rfl rfl))) ?_).le (by decide)
    rintro ts ⟨t, us, rfl, ⟨u, vs, ⟨w, rfl, w0, w1, w2⟩, rfl, rfl⟩, rfl⟩
    exact Tk.eq (law_plus_fr (by omega) (by omega)) ⟨w, rfl, w0, by omega, by omega⟩
  refine (Tk.sSet (i := 3) h3).imp ?_
  rintro fl ⟨ρ', e, t, ⟨w, rfl, w0, w1, w2⟩, rfl⟩
  exact ⟨_, e, w, ⟨w0, w1, w2⟩, rfl⟩
theorem ix_rate {cs : List (Int × Int)} {l : Int × Int} {b m q : Int} {k : Sl} (h : cs.getLast? = some l) :
    e2 ixT (e1 seqT (e2 ixT (eVS 2) (e1 negT (eC (.int 1))))) (eC (.int 1)) (dcE b cs m k (.val (fr q))) = .ret (fr l.2) := by
  have e : ixT (true, cs.map cm) (.int (-1)) = .ret (cm l) := ix_last (by rw [List.getLast?_map, h]; rfl)
  exact v_2 (v_1 (v_2 (v_own rfl) (v_1 v_c rfl) e) rfl) v_c rfl
theorem dc_if {b : Int} {cs : List (Int × Int)} {m q : Int} {k : Sl} (hl : cs.length ≤ 1000) :
    dcI cA (dcE b cs m k (.val (fr q))) = .ret (.next (dcE b (squ1 cs (m, q)) m k (.val (fr q)))) := by
  have happ : sApp 2 (eTup (aCons (eV 3) (aCons (eV 6) aNil))) (dcE b cs m k (.val (fr q))) = .ret (.next (dcE b (cs ++ [(m, q)]) m k (.val (fr q)))) := by
    show M.bind (eTup _ _) _ = _
    rw [v_tup (ts := [fr m, fr q]) (v_cons (v_var rfl) (v_cons (v_var rfl) v_nil)) (by simp)]
    show (if okLen (cs.map cm).length = true then _ else M.stuck) = _
    rw [if_pos (by unfold okLen; simp; omega)]
    show M.ret (Fl.next (dcE b cs m k (.val (fr q)) |>.set 2 (.own (cs.map cm ++ [cm (m, q)])))) = _
    rw [show cs.map cm ++ [cm (m, q)] = (cs ++ [(m, q)]).map cm by simp]
    rfl
  have hn : e1 boolT (e1 (eqNilT false) (eVS 2)) (dcE b cs m k (.val (fr q))) = .ret cs.isEmpty := v_bool (v_1 (v_own rfl) (eqNil_cm cs))
  unfold squ1
  cases hq : cs.getLast? with
  | none =>
    have : cs = [] := List.getLast?_eq_none_iff.mp hq
    subst this
    exact g_ifT (v_orT hn) happ
  | some l =>
    have hne : cs.isEmpty = false := by
      cases cs with
      | nil => cases hq
      | cons _ _ => rfl
    rw [hne] at hn
    have ne := v_bool (v_2 (ix_rate (b := b) (m := m) (q := q) (k := k) hq) (v_var (i := 6) rfl) (neT_fr l.2 q))
    by_cases z : l.2 = q
    · rw [decide_eq_true z] at ne
      dsimp only
      rw [if_pos z]
      exact g_ifF (v_orF hn ne) rfl
    · rw [decide_eq_false z] at ne
      dsimp only
      rw [if_neg z]
      exact g_ifT (v_orF hn ne) happ
theorem Drawn.turn {cs : List (Int × Int)} {m q w : Int} {i : Nat} (D : Drawn cs m i) (hw : ∃ k, w = 12 * k) (w0 : 24 ≤ w) (w1 : w ≤ 864) (hr : ∃ k, q = 12 * k) (r0 : 0 ≤ q) (r1 : q ≤ 1800) : Drawn (squ1 cs (m, q)) (m + w) (i + 1) := by
  unfold squ1
  cases hq : cs.getLast? with
  | none => exact D.grow hw w0 w1 hr r0 r1 fun l h => by rw [hq] at h; cases h
  | some l =>
    dsimp only
    by_cases z : l.2 = q
    · rw [if_pos z]
      exact D.stay hw w0 w1 fun e => by rw [e] at hq; cases hq
    · rw [if_neg z]
      exact D.grow hw w0 w1 hr r0 r1 fun l' h => by
        rw [hq] at h
        cases h
        exact z
theorem drawn_nil : Drawn [] 0 0 := ⟨(fun _ h => nomatch h), ⟨0, rfl⟩, by omega, ⟨fun _ h => (by simp at h), fun _ _ _ h => (by simp at h)⟩, (fun _ _ _ h => by simp at h), (fun h => absurd h (by decide)), Nat.le_refl _, fun _ => rfl⟩
theorem dc_turn {b : Int} {cs : List (Int × Int)} {m : Int} {k r : Sl} {i : Nat} (hb : b = 1 ∨ b = 2 ∨ b = 3) (D : Drawn cs m i) (hi : i ≤ 6) :
    Tk (dcB cA (dcE b cs m k r)) 4 (fun fl => ∃ ρ', fl = .next ρ' ∧ ∃ cs' m' k' r', ρ' = dcE b cs' m' k' r' ∧ Drawn cs' m' (i + 1)) := by
  refine (Tk.seq (n2 := 1) (dc_rate (cA := cA) hb) ?_)
  rintro _ ⟨q, ⟨q0, q1, q2⟩, rfl⟩
  have mb := D.mb
  have hl := D.len
  refine (Tk.seq (n := 0) (n2 := 1) (I := fun ρ' => ρ' = dcE b (squ1 cs (m, q)) m k (.val (fr q))) (Tk.eq (dc_if (by omega)) ⟨_, rfl, rfl⟩) ?_).le (by decide)
  rintro _ rfl
  refine (dc_moment (cA := cA) hb (by omega)).imp ?_
  rintro fl ⟨ρ', e, w, ⟨w0, w1, w2⟩, rfl⟩
  exact ⟨_, e, _, _, _, _, rfl, D.turn w0 w1 w2 q0 q1 q2⟩
theorem tk_comers : Tk (m__law_comers cA [.int 6]) 26 (fun t => ∃ cs m i, t = .lst (cs.map cm) ∧ Drawn cs m i ∧ 0 < i ∧ i ≤ 6) := by
  refine Tk.fn ?_
  refine (Tk.seq (n := 1) (n2 := 25) (I := fun ρ' => ∃ b, (b = 1 ∨ b = 2 ∨ b = 3) ∧ ρ' = dcE b [] 0 .any .any) ?_ ?_)
  · have h1 := tk_pk (cA := cA) (i := 0) (ρ := [.strm, .val (.int 6), .any, .any, .any, .any, .any]) (f := e1 lstT (nLst (aCons (eC (.int 1)) (aCons (eC (.int 1)) (aCons (eC (.int 2)) (aCons (eC (.int 3)) aNil)))))) (xs := [1, 1, 2, 3].map T.int) rfl rfl (by simp) (by simp)
    have h2 := h1.imp (P' := fun t => ∃ b, t = .int b ∧ (b = 1 ∨ b = 2 ∨ b = 3)) fun t ht => by
      obtain ⟨j, hj, rfl⟩ := mem_ints ht
      refine ⟨j, rfl, ?_⟩
      simp only [List.mem_cons, List.not_mem_nil, or_false] at hj
      omega
    refine Tk.bind (n := 1) (n2 := 0) (P := fun ds => ∃ b, (b = 1 ∨ b = 2 ∨ b = 3) ∧ ds = [.own [], .val (fr 0), .val (.int b)]) ?_ ?_
    · refine (Tk.e2 (n1 := 0) (n2 := 1) (n3 := 0) (A := fun ts => ts = []) (B := fun ds => ∃ b, (b = 1 ∨ b = 2 ∨ b = 3) ∧ ds = [.val (fr 0), .val (.int b)]) (Tk.eq rfl rfl) ?_ ?_)
      · refine (Tk.e2 (n1 := 0) (n2 := 1) (n3 := 0) (A := fun t => t = fr 0) (B := fun ds => ∃ b, (b = 1 ∨ b = 2 ∨ b = 3) ∧ ds = [.val (.int b)]) (Tk.eq rfl rfl) ?_ ?_)
        · refine (Tk.e2 (n1 := 1) (n2 := 0) (n3 := 0) (B := fun ds => ds = []) h2 (Tk.eq rfl rfl) ?_)
          rintro _ _ ⟨b, rfl, hb⟩ rfl
          exact Tk.ret ⟨b, hb, rfl⟩
        · rintro _ _ rfl ⟨b, hb, rfl⟩
          exact Tk.ret ⟨b, hb, rfl⟩
      · rintro _ _ rfl ⟨b, hb, rfl⟩
        exact Tk.ret ⟨b, hb, rfl⟩
    · rintro _ ⟨b, hb, rfl⟩
      exact Tk.ret ⟨_, rfl, b, hb, rfl⟩
  rintro _ ⟨b, hb, rfl⟩
  refine Tk.seq (n := 25) (n2 := 0) (I := fun ρ' => ∃ cs m i k r, ρ' = dcE b cs m k r ∧ Drawn cs m i ∧ 0 < i ∧ i ≤ 6) ?_ ?_
  · have hd := tk_dr (cA := cA) (i := 0) (ρ := dcE b [] 0 .any .any) (n := 0) (hi := 6) (f := eV 1) rfl (Tk.eq (a := T.int 6) rfl ⟨6, rfl, by decide, by decide⟩) (by decide)
    have hr : Tk (e1 rng1 (aCons (e2 addT (eC (.int 1)) (eCallS 0 (m__law_draw cA) (aCons (eV 1) aNil))) aNil) (dcE b [] 0 .any .any)) 1 (fun ts => 0 < ts.length ∧ ts.length ≤ 6) := by
      refine (Tk.e1 (n := 1 + 0) (n2 := 0) (Tk.cons (tk_plus1 (hi := 5) hd) (Tk.eq (a := []) rfl rfl)) ?_).le (by decide)
      rintro ts ⟨t, us, ⟨d, rfl, d0, d1⟩, rfl, rfl⟩
      refine Tk.eq (a := (List.range d.toNat).map fun k => .int (0 + (k : Nat))) (if_pos ?_) ⟨by simp; omega, by simp; omega⟩
      unfold okR
      exact decide_eq_true ⟨by omega, by omega⟩
    refine (Tk.sFor (bd := bName 5) (G := dcB cA) (c := 4) (L := 6) (fun i ρ => ∃ cs m k r, ρ = dcE b cs m k r ∧ Drawn cs m i) hr (fun ts h => h.2) ⟨[], 0, _, _, rfl, drawn_nil⟩ ?_).imp ?_
    · rintro ts ⟨t0, t1⟩ j t ρ ht ⟨cs, m, k, r, rfl, D⟩
      have hj := (List.getElem?_eq_some_iff.mp ht).1
      refine ⟨dcE b cs m (.val t) r, rfl, ?_⟩
      exact dc_turn hb D (by omega)
    · rintro fl ⟨ρ', ts, e, ⟨t0, t1⟩, cs, m, k, r, rfl, D⟩
      exact ⟨_, e, cs, m, ts.length, k, r, rfl, D, t0, t1⟩
  · rintro _ ⟨cs, m, i, k, r, rfl, D, i0, i1⟩
    exact Tk.eq (a := .ret (.lst (cs.map cm))) rfl ⟨_, rfl, cs, m, i, rfl, D, i0, i1⟩
end Tw
end
section
set_option Elab.async false
set_option linter.all false
set_option maxRecDepth 100000
namespace Tw
open PySem PySem.Spec PyProof.Rows L2 DP
variable {cA : Str → Addr}
/-! ### told otherwise -/
theorem seqOf_inj {t : T} {xs ys : List T} (h1 : SeqOf t xs) (h2 : SeqOf t ys) : xs = ys := by
  rcases h1 with rfl | rfl <;> rcases h2 with h | h
  · exact T.lst.inj h
  · cases h
  · cases h
  · exact T.tup.inj h
theorem tk_raw {n : Int} (hn : n.natAbs ≤ 10 ^ 8) : Tk (m__law_raw cA [fr n]) 2 (fun t => Fr t n) := by
  obtain ⟨a, b, e, b0, b1, r, ha⟩ := fr_ex n
  refine Tk.fn ?_
  have h1 := tk_pk (cA := cA) (i := 0) (ρ := [.strm, .val (fr n), .any]) (f := e1 lstT (nLst (aCons (eC (.int 1)) (aCons (eC (.int 1)) (aCons (eC (.int 1)) (aCons (eC (.int 2)) (aCons (eC (.int 3)) aNil))))))) (xs := [1, 1, 1, 2, 3].map T.int) rfl rfl (by simp) (by simp)
  refine (Tk.seq (n := 1) (n2 := 1) (I := fun ρ' => ∃ w : Int, (1 ≤ w ∧ w ≤ 3) ∧ ρ' = [.strm, .val (fr n), .val (.int w)]) ((Tk.sSet (i := 2) h1).imp ?_) ?_)
  · rintro fl ⟨ρ', e, t, ht, rfl⟩
    obtain ⟨j, hj, rfl⟩ := mem_ints ht
    refine ⟨_, e, j, ?_, rfl⟩
    simp only [List.mem_cons, List.not_mem_nil, or_false] at hj
    omega
  rintro _ ⟨w, ⟨w0, w1⟩, rfl⟩
  refine Tk.sRet ?_
  have p1 : (a * w).natAbs ≤ 10 ^ 9 := by
    have := prod_le (a := a) (b := w) (m := 10 ^ 8) (n := 3) (by omega) (by omega)
    omega
  refine (Tk.callS (n := 0) (n2 := 1) rfl (A := fun ts => ts = [.tup ([a * w, b * w].map T.int)]) (Tk.eq (v_cons (v_tup (ts := [a * w, b * w].map T.int) (v_cons (v_2 (v_ix0 (.inr e) rfl) (v_var rfl) (mulT_int (by omega) (by omega))) (v_cons (v_2 (v_ix1 (.inr e) rfl) (v_var rfl) (mulT_int (by omega) (by omega))) v_nil)) (by simp)) v_nil) rfl) ?_)
  rintro ts rfl
  refine (tk_loose_ints (cA := cA) (n := 38) (.inr rfl) (by simp)).imp fun u hu => ⟨a * w, b * w, hu, Int.mul_pos b0 (by omega), ?_, ?_, p1⟩
  · have := prod_le (a := b) (b := w) (m := 72) (n := 3) (by omega) (by omega)
    omega
  · rw [Int.mul_assoc, Int.mul_comm w 72, ← Int.mul_assoc, r, Int.mul_assoc]
/-- a fraction, told once more -/
def Again (u u' : T) : Prop := ∃ xs : List Int, SeqOf u (xs.map T.int) ∧ SeqOf u' (xs.map T.int)
theorem Again.fr {u u' : T} {n : Int} (h : Again u u') (f : Fr u n) : Fr u' n := by
  obtain ⟨xs, h1, h2⟩ := h
  obtain ⟨a, b, s, q⟩ := f.ex
  refine ⟨a, b, ?_, q⟩
  rw [seqOf_inj s h1]
  exact h2
theorem tk_again {u : T} {m : Int} {n : Nat} (h : Fr u m) : Tk (m__law_loose cA (n + 2) [u]) 1 (Again u) := by
  obtain ⟨a, b, s, _⟩ := h.ex
  exact (tk_loose_ints (cA := cA) (xs := [a, b]) s (by simp)).imp fun u' h => ⟨[a, b], s, h⟩
/-- a list of two fractions -/
def Lc (x : T) (c : Int × Int) : Prop := ∃ u v, x = .lst [u, v] ∧ Fr u c.1 ∧ Fr v c.2
def Again2 (x y : T) : Prop := ∃ u v u' v', x = .lst [u, v] ∧ SeqOf y [u', v'] ∧ Again u u' ∧ Again v v'
theorem tk_again2 {x : T} {c : Int × Int} {n : Nat} (h : Lc x c) : Tk (m__law_loose cA (n + 3) [x]) 3 (Again2 x) := by
  obtain ⟨u, v, rfl, h1, h2⟩ := h
  refine ((tk_loose_seq (cA := cA) (rec := m__law_loose cA (n + 2)) (c := 1) Again (.inl rfl : SeqOf (.lst [u, v]) [u, v]) (by simp) fun x hx => ?_).le (by simp)).imp ?_
  · simp only [List.mem_cons, List.not_mem_nil, or_false] at hx
    rcases hx with rfl | rfl
    · exact tk_again h1
    · exact tk_again h2
  · rintro y ⟨ys, hy, p⟩
    cases p with
    | cons a p => cases p with
      | cons b p => cases p with
        | nil => exact ⟨u, v, _, _, rfl, hy, a, b⟩
theorem paired_again {xs ys : List T} {cs : List (Int × Int)} (h : Paired Again2 xs ys) (q : Paired Lc xs cs) (hc : ∀ c ∈ cs, 0 ≤ c.1 ∧ 0 ≤ c.2) : Paired Cm ys cs := by
  induction h generalizing cs with
  | nil => cases q; exact .nil
  | cons r _ ih =>
    cases q with
    | cons q qs =>
      refine .cons ?_ (ih qs fun c h => hc c (List.mem_cons_of_mem _ h))
      obtain ⟨u, v, u', v', e, s, a1, a2⟩ := r
      obtain ⟨u2, v2, e2, f1, f2⟩ := q
      rw [e] at e2
      cases e2
      have := hc _ List.mem_cons_self
      exact ⟨u', v', s, a1.fr f1, a2.fr f2, this.1, this.2⟩
theorem paired_mem {α β : Type} {R : α → β → Prop} {xs : List α} {ys : List β} {x : α} (h : Paired R xs ys) (e : x ∈ xs) : ∃ y ∈ ys, R x y := by
  induction h with
  | nil => cases e
  | cons r _ ih =>
    rcases List.mem_cons.mp e with rfl | e
    · exact ⟨_, List.mem_cons_self, r⟩
    · obtain ⟨y, hy, h⟩ := ih e
      exact ⟨y, List.mem_cons_of_mem _ hy, h⟩
theorem tk_again_all {xs : List T} {cs : List (Int × Int)} {n : Nat} (q : Paired Lc xs cs) (hc : ∀ c ∈ cs, 0 ≤ c.1 ∧ 0 ≤ c.2) (hl : cs.length ≤ 1000) :
    Tk (m__law_loose cA (n + 4) [.lst xs]) (3 * cs.length + 1) (fun t => ∃ ys, SeqOf t ys ∧ Paired Cm ys cs) := by
  have hx : xs.length = cs.length := paired_len q
  rw [← hx]
  refine (tk_loose_seq (cA := cA) (rec := m__law_loose cA (n + 3)) (c := 3) Again2 (.inl rfl) (by omega) fun x hx => ?_).imp ?_
  · obtain ⟨c, _, h⟩ := paired_mem q hx
    exact tk_again2 h
  · rintro t ⟨ys, hy, p⟩
    exact ⟨ys, hy, paired_again p q hc⟩
theorem paired_lc {xs : List T} : ∀ {cs : List (Int × Int)}, Paired (fun x y => ∀ c, x = cm c → Lc y c) (cs.map cm) xs → Paired Lc xs cs := by
  intro cs
  induction cs generalizing xs with
  | nil => intro h; cases h; exact .nil
  | cons c cs ih =>
    intro h
    cases h with
    | cons r h => exact .cons (r c rfl) (ih h)
theorem cm_inj {c c' : Int × Int} (h : cm c = cm c') : c = c' := by
  have h := T.tup.inj h
  injection h with h1 h2
  injection h2 with h2 _
  exact Prod.ext (fr_inj h1) (fr_inj h2)
theorem tk_raw_comers {cs : List (Int × Int)} (hc : ∀ c ∈ cs, (0 ≤ c.1 ∧ c.1 ≤ 10 ^ 8) ∧ 0 ≤ c.2 ∧ c.2 ≤ 10 ^ 8) (hl : cs.length ≤ 1000) :
    Tk (m__law_raw_comers cA [.lst (cs.map cm)]) (7 * cs.length + 1) (fun t => ∃ ys, SeqOf t ys ∧ Paired Cm ys cs) := by
  refine Tk.fn (Tk.sRet ?_)
  refine (Tk.callS (n := 4 * cs.length) (n2 := 3 * cs.length + 1) rfl (A := fun ts => ∃ xs, ts = [.lst xs] ∧ Paired Lc xs cs) ?_ ?_).le (by omega)
  · refine ((Tk.cons (n2 := 0) (A := fun us => us = []) (P := fun t => ∃ xs, t = .lst xs ∧ Paired Lc xs cs) (n := 4 * cs.length) ?_ (Tk.eq rfl rfl)).le (by omega)).imp ?_
    · refine (Tk.e1 (n := 4 * cs.length) (n2 := 0) ((Tk.nLc (c := 4) (ts := cs.map cm) (fun x y => ∀ c, x = cm c → Lc y c) (v_1 (v_var rfl) rfl) rfl (by simp; omega) fun t ht => ?_).le (by simp)) ?_).le (by omega)
      · obtain ⟨c, hc', rfl⟩ := List.mem_map.mp ht
        have hb := hc c hc'
        refine ⟨[.strm, .val (.lst (cs.map cm)), .val (cm c), .any], rfl, rfl, ?_⟩
        refine ((Tk.e1 (n := 4) (n2 := 0) ((Tk.nLc (c := 2) (ts := [fr c.1, fr c.2]) (fun x y => ∀ n : Int, n.natAbs ≤ 10 ^ 8 → x = fr n → Fr y n) (v_1 (v_var rfl) rfl) rfl (by simp) fun t ht => ?_).le (by simp)) (B := fun y => Lc y c) ?_).le (by omega)).imp ?_
        · have : ∃ n : Int, n.natAbs ≤ 10 ^ 8 ∧ t = fr n := by
            simp only [List.mem_cons, List.not_mem_nil, or_false] at ht
            rcases ht with rfl | rfl
            · exact ⟨_, by omega, rfl⟩
            · exact ⟨_, by omega, rfl⟩
          obtain ⟨n, hn, rfl⟩ := this
          refine ⟨[.strm, .val (.lst (cs.map cm)), .val (cm c), .val (fr n)], rfl, rfl, ?_⟩
          refine (Tk.callS (P := fun y => ∀ m : Int, m.natAbs ≤ 10 ^ 8 → fr n = fr m → Fr y m) (n := 0) (n2 := 2) rfl (A := fun ts => ts = [fr n]) (Tk.eq (v_cons (v_var rfl) v_nil) rfl) ?_).le (by decide)
          rintro _ rfl
          refine (tk_raw hn).imp fun y h m hm e => ?_
          rw [← fr_inj e]
          exact h
        · intro ys p
          cases p with
          | cons a p => cases p with
            | cons b p => cases p with
              | nil => exact Tk.eq rfl ⟨_, _, rfl, a _ (by omega) rfl, b _ (by omega) rfl⟩
        · intro y h c' e
          rw [← cm_inj e]
          exact h
      · intro xs p
        exact Tk.eq rfl ⟨xs, rfl, paired_lc p⟩
    · rintro ts ⟨t, us, ⟨xs, rfl, p⟩, rfl, rfl⟩
      exact ⟨xs, rfl, p⟩
  · rintro _ ⟨xs, rfl, p⟩
    exact tk_again_all (n := 36) p (fun c h => ⟨(hc c h).1.1, (hc c h).2.1⟩) hl
/-! ### like neighbours -/
theorem squ1_new {acc : List (Int × Int)} {c : Int × Int} (h : ∀ l, acc.getLast? = some l → l.2 ≠ c.2) : squ1 acc c = acc ++ [c] := by
  unfold squ1
  cases e : acc.getLast? with
  | none => rfl
  | some l => exact if_neg (h l e)
theorem squ1_same {acc : List (Int × Int)} {c l : Int × Int} (e : acc.getLast? = some l) (h : l.2 = c.2) : squ1 acc c = acc := by
  unfold squ1
  rw [e]
  exact if_pos h
theorem squ_take {cs : List (Int × Int)} (unl : ∀ (j : Nat) (c c' : Int × Int), cs[j]? = some c → cs[j + 1]? = some c' → c.2 ≠ c'.2) {j : Nat} {c : Int × Int} (e : cs[j]? = some c) : squ1 (cs.take j) c = cs.take (j + 1) := by
  have hj := (List.getElem?_eq_some_iff.mp e).1
  rw [squ1_new fun l hl => ?_, List.take_add_one, e]
  · rfl
  · rw [List.getLast?_eq_getElem?] at hl
    cases j with
    | zero => simp at hl
    | succ j =>
      have h1 : (List.take (j + 1) cs).length = j + 1 := by rw [List.length_take]; omega
      rw [h1, List.getElem?_take] at hl
      rw [if_pos (by omega)] at hl
      exact unl j l c hl e
theorem squ_fold {cs : List (Int × Int)} (unl : ∀ (j : Nat) (c c' : Int × Int), cs[j]? = some c → cs[j + 1]? = some c' → c.2 ≠ c'.2) : cs.foldl squ1 [] = cs := by
  have : ∀ j, j ≤ cs.length → (cs.take j).foldl squ1 [] = cs.take j := by
    intro j
    induction j with
    | zero => intro _; rfl
    | succ j ih =>
      intro h
      have e : cs[j]? = some cs[j] := List.getElem?_eq_getElem (by omega)
      have e1 : cs.take (j + 1) = cs.take j ++ [cs[j]] := by rw [List.take_add_one, e]; rfl
      rw [show (cs.take (j + 1)).foldl squ1 [] = squ1 ((cs.take j).foldl squ1 []) cs[j] by rw [e1, List.foldl_append]; rfl, ih (by omega)]
      exact squ_take unl e
  have h := this cs.length (Nat.le_refl _)
  rw [List.take_length] at h
  exact h
end Tw
end
section
set_option Elab.async false
set_option linter.all false
set_option maxRecDepth 100000
namespace Tw
open PySem PySem.Spec PyProof.Rows L2 DP
variable {cA : Str → Addr}
/-! ### parted comers -/
structure Good (cs : List (Int × Int)) : Prop where
  ok : ∀ c ∈ cs, (∃ k, c.1 = 12 * k) ∧ (∃ k, c.2 = 12 * k) ∧ 0 ≤ c.1 ∧ c.1 < 5184 ∧ 0 ≤ c.2 ∧ c.2 ≤ 1800
  asc : Asc cs
  unl : ∀ (j : Nat) (c c' : Int × Int), cs[j]? = some c → cs[j + 1]? = some c' → c.2 ≠ c'.2
  ne : cs ≠ []
  len : cs.length ≤ 6
theorem Drawn.good {cs : List (Int × Int)} {m : Int} {i : Nat} (D : Drawn cs m i) (h0 : 0 < i) (h1 : i ≤ 6) : Good cs where
  ok := fun c hc => by
    obtain ⟨a1, a2, a3, a4, a5, a6⟩ := D.ok c hc
    have := D.mb
    exact ⟨a1, a2, a3, by omega, a5, a6⟩
  asc := D.asc
  unl := D.unl
  ne := D.ne h0
  len := by have := D.len; omega
theorem Good.okC {cs : List (Int × Int)} (D : Good cs) : ∀ c ∈ cs, OkC c := fun c hc => by
  obtain ⟨⟨k, a1⟩, a2, a3, a4, a5, a6⟩ := D.ok c hc
  exact ⟨⟨2 * k, by omega⟩, a2, by omega, by omega⟩
structure Rows (cs rs : List (Int × Int)) (j : Nat) : Prop where
  ok : ∀ r ∈ rs, OkC r ∧ r.1 ≤ 5184
  asc : Asc rs
  fold : rs.foldl squ1 [] = cs.take j
  below : ∀ c, cs[j]? = some c → ∀ r ∈ rs, r.1 < c.1
  len : rs.length ≤ 2 * j
  ne : 0 < j → rs ≠ []
theorem Asc.snoc {rs : List (Int × Int)} {c : Int × Int} (A : Asc rs) (h0 : rs = [] → c.1 = 0) (hb : ∀ r ∈ rs, r.1 < c.1) : Asc (rs ++ [c]) := ⟨fun x hx => by
    rcases get_snoc hx with h | ⟨h1, rfl⟩
    · exact A.first x h
    · exact h0 (List.eq_nil_of_length_eq_zero h1.symm), fun j x y h1 h2 => by
    rcases get_snoc h2 with h | ⟨e, rfl⟩
    · rcases get_snoc h1 with h' | ⟨e', rfl⟩
      · exact A.step j x y h' h
      · have := (List.getElem?_eq_some_iff.mp h).1
        omega
    · rcases get_snoc h1 with h' | ⟨e', rfl⟩
      · exact hb x (List.mem_of_getElem? h')
      · omega⟩
theorem fold_snoc (rs : List (Int × Int)) (c : Int × Int) : (rs ++ [c]).foldl squ1 [] = squ1 (rs.foldl squ1 []) c := by rw [List.foldl_append]; rfl
theorem last_take {cs : List (Int × Int)} {j : Nat} {c : Int × Int} (e : cs[j]? = some c) : (cs.take (j + 1)).getLast? = some c := by
  rw [List.take_add_one, e]
  simp
theorem Rows.put {cs rs : List (Int × Int)} {j : Nat} {c : Int × Int} (G : Good cs) (R : Rows cs rs j) (e : cs[j]? = some c) : Rows cs (rs ++ [c]) (j + 1) ∧ (rs ++ [c]).length ≤ 2 * j + 1 where
  left := {
    ok := fun r hr => by
      rcases List.mem_append.mp hr with hr | hr
      · exact R.ok r hr
      · rw [List.mem_singleton.mp hr]
        have hm := List.mem_of_getElem? e
        exact ⟨G.okC c hm, by have := (G.ok c hm).2.2.2.1; omega⟩
    asc := R.asc.snoc (fun h => by
      have : j = 0 := Nat.eq_zero_of_not_pos fun hj => R.ne hj h
      subst this
      exact G.asc.first c e) (R.below c e)
    fold := by rw [fold_snoc, R.fold]; exact squ_take G.unl e
    below := fun c' h r hr => by
      have hcc := G.asc.step j c c' e h
      rcases List.mem_append.mp hr with hr | hr
      · have := R.below c e r hr
        omega
      · rw [List.mem_singleton.mp hr]
        exact hcc
    len := by have := R.len; simp; omega
    ne := fun _ h => by simp at h }
  right := by have := R.len; simp; omega
theorem Rows.mid {cs rs : List (Int × Int)} {j : Nat} {c c' : Int × Int} {k : Int} (G : Good cs) (R : Rows cs (rs ++ [c]) (j + 1)) (hl : (rs ++ [c]).length ≤ 2 * j + 1) (e : cs[j]? = some c) (e' : cs[j + 1]? = some c') (hk : c.1 + c'.1 = 2 * k) : Rows cs (rs ++ [c] ++ [(k, c.2)]) (j + 1) where
  ok := fun r hr => by
    rcases List.mem_append.mp hr with hr | hr
    · exact R.ok r hr
    · rw [List.mem_singleton.mp hr]
      have hm := G.ok c (List.mem_of_getElem? e)
      have hm' := G.ok c' (List.mem_of_getElem? e')
      obtain ⟨⟨k1, a1⟩, a2, a3, a4, a5, a6⟩ := hm
      obtain ⟨⟨k2, b1⟩, b2, b3, b4, b5, b6⟩ := hm'
      exact ⟨⟨⟨k1 + k2, by dsimp only; omega⟩, a2, by dsimp only; omega, by dsimp only; omega⟩, by dsimp only; omega⟩
  asc := R.asc.snoc (fun h => by simp at h) fun r hr => by
    have hcc := G.asc.step j c c' e e'
    have hrc : r.1 ≤ c.1 := by
      rcases List.mem_append.mp hr with hr' | hr'
      · have h1 := R.below c' e' r hr
        -- ahead of c
        obtain ⟨i, hi, hir⟩ := List.mem_iff_getElem.mp hr'
        have : ∀ d : Nat, i + d < rs.length → ∀ x, (rs ++ [c])[i + d]? = some x → r.1 ≤ x.1 := by
          intro d
          induction d with
          | zero =>
            intro _ x hx
            rw [Nat.add_zero, List.getElem?_append_left hi, List.getElem?_eq_getElem hi, hir] at hx
            cases hx
            omega
          | succ d ih =>
            intro hd x hx
            have hd' : i + d < (rs ++ [c]).length := by simp; omega
            have h2 := R.asc.step (i + d) ((rs ++ [c])[i + d]) x (List.getElem?_eq_getElem hd') hx
            have h3 := ih (by omega) _ (List.getElem?_eq_getElem hd')
            omega
        have hlast : rs.length - 1 < rs.length := by omega
        have h4 := this (rs.length - 1 - i) (by omega) rs[rs.length - 1] (by rw [show i + (rs.length - 1 - i) = rs.length - 1 by omega, List.getElem?_append_left hlast]; exact List.getElem?_eq_getElem hlast)
        have h5 := R.asc.step (rs.length - 1) rs[rs.length - 1] c (by rw [List.getElem?_append_left hlast]; exact List.getElem?_eq_getElem hlast) (by rw [show rs.length - 1 + 1 = rs.length by omega]; simp)
        omega
      · rw [List.mem_singleton.mp hr']
        omega
    show r.1 < k
    omega
  fold := by rw [fold_snoc, R.fold]; exact squ1_same (last_take e) rfl
  below := fun c'' h r hr => by
    rw [e'] at h
    cases h
    rcases List.mem_append.mp hr with hr | hr
    · exact R.below c' e' r hr
    · rw [List.mem_singleton.mp hr]
      have hcc := G.asc.step j c c' e e'
      show k < c'.1
      omega
  len := by have := R.len; simp at hl ⊢; omega
  ne := fun _ h => by simp at h
/-- rows that mean cs -/
structure Mean (cs rs : List (Int × Int)) : Prop where
  ok : ∀ r ∈ rs, OkC r ∧ r.1 ≤ 6000
  asc : Asc rs
  fold : rs.foldl squ1 [] = cs
  len : rs.length ≤ 13
  ne : rs ≠ []
theorem Rows.last {cs rs : List (Int × Int)} {l : Int × Int} {w : Int} (G : Good cs) (R : Rows cs rs cs.length) (h : rs.getLast? = some l) (w0 : 0 < w) (w1 : w ≤ 4) : Mean cs (rs ++ [(l.1 + 72 * w, l.2)]) := by
  have hne : rs ≠ [] := fun z => by rw [z] at h; cases h
  obtain ⟨ini, rfl⟩ := List.getLast?_eq_some_iff.mp h
  have hlm := R.ok l (by simp)
  refine ⟨fun r hr => ?_, R.asc.snoc (fun z => absurd z hne) fun r hr => ?_, ?_, ?_, by simp⟩
  · rcases List.mem_append.mp hr with hr | hr
    · have := R.ok r hr
      exact ⟨this.1, by omega⟩
    · rw [List.mem_singleton.mp hr]
      obtain ⟨⟨⟨k, d1⟩, d2, b1, b2⟩, b3⟩ := hlm
      exact ⟨⟨⟨k + 12 * w, by dsimp only; omega⟩, d2, by dsimp only; omega, b2⟩, by dsimp only; omega⟩
  · show r.1 < l.1 + 72 * w
    have : r.1 ≤ l.1 := by
      obtain ⟨i, hi, hir⟩ := List.mem_iff_getElem.mp hr
      have : ∀ d : Nat, i + d < (ini ++ [l]).length → ∀ x, (ini ++ [l])[i + d]? = some x → r.1 ≤ x.1 := by
        intro d
        induction d with
        | zero =>
          intro _ x hx
          rw [Nat.add_zero, List.getElem?_eq_getElem hi, hir] at hx
          cases hx
          omega
        | succ d ih =>
          intro hd x hx
          have hd' : i + d < (ini ++ [l]).length := by omega
          have h2 := R.asc.step (i + d) ((ini ++ [l])[i + d]) x (List.getElem?_eq_getElem hd') hx
          have h3 := ih (by omega) _ (List.getElem?_eq_getElem hd')
          omega
      have hl : (ini ++ [l]).length = ini.length + 1 := by simp
      exact this (ini.length - i) (by omega) l (by rw [show i + (ini.length - i) = ini.length by omega]; simp)
    omega
  · rw [fold_snoc, R.fold, List.take_length]
    have hlast : cs.getLast? = ((ini ++ [l]).foldl squ1 []).getLast? := by rw [R.fold, List.take_length]
    obtain ⟨l', hl', hl2⟩ : ∃ l', cs.getLast? = some l' ∧ l'.2 = l.2 := by
      rw [hlast, fold_snoc]
      generalize ini.foldl squ1 [] = acc
      unfold squ1
      cases hq : acc.getLast? with
      | none => exact ⟨l, by simp, rfl⟩
      | some z =>
        dsimp only
        split
        · next hz => exact ⟨z, hq, hz⟩
        · exact ⟨l, by simp, rfl⟩
    exact squ1_same hl' hl2
  · have := R.len
    have := G.len
    simp at *
    omega
theorem rows_nil {cs : List (Int × Int)} : Rows cs [] 0 := ⟨(fun _ h => nomatch h), ⟨fun _ h => (by simp at h), fun _ _ _ h => (by simp at h)⟩, rfl, (fun _ _ _ h => nomatch h), Nat.le_refl _, fun h => absurd h (by decide)⟩
end Tw
end
section
set_option Elab.async false
set_option linter.all false
set_option maxRecDepth 100000
namespace Tw
open PySem PySem.Spec PyProof.Rows L2 DP
variable {cA : Str → Addr}
/-! ### _law_split -/
theorem tk_coin {ρ : Env'} {i : Nat} (hs : ρ[i]? = some .strm) : Tk (e1 boolT (e2 eqT (eCallS i (m__law_draw cA) (aCons (eC (.int 2)) aNil)) (eC (.int 0))) ρ) 1 (fun _ => True) := by
  have h1 := tk_dr (cA := cA) (n := 0) (hi := 2) hs (tk_c (ρ := ρ) (k := 2) (hi := 2) (by decide) (by decide)) (by decide)
  refine (Tk.e1 (n := 1) (n2 := 0) (A := fun u => ∃ b, u = .bl b) (Tk.e2 (n1 := 1) (n2 := 0) (n3 := 0) (B := fun u => u = T.int 0) h1 (Tk.eq (a := T.int 0) rfl rfl) ?_) fun u ⟨b, e⟩ => by rw [e]; exact Tk.ret trivial)
  rintro _ _ ⟨d, rfl, _⟩ rfl
  exact Tk.eq (eqT_int d 0) ⟨_, rfl⟩
theorem tk_and {ρ : Env'} {f g : Env' → M Bool} {n : Nat} {P : Bool → Prop} (h : f ρ = .ret true) (h2 : Tk (g ρ) n P) : Tk (eAnd f g ρ) n P := by
  unfold eAnd
  rw [h]
  exact h2
theorem v_lL {f : Env' → M T} {ρ : Env'} {t : T} {k : List T → M (List T)} {us : List T} (h : f ρ = .ret t) (hk : k [t] = .ret us) : e1 k (aCons f aNil) ρ = .ret us := v_1 (v_cons h v_nil) hk
theorem fr_whole (w : Int) : fr (72 * w) = .tup [.int w, .int 1] := by
  have h := low_fr (a := w) (b := 1) (n := 72 * w) (by decide) (by omega)
  rw [← h]
  unfold low gI
  simp
noncomputable abbrev spA1 (cA : Str → Addr) : Env' → M Fl := (sApp 2 (eTup (aCons (eV 4) (aCons (eV 5) aNil))))
noncomputable abbrev spC (cA : Str → Addr) : Env' → M Bool := (eAnd (e1 boolT (e2 ltT (e2 addT (eV 3) (eC (.int 1))) (e1 lenT (eVS 1)))) (e1 boolT (e2 eqT (eCallS 0 (m__law_draw cA) (aCons (eC (.int 2)) aNil)) (eC (.int 0)))))
noncomputable abbrev spM (cA : Str → Addr) : Env' → M Fl := (sSet 6 (eCall (m__law_times cA) (aCons (eCall (m__law_plus cA) (aCons (eV 4) (aCons (e2 ixT (e1 seqT (e2 ixT (eVS 1) (e2 addT (eV 3) (eC (.int 1))))) (eC (.int 0))) aNil))) (aCons (eTup (aCons (eC (.int 1)) (aCons (eC (.int 2)) aNil))) aNil))))
noncomputable abbrev spA2 (cA : Str → Addr) : Env' → M Fl := (sApp 2 (eTup (aCons (eV 6) (aCons (eV 5) aNil))))
noncomputable abbrev spB (cA : Str → Addr) : Env' → M Fl := sSeq (spA1 cA) (sIf (spC cA) (sSeq (spM cA) (spA2 cA)) sNext)
noncomputable abbrev spBd : T → Env' → Option Env' := (bTup (bCons (bName 3) (bCons (bTup (bCons (bName 4) (bCons (bName 5) bNil))) bNil)))
abbrev spE (cs rs : List (Int × Int)) (a b d e : Sl) : Env' := [.strm, .val (.lst (cs.map cm)), .own (rs.map cm), a, b, d, e]
theorem sp_app {cs rs : List (Int × Int)} {a b d e : Sl} {f : Env' → M T} {c : Int × Int} (hf : f (spE cs rs a b d e) = .ret (cm c)) (hl : rs.length ≤ 1000) : sApp 2 f (spE cs rs a b d e) = .ret (.next (spE cs (rs ++ [c]) a b d e)) := by
  show M.bind (f _) _ = _
  rw [hf]
  show (if okLen (rs.map cm).length = true then _ else M.stuck) = _
  rw [if_pos (by unfold okLen; simp; omega)]
  show M.ret (Fl.next ((spE cs rs a b d e).set 2 (.own (rs.map cm ++ [cm c])))) = _
  rw [show rs.map cm ++ [cm c] = (rs ++ [c]).map cm by simp]
  rfl
theorem sp_turn {cs rs : List (Int × Int)} {j : Nat} {c : Int × Int} {e : Sl} (G : Good cs) (R : Rows cs rs j) (hc : cs[j]? = some c) :
    Tk (spB cA (spE cs rs (.val (.int j)) (.val (fr c.1)) (.val (fr c.2)) e)) 1 (fun fl => ∃ ρ', fl = .next ρ' ∧ ∃ rs' e', ρ' = spE cs rs' (.val (.int j)) (.val (fr c.1)) (.val (fr c.2)) e' ∧ Rows cs rs' (j + 1)) := by
  have hl := G.len
  have hj := (List.getElem?_eq_some_iff.mp hc).1
  obtain ⟨R1, l1⟩ := R.put G hc
  have h1 := sp_app (f := eTup (aCons (eV 4) (aCons (eV 5) aNil))) (c := c) (e := e) (cs := cs) (rs := rs) (a := .val (.int j)) (b := .val (fr c.1)) (d := .val (fr c.2)) (v_tup (v_cons (v_var rfl) (v_cons (v_var rfl) v_nil)) (by simp)) (by have := R.len; omega)
  refine (Tk.seq (n := 0) (n2 := 1) (I := fun ρ' => ρ' = spE cs (rs ++ [c]) (.val (.int j)) (.val (fr c.1)) (.val (fr c.2)) e) (Tk.eq h1 ⟨_, rfl, rfl⟩) ?_).le (by decide)
  rintro _ rfl
  have hlt : e1 boolT (e2 ltT (e2 addT (eV 3) (eC (.int 1))) (e1 lenT (eVS 1))) (spE cs (rs ++ [c]) (.val (.int j)) (.val (fr c.1)) (.val (fr c.2)) e) = .ret (decide ((j : Int) + 1 < cs.length)) := by
    refine v_bool (v_2 (v_2 (v_var rfl) v_c (addT_int _ _)) (v_1 (v_seq rfl rfl) rfl) ?_)
    rw [List.length_map]
    exact ltT_int _ _
  by_cases z : j + 1 < cs.length
  · rw [decide_eq_true (by omega)] at hlt
    obtain ⟨c', hc'⟩ : ∃ c', cs[j + 1]? = some c' := ⟨_, List.getElem?_eq_getElem z⟩
    refine (Tk.if_ (n := 1) (n2 := 0) (B := fun _ => True) ?_ (fun _ => ?_) fun _ => Tk.eq rfl ⟨_, rfl, _, _, rfl, R1⟩)
    · exact tk_and hlt (tk_coin rfl)
    · have hm := G.ok c (List.mem_of_getElem? hc)
      have hm' := G.ok c' (List.mem_of_getElem? hc')
      obtain ⟨⟨k1, a1⟩, a2, a3, a4, a5, a6⟩ := hm
      obtain ⟨⟨k2, b1⟩, b2, b3, b4, b5, b6⟩ := hm'
      have hx : e2 ixT (e1 seqT (e2 ixT (eVS 1) (e2 addT (eV 3) (eC (.int 1))))) (eC (.int 0)) (spE cs (rs ++ [c]) (.val (.int j)) (.val (fr c.1)) (.val (fr c.2)) e) = .ret (fr c'.1) :=
        v_2 (v_1 (v_2 (v_seq rfl rfl) (v_2 (v_var rfl) v_c (addT_int _ _)) (ix_at (k := j + 1) (y := cm c') (by rw [List.getElem?_map, hc']; rfl) (by omega))) rfl) v_c rfl
      have hp : eTup (aCons (eC (.int 1)) (aCons (eC (.int 2)) aNil)) (spE cs (rs ++ [c]) (.val (.int j)) (.val (fr c.1)) (.val (fr c.2)) e) = .ret (fr 36) := rfl
      have h2 : spM cA (spE cs (rs ++ [c]) (.val (.int j)) (.val (fr c.1)) (.val (fr c.2)) e) = .ret (.next (spE cs (rs ++ [c]) (.val (.int j)) (.val (fr c.1)) (.val (fr c.2)) (.val (fr (6 * (k1 + k2)))))) :=
        g_set (v_call (v_cons (v_call (v_cons (v_var rfl) (v_cons hx v_nil)) (law_plus_fr (by omega) (by omega))) (v_cons hp v_nil)) (law_times_fr (by omega) (by omega) (by omega)))
      have h3 := sp_app (f := eTup (aCons (eV 6) (aCons (eV 5) aNil))) (c := (6 * (k1 + k2), c.2)) (e := .val (fr (6 * (k1 + k2)))) (cs := cs) (rs := rs ++ [c]) (a := .val (.int j)) (b := .val (fr c.1)) (d := .val (fr c.2)) (v_tup (v_cons (v_var rfl) (v_cons (v_var rfl) v_nil)) (by simp)) (by omega)
      exact Tk.eq (g_seq h2 h3) ⟨_, rfl, _, _, rfl, R1.mid G l1 hc hc' (by omega)⟩
  · rw [decide_eq_false (by omega)] at hlt
    exact (Tk.eq (g_ifF (v_andF hlt) rfl) ⟨_, rfl, _, _, rfl, R1⟩ : Tk _ 0 _).le (by decide)
theorem tk_split {cs : List (Int × Int)} (G : Good cs) : Tk (m__law_split cA [.lst (cs.map cm)]) 7 (fun t => ∃ rs, t = .lst (rs.map cm) ∧ Mean cs rs) := by
  have hl := G.len
  refine Tk.fn ?_
  refine (Tk.seq (n := 0) (n2 := 7) (I := fun ρ' => ρ' = spE cs [] .any .any .any .any) (Tk.eq rfl ⟨_, rfl, rfl⟩) ?_).le (by decide)
  rintro _ rfl
  refine Tk.seq (n := 6) (n2 := 1) (I := fun ρ' => ∃ rs a b d e, ρ' = spE cs rs a b d e ∧ Rows cs rs cs.length) ?_ ?_
  · refine (Tk.sFor (bd := spBd) (G := spB cA) (n := 0) (c := 1) (L := 6) (A := fun ts => ts = enumL (cs.map cm)) (fun j ρ => ∃ rs a b d e, ρ = spE cs rs a b d e ∧ Rows cs rs j) (Tk.eq (a := enumL (cs.map cm)) (v_lL (k := enumB) (t := .lst (cs.map cm)) (v_var rfl) (enum_of (.inl rfl))) rfl) ?_ ⟨[], _, _, _, _, rfl, rows_nil⟩ ?_).imp ?_
    · rintro _ rfl
      rw [enum_len, List.length_map]
      exact hl
    · rintro _ rfl j t ρ ht ⟨rs, a, b, d, e, rfl, R⟩
      obtain ⟨y, hy, rfl⟩ := enum_get ht
      rw [List.getElem?_map] at hy
      cases hc : cs[j]? with
      | none => rw [hc] at hy; cases hy
      | some c =>
        rw [hc] at hy
        cases hy
        refine ⟨spE cs rs (.val (.int j)) (.val (fr c.1)) (.val (fr c.2)) e, rfl, ?_⟩
        refine (sp_turn (cA := cA) G R hc).imp ?_
        rintro fl ⟨ρ', h, rs', e', rfl, R'⟩
        exact ⟨_, h, rs', _, _, _, _, rfl, R'⟩
    · rintro fl ⟨ρ', ts, h, rfl, rs, a, b, d, e, rfl, R⟩
      rw [enum_len, List.length_map] at R
      exact ⟨_, h, rs, a, b, d, e, rfl, R⟩
  rintro _ ⟨rs, a, b, d, e, rfl, R⟩
  have hne : rs ≠ [] := R.ne (List.length_pos_iff.mpr G.ne)
  obtain ⟨l, hlast⟩ : ∃ l, rs.getLast? = some l := by
    cases h : rs.getLast? with
    | none => exact absurd (List.getLast?_eq_none_iff.mp h) hne
    | some l => exact ⟨l, rfl⟩
  have hrl := R.len
  have hlm := R.ok l (List.mem_of_getLast? hlast)
  obtain ⟨⟨_, _, lb1, lb2⟩, lb3⟩ := hlm
  have hix : ixT (true, rs.map cm) (.int (-1)) = .ret (cm l) := ix_last (by rw [List.getLast?_map, hlast]; rfl)
  have h0 : e2 ixT (e1 seqT (e2 ixT (eVS 2) (e1 negT (eC (.int 1))))) (eC (.int 0)) (spE cs rs a b d e) = .ret (fr l.1) := v_2 (v_1 (v_2 (v_own rfl) (v_1 v_c rfl) hix) rfl) v_c rfl
  have h1 : e2 ixT (e1 seqT (e2 ixT (eVS 2) (e1 negT (eC (.int 1))))) (eC (.int 1)) (spE cs rs a b d e) = .ret (fr l.2) := v_2 (v_1 (v_2 (v_own rfl) (v_1 v_c rfl) hix) rfl) v_c rfl
  refine Tk.sRet ?_
  have hd := tk_plus1 (hi := 3) ((tk_dr (cA := cA) (i := 0) (ρ := spE cs rs a b d e) (n := 0) (hi := 4) rfl (tk_c (k := 4) (hi := 4) (by decide) (by decide)) (by decide)))
  have ht : Tk ((eTup (aCons (eCall (m__law_plus cA) (aCons (e2 ixT (e1 seqT (e2 ixT (eVS 2) (e1 negT (eC (.int 1))))) (eC (.int 0))) (aCons (eTup (aCons (e2 addT (eC (.int 1)) (eCallS 0 (m__law_draw cA) (aCons (eC (.int 4)) aNil))) (aCons (eC (.int 1)) aNil))) aNil))) (aCons (e2 ixT (e1 seqT (e2 ixT (eVS 2) (e1 negT (eC (.int 1))))) (eC (.int 1))) aNil))) (spE cs rs a b d e)) 1 (fun t => ∃ w, (0 < w ∧ w ≤ 4) ∧ t = cm (l.1 + 72 * w, l.2)) := by
    refine Tk.bind (n := 1) (n2 := 0) (P := fun ts => ∃ w, (0 < w ∧ w ≤ 4) ∧ ts = [fr (l.1 + 72 * w), fr l.2]) ?_ ?_
    · refine (Tk.cons (n := 1) (n2 := 0) (P := fun t => ∃ w, (0 < w ∧ w ≤ 4) ∧ t = fr (l.1 + 72 * w)) (A := fun us => us = [fr l.2]) ?_ (Tk.eq (v_cons h1 v_nil) rfl)).imp ?_
      · refine (Tk.call (n := 1) (n2 := 0) (A := fun ts => ∃ w, (0 < w ∧ w ≤ 4) ∧ ts = [fr l.1, fr (72 * w)]) ?_ ?_)
        · refine ((Tk.cons (n := 0) (n2 := 1) (P := fun t => t = fr l.1) (A := fun us => ∃ w, (0 < w ∧ w ≤ 4) ∧ us = [fr (72 * w)]) (Tk.eq h0 rfl) ?_).le (by decide)).imp ?_
          · refine (Tk.cons (n := 1) (n2 := 0) (P := fun t => ∃ w, (0 < w ∧ w ≤ 4) ∧ t = fr (72 * w)) (A := fun us => us = []) ?_ (Tk.eq rfl rfl)).imp ?_
            · refine Tk.bind (n := 1) (n2 := 0) (P := fun ts => ∃ w : Int, (0 < w ∧ w ≤ 4) ∧ ts = [.int w, .int 1]) ?_ ?_
              · refine (Tk.cons (n := 1) (n2 := 0) (A := fun us => us = [.int 1]) hd (Tk.eq rfl rfl)).imp ?_
                rintro ts ⟨t, us, ⟨w, rfl, w0, w1⟩, rfl, rfl⟩
                exact ⟨w, ⟨by omega, by omega⟩, rfl⟩
              · rintro _ ⟨w, hw, rfl⟩
                exact Tk.eq rfl ⟨w, hw, (fr_whole w).symm⟩
            · rintro ts ⟨t, us, ⟨w, hw, rfl⟩, rfl, rfl⟩
              exact ⟨w, hw, rfl⟩
          · rintro ts ⟨t, us, rfl, ⟨w, hw, rfl⟩, rfl⟩
            exact ⟨w, hw, rfl⟩
        · rintro _ ⟨w, hw, rfl⟩
          exact Tk.eq (law_plus_fr (by omega) (by omega)) ⟨w, hw, rfl⟩
      · rintro ts ⟨t, us, ⟨w, hw, rfl⟩, rfl, rfl⟩
        exact ⟨w, hw, rfl⟩
    · rintro _ ⟨w, hw, rfl⟩
      exact Tk.eq rfl ⟨w, hw, rfl⟩
  refine (Tk.e1 (n := 1) (n2 := 0) (A := fun ts => ∃ w, (0 < w ∧ w ≤ 4) ∧ ts = (rs ++ [(l.1 + 72 * w, l.2)]).map cm) ?_ ?_)
  · refine (Tk.e2 (n1 := 0) (n2 := 1) (n3 := 0) (A := fun p => p = (true, rs.map cm)) (B := fun p => ∃ w, (0 < w ∧ w ≤ 4) ∧ p = (true, [cm (l.1 + 72 * w, l.2)])) (Tk.eq (v_own rfl) rfl) ?_ ?_).le (by decide)
    · refine Tk.e1 (n := 1) (n2 := 0) (A := fun ts => ∃ w, (0 < w ∧ w ≤ 4) ∧ ts = [cm (l.1 + 72 * w, l.2)]) ?_ ?_
      · refine Tk.bind (n := 1) (n2 := 0) (Tk.cons (n := 1) (n2 := 0) (A := fun us => us = []) ht (Tk.eq rfl rfl)) ?_
        rintro ts ⟨t, us, ⟨w, hw, rfl⟩, rfl, rfl⟩
        exact Tk.eq rfl ⟨w, hw, rfl⟩
      · rintro _ ⟨w, hw, rfl⟩
        exact Tk.eq rfl ⟨w, hw, rfl⟩
    · rintro _ _ rfl ⟨w, hw, rfl⟩
      refine Tk.eq (a := rs.map cm ++ [cm (l.1 + 72 * w, l.2)]) (if_pos ?_) ⟨w, hw, by simp⟩
      show okLen ((rs.map cm).length + 1) = true
      unfold okLen
      simp
      omega
  · rintro _ ⟨w, hw, rfl⟩
    exact Tk.eq rfl ⟨_, rfl, R.last G hlast hw.1 hw.2⟩
end Tw
end
section
set_option Elab.async false
set_option linter.all false
set_option maxRecDepth 100000
namespace Tw
open PySem PySem.Spec PyProof.Rows L2 DP
variable {cA : Str → Addr}
theorem zip_get {xs ys : List T} {j : Nat} {t : T} (h : (zipL xs ys)[j]? = some t) : ∃ x y, xs[j]? = some x ∧ ys[j]? = some y ∧ t = .tup [x, y] := by
  unfold zipL at h
  rw [List.getElem?_zipWith] at h
  cases e1 : xs[j]? with
  | none => rw [e1] at h; simp at h
  | some x =>
    cases e2 : ys[j]? with
    | none => rw [e1, e2] at h; simp at h
    | some y => rw [e1, e2] at h; simp at h; exact ⟨x, y, rfl, rfl, h.symm⟩
theorem filter_yes {α : Type} (l : List α) : (l.filter fun _ => true) = l := List.filter_eq_self.mpr fun _ _ => rfl
theorem neT_bl (a b : Bool) : DP.neT (.bl a) (.bl b) = .ret (.bl (!(a == b))) := by
  unfold DP.neT
  simp [dataT, SeqAt.shaped, PyData.canLay0, PyData.depth, PyData.eqv]
def Refl (cA : Str → Addr) (n : Nat) (t : T) : Prop := m__law_same cA n [t, t] = .ret (.bl true)
theorem all_true : ∀ ts : List T, blsT (ts.map fun _ => T.bl true) = some (ts.map fun _ => true)
  | [] => rfl
  | t :: ts => by
    show (blsT (ts.map fun _ => T.bl true)).map (true :: ·) = _
    rw [all_true ts]
    rfl
theorem zip_self {xs : List T} {t : T} (h : t ∈ zipL xs xs) : ∃ x ∈ xs, t = .tup [x, x] := by
  obtain ⟨j, hj, e⟩ := List.mem_iff_getElem.mp h
  obtain ⟨x, y, h1, h2, h3⟩ := zip_get (xs := xs) (ys := xs) (j := j) (t := t) (by rw [← e]; exact List.getElem?_eq_getElem hj)
  rw [h1] at h2
  cases h2
  exact ⟨x, List.mem_of_getElem? h1, h3⟩
theorem isi_any {n : String} {t : T} (h : ∃ b, isiT n t = .ret (.bl b)) : DP.neT (.bl true) (.bl true) = .ret (.bl false) := by rw [neT_bl]; rfl
theorem refl_seq {n : Nat} {t : T} {xs : List T} (ht : SeqOf t xs) (h : ∀ x ∈ xs, Refl cA n x) (hl : xs.length ≤ 1000000) : Refl cA (n + 1) t := by
  have lt : ∃ b, isiT "list" t = .ret (.bl b) := by
    rcases ht with rfl | rfl
    · exact ⟨true, by unfold isiT; simp only [tyName, k_ll]⟩
    · exact ⟨false, by unfold isiT; simp only [tyName, k_tl]⟩
  have tt : ∃ b, isiT "tuple" t = .ret (.bl b) := by
    rcases ht with rfl | rfl
    · exact ⟨false, by unfold isiT; simp only [tyName, k_lt]⟩
    · exact ⟨true, by unfold isiT; simp only [tyName, k_tt]⟩
  obtain ⟨b1, lt⟩ := lt
  obtain ⟨b2, tt⟩ := tt
  have sq : ∃ q, seqT t = .ret (q, xs) := by
    rcases ht with rfl | rfl
    · exact ⟨true, rfl⟩
    · exact ⟨false, rfl⟩
  obtain ⟨q, sq⟩ := sq
  have zp : zipA [t, t] = .ret (zipL xs xs) := by rcases ht with rfl | rfl <;> rfl
  have zl : (zipL xs xs).length ≤ 1000000 := by simp [zipL]; omega
  have ne1 := neT_bl b1 b1
  have ne2 := neT_bl b2 b2
  rw [show (!(b1 == b1)) = false by simp] at ne1
  rw [show (!(b2 == b2)) = false by simp] at ne2
  show fnM false 4 (G__law_same cA (m__law_same cA n)) [t, t] = _
  refine g_fn ?_
  show G__law_same cA (m__law_same cA n) [.val t, .val t, .any, .any] = _
  unfold G__law_same
  refine g_seqR (g_ifT (v_bool (v_1 (v_var rfl) (isi2_seq ht))) (g_seq (ρ' := [.val t, .val t, .any, .any]) (g_ifF (v_orF (v_bool (v_2 (v_1 (v_var rfl) lt) (v_1 (v_var rfl) lt) ne1)) (v_bool (v_2 (v_1 (v_var rfl) tt) (v_1 (v_var rfl) tt) ne2))) rfl) (g_ret ?_)))
  have le : DP.eqT (.int (xs.length : Nat)) (.int (xs.length : Nat)) = .ret (.bl true) := by rw [eqT_int, decide_eq_true rfl]
  refine v_andVT (v_2 (v_1 (v_seq rfl sq) rfl) (v_1 (v_seq rfl sq) rfl) le) ?_
  refine v_1 (a := (true, (zipL xs xs).map fun _ => T.bl true)) (v_1 (a := (zipL xs xs).map fun _ => T.bl true) ?_ rfl) ?_
  · rw [nLc_eq (ts := zipL xs xs) (fun _ => true) (fun _ => .bl true) (v_1 (v_cons (v_var rfl) (v_cons (v_var rfl) v_nil)) zp) rfl zl ?_]
    · rw [filter_yes]
    · intro u hu
      obtain ⟨x, hx, rfl⟩ := zip_self hu
      exact ⟨[.val t, .val t, .val x, .val x], rfl, rfl, fun _ => v_call (v_cons (v_var rfl) (v_cons (v_var rfl) v_nil)) (h x hx)⟩
  · show (match blsT ((zipL xs xs).map fun _ => T.bl true) with | some bs => (if true = true then M.ret (T.bl (bs.all id)) else .stuck) | none => .stuck) = _
    rw [all_true]
    show M.ret (T.bl (List.all _ id)) = _
    congr 2
    simp
theorem isd_flat {t : T} (h : t = .non ∨ (∃ b, t = .bl b) ∨ (∃ i, t = .int i) ∨ (∃ x, t = .str x)) : isiT "dict" t = .ret (.bl false) := by
  unfold isiT
  rcases h with rfl | ⟨b, rfl⟩ | ⟨i, rfl⟩ | ⟨x, rfl⟩
  · simp only [tyName, k_nd]
  · simp only [tyName, k_bd]
  · simp only [tyName, k_id]
  · simp only [tyName, k_sd]
theorem isi3_flat {t : T} (h : t = .non ∨ (∃ b, t = .bl b) ∨ (∃ i, t = .int i) ∨ (∃ x, t = .str x)) : isiT3 "list" "tuple" "dict" t = .ret (.bl false) := by
  unfold isiT3
  rcases h with rfl | ⟨b, rfl⟩ | ⟨i, rfl⟩ | ⟨x, rfl⟩
  · simp only [tyName, k_nl, k_nt, k_nd, Bool.or_false]
  · simp only [tyName, k_bl, k_bt, k_bd, Bool.or_false]
  · simp only [tyName, k_il, k_it, k_id, Bool.or_false]
  · simp only [tyName, k_sl, k_st, k_sd, Bool.or_false]
theorem refl_plain {n : Nat} {t : T} (h : t = .non ∨ (∃ b, t = .bl b) ∨ (∃ i, t = .int i) ∨ (∃ x, t = .str x)) (hb : isiT "bool" t = .ret (.bl false)) (he : DP.eqT t t = .ret (.bl true)) : Refl cA (n + 1) t := by
  have h2 : t = .non ∨ (∃ b, t = .bl b) ∨ (∃ i, t = .int i) ∨ (∃ x, t = .str x) ∨ ∃ kvs, t = .dct kvs := by
    rcases h with h | h | h | h
    · exact .inl h
    · exact .inr (.inl h)
    · exact .inr (.inr (.inl h))
    · exact .inr (.inr (.inr (.inl h)))
  show fnM false 4 (G__law_same cA (m__law_same cA n)) [t, t] = _
  refine g_fn ?_
  show G__law_same cA (m__law_same cA n) [.val t, .val t, .any, .any] = _
  unfold G__law_same
  exact g_seq (ρ' := [.val t, .val t, .any, .any]) (g_ifF (v_bool (v_1 (v_var rfl) (isi2_flat h2))) rfl) (g_seq (ρ' := [.val t, .val t, .any, .any]) (g_ifF (v_bool (v_1 (v_var rfl) (isd_flat h))) rfl) (g_seq (ρ' := [.val t, .val t, .any, .any]) (g_ifF (v_orF (v_bool (v_1 (v_var rfl) hb)) (v_bool (v_1 (v_var rfl) hb))) rfl) (g_ret (v_andVT (v_notV (v_1 (v_var rfl) (isi3_flat h))) (v_2 (v_var rfl) (v_var rfl) he)))))
theorem refl_int {n : Nat} (i : Int) : Refl cA (n + 1) (.int i) := refl_plain (.inr (.inr (.inl ⟨i, rfl⟩))) (isb_int i) (by rw [eqT_int, decide_eq_true rfl])

theorem refl_fr {n : Nat} (m : Int) : Refl cA (n + 2) (fr m) := by
  obtain ⟨a, b, e, _⟩ := fr_ex m
  refine refl_seq (.inr e) (fun x hx => ?_) (by simp)
  simp only [List.mem_cons, List.not_mem_nil, or_false] at hx
  rcases hx with rfl | rfl
  · exact refl_int _
  · exact refl_int _
theorem same_two (n m : Int) : Refl cA 40 (.lst [fr n, fr m]) := by
  refine refl_seq (n := 39) (.inl rfl) (fun x hx => ?_) (by simp)
  simp only [List.mem_cons, List.not_mem_nil, or_false] at hx
  rcases hx with rfl | rfl
  · exact refl_fr _
  · exact refl_fr _
theorem refl_word : Refl cA 39 (.str "comers") := by unfold Refl; kernel_rfl
theorem same_comers (i : Int) : Refl cA 40 (.tup [.str "comers", .int i]) := by
  refine refl_seq (n := 39) (.inr rfl) (fun x hx => ?_) (by simp)
  simp only [List.mem_cons, List.not_mem_nil, or_false] at hx
  rcases hx with rfl | rfl
  · exact refl_word
  · exact refl_int _
/-! ### what is asked of bad things -/
theorem seq_next {G1 G2 : Env' → M Fl} {ρ ρ' : Env'} {r : M Fl} (h : G1 ρ = .ret (.next ρ')) (h2 : G2 ρ' = r) : sSeq G1 G2 ρ = r := by unfold sSeq; rw [h]; exact h2
theorem ask_comers {t u : T} {i : Int} (h : m_first_bad_comer cA [t] = .ret (.int i)) : m_rate_at cA [t, u] = .exc "BadComers" (.int i) ∧ m_come_by cA [t, u] = .exc "BadComers" (.int i) :=
  ⟨exc_fn (exc_seq (exc_set (exc_call (v_cons (v_var rfl) v_nil) (told_bad h)))), exc_fn (exc_seq (exc_set (exc_call (v_cons (v_var rfl) v_nil) (told_bad h))))⟩
theorem ask_moment {t u : T} {L : List T} (h : m_told_comers cA [t] = .ret (.lst L)) (hu : m_is_moment cA [u] = .ret (.bl false)) : m_rate_at cA [t, u] = .exc "BadMoment" u ∧ m_come_by cA [t, u] = .exc "BadMoment" u :=
  ⟨exc_fn (seq_next (g_set (v_call (v_cons (v_var rfl) v_nil) h)) (exc_seq (exc_set (exc_call (v_cons (v_var rfl) v_nil) (told_moment_bad hu))))),
   exc_fn (seq_next (g_set (v_call (v_cons (v_var rfl) v_nil) h)) (exc_seq (exc_set (exc_call (v_cons (v_var rfl) v_nil) (told_moment_bad hu)))))⟩
abbrev ws2 : List (Str × Str) := [("BadComers", "comers"), ("BadMoment", "moment")]
theorem tried_exc {f : Env' → M T} {ρ : Env'} {c w : Str} {x : T} {ws : List (Str × Str)} {told : Str} (h : f ρ = .exc c x) (hw : ws.lookup c = some w) : eTried told ws f ρ = .ret (.tup [.str w, x]) := by
  show triedM told ws (f ρ) = _
  rw [h]
  show (match ws.lookup c with | some w => M.ret (T.tup [.str w, x]) | none => .stuck) = _
  rw [hw]
noncomputable abbrev asksI (cA : Str → Addr) : Env' → M (List T) := (e1 itemsT (eTup (aCons (eC (.fn (cA "rate_at"))) (aCons (eC (.fn (cA "come_by"))) aNil))))
noncomputable abbrev askB (cA : Str → Addr) (fs : Env' → M (List T)) (due : Env' → M T) : Env' → M Fl := (sIf (eNot (e1 boolT (eCall (m__law_same cA 40) (aCons (eTried "told" [("BadComers", "comers"), ("BadMoment", "moment")] (eCallV 14 (cA "rate_at") (m_rate_at cA) (cA "come_by") (m_come_by cA) fs)) (aCons due aNil))))) (sRet (eC (.bl false))) sNext)
theorem callV_both {ρ : Env'} {fs : Env' → M (List T)} {ts : List T} {r : M T} {f1 f2 a : Addr} {m1 m2 : List T → M T} (ha : ρ[14]? = some (.val (.fn a))) (h12 : a = f1 ∨ a = f2) (hf : fs ρ = .ret ts) (h1 : m1 ts = r) (h2 : m2 ts = r) : eCallV 14 f1 m1 f2 m2 fs ρ = r := by
  unfold eCallV
  rw [ha]
  dsimp only
  rw [hf]
  by_cases e1 : a = f1
  · rw [if_pos e1]
    exact h1
  · rw [if_neg e1, if_pos (h12.resolve_left e1)]
    exact h2
theorem ask_turn {ρ : Env'} {fs : Env' → M (List T)} {due : Env' → M T} {ts : List T} {c w : Str} {x : T} {a : Addr} (ha : ρ[14]? = some (.val (.fn a))) (h12 : a = cA "rate_at" ∨ a = cA "come_by") (hf : fs ρ = .ret ts) (h1 : m_rate_at cA ts = .exc c x ∧ m_come_by cA ts = .exc c x)
    (hw : ws2.lookup c = some w) (hd : due ρ = .ret (.tup [.str w, x])) (hr : Refl cA 40 (.tup [.str w, x])) : askB cA fs due ρ = .ret (.next ρ) :=
  g_ifF (v_not (cb := true) (v_bool (v_call (v_cons (tried_exc (callV_both ha h12 hf h1.1 h1.2) hw) (v_cons hd v_nil)) hr))) rfl
theorem asks_ok {ρ : Env'} {fs : Env' → M (List T)} {due : Env' → M T} {ts : List T} {c w : Str} {x : T} (hl : 14 < ρ.length) (hf : ∀ y, fs (ρ.set 14 y) = .ret ts) (h1 : m_rate_at cA ts = .exc c x ∧ m_come_by cA ts = .exc c x)
    (hw : ws2.lookup c = some w) (hd : ∀ y, due (ρ.set 14 y) = .ret (.tup [.str w, x])) (hr : Refl cA 40 (.tup [.str w, x])) : sFor (asksI cA) (bName 14) (askB cA fs due) ρ = .ret (.next (ρ.set 14 (.val (.fn (cA "come_by"))))) := by
  have hi : asksI cA ρ = .ret [.fn (cA "rate_at"), .fn (cA "come_by")] := rfl
  refine g_for hi ?_
  have hs : ∀ y, (ρ.set 14 y)[14]? = some y := fun y => by rw [List.getElem?_set_self hl]
  have t1 : askB cA fs due (ρ.set 14 (.val (.fn (cA "rate_at")))) = .ret (.next (ρ.set 14 (.val (.fn (cA "rate_at"))))) := ask_turn (hs _) (.inl rfl) (hf _) h1 hw (hd _) hr
  have t2 : askB cA fs due (ρ.set 14 (.val (.fn (cA "come_by")))) = .ret (.next (ρ.set 14 (.val (.fn (cA "come_by"))))) := ask_turn (hs _) (.inr rfl) (hf _) h1 hw (hd _) hr
  refine for_next (ρ2 := ρ.set 14 (.val (.fn (cA "rate_at")))) rfl t1 (for_next (ρ1 := ρ.set 14 (.val (.fn (cA "come_by")))) ?_ t2 rfl)
  show some ((ρ.set 14 _).set 14 _) = _
  rw [List.set_set]
/-! ### odd moments -/
abbrev oddM : List T := [.non, .int 5, .tup [.int 1], .tup [.int 1, .int 0], .tup [.int (-1), .int 1], .tup [.int 1, .int 1, .int 1], .bl true, .str "1", .tup [.bl true, .int 1], .tup [.int 1, .bl true], .dct [], .lst [], .tup [.tup [.int 0, .int 1], .int 1]]
theorem oddM_ok : ∀ x ∈ oddM, m_is_moment cA [x] = .ret (.bl false) ∧ Refl cA 40 (.tup [.str "moment", x]) := by
  intro x hx
  unfold Refl
  simp only [oddM, List.mem_cons, List.not_mem_nil, or_false] at hx
  rcases hx with rfl | rfl | rfl | rfl | rfl | rfl | rfl | rfl | rfl | rfl | rfl | rfl | rfl
  all_goals exact ⟨by kernel_rfl, by kernel_rfl⟩
/-! ### odd things -/
abbrev oddT (cA : Str → Addr) : List T := [.non, .int 5, .str "ab", .dct [], .bl true, .lst [], .tup [], .fn (cA "_law_draw")]
theorem oddT_ok : ∀ x ∈ oddT cA, m_first_bad_comer cA [x] = .ret (.int 0) := by
  intro x hx
  simp only [oddT, List.mem_cons, List.not_mem_nil, or_false] at hx
  rcases hx with rfl | rfl | rfl | rfl | rfl | rfl | rfl | rfl
  · exact fb_flat (.inl rfl)
  · exact fb_flat (.inr (.inr (.inl ⟨_, rfl⟩)))
  · exact fb_flat (.inr (.inr (.inr (.inl ⟨_, rfl⟩))))
  · exact fb_flat (.inr (.inr (.inr (.inr (.inl ⟨_, rfl⟩)))))
  · exact fb_flat (.inr (.inl ⟨_, rfl⟩))
  · exact fb_empty (.inl rfl)
  · exact fb_empty (.inr rfl)
  · exact fb_flat (.inr (.inr (.inr (.inr (.inr ⟨_, rfl⟩)))))
end Tw
end
section
set_option Elab.async false
set_option linter.all false
set_option maxRecDepth 100000
namespace Tw
open PySem PySem.Spec PyProof.Rows L2 DP
variable {cA : Str → Addr}
/-! ### odd comers -/
abbrev p01 : T := .tup [.int 0, .int 1]
abbrev p11 : T := .tup [.int 1, .int 1]
/-- such that are bad wherever they stand -/
abbrev oddC : List T := [.non, .int 5, .str "ab", .tup [], .tup [p01], .tup [p01, p11, p11], .dct [], .bl true, p01, .tup [p01, .int 1], .tup [p01, .tup [.int (-1), .int 2]],
  .tup [p01, .tup [.int 1, .int 0]], .tup [p01, .tup [.bl true, .int 1]], .tup [p01, .tup [.str "1", .int 1]], .tup [p01, .tup [.int 1, .int 1, .int 1]], .tup [.tup [.int 0, .int 0], p11],
  .tup [.tup [.int (-1), .int 1], p11], .tup [.tup [.int 0, .bl true], p11], .tup [.lst [.int 0, .int 1], .non]]
theorem oddC_ok : ∀ x ∈ oddC, ∀ (t : T) (j : Nat), fbB cA (fbE t j x) = .ret (.ret (.int j)) := by
  intro x hx t j
  refine fb_bad ?_
  simp only [oddC, List.mem_cons, List.not_mem_nil, or_false] at hx
  rcases hx with rfl | rfl | rfl | rfl | rfl | rfl | rfl | rfl | rfl | rfl | rfl | rfl | rfl | rfl | rfl | rfl | rfl | rfl | rfl
  all_goals kernel_rfl
abbrev odd0 : List T := [.tup [.tup [.int 1, .int 7], p11], .tup [.tup [.int 2, .int 1], p11]]
theorem odd0_ok : ∀ x ∈ odd0, ∀ t : T, fbB cA (fbE t 0 x) = .ret (.ret (.int (0 : Nat))) := by
  intro x hx t
  simp only [odd0, List.mem_cons, List.not_mem_nil, or_false] at hx
  rcases hx with rfl | rfl
  all_goals kernel_rfl
theorem odds_zero (cs : List (Int × Int)) : m__law_odds cA [.lst (cs.map cm), .int (0 : Nat)] = .ret (.lst (oddC ++ odd0)) := by kernel_rfl
abbrev odd5 : T := .tup [.tup [.int 0, .int 5], p11]
abbrev odd77 (b : Int) : T := .tup [fr b, .tup [.int 77, .int 1]]
theorem odd5_cm : Cm odd5 (0, 72) := ⟨_, _, .inr rfl, ⟨0, 5, .inr rfl, by decide, by decide, by decide, by decide⟩, ⟨1, 1, .inr rfl, by decide, by decide, by decide, by decide⟩, by decide, by decide⟩
theorem odd77_cm {b : Int} (h : 0 ≤ b ∧ b ≤ 30000) : Cm (odd77 b) (b, 5544) := ⟨_, _, .inr rfl, fr_Fr (by show b.natAbs ≤ _; omega), ⟨77, 1, .inr rfl, by decide, by decide, by show (77 : Int) * 72 = 5544 * 1; decide, by decide⟩, h.1, by show (0 : Int) ≤ 5544; decide⟩
theorem odds_pos {cs : List (Int × Int)} {k : Nat} {c : Int × Int} (h : cs[k]? = some c) : m__law_odds cA [.lst (cs.map cm), .int ((k + 1 : Nat) : Int)] = .ret (.lst (oddC ++ [odd5] ++ [odd77 c.1])) := by
  have gt : ∀ x : Sl, (e1 boolT (e2 gtT (eV 1) (eC (.int 0)))) [.val (.lst (cs.map cm)), .val (.int ((k + 1 : Nat) : Int)), x] = .ret true := fun x => by
    refine v_bool ((v_2 (v_var rfl) v_c (gtT_int _ _)).trans ?_)
    rw [decide_eq_true (by omega)]
  have hx : ∀ x : Sl, e2 ixT (e1 seqT (e2 ixT (eVS 0) (e2 subT (eV 1) (eC (.int 1))))) (eC (.int 0)) [.val (.lst (cs.map cm)), .val (.int ((k + 1 : Nat) : Int)), x] = .ret (fr c.1) := fun x =>
    v_2 (v_1 (v_2 (v_seq rfl rfl) (v_2 (v_var rfl) v_c (subT_int _ _)) (ix_at (k := k) (y := cm c) (by rw [List.getElem?_map, h]; rfl) (by omega))) rfl) v_c rfl
  refine g_fn (g_seq (ρ' := [.val (.lst (cs.map cm)), .val (.int ((k + 1 : Nat) : Int)), .own (oddC.take 11)]) (by kernel_rfl) ?_)
  refine g_seq (ρ' := [.val (.lst (cs.map cm)), .val (.int ((k + 1 : Nat) : Int)), .own (oddC.take 16)]) (by kernel_rfl) ?_
  refine g_seq (ρ' := [.val (.lst (cs.map cm)), .val (.int ((k + 1 : Nat) : Int)), .own oddC]) (by kernel_rfl) ?_
  refine g_seq (ρ' := [.val (.lst (cs.map cm)), .val (.int ((k + 1 : Nat) : Int)), .own (oddC ++ [odd5])]) ?_ ?_
  · have e : (e1 seqT (eIf (e1 boolT (e2 gtT (eV 1) (eC (.int 0)))) (e1 lstT (nLst (aCons (eTup (aCons (eTup (aCons (eC (.int 0)) (aCons (eC (.int 5)) aNil))) (aCons (eTup (aCons (eC (.int 1)) (aCons (eC (.int 1)) aNil))) aNil))) aNil))) (e1 lstT (nLst (aCons (eTup (aCons (eTup (aCons (eC (.int 1)) (aCons (eC (.int 7)) aNil))) (aCons (eTup (aCons (eC (.int 1)) (aCons (eC (.int 1)) aNil))) aNil))) (aCons (eTup (aCons (eTup (aCons (eC (.int 2)) (aCons (eC (.int 1)) aNil))) (aCons (eTup (aCons (eC (.int 1)) (aCons (eC (.int 1)) aNil))) aNil))) aNil)))))) [.val (.lst (cs.map cm)), .val (.int ((k + 1 : Nat) : Int)), .own oddC] = .ret (true, [odd5]) :=
      v_1 (v_ifT (gt _) (t := .lst [odd5]) rfl) rfl
    show M.bind (e1 seqT _ _) _ = _
    rw [e]
    rfl
  · show sRet _ [.val (.lst (cs.map cm)), .val (.int ((k + 1 : Nat) : Int)), .val (.lst (oddC ++ [odd5]))] = _
    refine g_ret (v_ifT (gt _) (v_lstT (v_cat (v_seq rfl rfl) (v_1 (v_lst (v_cons (v_tup (ts := [fr c.1, .tup [.int 77, .int 1]]) (v_cons (hx _) (v_cons rfl v_nil)) (by simp)) v_nil) (by simp)) rfl) (by simp))))
/-! ### lists with an odd thing -/
theorem Asc.take {cs : List (Int × Int)} (A : Asc cs) (k : Nat) : Asc (cs.take k) where
  first := fun c h => by
    rw [List.getElem?_take] at h
    split at h
    · exact A.first c h
    · cases h
  step := fun j c c' h h' => by
    rw [List.getElem?_take] at h h'
    split at h
    · split at h'
      · exact A.step j c c' h h'
      · cases h'
    · cases h
theorem paired_cm : ∀ {cs : List (Int × Int)}, (∀ c ∈ cs, OkC c) → Paired Cm (cs.map cm) cs
  | [], _ => .nil
  | c :: cs, h => .cons (by
      have hc := h c List.mem_cons_self
      exact ⟨_, _, .inr rfl, frB hc.b1.1 hc.b1.2, frB hc.b2.1 (by have := hc.b2.2; omega), hc.b1.1, hc.b2.1⟩) (paired_cm fun c' h' => h c' (List.mem_cons_of_mem _ h'))
theorem bad_any {cs : List (Int × Int)} {k : Nat} {t y : T} {rest : List T} (hc : ∀ c ∈ cs, OkC c) (A : Asc cs) (hk : k ≤ cs.length) (ht : SeqOf t ((cs.take k).map cm ++ y :: rest)) (hb : fbB cA (fbE t k y) = .ret (.ret (.int k))) : m_first_bad_comer cA [t] = .ret (.int k) := by
  have hl : ((cs.take k).map cm).length = k := by rw [List.length_map, List.length_take]; omega
  have h := fb_at (cA := cA) (y := y) (rest := rest) ht (paired_cm fun c h => hc c (List.mem_of_mem_take h)) (A.take k) (by rw [hl]; exact hb)
  rw [hl] at h
  exact h
theorem bad_next {cs : List (Int × Int)} {k : Nat} {c d : Int × Int} {t y : T} {rest : List T} (hc : ∀ c ∈ cs, OkC c) (A : Asc cs) (h : cs[k]? = some c) (hy : Cm y d) (hd : ¬ c.1 < d.1) (ht : SeqOf t ((cs.take (k + 1)).map cm ++ y :: rest)) : m_first_bad_comer cA [t] = .ret (.int ((k + 1 : Nat) : Int)) := by
  have hk := (List.getElem?_eq_some_iff.mp h).1
  refine bad_any hc A (by omega) ht ?_
  have hcm : Cm (cm c) c := by
    have hc := hc c (List.mem_of_getElem? h)
    exact ⟨_, _, .inr rfl, frB hc.b1.1 hc.b1.2, frB hc.b2.1 (by have := hc.b2.2; omega), hc.b1.1, hc.b2.1⟩
  refine fb_bad1 (ys := (cs.take (k + 1)).map cm ++ y :: rest) (y' := cm c) ht ?_ hcm hy hd
  rw [List.getElem?_append_left (by simp; omega), List.getElem?_map, List.getElem?_take, if_pos (by omega), h]
  rfl
/-- each of the odd things of a place, put there -/
theorem odds_bad {cs : List (Int × Int)} {k : Nat} (hc : ∀ c ∈ cs, OkC c) (A : Asc cs) (hk : k ≤ cs.length) : ∃ os, m__law_odds cA [.lst (cs.map cm), .int (k : Nat)] = .ret (.lst os) ∧ os.length ≤ 30 ∧
    ∀ y ∈ os, ∀ (t : T) (rest : List T), SeqOf t ((cs.take k).map cm ++ y :: rest) → m_first_bad_comer cA [t] = .ret (.int (k : Nat)) := by
  cases k with
  | zero =>
    refine ⟨_, odds_zero cs, by decide, fun y hy t rest ht => bad_any hc A hk ht ?_⟩
    rcases List.mem_append.mp hy with hy | hy
    · exact oddC_ok y hy t 0
    · exact odd0_ok y hy t
  | succ k =>
    obtain ⟨c, h⟩ : ∃ c, cs[k]? = some c := ⟨_, List.getElem?_eq_getElem (by omega)⟩
    have hcc := hc c (List.mem_of_getElem? h)
    refine ⟨_, odds_pos h, by simp, fun y hy t rest ht => ?_⟩
    rcases List.mem_append.mp hy with hy | hy
    · rcases List.mem_append.mp hy with hy | hy
      · exact bad_any hc A hk ht (oddC_ok y hy t _)
      · rw [List.mem_singleton.mp hy] at ht
        exact bad_next hc A h odd5_cm (by show ¬ c.1 < 0; have := hcc.b1.1; omega) ht
    · rw [List.mem_singleton.mp hy] at ht
      exact bad_next hc A h (odd77_cm hcc.b1) (by show ¬ c.1 < c.1; omega) ht
end Tw
end
section
set_option Elab.async false
set_option linter.all false
set_option maxRecDepth 100000
namespace Tw
open PySem PySem.Spec PyProof.Rows L2 DP
variable {cA : Str → Addr}
/-! ### small things: how they are shown -/
inductive Nice : Nat → T → Prop
  | int {n : Nat} {i : Int} : i.natAbs < 10 ^ 12 → Nice n (.int i)
  | seq {n : Nat} {t : T} {xs : List T} : SeqOf t xs → xs.length ≤ 12 → (∀ x ∈ xs, Nice n x) → Nice (n + 1) t
structure DOk (n : Nat) (d : PyData) : Prop where
  lay : PyData.canLay0 d = true
  dep : d.depth ≤ n
  shw : d.showable = true
  len : d.shown.length ≤ 20 * 20 ^ n
  eqv : PyData.eqv d d = true
  txt : PyData.strOk d.shown = true
theorem int_strOk (i : Int) : PyData.strOk ((toString i : String) : Str) = true := by
  unfold PyData.strOk
  rw [Array.all_eq_true_iff_forall_mem]
  intro k hk
  by_cases h : k < 0x110000
  · exact decide_eq_true h
  · exact absurd (Array.mem_toList_iff.mpr hk) (int_text_free' k ⟨by omega, .inr (by omega)⟩ i)
theorem int_data {n : Nat} {i : Int} (h : i.natAbs < 10 ^ 12) : ∃ d, dataT (.int i) = some d ∧ DOk n d := by
  have p1 : 1 ≤ 20 ^ n := Nat.one_le_pow _ _ (by decide)
  refine ⟨.int i, rfl, by simp [PyData.canLay0], by simp [PyData.depth], ?_, ?_, by simp [PyData.eqv], ?_⟩
  · have h2 : i.natAbs < 2 ^ 1920 := Nat.lt_of_lt_of_le h (by decide +kernel)
    simp only [PyData.showable]
    refine decide_eq_true ?_
    by_cases z : i.natAbs = 0
    · rw [z]; decide
    · exact (Nat.log2_lt z).mpr h2
  · rw [PyData.shown_int, PySem.ofString_length]
    have := PySem.int_text_length_le10 (a := i) (k := 12) (by decide) h
    omega
  · rw [PyData.shown_int]
    exact int_strOk i
theorem datas_of {n : Nat} : ∀ {xs : List T}, (∀ x ∈ xs, ∃ d, dataT x = some d ∧ DOk n d) → ∃ ds, dataTs xs = some ds ∧ ds.length = xs.length ∧ ∀ d ∈ ds, DOk n d
  | [], _ => ⟨[], rfl, rfl, by simp⟩
  | x :: xs, h => by
    obtain ⟨d, e, hd⟩ := h x List.mem_cons_self
    obtain ⟨ds, e2, l, hds⟩ := datas_of fun x hx => h x (List.mem_cons_of_mem _ hx)
    refine ⟨d :: ds, ?_, by simp [l], fun d' h' => ?_⟩
    · show ((dataT x).bind fun d => (dataTs xs).map fun ds => d :: ds) = _
      rw [e, e2]
      rfl
    · rcases List.mem_cons.mp h' with rfl | h'
      · exact hd
      · exact hds d' h'
theorem join_len {B : Nat} : ∀ {ts : List Str}, (∀ t ∈ ts, t.length ≤ B) → (Str.join ", " ts).length ≤ ts.length * (B + 2)
  | [], _ => by show (0 : Nat) ≤ _; omega
  | [x], h => by
    have := h x List.mem_cons_self
    show x.length ≤ _
    simp
    omega
  | x :: y :: r, h => by
    have ih := join_len (ts := y :: r) fun t ht => h t (List.mem_cons_of_mem _ ht)
    have hx := h x List.mem_cons_self
    show (x ++ ", " ++ Str.join ", " (y :: r)).length ≤ _
    rw [Str.length_append, Str.length_append]
    have e : (", " : Str).length = 2 := by decide +kernel
    rw [e]
    have e2 : (x :: y :: r).length = (y :: r).length + 1 := rfl
    rw [e2, Nat.add_mul]
    omega
theorem ok_app {a b : Str} (ha : PyData.strOk a = true) (hb : PyData.strOk b = true) : PyData.strOk (a ++ b) = true := by
  unfold PyData.strOk at *
  rw [Str.cps_append, Array.all_append, ha, hb]
  rfl
theorem join_ok : ∀ {ts : List Str}, (∀ t ∈ ts, PyData.strOk t = true) → PyData.strOk (Str.join ", " ts) = true
  | [], _ => by decide +kernel
  | [x], h => h x List.mem_cons_self
  | x :: y :: r, h => by
    show PyData.strOk (x ++ ", " ++ Str.join ", " (y :: r)) = true
    exact ok_app (ok_app (h x List.mem_cons_self) (by decide +kernel)) (join_ok fun t ht => h t (List.mem_cons_of_mem _ ht))
theorem all_ok {n : Nat} : ∀ {ds : List PyData}, (∀ d ∈ ds, DOk n d) → PyData.canLayAll0 ds = true ∧ PyData.depthAll ds ≤ n ∧ PyData.showableAll ds = true ∧ (∀ t ∈ PyData.shownAll ds, t.length ≤ 20 * 20 ^ n) ∧ PyData.eqvAll ds ds = true ∧ ∀ t ∈ PyData.shownAll ds, PyData.strOk t = true
  | [], _ => ⟨by simp [PyData.canLayAll0], by simp [PyData.depthAll], by simp [PyData.showableAll], by simp [PyData.shownAll], by simp [PyData.eqvAll], by simp [PyData.shownAll]⟩
  | d :: ds, h => by
    obtain ⟨a, b, c, e, f, o⟩ := all_ok fun d hd => h d (List.mem_cons_of_mem _ hd)
    have z := h d List.mem_cons_self
    refine ⟨?_, ?_, ?_, ?_, ?_, ?_⟩
    · simp only [PyData.canLayAll0, z.lay, a, Bool.and_self]
    · simp only [PyData.depthAll]; exact Nat.max_le.mpr ⟨z.dep, b⟩
    · simp only [PyData.showableAll, z.shw, c, Bool.and_self]
    · intro t ht
      rw [PyData.shownAll_cons] at ht
      rcases List.mem_cons.mp ht with rfl | ht
      · exact z.len
      · exact e t ht
    · simp only [PyData.eqvAll, z.eqv, f, Bool.and_self]
    · intro t ht
      rw [PyData.shownAll_cons] at ht
      rcases List.mem_cons.mp ht with rfl | ht
      · exact z.txt
      · exact o t ht
theorem nice_data {n : Nat} {t : T} (h : Nice n t) : ∃ d, dataT t = some d ∧ DOk n d := by
  induction h with
  | int h => exact int_data h
  | @seq n t xs ht hl _ ih =>
    obtain ⟨ds, e, l, hd⟩ := datas_of ih
    obtain ⟨a, b, c, f, g, o⟩ := all_ok hd
    have jo := join_ok o
    have j := join_len f
    rw [PyData.shownAll_length, l] at j
    have j2 : xs.length * (20 * 20 ^ n + 2) ≤ 12 * (20 * 20 ^ n + 2) := Nat.mul_le_mul_right _ hl
    have p1 : 1 ≤ 20 ^ n := Nat.one_le_pow _ _ (by decide)
    have p2 : 20 ^ (n + 1) = 20 ^ n * 20 := Nat.pow_succ ..
    rcases ht with rfl | rfl
    · refine ⟨.list ds, ?_, ?_, ?_, ?_, ?_, ?_, ?_⟩
      · show (dataTs xs).map PyData.list = _
        rw [e]; rfl
      · simp only [PyData.canLay0, a]
      · simp only [PyData.depth]; omega
      · simp only [PyData.showable, c]
      · rw [PyData.shown_list, Str.length_append, Str.length_append]
        have e1 : ("[" : Str).length = 1 := by decide +kernel
        have e2 : ("]" : Str).length = 1 := by decide +kernel
        rw [e1, e2]
        omega
      · simp only [PyData.eqv, g]
      · rw [PyData.shown_list]
        exact ok_app (ok_app (by decide +kernel) jo) (by decide +kernel)
    · refine ⟨.tuple ds, ?_, ?_, ?_, ?_, ?_, ?_, ?_⟩
      · show (dataTs xs).map PyData.tuple = _
        rw [e]; rfl
      · simp only [PyData.canLay0, a]
      · simp only [PyData.depth]; omega
      · simp only [PyData.showable, c]
      · rw [PyData.shown_tuple, Str.length_append, Str.length_append]
        have e1 : ("(" : Str).length = 1 := by decide +kernel
        have e2 : ((if ds.length == 1 then ",)" else ")" : String) : Str).length ≤ 2 := by
          by_cases z : ds.length == 1
          · rw [if_pos z]; decide +kernel
          · rw [if_neg z]; decide +kernel
        rw [e1]
        omega
      · simp only [PyData.eqv, g]
      · rw [PyData.shown_tuple]
        refine ok_app (ok_app (by decide +kernel) jo) ?_
        by_cases z : ds.length == 1
        · rw [if_pos z]; decide +kernel
        · rw [if_neg z]; decide +kernel
theorem nice_repr {n : Nat} {t : T} (h : Nice n t) (hn : n ≤ 3) : ∃ x, reprT [t] = .ret (.str x) ∧ PyData.strOk x = true := by
  obtain ⟨d, e, k⟩ := nice_data h
  have e2 : dataR t = some d := by
    cases t with
    | dct kvs => cases e
    | _ => exact e
  refine ⟨d.shown, ?_, k.txt⟩
  show (match dataR t with | some d => (if (d.showable && decide (d.shown.length ≤ 1000000) && decide (d.depth ≤ 64)) = true then M.ret (T.str d.shown) else .stuck) | none => .stuck) = _
  rw [e2]
  show (if _ then _ else _) = _
  have l : d.shown.length ≤ 1000000 := by
    have := k.len
    have p : 20 ^ n ≤ 20 ^ 3 := Nat.pow_le_pow_right (by decide) hn
    omega
  have dp : d.depth ≤ 64 := by have := k.dep; omega
  rw [if_pos (by rw [k.shw, decide_eq_true l, decide_eq_true dp]; rfl)]
theorem fr_nice {u : T} {n : Int} (h : Fr u n) (k : Nat) : Nice (k + 1) u := by
  obtain ⟨a, b, s, b0, b1, _, ha⟩ := h.ex
  refine .seq s (by simp) fun x hx => ?_
  simp only [List.mem_cons, List.not_mem_nil, or_false] at hx
  rcases hx with rfl | rfl
  · exact .int (by omega)
  · exact .int (by omega)
theorem cm_nice {y : T} {c : Int × Int} (h : Cm y c) (k : Nat) : Nice (k + 2) y := by
  obtain ⟨u, v, s, f1, f2, _⟩ := h.ex
  refine .seq s (by simp) fun x hx => ?_
  simp only [List.mem_cons, List.not_mem_nil, or_false] at hx
  rcases hx with rfl | rfl
  · exact fr_nice f1 k
  · exact fr_nice f2 k
theorem paired_mem2 {α β : Type} {R : α → β → Prop} {xs : List α} {ys : List β} {x : α} (h : Paired R xs ys) (e : x ∈ xs) : ∃ y, R x y := by
  obtain ⟨y, _, h⟩ := paired_mem h e
  exact ⟨y, h⟩
theorem given_repr {t : T} {ys : List T} {cs : List (Int × Int)} (ht : SeqOf t ys) (hp : Paired Cm ys cs) (hl : cs.length ≤ 12) : ∃ x, reprT [t] = .ret (.str x) ∧ PyData.strOk x = true :=
  nice_repr (n := 3) (.seq ht (by rw [paired_len hp]; exact hl) fun y hy => by
    obtain ⟨c, h⟩ := paired_mem2 hp hy
    exact cm_nice h 0) (by decide)
theorem neT_str {x : Str} (h : PyData.strOk x = true) : DP.neT (.str x) (.str x) = .ret (.bl false) := by
  unfold DP.neT
  simp [dataT, SeqAt.shaped, PyData.canLay0, PyData.depth, PyData.eqv, h]
end Tw
end
section
set_option Elab.async false
set_option linter.all false
set_option maxRecDepth 100000
namespace Tw
open PySem PySem.Spec PyProof.Rows L2 DP
variable {cA : Str → Addr}
/-! ### one turn of the law: what is drawn, and good questions -/
abbrev V (x2 x3 x4 x5 x6 x7 x8 x9 x10 x11 x12 x13 x14 x15 x16 x17 x18 : Sl) : Env' := [.any, .strm, x2, x3, x4, x5, x6, x7, x8, x9, x10, x11, x12, x13, x14, x15, x16, x17, x18, .any, .any]
noncomputable abbrev a0 (cA : Str → Addr) : Env' → M Fl := (sSet 3 (eCallS 1 (m__law_comers cA) (aCons (eC (.int 6)) aNil)))
noncomputable abbrev a1 (cA : Str → Addr) : Env' → M Fl := (sParN [4, 5] (pCons (eCallS 1 (m__law_raw_comers cA) (aCons (eV 3) aNil)) (pCons (eCallS 1 (m__law_split cA) (aCons (eV 3) aNil)) pNil)))
noncomputable abbrev a2 (cA : Str → Addr) : Env' → M Fl := (sSet 6 (e1 reprT (aCons (eV 4) aNil)))
noncomputable abbrev a3 (cA : Str → Addr) : Env' → M Fl := (sOwn 7 (nLc [19] (e1 itemsT (eV 3)) (bName 19) cYes (e2 ixT (eVS 19) (eC (.int 0)))))
noncomputable abbrev a4 (cA : Str → Addr) : Env' → M Fl := (sExt 7 (e1 seqN (nLc [20] (e1 rng1 (aCons (eC (.int 4)) aNil)) (bName 20) cYes (eCall (m__law_low cA) (aCons (eCallS 1 (m__law_draw cA) (aCons (eC (.int 200)) aNil)) (aCons (e2 addT (eC (.int 1)) (eCallS 1 (m__law_draw cA) (aCons (eC (.int 4)) aNil))) aNil))))))
noncomputable abbrev a6B (cA : Str → Addr) : Env' → M Fl := (sSeq (sSet 9 (e1 lstT (nLst (aCons (eCall (m__law_rate_at cA) (aCons (eV 3) (aCons (eV 8) aNil))) (aCons (eCall (m__law_come cA) (aCons (eV 3) (aCons (eV 8) aNil))) aNil)))))
  (sSeq (sSet 10 (eCallS 1 (m__law_raw cA) (aCons (eV 8) aNil)))
  (sSeq (sOwn 11 (nLst (aCons (eCall (m_rate_at cA) (aCons (eV 4) (aCons (eV 10) aNil))) (aCons (eCall (m_come_by cA) (aCons (eV 4) (aCons (eV 10) aNil))) aNil))))
  (sSeq (sSet 12 (e1 lstT (nLst (aCons (eCallK swp (m_rate_at cA) (aCons (eV 8) (aCons (eV 5) aNil))) (aCons (eCallK swp (m_come_by cA) (aCons (eV 8) (aCons (eV 5) aNil))) aNil)))))
  (sFz 11 (sIf (eOr (eNot (e1 boolT (eCall (m__law_same cA 40) (aCons (eV 11) (aCons (eV 9) aNil))))) (eOr (eNot (e1 boolT (eCall (m__law_same cA 40) (aCons (eV 12) (aCons (eV 9) aNil))))) (e1 boolT (e2 neT (e1 reprT (aCons (eV 4) aNil)) (eV 6))))) (sRet (eC (.bl false))) sNext))))))
noncomputable abbrev a6 (cA : Str → Addr) : Env' → M Fl := sFor (e1 itemsT (eV 7)) (bName 8) (a6B cA)
structure Turn (cA : Str → Addr) (cs rs : List (Int × Int)) (t : T) (w : Str) : Prop where
  good : Good cs
  mean : Mean cs rs
  told : m_told_comers cA [t] = .ret (.lst (cs.map cm))
  toldR : m_told_comers cA [.lst (rs.map cm)] = .ret (.lst (cs.map cm))
  toldC : m_told_comers cA [.lst (cs.map cm)] = .ret (.lst (cs.map cm))
  shown : reprT [t] = .ret (.str w)
  wok : PyData.strOk w = true
theorem turn_of {cs rs : List (Int × Int)} {t : T} {ys : List T} (G : Good cs) (R : Mean cs rs) (ht : SeqOf t ys) (hp : Paired Cm ys cs) : ∃ w, Turn cA cs rs t w := by
  have hl := G.len
  have hf := squ_fold G.unl
  have hne : ys ≠ [] := fun h => by
    have := paired_len hp
    rw [h] at this
    exact G.ne (List.eq_nil_of_length_eq_zero this.symm)
  obtain ⟨w, hw, wok⟩ := given_repr ht hp (by omega)
  refine ⟨w, G, R, ?_, ?_, ?_, hw, wok⟩
  · have h := told_ok (cA := cA) ht hp G.asc hne (by rw [paired_len hp]; omega)
    rw [hf] at h
    exact h
  · have h := told_ok (cA := cA) (.inl rfl : SeqOf (.lst (rs.map cm)) (rs.map cm)) (paired_cm fun r h => (R.ok r h).1) R.asc (fun h => R.ne (List.map_eq_nil_iff.mp h)) (by rw [List.length_map]; have := R.len; omega)
    rw [R.fold] at h
    exact h
  · have h := told_ok (cA := cA) (.inl rfl : SeqOf (.lst (cs.map cm)) (cs.map cm)) (paired_cm G.okC) G.asc (fun h => G.ne (List.map_eq_nil_iff.mp h)) (by rw [List.length_map]; omega)
    rw [hf] at h
    exact h
section
variable {x2 x3 x4 x5 x6 x7 x8 x9 x10 x11 x12 x13 x14 x15 x16 x17 x18 : Sl}
theorem a0_ok : Tk (a0 cA (V x2 x3 x4 x5 x6 x7 x8 x9 x10 x11 x12 x13 x14 x15 x16 x17 x18)) 26 (fun fl => ∃ ρ', fl = .next ρ' ∧ ∃ cs, Good cs ∧ ρ' = V x2 (.val (.lst (cs.map cm))) x4 x5 x6 x7 x8 x9 x10 x11 x12 x13 x14 x15 x16 x17 x18) := by
  refine (Tk.sSet (Tk.callS (n := 0) (n2 := 26) rfl (A := fun ts => ts = [.int 6]) (Tk.eq rfl rfl) (P := fun t => ∃ cs, t = .lst (cs.map cm) ∧ Good cs) ?_)).imp ?_
  · rintro _ rfl
    refine tk_comers.imp ?_
    rintro t ⟨cs, m, i, rfl, D, i0, i1⟩
    exact ⟨cs, rfl, D.good i0 i1⟩
  · rintro fl ⟨ρ', e, t, ⟨cs, rfl, G⟩, rfl⟩
    exact ⟨_, e, cs, G, rfl⟩
theorem a1_ok {cs : List (Int × Int)} (G : Good cs) : Tk (a1 cA (V x2 (.val (.lst (cs.map cm))) x4 x5 x6 x7 x8 x9 x10 x11 x12 x13 x14 x15 x16 x17 x18)) 50 (fun fl => ∃ ρ', fl = .next ρ' ∧ ∃ t rs w, Turn cA cs rs t w ∧ ρ' = V x2 (.val (.lst (cs.map cm))) (.val t) (.val (.lst (rs.map cm))) x6 x7 x8 x9 x10 x11 x12 x13 x14 x15 x16 x17 x18) := by
  have hl := G.len
  refine Tk.bind (n := 50) (n2 := 0) (P := fun ds => ∃ t rs w, Turn cA cs rs t w ∧ ds = [.val t, .val (.lst (rs.map cm))]) ?_ ?_
  · refine (Tk.e2 (n1 := 43) (n2 := 7) (n3 := 0) (A := fun t => ∃ ys, SeqOf t ys ∧ Paired Cm ys cs) (B := fun ds => ∃ rs, ds = [.val (.lst (rs.map cm))] ∧ Mean cs rs) ?_ ?_ ?_)
    · refine (Tk.callS (n := 0) (n2 := 43) rfl (A := fun ts => ts = [.lst (cs.map cm)]) (Tk.eq rfl rfl) ?_)
      rintro _ rfl
      exact (tk_raw_comers (fun c hc => by have := (G.ok c hc).2.2; omega) (by omega)).le (by omega)
    · refine (Tk.e2 (n1 := 7) (n2 := 0) (n3 := 0) (A := fun t => ∃ rs, t = .lst (rs.map cm) ∧ Mean cs rs) (B := fun ds => ds = []) ?_ (Tk.eq rfl rfl) ?_)
      · refine (Tk.callS (n := 0) (n2 := 7) rfl (A := fun ts => ts = [.lst (cs.map cm)]) (Tk.eq rfl rfl) ?_)
        rintro _ rfl
        exact tk_split G
      · rintro _ _ ⟨rs, rfl, R⟩ rfl
        exact Tk.ret ⟨rs, rfl, R⟩
    · rintro t _ ⟨ys, ht, hp⟩ ⟨rs, rfl, R⟩
      obtain ⟨w, D⟩ := turn_of (cA := cA) G R ht hp
      exact Tk.ret ⟨t, rs, w, D, rfl⟩
  · rintro _ ⟨t, rs, w, D, rfl⟩
    exact Tk.eq rfl ⟨_, rfl, t, rs, w, D, rfl⟩
theorem a2_ok {cs rs : List (Int × Int)} {t : T} {w : Str} (D : Turn cA cs rs t w) : a2 cA (V x2 x3 (.val t) x5 x6 x7 x8 x9 x10 x11 x12 x13 x14 x15 x16 x17 x18) = .ret (.next (V x2 x3 (.val t) x5 (.val (.str w)) x7 x8 x9 x10 x11 x12 x13 x14 x15 x16 x17 x18)) :=
  g_set (v_1' (v_cons (v_var rfl) v_nil) D.shown)
theorem a3_ok {cs : List (Int × Int)} (hl : cs.length ≤ 1000) : a3 cA (V x2 (.val (.lst (cs.map cm))) x4 x5 x6 x7 x8 x9 x10 x11 x12 x13 x14 x15 x16 x17 x18) = .ret (.next (V x2 (.val (.lst (cs.map cm))) x4 x5 x6 (.own ((cs.map (·.1)).map fr)) x8 x9 x10 x11 x12 x13 x14 x15 x16 x17 x18)) := by
  have h : nLc [19] (e1 itemsT (eV 3)) (bName 19) cYes (e2 ixT (eVS 19) (eC (.int 0))) (V x2 (.val (.lst (cs.map cm))) x4 x5 x6 x7 x8 x9 x10 x11 x12 x13 x14 x15 x16 x17 x18) = .ret ((cs.map (·.1)).map fr) := by
    rw [nLc_of cm (fun _ => true) (fun c => fr c.1) (v_1 (v_var rfl) rfl) rfl (by omega) ?_]
    · rw [List.filter_eq_self.mpr fun _ _ => rfl, List.map_map]
      rfl
    · intro c _
      exact ⟨V x2 (.val (.lst (cs.map cm))) x4 x5 x6 x7 x8 x9 x10 x11 x12 x13 x14 x15 x16 x17 x18 |>.set 19 (.val (cm c)), rfl, rfl, fun _ => v_2 (v_seq rfl rfl) v_c rfl⟩
  show M.bind _ _ = _
  rw [h]
  rfl
end
end Tw
end
section
set_option Elab.async false
set_option linter.all false
set_option maxRecDepth 100000
namespace Tw
open PySem PySem.Spec PyProof.Rows L2 DP
variable {cA : Str → Addr}
section
variable {x2 x3 x4 x5 x6 x7 x8 x9 x10 x11 x12 x13 x14 x15 x16 x17 x18 : Sl}
theorem v_callK {π : List T → List T} {ρ : Env'} {f : Env' → M (List T)} {ts : List T} {r : T} {k : List T → M T} (h : f ρ = .ret ts) (hm : k (π ts) = .ret r) : eCallK π k f ρ = .ret r := by unfold eCallK; rw [h]; exact hm
theorem tk_low4 {ρ : Env'} {f g : Env' → M T} {n1 n2 : Nat} (hf : Tk (f ρ) n1 (fun t => ∃ d, t = .int d ∧ 0 ≤ d ∧ d ≤ 199)) (hg : Tk (g ρ) n2 (fun t => ∃ b, t = .int b ∧ 1 ≤ b ∧ b ≤ 4)) :
    Tk (eCall (m__law_low cA) (aCons f (aCons g aNil)) ρ) (n1 + n2) (fun t => ∃ n, t = fr n ∧ OkN n) := by
  refine (Tk.call (n := n1 + (n2 + 0)) (n2 := 0) (Tk.cons hf (Tk.cons hg (Tk.eq (a := []) rfl rfl))) ?_).le (by omega)
  rintro ts ⟨t, us, ⟨d, rfl, d0, d1⟩, ⟨u, vs, ⟨b, rfl, b0, b1⟩, rfl, rfl⟩, rfl⟩
  have key : ∀ w : Int, w * b = 72 → (∃ k, w = 6 * k) → 0 ≤ w → w ≤ 72 → Tk (m__law_low cA [.int d, .int b]) 0 (fun t => ∃ n, t = fr n ∧ OkN n) := fun w hw ⟨k, hk⟩ w0 w1 => by
    refine Tk.eq (law_low_eq (by omega) (by omega)) ⟨d * w, low_fr (by omega) (by rw [Int.mul_assoc, hw]), ⟨d * k, by rw [hk]; grind⟩, Int.mul_nonneg d0 w0, ?_⟩
    have := Int.mul_le_mul d1 w1 w0 (by omega)
    omega
  have hb : b = 1 ∨ b = 2 ∨ b = 3 ∨ b = 4 := by omega
  rcases hb with rfl | rfl | rfl | rfl
  · exact key 72 (by decide) ⟨12, by decide⟩ (by decide) (by decide)
  · exact key 36 (by decide) ⟨6, by decide⟩ (by decide) (by decide)
  · exact key 24 (by decide) ⟨4, by decide⟩ (by decide) (by decide)
  · exact key 18 (by decide) ⟨3, by decide⟩ (by decide) (by decide)
theorem paired_fr {xs us : List T} (h : Paired (fun _ y => ∃ n, y = fr n ∧ OkN n) xs us) : ∃ ns : List Int, us = ns.map fr ∧ (∀ n ∈ ns, OkN n) ∧ ns.length = xs.length := by
  induction h with
  | nil => exact ⟨[], rfl, (fun _ h => nomatch h), rfl⟩
  | cons r _ ih =>
    obtain ⟨n, rfl, hn⟩ := r
    obtain ⟨ns, rfl, h, l⟩ := ih
    refine ⟨n :: ns, rfl, fun m hm => ?_, by simp [l]⟩
    rcases List.mem_cons.mp hm with rfl | hm
    · exact hn
    · exact h m hm
theorem a4_ok {ms : List Int} (hm : ∀ n ∈ ms, OkN n) (hl : ms.length ≤ 10) : Tk (a4 cA (V x2 x3 x4 x5 x6 (.own (ms.map fr)) x8 x9 x10 x11 x12 x13 x14 x15 x16 x17 x18)) 8
    (fun fl => ∃ ρ', fl = .next ρ' ∧ ∃ ns : List Int, (∀ n ∈ ns, OkN n) ∧ ns.length ≤ 14 ∧ ρ' = V x2 x3 x4 x5 x6 (.own (ns.map fr)) x8 x9 x10 x11 x12 x13 x14 x15 x16 x17 x18) := by
  refine Tk.bind (n := 8) (n2 := 0) (P := fun p => ∃ ns : List Int, p = (true, ns.map fr) ∧ (∀ n ∈ ns, OkN n) ∧ ns.length = 4) ?_ ?_
  · refine Tk.e1 (n := 8) (n2 := 0) (A := fun us => ∃ ns : List Int, us = ns.map fr ∧ (∀ n ∈ ns, OkN n) ∧ ns.length = 4) ?_ ?_
    · refine (Tk.nLc (c := 2) (ts := [.int (0 + (0 : Nat)), .int (0 + (1 : Nat)), .int (0 + (2 : Nat)), .int (0 + (3 : Nat))]) (fun _ y => ∃ n, y = fr n ∧ OkN n) rfl rfl (by simp) fun t ht => ?_).imp fun us p => ?_
      · refine ⟨V x2 x3 x4 x5 x6 (.own (ms.map fr)) x8 x9 x10 x11 x12 x13 x14 x15 x16 x17 x18 |>.set 20 (.val t), rfl, rfl, ?_⟩
        refine tk_low4 (n1 := 1) (n2 := 1) ((tk_dr (n := 0) (hi := 200) rfl (tk_c (by decide) (by decide)) (by decide)).imp ?_) (tk_plus1 (hi := 3) (tk_dr (n := 0) (hi := 4) rfl (tk_c (by decide) (by decide)) (by decide)))
        rintro t ⟨d, rfl, d0, d1⟩
        exact ⟨d, rfl, d0, by omega⟩
      · obtain ⟨ns, h1, h2, h3⟩ := paired_fr p
        exact ⟨ns, h1, h2, h3⟩
    · rintro _ ⟨ns, rfl, h⟩
      exact Tk.eq rfl ⟨ns, rfl, h⟩
  · rintro _ ⟨ns, rfl, h, l⟩
    refine Tk.eq (a := .next (V x2 x3 x4 x5 x6 (.own (ms.map fr ++ ns.map fr)) x8 x9 x10 x11 x12 x13 x14 x15 x16 x17 x18)) (if_pos ?_) ⟨_, rfl, ms ++ ns, fun n hn => ?_, by simp; omega, by rw [List.map_append]⟩
    · show (true && okLen ((ms.map fr).length + (ns.map fr).length)) = true
      unfold okLen
      simp
      omega
    · rcases List.mem_append.mp hn with hn | hn
      · exact hm n hn
      · exact h n hn
theorem a6_turn {cs rs : List (Int × Int)} {t : T} {w : Str} (D : Turn cA cs rs t w) {n : Int} (hn : OkN n) :
    Tk (a6B cA (V x2 (.val (.lst (cs.map cm))) (.val t) (.val (.lst (rs.map cm))) (.val (.str w)) x7 (.val (fr n)) x9 x10 x11 x12 x13 x14 x15 x16 x17 x18)) 2
    (fun fl => ∃ ρ', fl = .next ρ' ∧ ∃ t9 t10 t11 t12, ρ' = V x2 (.val (.lst (cs.map cm))) (.val t) (.val (.lst (rs.map cm))) (.val (.str w)) x7 (.val (fr n)) (.val t9) (.val t10) (.val t11) (.val t12) x13 x14 x15 x16 x17 x18) := by
  have G := D.good
  have hc := G.okC
  have hl := G.len
  have hf : Fr (fr n) n := frB hn.b.1 hn.b.2
  have h9 : (sSet 9 (e1 lstT (nLst (aCons (eCall (m__law_rate_at cA) (aCons (eV 3) (aCons (eV 8) aNil))) (aCons (eCall (m__law_come cA) (aCons (eV 3) (aCons (eV 8) aNil))) aNil))))) (V x2 (.val (.lst (cs.map cm))) (.val t) (.val (.lst (rs.map cm))) (.val (.str w)) x7 (.val (fr n)) x9 x10 x11 x12 x13 x14 x15 x16 x17 x18)
      = .ret (.next (V x2 (.val (.lst (cs.map cm))) (.val t) (.val (.lst (rs.map cm))) (.val (.str w)) x7 (.val (fr n)) (.val (.lst [fr (rateAt cs n 0), fr (sumI cs n cs.length)])) x10 x11 x12 x13 x14 x15 x16 x17 x18)) :=
    g_set (v_lstT (v_lst (v_cons (v_call (v_cons (v_var rfl) (v_cons (v_var rfl) v_nil)) (law_rate_at_ok hn hc (by omega) G.asc G.ne)) (v_cons (v_call (v_cons (v_var rfl) (v_cons (v_var rfl) v_nil)) (law_come_ok hn hc (by omega))) v_nil)) (by simp)))
  refine (Tk.seq (n := 0) (n2 := 2) (I := fun ρ' => ρ' = _) (Tk.eq h9 ⟨_, rfl, rfl⟩) ?_).le (by decide)
  rintro _ rfl
  refine Tk.seq (n := 2) (n2 := 0) (I := fun ρ' => ∃ u, Fr u n ∧ ρ' = V x2 (.val (.lst (cs.map cm))) (.val t) (.val (.lst (rs.map cm))) (.val (.str w)) x7 (.val (fr n)) (.val (.lst [fr (rateAt cs n 0), fr (sumI cs n cs.length)])) (.val u) x11 x12 x13 x14 x15 x16 x17 x18) ?_ ?_
  · refine (Tk.sSet (Tk.callS (n := 0) (n2 := 2) rfl (A := fun ts => ts = [fr n]) (Tk.eq rfl rfl) (P := fun u => Fr u n) ?_)).imp ?_
    · rintro _ rfl
      exact tk_raw (by have := hn.b; omega)
    · rintro fl ⟨ρ', e, u, hu, rfl⟩
      exact ⟨_, e, u, hu, rfl⟩
  rintro _ ⟨u, hu, rfl⟩
  have h11 : (sOwn 11 (nLst (aCons (eCall (m_rate_at cA) (aCons (eV 4) (aCons (eV 10) aNil))) (aCons (eCall (m_come_by cA) (aCons (eV 4) (aCons (eV 10) aNil))) aNil)))) (V x2 (.val (.lst (cs.map cm))) (.val t) (.val (.lst (rs.map cm))) (.val (.str w)) x7 (.val (fr n)) (.val (.lst [fr (rateAt cs n 0), fr (sumI cs n cs.length)])) (.val u) x11 x12 x13 x14 x15 x16 x17 x18)
      = .ret (.next (V x2 (.val (.lst (cs.map cm))) (.val t) (.val (.lst (rs.map cm))) (.val (.str w)) x7 (.val (fr n)) (.val (.lst [fr (rateAt cs n 0), fr (sumI cs n cs.length)])) (.val u) (.own [fr (rateAt cs n 0), fr (sumI cs n cs.length)]) x12 x13 x14 x15 x16 x17 x18)) := by
    have h : nLst (aCons (eCall (m_rate_at cA) (aCons (eV 4) (aCons (eV 10) aNil))) (aCons (eCall (m_come_by cA) (aCons (eV 4) (aCons (eV 10) aNil))) aNil)) (V x2 (.val (.lst (cs.map cm))) (.val t) (.val (.lst (rs.map cm))) (.val (.str w)) x7 (.val (fr n)) (.val (.lst [fr (rateAt cs n 0), fr (sumI cs n cs.length)])) (.val u) x11 x12 x13 x14 x15 x16 x17 x18) = .ret [fr (rateAt cs n 0), fr (sumI cs n cs.length)] :=
      v_lst (v_cons (v_call (v_cons (v_var rfl) (v_cons (v_var rfl) v_nil)) (rate_at_ok D.told hu hn hc)) (v_cons (v_call (v_cons (v_var rfl) (v_cons (v_var rfl) v_nil)) (come_by_ok hn hc (by omega) D.told hu)) v_nil)) (by simp)
    show M.bind _ _ = _
    rw [h]
    rfl
  have h12 : (sSet 12 (e1 lstT (nLst (aCons (eCallK swp (m_rate_at cA) (aCons (eV 8) (aCons (eV 5) aNil))) (aCons (eCallK swp (m_come_by cA) (aCons (eV 8) (aCons (eV 5) aNil))) aNil))))) (V x2 (.val (.lst (cs.map cm))) (.val t) (.val (.lst (rs.map cm))) (.val (.str w)) x7 (.val (fr n)) (.val (.lst [fr (rateAt cs n 0), fr (sumI cs n cs.length)])) (.val u) (.own [fr (rateAt cs n 0), fr (sumI cs n cs.length)]) x12 x13 x14 x15 x16 x17 x18)
      = .ret (.next (V x2 (.val (.lst (cs.map cm))) (.val t) (.val (.lst (rs.map cm))) (.val (.str w)) x7 (.val (fr n)) (.val (.lst [fr (rateAt cs n 0), fr (sumI cs n cs.length)])) (.val u) (.own [fr (rateAt cs n 0), fr (sumI cs n cs.length)]) (.val (.lst [fr (rateAt cs n 0), fr (sumI cs n cs.length)])) x13 x14 x15 x16 x17 x18)) :=
    g_set (v_lstT (v_lst (v_cons (v_callK (ts := [fr n, .lst (rs.map cm)]) (v_cons (v_var rfl) (v_cons (v_var rfl) v_nil)) (rate_at_ok D.toldR hf hn hc)) (v_cons (v_callK (ts := [fr n, .lst (rs.map cm)]) (v_cons (v_var rfl) (v_cons (v_var rfl) v_nil)) (come_by_ok hn hc (by omega) D.toldR hf)) v_nil)) (by simp)))
  refine Tk.eq (a := .next (V x2 (.val (.lst (cs.map cm))) (.val t) (.val (.lst (rs.map cm))) (.val (.str w)) x7 (.val (fr n)) (.val (.lst [fr (rateAt cs n 0), fr (sumI cs n cs.length)])) (.val u) (.val (.lst [fr (rateAt cs n 0), fr (sumI cs n cs.length)])) (.val (.lst [fr (rateAt cs n 0), fr (sumI cs n cs.length)])) x13 x14 x15 x16 x17 x18)) (g_seq h11 (g_seq h12 ?_)) ⟨_, rfl, _, _, _, _, rfl⟩
  show sIf _ _ _ (V x2 (.val (.lst (cs.map cm))) (.val t) (.val (.lst (rs.map cm))) (.val (.str w)) x7 (.val (fr n)) (.val (.lst [fr (rateAt cs n 0), fr (sumI cs n cs.length)])) (.val u) (.val (.lst [fr (rateAt cs n 0), fr (sumI cs n cs.length)])) (.val (.lst [fr (rateAt cs n 0), fr (sumI cs n cs.length)])) x13 x14 x15 x16 x17 x18) = _
  have sm := same_two (cA := cA) (rateAt cs n 0) (sumI cs n cs.length)
  exact g_ifF (v_orF (v_not (cb := true) (v_bool (v_call (v_cons (v_var rfl) (v_cons (v_var rfl) v_nil)) sm))) (v_orF (v_not (cb := true) (v_bool (v_call (v_cons (v_var rfl) (v_cons (v_var rfl) v_nil)) sm))) (v_bool (v_2 (v_1' (v_cons (v_var rfl) v_nil) D.shown) (v_var rfl) (neT_str D.wok))))) rfl
theorem a6_ok {cs rs : List (Int × Int)} {t : T} {w : Str} (D : Turn cA cs rs t w) {ns : List Int} (hn : ∀ n ∈ ns, OkN n) (hl : ns.length ≤ 14) (n8 : x8.isOwn = false) (n9 : x9.isOwn = false) (n10 : x10.isOwn = false) (n11 : x11.isOwn = false) (n12 : x12.isOwn = false) :
    Tk (a6 cA (V x2 (.val (.lst (cs.map cm))) (.val t) (.val (.lst (rs.map cm))) (.val (.str w)) (.val (.lst (ns.map fr))) x8 x9 x10 x11 x12 x13 x14 x15 x16 x17 x18)) 28
    (fun fl => ∃ ρ', fl = .next ρ' ∧ ∃ y8 y9 y10 y11 y12, (y8.isOwn = false ∧ y9.isOwn = false ∧ y10.isOwn = false ∧ y11.isOwn = false ∧ y12.isOwn = false) ∧ ρ' = V x2 (.val (.lst (cs.map cm))) (.val t) (.val (.lst (rs.map cm))) (.val (.str w)) (.val (.lst (ns.map fr))) y8 y9 y10 y11 y12 x13 x14 x15 x16 x17 x18) := by
  refine (Tk.sFor (n := 0) (c := 2) (L := 14) (A := fun ts => ts = ns.map fr) (fun _ ρ' => ∃ y8 y9 y10 y11 y12, (y8.isOwn = false ∧ y9.isOwn = false ∧ y10.isOwn = false ∧ y11.isOwn = false ∧ y12.isOwn = false) ∧ ρ' = V x2 (.val (.lst (cs.map cm))) (.val t) (.val (.lst (rs.map cm))) (.val (.str w)) (.val (.lst (ns.map fr))) y8 y9 y10 y11 y12 x13 x14 x15 x16 x17 x18)
    (Tk.eq rfl rfl) ?_ ⟨_, _, _, _, _, ⟨n8, n9, n10, n11, n12⟩, rfl⟩ ?_).imp ?_
  · rintro _ rfl
    simpa using hl
  · rintro _ rfl j u ρ hu ⟨y8, y9, y10, y11, y12, _, rfl⟩
    obtain ⟨n, hn', rfl⟩ := List.mem_map.mp (List.mem_of_getElem? hu)
    refine ⟨_, rfl, ?_⟩
    refine (a6_turn D (hn n hn')).imp ?_
    rintro fl ⟨ρ', e, t9, t10, t11, t12, rfl⟩
    exact ⟨_, e, _, _, _, _, _, ⟨rfl, rfl, rfl, rfl, rfl⟩, rfl⟩
  · rintro fl ⟨ρ', ts, e, rfl, h⟩
    exact ⟨_, e, h⟩
end
end Tw
end
section
set_option Elab.async false
set_option linter.all false
set_option maxRecDepth 100000
namespace Tw
open PySem PySem.Spec PyProof.Rows L2 DP
variable {cA : Str → Addr}
theorem cut_to (ts : List T) (k : Nat) : cutT ts none (some (k : Int)) = ts.take k := by
  unfold cutT
  rw [HT.sIx_nat]
  show List.take (min k ts.length - 0) (List.drop 0 ts) = _
  rw [Nat.sub_zero, List.drop_zero]
  by_cases h : k ≤ ts.length
  · rw [Nat.min_eq_left h]
  · rw [Nat.min_eq_right (by omega), List.take_length, List.take_of_length_le (by omega)]
theorem cut_from (ts : List T) (k : Nat) : cutT ts (some (k : Int)) none = ts.drop k := by
  unfold cutT
  rw [HT.sIx_nat]
  show List.take (ts.length - min k ts.length) (List.drop (min k ts.length) ts) = _
  by_cases h : k ≤ ts.length
  · rw [Nat.min_eq_left h, List.take_of_length_le (by simp)]
  · rw [Nat.min_eq_right (by omega), Nat.sub_self, List.take_zero, List.drop_of_length_le (by omega)]
theorem v_sl_to {ρ : Env'} {f : Env' → M (Bool × List T)} {g : Env' → M T} {ts : List T} {k : Nat} (hf : f ρ = .ret (true, ts)) (hg : g ρ = .ret (.int (k : Nat))) : nSl f oNone (oSome g) ρ = .ret (ts.take k) := by
  unfold nSl oSome oNone
  rw [hf]
  show M.bind (M.bind (g ρ) _) _ = _
  rw [hg, ← cut_to]
  rfl
theorem v_sl_from {ρ : Env'} {f : Env' → M (Bool × List T)} {g : Env' → M T} {ts : List T} {k : Nat} (hf : f ρ = .ret (true, ts)) (hg : g ρ = .ret (.int (k : Nat))) : nSl f (oSome g) oNone ρ = .ret (ts.drop k) := by
  unfold nSl oSome oNone
  rw [hf]
  show M.bind (M.bind (g ρ) _) _ = _
  rw [hg, ← cut_from]
  rfl
theorem v_bad {ρ : Env'} {s : Nat} {mid : Env' → M (List T)} {zs ms : List T} {k : Nat} (hs : ρ[s]? = some (.val (.lst zs))) (h15 : ρ[15]? = some (.val (.int (k : Nat)))) (hm : mid ρ = .ret ms) (hl : zs.length ≤ 100) (hml : ms.length ≤ 100) :
    (e1 lstT (e2 nCat (e1 seqN (e2 nCat (e1 seqN (nSl (eVS s) oNone (oSome (eV 15)))) (e1 seqN mid))) (e1 seqN (nSl (eVS s) (oSome (eV 15)) oNone)))) ρ = .ret (.lst (zs.take k ++ ms ++ zs.drop k)) := by
  have h1 : eVS s ρ = .ret (true, zs) := v_seq hs rfl
  have l1 : (zs.take k).length ≤ zs.length := by rw [List.length_take]; omega
  have l2 : (zs.drop k).length ≤ zs.length := by rw [List.length_drop]; omega
  refine v_lstT (v_cat (v_1 (v_cat (v_1 (v_sl_to h1 (v_var h15)) rfl) (v_1 hm rfl) (by omega)) rfl) (v_1 (v_sl_from h1 (v_var h15)) rfl) ?_)
  rw [List.length_append]
  omega
noncomputable abbrev a7 (cA : Str → Addr) : Env' → M Fl := (sFor (e1 itemsT (e1 lstT (nLst (aCons (eC .non) (aCons (eC (.int 5)) (aCons (eTup (aCons (eC (.int 1)) aNil)) (aCons (eTup (aCons (eC (.int 1)) (aCons (eC (.int 0)) aNil))) (aCons (eTup (aCons (e1 negT (eC (.int 1))) (aCons (eC (.int 1)) aNil))) (aCons (eTup (aCons (eC (.int 1)) (aCons (eC (.int 1)) (aCons (eC (.int 1)) aNil)))) (aCons (eC (.bl true)) (aCons (eC (.str "1")) (aCons (eTup (aCons (eC (.bl true)) (aCons (eC (.int 1)) aNil))) (aCons (eTup (aCons (eC (.int 1)) (aCons (eC (.bl true)) aNil))) (aCons (eC (.dct [])) (aCons (e1 lstT (nLst aNil)) (aCons (eTup (aCons (eTup (aCons (eC (.int 0)) (aCons (eC (.int 1)) aNil))) (aCons (eC (.int 1)) aNil))) aNil)))))))))))))))) (bName 13) (sFor (e1 itemsT (eTup (aCons (eC (.fn (cA "rate_at"))) (aCons (eC (.fn (cA "come_by"))) aNil)))) (bName 14) (sIf (eNot (e1 boolT (eCall (m__law_same cA 40) (aCons (eTried "told" [("BadComers", "comers"), ("BadMoment", "moment")] (eCallV 14 (cA "rate_at") (m_rate_at cA) (cA "come_by") (m_come_by cA) (aCons (eV 4) (aCons (eV 13) aNil)))) (aCons (eTup (aCons (eC (.str "moment")) (aCons (eV 13) aNil))) aNil))))) (sRet (eC (.bl false))) sNext)))
noncomputable abbrev a8 (cA : Str → Addr) : Env' → M Fl := (sSet 15 (eCallS 1 (m__law_draw cA) (aCons (e2 addT (e1 lenT (eVS 3)) (eC (.int 1))) aNil)))
noncomputable abbrev a9B (cA : Str → Addr) : Env' → M Fl := (sSeq (sSet 16 (e1 lstT (e2 nCat (e1 seqN (e2 nCat (e1 seqN (nSl (eVS 3) oNone (oSome (eV 15)))) (e1 seqN (nLst (aCons (eV 13) (aCons (eC .non) aNil)))))) (e1 seqN (nSl (eVS 3) (oSome (eV 15)) oNone)))))
  (sSeq (sSet 16 (eIf (e1 boolT (e2 eqT (eCallS 1 (m__law_draw cA) (aCons (eC (.int 2)) aNil)) (eC (.int 0)))) (eV 16) (e1 tupT (eVS 16))))
  (sFor (e1 itemsT (eTup (aCons (eC (.fn (cA "rate_at"))) (aCons (eC (.fn (cA "come_by"))) aNil)))) (bName 14) (sIf (eNot (e1 boolT (eCall (m__law_same cA 40) (aCons (eTried "told" [("BadComers", "comers"), ("BadMoment", "moment")] (eCallV 14 (cA "rate_at") (m_rate_at cA) (cA "come_by") (m_come_by cA) (aCons (eV 16) (aCons (eC .non) aNil)))) (aCons (eTup (aCons (eC (.str "comers")) (aCons (eV 15) aNil))) aNil))))) (sRet (eC (.bl false))) sNext))))
noncomputable abbrev a9 (cA : Str → Addr) : Env' → M Fl := sFor (e1 itemsT (eCall (m__law_odds cA) (aCons (eV 3) (aCons (eV 15) aNil)))) (bName 13) (a9B cA)
section
variable {x2 x3 x4 x5 x6 x7 x8 x9 x10 x11 x12 x13 x14 x15 x16 x17 x18 : Sl}
theorem a7_ok {t : T} {L : List T} (h : m_told_comers cA [t] = .ret (.lst L)) (n13 : x13.isOwn = false) (n14 : x14.isOwn = false) : ∃ y13 y14, (y13.isOwn = false ∧ y14.isOwn = false) ∧
    a7 cA (V x2 x3 (.val t) x5 x6 x7 x8 x9 x10 x11 x12 x13 x14 x15 x16 x17 x18) = .ret (.next (V x2 x3 (.val t) x5 x6 x7 x8 x9 x10 x11 x12 y13 y14 x15 x16 x17 x18)) := by
  obtain ⟨ρ', e, y13, y14, hn, rfl⟩ := for_all (bd := bName 13) (G := sFor (asksI cA) (bName 14) (askB cA (aCons (eV 4) (aCons (eV 13) aNil)) (eTup (aCons (eC (.str "moment")) (aCons (eV 13) aNil)))))
    (fun _ ρ => ∃ y13 y14, (y13.isOwn = false ∧ y14.isOwn = false) ∧ ρ = V x2 x3 (.val t) x5 x6 x7 x8 x9 x10 x11 x12 y13 y14 x15 x16 x17 x18) (xs := oddM)
    (ρ := V x2 x3 (.val t) x5 x6 x7 x8 x9 x10 x11 x12 x13 x14 x15 x16 x17 x18) ⟨_, _, ⟨n13, n14⟩, rfl⟩ fun j u ρ hu ⟨y13, y14, _, e⟩ => by
      subst e
      have hm := oddM_ok (cA := cA) u (List.mem_of_getElem? hu)
      have a := asks_ok (cA := cA) (ρ := V x2 x3 (.val t) x5 x6 x7 x8 x9 x10 x11 x12 (.val u) y14 x15 x16 x17 x18) (fs := aCons (eV 4) (aCons (eV 13) aNil)) (due := eTup (aCons (eC (.str "moment")) (aCons (eV 13) aNil))) (ts := [t, u]) (c := "BadMoment") (w := "moment") (x := u) (by show 14 < 21; decide)
        (fun y => v_cons (v_var rfl) (v_cons (v_var rfl) v_nil)) (ask_moment h hm.1) (by decide +kernel) (fun y => v_tup (v_cons rfl (v_cons (v_var rfl) v_nil)) (by simp)) hm.2
      exact ⟨_, _, rfl, a, _, _, ⟨rfl, rfl⟩, rfl⟩
  exact ⟨y13, y14, hn, g_for (by kernel_rfl) e⟩
theorem a8_ok {cs : List (Int × Int)} (hl : cs.length ≤ 1000) : Tk (a8 cA (V x2 (.val (.lst (cs.map cm))) x4 x5 x6 x7 x8 x9 x10 x11 x12 x13 x14 x15 x16 x17 x18)) 1 (fun fl => ∃ ρ', fl = .next ρ' ∧ ∃ k : Nat, k ≤ cs.length ∧ ρ' = V x2 (.val (.lst (cs.map cm))) x4 x5 x6 x7 x8 x9 x10 x11 x12 x13 x14 (.val (.int (k : Nat))) x16 x17 x18) := by
  have h1 : Tk (e2 addT (e1 lenT (eVS 3)) (eC (.int 1)) (V x2 (.val (.lst (cs.map cm))) x4 x5 x6 x7 x8 x9 x10 x11 x12 x13 x14 x15 x16 x17 x18)) 0 (fun t => ∃ k, t = .int k ∧ 1 ≤ k ∧ k ≤ (cs.length : Int) + 1) := by
    refine Tk.eq (a := .int (((cs.map cm).length : Int) + 1)) rfl ⟨_, rfl, by omega, ?_⟩
    rw [List.length_map]
    omega
  refine (Tk.sSet (i := 15) (tk_dr (cA := cA) (i := 1) rfl h1 (by omega))).imp ?_
  rintro fl ⟨ρ', e, t, ⟨d, rfl, d0, d1⟩, rfl⟩
  refine ⟨_, e, d.toNat, by omega, ?_⟩
  rw [show ((d.toNat : Nat) : Int) = d by omega]
  rfl
theorem a9_turn {cs : List (Int × Int)} {k : Nat} {y : T} (hl : cs.length ≤ 6) (h : ∀ (t : T) (rest : List T), SeqOf t ((cs.take k).map cm ++ y :: rest) → m_first_bad_comer cA [t] = .ret (.int (k : Nat))) :
    Tk (a9B cA (V x2 (.val (.lst (cs.map cm))) x4 x5 x6 x7 x8 x9 x10 x11 x12 (.val y) x14 (.val (.int (k : Nat))) x16 x17 x18)) 1
    (fun fl => ∃ ρ', fl = .next ρ' ∧ ∃ t14 t16, ρ' = V x2 (.val (.lst (cs.map cm))) x4 x5 x6 x7 x8 x9 x10 x11 x12 (.val y) (.val t14) (.val (.int (k : Nat))) (.val t16) x17 x18) := by
  have h1 := v_bad (ρ := V x2 (.val (.lst (cs.map cm))) x4 x5 x6 x7 x8 x9 x10 x11 x12 (.val y) x14 (.val (.int (k : Nat))) x16 x17 x18) (s := 3) (mid := nLst (aCons (eV 13) (aCons (eC .non) aNil))) (ms := [y, .non]) (zs := cs.map cm) (k := k) rfl rfl (v_lst (v_cons (v_var rfl) (v_cons v_c v_nil)) (by simp)) (by simp; omega) (by simp)
  refine (Tk.seq (n := 0) (n2 := 1) (I := fun ρ' => ρ' = _) (Tk.eq (g_set h1) ⟨_, rfl, rfl⟩) ?_).le (by decide)
  rintro _ rfl
  have hs : (cs.map cm).take k ++ [y, .non] ++ (cs.map cm).drop k = (cs.take k).map cm ++ y :: (.non :: (cs.map cm).drop k) := by rw [List.map_take]; simp
  refine Tk.seq (n := 1) (n2 := 0) (I := fun ρ' => ∃ t, SeqOf t ((cs.take k).map cm ++ y :: (.non :: (cs.map cm).drop k)) ∧ ρ' = V x2 (.val (.lst (cs.map cm))) x4 x5 x6 x7 x8 x9 x10 x11 x12 (.val y) x14 (.val (.int (k : Nat))) (.val t) x17 x18) ?_ ?_
  · refine (Tk.sSet (i := 16) (P := fun t => SeqOf t ((cs.take k).map cm ++ y :: (.non :: (cs.map cm).drop k))) (Tk.eIf (n := 1) (n2 := 0) (B := fun _ => True) (tk_coin rfl) (fun _ => Tk.eq rfl (.inl ?_)) fun _ => Tk.eq rfl (.inr ?_))).imp ?_
    · rw [hs]
    · rw [hs]
    · rintro fl ⟨ρ', e, t, ht, rfl⟩
      exact ⟨_, e, t, ht, rfl⟩
  rintro _ ⟨t, ht, rfl⟩
  have a := asks_ok (cA := cA) (ρ := V x2 (.val (.lst (cs.map cm))) x4 x5 x6 x7 x8 x9 x10 x11 x12 (.val y) x14 (.val (.int (k : Nat))) (.val t) x17 x18) (fs := aCons (eV 16) (aCons (eC .non) aNil)) (due := eTup (aCons (eC (.str "comers")) (aCons (eV 15) aNil))) (ts := [t, .non]) (c := "BadComers") (w := "comers") (x := .int (k : Nat)) (by show 14 < 21; decide)
        (fun y => v_cons (v_var rfl) (v_cons rfl v_nil)) (ask_comers (h t _ ht)) (by decide +kernel) (fun y => v_tup (v_cons rfl (v_cons (v_var rfl) v_nil)) (by simp)) (same_comers _)
  exact Tk.eq a ⟨_, rfl, _, _, rfl⟩
theorem a9_ok {cs : List (Int × Int)} {k : Nat} (G : Good cs) (hk : k ≤ cs.length) (n13 : x13.isOwn = false) (n14 : x14.isOwn = false) (n16 : x16.isOwn = false) :
    Tk (a9 cA (V x2 (.val (.lst (cs.map cm))) x4 x5 x6 x7 x8 x9 x10 x11 x12 x13 x14 (.val (.int (k : Nat))) x16 x17 x18)) 30
    (fun fl => ∃ ρ', fl = .next ρ' ∧ ∃ y13 y14 y16, (y13.isOwn = false ∧ y14.isOwn = false ∧ y16.isOwn = false) ∧ ρ' = V x2 (.val (.lst (cs.map cm))) x4 x5 x6 x7 x8 x9 x10 x11 x12 y13 y14 (.val (.int (k : Nat))) y16 x17 x18) := by
  obtain ⟨os, ho, hol, hb⟩ := odds_bad (cA := cA) G.okC G.asc hk
  refine (Tk.sFor (n := 0) (c := 1) (L := 30) (A := fun ts => ts = os) (fun _ ρ' => ∃ y13 y14 y16, (y13.isOwn = false ∧ y14.isOwn = false ∧ y16.isOwn = false) ∧ ρ' = V x2 (.val (.lst (cs.map cm))) x4 x5 x6 x7 x8 x9 x10 x11 x12 y13 y14 (.val (.int (k : Nat))) y16 x17 x18)
    (Tk.eq (v_1 (v_call (v_cons (v_var rfl) (v_cons (v_var rfl) v_nil)) ho) rfl) rfl) ?_ ⟨_, _, _, ⟨n13, n14, n16⟩, rfl⟩ ?_).imp ?_
  · rintro _ rfl
    exact hol
  · rintro _ rfl j y ρ hy ⟨y13, y14, y16, _, rfl⟩
    refine ⟨_, rfl, ?_⟩
    refine (a9_turn G.len (hb y (List.mem_of_getElem? hy))).imp ?_
    rintro fl ⟨ρ', e, t14, t16, rfl⟩
    exact ⟨_, e, _, _, _, ⟨rfl, rfl, rfl⟩, rfl⟩
  · rintro fl ⟨ρ', ts, e, rfl, h⟩
    exact ⟨_, e, h⟩
end
end Tw
end
section
set_option Elab.async false
set_option linter.all false
set_option maxRecDepth 100000
namespace Tw
open PySem PySem.Spec PyProof.Rows L2 DP
variable {cA : Str → Addr}
noncomputable abbrev a10 (cA : Str → Addr) : Env' → M Fl := (sSet 17 (eCallS 1 (m__law_split cA) (aCons (eV 3) aNil)))
noncomputable abbrev a11 (cA : Str → Addr) : Env' → M Fl := (sSet 15 (e2 addT (eC (.int 1)) (eCallS 1 (m__law_draw cA) (aCons (e1 lenT (eVS 17)) aNil))))
noncomputable abbrev a12B (cA : Str → Addr) : Env' → M Fl := (sSeq (sSet 16 (e1 lstT (e2 nCat (e1 seqN (e2 nCat (e1 seqN (nSl (eVS 17) oNone (oSome (eV 15)))) (e1 seqN (nLst (aCons (eV 13) aNil))))) (e1 seqN (nSl (eVS 17) (oSome (eV 15)) oNone)))))
  (sFor (e1 itemsT (eTup (aCons (eC (.fn (cA "rate_at"))) (aCons (eC (.fn (cA "come_by"))) aNil)))) (bName 14) (sIf (eNot (e1 boolT (eCall (m__law_same cA 40) (aCons (eTried "told" [("BadComers", "comers"), ("BadMoment", "moment")] (eCallV 14 (cA "rate_at") (m_rate_at cA) (cA "come_by") (m_come_by cA) (aCons (eV 16) (aCons (eC .non) aNil)))) (aCons (eTup (aCons (eC (.str "comers")) (aCons (eV 15) aNil))) aNil))))) (sRet (eC (.bl false))) sNext)))
noncomputable abbrev a12 (cA : Str → Addr) : Env' → M Fl := sFor (e1 itemsT (eTup (aCons (eC .non) (aCons (eTup (aCons (e2 ixT (e1 seqT (e2 ixT (eVS 17) (e2 subT (eV 15) (eC (.int 1))))) (eC (.int 0))) (aCons (eTup (aCons (eC (.int 77)) (aCons (eC (.int 1)) aNil))) aNil))) aNil)))) (bName 13) (a12B cA)
noncomputable abbrev a13B (cA : Str → Addr) : Env' → M Fl := (sSeq (sOwn 11 (nLst (aCons (eTried "told" [("BadComers", "comers"), ("BadMoment", "moment")] (eCall (m_rate_at cA) (aCons (eV 13) (aCons (eC .non) aNil)))) aNil)))
  (sSeq (sApp 11 (eTried "told" [("BadComers", "comers"), ("BadMoment", "moment")] (eCall (m_come_by cA) (aCons (eV 13) (aCons (eC .non) aNil)))))
  (sFz 11 (sIf (e1 boolT (e2 neT (eV 11) (e1 lstT (e2 nRep (e1 seqN (nLst (aCons (eTup (aCons (eC (.str "comers")) (aCons (eC (.int 0)) aNil))) aNil))) (eC (.int 2)))))) (sRet (eC (.bl false))) sNext))))
noncomputable abbrev a13 (cA : Str → Addr) : Env' → M Fl := sFor (e1 itemsT (e1 lstT (nLst (aCons (eC .non) (aCons (eC (.int 5)) (aCons (eC (.str "ab")) (aCons (eC (.dct [])) (aCons (eC (.bl true)) (aCons (e1 lstT (nLst aNil)) (aCons (eTup aNil) (aCons (eC (.fn (cA "_law_draw"))) aNil))))))))))) (bName 13) (a13B cA)
noncomputable abbrev a14 (cA : Str → Addr) : Env' → M Fl := (sOwn 18 (nLst (aCons (eC (.int 1)) (aCons (e1 negT (eC (.int 1))) aNil))))
noncomputable abbrev a15 (cA : Str → Addr) : Env' → M Fl := (sHeld 18 11 (eTried "told" [("BadComers", "comers"), ("BadMoment", "moment")] (eCall (m_rate_at cA) (aCons (eV 3) (aCons (eV 18) aNil)))) "moment" "late")
noncomputable abbrev a17 (cA : Str → Addr) : Env' → M Fl := (sIf (eNot (e1 boolT (eCall (m__law_same cA 40) (aCons (eV 11) (aCons (eTup (aCons (eC (.str "moment")) (aCons (e1 lstT (nLst (aCons (eC (.int 1)) (aCons (e1 negT (eC (.int 1))) (aCons (eC (.str "late")) aNil))))) aNil))) aNil))))) (sRet (eC (.bl false))) sNext)
section
variable {x2 x3 x4 x5 x6 x7 x8 x9 x10 x11 x12 x13 x14 x15 x16 x17 x18 : Sl}
theorem a10_ok {cs : List (Int × Int)} (G : Good cs) : Tk (a10 cA (V x2 (.val (.lst (cs.map cm))) x4 x5 x6 x7 x8 x9 x10 x11 x12 x13 x14 x15 x16 x17 x18)) 7 (fun fl => ∃ ρ', fl = .next ρ' ∧ ∃ rs, Mean cs rs ∧ ρ' = V x2 (.val (.lst (cs.map cm))) x4 x5 x6 x7 x8 x9 x10 x11 x12 x13 x14 x15 x16 (.val (.lst (rs.map cm))) x18) := by
  refine (Tk.sSet (i := 17) (Tk.callS (n := 0) (n2 := 7) rfl (A := fun ts => ts = [.lst (cs.map cm)]) (Tk.eq rfl rfl) (P := fun t => ∃ rs, t = .lst (rs.map cm) ∧ Mean cs rs) ?_)).imp ?_
  · rintro _ rfl
    exact tk_split G
  · rintro fl ⟨ρ', e, t, ⟨rs, rfl, R⟩, rfl⟩
    exact ⟨_, e, rs, R, rfl⟩
theorem a11_ok {rs : List (Int × Int)} (h0 : rs ≠ []) (hl : rs.length ≤ 1000) : Tk (a11 cA (V x2 x3 x4 x5 x6 x7 x8 x9 x10 x11 x12 x13 x14 x15 x16 (.val (.lst (rs.map cm))) x18)) 1 (fun fl => ∃ ρ', fl = .next ρ' ∧ ∃ k : Nat, k < rs.length ∧ ρ' = V x2 x3 x4 x5 x6 x7 x8 x9 x10 x11 x12 x13 x14 (.val (.int ((k + 1 : Nat) : Int))) x16 (.val (.lst (rs.map cm))) x18) := by
  have hp := List.length_pos_iff.mpr h0
  have h1 : Tk (e1 lenT (eVS 17) (V x2 x3 x4 x5 x6 x7 x8 x9 x10 x11 x12 x13 x14 x15 x16 (.val (.lst (rs.map cm))) x18)) 0 (fun t => ∃ k, t = .int k ∧ 1 ≤ k ∧ k ≤ (rs.length : Int)) := by
    refine Tk.eq (a := .int ((rs.map cm).length : Int)) rfl ⟨_, rfl, ?_, ?_⟩
    · rw [List.length_map]; omega
    · rw [List.length_map]; omega
  refine (Tk.sSet (i := 15) (tk_plus1 (hi := (rs.length : Int) - 1) (tk_dr (cA := cA) (i := 1) rfl h1 (by omega)))).imp ?_
  rintro fl ⟨ρ', e, t, ⟨d, rfl, d0, d1⟩, rfl⟩
  refine ⟨_, e, (d - 1).toNat, by omega, ?_⟩
  rw [show ((((d - 1).toNat + 1 : Nat)) : Int) = d by omega]
  rfl
theorem a12_turn {rs : List (Int × Int)} {k : Nat} {y : T} (hl : rs.length ≤ 13) (h : ∀ (t : T) (rest : List T), SeqOf t ((rs.take k).map cm ++ y :: rest) → m_first_bad_comer cA [t] = .ret (.int (k : Nat))) :
    ∃ t14 t16, a12B cA (V x2 x3 x4 x5 x6 x7 x8 x9 x10 x11 x12 (.val y) x14 (.val (.int (k : Nat))) x16 (.val (.lst (rs.map cm))) x18) = .ret (.next (V x2 x3 x4 x5 x6 x7 x8 x9 x10 x11 x12 (.val y) (.val t14) (.val (.int (k : Nat))) (.val t16) (.val (.lst (rs.map cm))) x18)) := by
  have h1 := v_bad (ρ := V x2 x3 x4 x5 x6 x7 x8 x9 x10 x11 x12 (.val y) x14 (.val (.int (k : Nat))) x16 (.val (.lst (rs.map cm))) x18) (s := 17) (mid := nLst (aCons (eV 13) aNil)) (ms := [y]) (zs := rs.map cm) (k := k) rfl rfl (v_lst (v_cons (v_var rfl) v_nil) (by simp)) (by simp; omega) (by simp)
  have hs : (rs.map cm).take k ++ [y] ++ (rs.map cm).drop k = (rs.take k).map cm ++ y :: (rs.map cm).drop k := by rw [List.map_take]; simp
  rw [hs] at h1
  have a := asks_ok (cA := cA) (ρ := V x2 x3 x4 x5 x6 x7 x8 x9 x10 x11 x12 (.val y) x14 (.val (.int (k : Nat))) (.val (.lst ((rs.take k).map cm ++ y :: (rs.map cm).drop k))) (.val (.lst (rs.map cm))) x18) (fs := aCons (eV 16) (aCons (eC .non) aNil)) (due := eTup (aCons (eC (.str "comers")) (aCons (eV 15) aNil)))
        (ts := [.lst ((rs.take k).map cm ++ y :: (rs.map cm).drop k), .non]) (c := "BadComers") (w := "comers") (x := .int (k : Nat)) (by show 14 < 21; decide)
        (fun y => v_cons (v_var rfl) (v_cons rfl v_nil)) (ask_comers (h _ _ (.inl rfl))) (by decide +kernel) (fun y => v_tup (v_cons rfl (v_cons (v_var rfl) v_nil)) (by simp)) (same_comers _)
  exact ⟨_, _, g_seq (g_set h1) a⟩
theorem a12_ok {cs rs : List (Int × Int)} {k : Nat} (R : Mean cs rs) (hk : k < rs.length) (n13 : x13.isOwn = false) (n14 : x14.isOwn = false) (n16 : x16.isOwn = false) :
    ∃ y13 y14 y16, (y13.isOwn = false ∧ y14.isOwn = false ∧ y16.isOwn = false) ∧ a12 cA (V x2 x3 x4 x5 x6 x7 x8 x9 x10 x11 x12 x13 x14 (.val (.int ((k + 1 : Nat) : Int))) x16 (.val (.lst (rs.map cm))) x18) = .ret (.next (V x2 x3 x4 x5 x6 x7 x8 x9 x10 x11 x12 y13 y14 (.val (.int ((k + 1 : Nat) : Int))) y16 (.val (.lst (rs.map cm))) x18)) := by
  obtain ⟨c, hc⟩ : ∃ c, rs[k]? = some c := ⟨_, List.getElem?_eq_getElem hk⟩
  have ok : ∀ r ∈ rs, OkC r := fun r h => (R.ok r h).1
  have hcc := ok c (List.mem_of_getElem? hc)
  obtain ⟨p1, q1, h1⟩ := a12_turn (cA := cA) (x2 := x2) (x3 := x3) (x4 := x4) (x5 := x5) (x6 := x6) (x7 := x7) (x8 := x8) (x9 := x9) (x10 := x10) (x11 := x11) (x12 := x12) (x14 := x14) (x16 := x16) (x18 := x18) (k := k + 1) (y := .non) R.len fun t rest ht => bad_any ok R.asc (by omega) ht (oddC_ok .non (by simp) t _)
  obtain ⟨p2, q2, h2⟩ := a12_turn (cA := cA) (x2 := x2) (x3 := x3) (x4 := x4) (x5 := x5) (x6 := x6) (x7 := x7) (x8 := x8) (x9 := x9) (x10 := x10) (x11 := x11) (x12 := x12) (x14 := .val p1) (x16 := .val q1) (x18 := x18) (k := k + 1) (y := odd77 c.1) R.len fun t rest ht => bad_next ok R.asc hc (odd77_cm hcc.b1) (by show ¬ c.1 < c.1; omega) ht
  have hx : e2 ixT (e1 seqT (e2 ixT (eVS 17) (e2 subT (eV 15) (eC (.int 1))))) (eC (.int 0)) (V x2 x3 x4 x5 x6 x7 x8 x9 x10 x11 x12 x13 x14 (.val (.int ((k + 1 : Nat) : Int))) x16 (.val (.lst (rs.map cm))) x18) = .ret (fr c.1) :=
    v_2 (v_1 (v_2 (v_seq rfl rfl) (v_2 (v_var rfl) v_c (subT_int _ _)) (ix_at (k := k) (y := cm c) (by rw [List.getElem?_map, hc]; rfl) (by omega))) rfl) v_c rfl
  refine ⟨_, _, _, ⟨?_, ?_, ?_⟩, g_for (ts := [.non, odd77 c.1]) (v_1 (v_tup (v_cons v_c (v_cons (v_tup (ts := [fr c.1, .tup [.int 77, .int 1]]) (v_cons hx (v_cons rfl v_nil)) (by simp)) v_nil)) (by simp)) rfl) (for_next rfl h1 (for_next rfl h2 rfl))⟩
  · rfl
  · rfl
  · rfl
theorem a13_turn {y : T} (h : m_first_bad_comer cA [y] = .ret (.int 0)) : ∃ t11, a13B cA (V x2 x3 x4 x5 x6 x7 x8 x9 x10 x11 x12 (.val y) x14 x15 x16 x17 x18) = .ret (.next (V x2 x3 x4 x5 x6 x7 x8 x9 x10 (.val t11) x12 (.val y) x14 x15 x16 x17 x18)) := by
  have b := ask_comers (cA := cA) (u := .non) h
  have h1 : eTried "told" [("BadComers", "comers"), ("BadMoment", "moment")] (eCall (m_rate_at cA) (aCons (eV 13) (aCons (eC .non) aNil))) (V x2 x3 x4 x5 x6 x7 x8 x9 x10 x11 x12 (.val y) x14 x15 x16 x17 x18) = .ret (.tup [.str "comers", .int 0]) :=
    tried_exc (exc_call (v_cons (v_var rfl) (v_cons v_c v_nil)) b.1) (by decide +kernel)
  have h2 : eTried "told" [("BadComers", "comers"), ("BadMoment", "moment")] (eCall (m_come_by cA) (aCons (eV 13) (aCons (eC .non) aNil))) (V x2 x3 x4 x5 x6 x7 x8 x9 x10 (.own [.tup [.str "comers", .int 0]]) x12 (.val y) x14 x15 x16 x17 x18) = .ret (.tup [.str "comers", .int 0]) :=
    tried_exc (exc_call (v_cons (v_var rfl) (v_cons v_c v_nil)) b.2) (by decide +kernel)
  refine ⟨.lst [.tup [.str "comers", .int 0], .tup [.str "comers", .int 0]], ?_⟩
  refine g_seq (ρ' := V x2 x3 x4 x5 x6 x7 x8 x9 x10 (.own [.tup [.str "comers", .int 0]]) x12 (.val y) x14 x15 x16 x17 x18) ?_ (g_seq (ρ' := V x2 x3 x4 x5 x6 x7 x8 x9 x10 (.own [.tup [.str "comers", .int 0], .tup [.str "comers", .int 0]]) x12 (.val y) x14 x15 x16 x17 x18) ?_ ?_)
  · show M.bind (nLst _ _) _ = _
    rw [v_lst (v_cons h1 v_nil) (by simp)]
    rfl
  · show M.bind (eTried _ _ _ _) _ = _
    rw [h2]
    rfl
  · show sIf _ _ _ (V x2 x3 x4 x5 x6 x7 x8 x9 x10 (.val (.lst [.tup [.str "comers", .int 0], .tup [.str "comers", .int 0]])) x12 (.val y) x14 x15 x16 x17 x18) = _
    have ne : DP.neT (.lst [.tup [.str "comers", .int 0], .tup [.str "comers", .int 0]]) (.lst [.tup [.str "comers", .int 0], .tup [.str "comers", .int 0]]) = .ret (.bl false) := by kernel_rfl
    exact g_ifF (v_bool (v_2 (v_var rfl) (by kernel_rfl) ne)) rfl
theorem a13_ok (n11 : x11.isOwn = false) (n13 : x13.isOwn = false) : ∃ y11 y13, (y11.isOwn = false ∧ y13.isOwn = false) ∧
    a13 cA (V x2 x3 x4 x5 x6 x7 x8 x9 x10 x11 x12 x13 x14 x15 x16 x17 x18) = .ret (.next (V x2 x3 x4 x5 x6 x7 x8 x9 x10 y11 x12 y13 x14 x15 x16 x17 x18)) := by
  obtain ⟨ρ', e, y11, y13, hn, rfl⟩ := for_all (bd := bName 13) (G := a13B cA)
    (fun _ ρ => ∃ y11 y13, (y11.isOwn = false ∧ y13.isOwn = false) ∧ ρ = V x2 x3 x4 x5 x6 x7 x8 x9 x10 y11 x12 y13 x14 x15 x16 x17 x18) (xs := oddT cA)
    (ρ := V x2 x3 x4 x5 x6 x7 x8 x9 x10 x11 x12 x13 x14 x15 x16 x17 x18) ⟨_, _, ⟨n11, n13⟩, rfl⟩ fun j u ρ hu ⟨y11, y13, _, e⟩ => by
      subst e
      obtain ⟨t11, h⟩ := a13_turn (cA := cA) (x2 := x2) (x3 := x3) (x4 := x4) (x5 := x5) (x6 := x6) (x7 := x7) (x8 := x8) (x9 := x9) (x10 := x10) (x11 := y11) (x12 := x12) (x14 := x14) (x15 := x15) (x16 := x16) (x17 := x17) (x18 := x18) (oddT_ok (cA := cA) u (List.mem_of_getElem? hu))
      exact ⟨_, _, rfl, h, _, _, ⟨rfl, rfl⟩, rfl⟩
  exact ⟨y11, y13, hn, g_for (by kernel_rfl) e⟩
theorem held_ok {cs : List (Int × Int)} (h : m_told_comers cA [.lst (cs.map cm)] = .ret (.lst (cs.map cm)))
    (no : (x2.isOwn = false ∧ x4.isOwn = false ∧ x5.isOwn = false ∧ x6.isOwn = false ∧ x7.isOwn = false ∧ x8.isOwn = false) ∧ (x9.isOwn = false ∧ x10.isOwn = false ∧ x11.isOwn = false ∧ x12.isOwn = false ∧ x13.isOwn = false) ∧ x14.isOwn = false ∧ x15.isOwn = false ∧ x16.isOwn = false ∧ x17.isOwn = false) :
    a15 cA (V x2 (.val (.lst (cs.map cm))) x4 x5 x6 x7 x8 x9 x10 x11 x12 x13 x14 x15 x16 x17 (.own [.int 1, .int (-1)])) = .ret (.next (V x2 (.val (.lst (cs.map cm))) x4 x5 x6 x7 x8 x9 x10 (.val (.tup [.str "moment", .lst [.int 1, .int (-1), .str "late"]])) x12 x13 x14 x15 x16 x17 .any)) := by
  have hf : ∀ a : Addr, eTried "told" [("BadComers", "comers"), ("BadMoment", "moment")] (eCall (m_rate_at cA) (aCons (eV 3) (aCons (eV 18) aNil))) ((V x2 (.val (.lst (cs.map cm))) x4 x5 x6 x7 x8 x9 x10 x11 x12 x13 x14 x15 x16 x17 (.own [.int 1, .int (-1)])).set 18 (.val (.pn a [.int 1, .int (-1)]))) = .ret (.tup [.str "moment", .pn a [.int 1, .int (-1)]]) := fun a =>
    tried_exc (exc_call (v_cons (v_var rfl) (v_cons (v_var rfl) v_nil)) (ask_moment h (by kernel_rfl)).1) (by decide +kernel)
  have hn : (okLen [T.int 1, T.int (-1)].length && ((V x2 (.val (.lst (cs.map cm))) x4 x5 x6 x7 x8 x9 x10 x11 x12 x13 x14 x15 x16 x17 (.own [.int 1, .int (-1)])).set 18 .any).all fun y => !y.isOwn) = true := by
    obtain ⟨⟨n1, n2, n3, n4, n5, n6⟩, ⟨n7, n8, n9, n10, n11⟩, n12, n13, n14, n15⟩ := no
    show (okLen 2 && (V x2 (.val (.lst (cs.map cm))) x4 x5 x6 x7 x8 x9 x10 x11 x12 x13 x14 x15 x16 x17 .any).all fun y => !y.isOwn) = true
    have b1 : Sl.any.isOwn = false := rfl
    have b2 : Sl.strm.isOwn = false := rfl
    have b3 : ∀ t, (Sl.val t).isOwn = false := fun _ => rfl
    simp [okLen, V, n1, n2, n3, n4, n5, n6, n7, n8, n9, n10, n11, n12, n13, n14, n15, b1, b2, b3]
  show sHeld 18 11 _ _ _ _ = _
  unfold sHeld
  have ho : ownL 18 (V x2 (.val (.lst (cs.map cm))) x4 x5 x6 x7 x8 x9 x10 x11 x12 x13 x14 x15 x16 x17 (.own [.int 1, .int (-1)])) = some [.int 1, .int (-1)] := rfl
  rw [ho]
  dsimp only
  rw [if_pos ⟨hf, hn⟩]
  rfl
end
end Tw
end
section
set_option Elab.async false
set_option linter.all false
set_option maxRecDepth 100000
set_option maxHeartbeats 0
namespace Tw
open PySem PySem.Spec PyProof.Rows L2 DP
variable {cA : Str → Addr}
noncomputable abbrev turnB (cA : Str → Addr) : Env' → M Fl := (sSeq (sSet 3 (eCallS 1 (m__law_comers cA) (aCons (eC (.int 6)) aNil)))
  (sSeq (sParN [4, 5] (pCons (eCallS 1 (m__law_raw_comers cA) (aCons (eV 3) aNil)) (pCons (eCallS 1 (m__law_split cA) (aCons (eV 3) aNil)) pNil)))
  (sSeq (sSet 6 (e1 reprT (aCons (eV 4) aNil)))
  (sSeq (sOwn 7 (nLc [19] (e1 itemsT (eV 3)) (bName 19) cYes (e2 ixT (eVS 19) (eC (.int 0)))))
  (sSeq (sExt 7 (e1 seqN (nLc [20] (e1 rng1 (aCons (eC (.int 4)) aNil)) (bName 20) cYes (eCall (m__law_low cA) (aCons (eCallS 1 (m__law_draw cA) (aCons (eC (.int 200)) aNil)) (aCons (e2 addT (eC (.int 1)) (eCallS 1 (m__law_draw cA) (aCons (eC (.int 4)) aNil))) aNil))))))
  (sFz 7 (sSeq (sFor (e1 itemsT (eV 7)) (bName 8) (sSeq (sSet 9 (e1 lstT (nLst (aCons (eCall (m__law_rate_at cA) (aCons (eV 3) (aCons (eV 8) aNil))) (aCons (eCall (m__law_come cA) (aCons (eV 3) (aCons (eV 8) aNil))) aNil)))))
  (sSeq (sSet 10 (eCallS 1 (m__law_raw cA) (aCons (eV 8) aNil)))
  (sSeq (sOwn 11 (nLst (aCons (eCall (m_rate_at cA) (aCons (eV 4) (aCons (eV 10) aNil))) (aCons (eCall (m_come_by cA) (aCons (eV 4) (aCons (eV 10) aNil))) aNil))))
  (sSeq (sSet 12 (e1 lstT (nLst (aCons (eCallK swp (m_rate_at cA) (aCons (eV 8) (aCons (eV 5) aNil))) (aCons (eCallK swp (m_come_by cA) (aCons (eV 8) (aCons (eV 5) aNil))) aNil)))))
  (sFz 11 (sIf (eOr (eNot (e1 boolT (eCall (m__law_same cA 40) (aCons (eV 11) (aCons (eV 9) aNil))))) (eOr (eNot (e1 boolT (eCall (m__law_same cA 40) (aCons (eV 12) (aCons (eV 9) aNil))))) (e1 boolT (e2 neT (e1 reprT (aCons (eV 4) aNil)) (eV 6))))) (sRet (eC (.bl false))) sNext)))))))
  (sSeq (sFor (e1 itemsT (e1 lstT (nLst (aCons (eC .non) (aCons (eC (.int 5)) (aCons (eTup (aCons (eC (.int 1)) aNil)) (aCons (eTup (aCons (eC (.int 1)) (aCons (eC (.int 0)) aNil))) (aCons (eTup (aCons (e1 negT (eC (.int 1))) (aCons (eC (.int 1)) aNil))) (aCons (eTup (aCons (eC (.int 1)) (aCons (eC (.int 1)) (aCons (eC (.int 1)) aNil)))) (aCons (eC (.bl true)) (aCons (eC (.str "1")) (aCons (eTup (aCons (eC (.bl true)) (aCons (eC (.int 1)) aNil))) (aCons (eTup (aCons (eC (.int 1)) (aCons (eC (.bl true)) aNil))) (aCons (eC (.dct [])) (aCons (e1 lstT (nLst aNil)) (aCons (eTup (aCons (eTup (aCons (eC (.int 0)) (aCons (eC (.int 1)) aNil))) (aCons (eC (.int 1)) aNil))) aNil)))))))))))))))) (bName 13) (sFor (e1 itemsT (eTup (aCons (eC (.fn (cA "rate_at"))) (aCons (eC (.fn (cA "come_by"))) aNil)))) (bName 14) (sIf (eNot (e1 boolT (eCall (m__law_same cA 40) (aCons (eTried "told" [("BadComers", "comers"), ("BadMoment", "moment")] (eCallV 14 (cA "rate_at") (m_rate_at cA) (cA "come_by") (m_come_by cA) (aCons (eV 4) (aCons (eV 13) aNil)))) (aCons (eTup (aCons (eC (.str "moment")) (aCons (eV 13) aNil))) aNil))))) (sRet (eC (.bl false))) sNext)))
  (sSeq (sSet 15 (eCallS 1 (m__law_draw cA) (aCons (e2 addT (e1 lenT (eVS 3)) (eC (.int 1))) aNil)))
  (sSeq (sFor (e1 itemsT (eCall (m__law_odds cA) (aCons (eV 3) (aCons (eV 15) aNil)))) (bName 13) (sSeq (sSet 16 (e1 lstT (e2 nCat (e1 seqN (e2 nCat (e1 seqN (nSl (eVS 3) oNone (oSome (eV 15)))) (e1 seqN (nLst (aCons (eV 13) (aCons (eC .non) aNil)))))) (e1 seqN (nSl (eVS 3) (oSome (eV 15)) oNone)))))
  (sSeq (sSet 16 (eIf (e1 boolT (e2 eqT (eCallS 1 (m__law_draw cA) (aCons (eC (.int 2)) aNil)) (eC (.int 0)))) (eV 16) (e1 tupT (eVS 16))))
  (sFor (e1 itemsT (eTup (aCons (eC (.fn (cA "rate_at"))) (aCons (eC (.fn (cA "come_by"))) aNil)))) (bName 14) (sIf (eNot (e1 boolT (eCall (m__law_same cA 40) (aCons (eTried "told" [("BadComers", "comers"), ("BadMoment", "moment")] (eCallV 14 (cA "rate_at") (m_rate_at cA) (cA "come_by") (m_come_by cA) (aCons (eV 16) (aCons (eC .non) aNil)))) (aCons (eTup (aCons (eC (.str "comers")) (aCons (eV 15) aNil))) aNil))))) (sRet (eC (.bl false))) sNext)))))
  (sSeq (sSet 17 (eCallS 1 (m__law_split cA) (aCons (eV 3) aNil)))
  (sSeq (sSet 15 (e2 addT (eC (.int 1)) (eCallS 1 (m__law_draw cA) (aCons (e1 lenT (eVS 17)) aNil))))
  (sSeq (sFor (e1 itemsT (eTup (aCons (eC .non) (aCons (eTup (aCons (e2 ixT (e1 seqT (e2 ixT (eVS 17) (e2 subT (eV 15) (eC (.int 1))))) (eC (.int 0))) (aCons (eTup (aCons (eC (.int 77)) (aCons (eC (.int 1)) aNil))) aNil))) aNil)))) (bName 13) (sSeq (sSet 16 (e1 lstT (e2 nCat (e1 seqN (e2 nCat (e1 seqN (nSl (eVS 17) oNone (oSome (eV 15)))) (e1 seqN (nLst (aCons (eV 13) aNil))))) (e1 seqN (nSl (eVS 17) (oSome (eV 15)) oNone)))))
  (sFor (e1 itemsT (eTup (aCons (eC (.fn (cA "rate_at"))) (aCons (eC (.fn (cA "come_by"))) aNil)))) (bName 14) (sIf (eNot (e1 boolT (eCall (m__law_same cA 40) (aCons (eTried "told" [("BadComers", "comers"), ("BadMoment", "moment")] (eCallV 14 (cA "rate_at") (m_rate_at cA) (cA "come_by") (m_come_by cA) (aCons (eV 16) (aCons (eC .non) aNil)))) (aCons (eTup (aCons (eC (.str "comers")) (aCons (eV 15) aNil))) aNil))))) (sRet (eC (.bl false))) sNext))))
  (sSeq (sFor (e1 itemsT (e1 lstT (nLst (aCons (eC .non) (aCons (eC (.int 5)) (aCons (eC (.str "ab")) (aCons (eC (.dct [])) (aCons (eC (.bl true)) (aCons (e1 lstT (nLst aNil)) (aCons (eTup aNil) (aCons (eC (.fn (cA "_law_draw"))) aNil))))))))))) (bName 13) (sSeq (sOwn 11 (nLst (aCons (eTried "told" [("BadComers", "comers"), ("BadMoment", "moment")] (eCall (m_rate_at cA) (aCons (eV 13) (aCons (eC .non) aNil)))) aNil)))
  (sSeq (sApp 11 (eTried "told" [("BadComers", "comers"), ("BadMoment", "moment")] (eCall (m_come_by cA) (aCons (eV 13) (aCons (eC .non) aNil)))))
  (sFz 11 (sIf (e1 boolT (e2 neT (eV 11) (e1 lstT (e2 nRep (e1 seqN (nLst (aCons (eTup (aCons (eC (.str "comers")) (aCons (eC (.int 0)) aNil))) aNil))) (eC (.int 2)))))) (sRet (eC (.bl false))) sNext)))))
  (sSeq (sOwn 18 (nLst (aCons (eC (.int 1)) (aCons (e1 negT (eC (.int 1))) aNil))))
  (sSeq (sHeld 18 11 (eTried "told" [("BadComers", "comers"), ("BadMoment", "moment")] (eCall (m_rate_at cA) (aCons (eV 3) (aCons (eV 18) aNil)))) "moment" "late")
  (sFz 11 (sIf (eNot (e1 boolT (eCall (m__law_same cA 40) (aCons (eV 11) (aCons (eTup (aCons (eC (.str "moment")) (aCons (e1 lstT (nLst (aCons (eC (.int 1)) (aCons (e1 negT (eC (.int 1))) (aCons (eC (.str "late")) aNil))))) aNil))) aNil))))) (sRet (eC (.bl false))) sNext))))))))))))))))))
def Free (ρ : Env') : Prop := ∃ x2 x3 x4 x5 x6 x7 x8 x9 x10 x11 x12 x13 x14 x15 x16 x17 x18 : Sl,
  ((x2.isOwn = false ∧ x3.isOwn = false ∧ x4.isOwn = false ∧ x5.isOwn = false ∧ x6.isOwn = false ∧ x7.isOwn = false) ∧ (x8.isOwn = false ∧ x9.isOwn = false ∧ x10.isOwn = false ∧ x11.isOwn = false ∧ x12.isOwn = false ∧ x13.isOwn = false) ∧ (x14.isOwn = false ∧ x15.isOwn = false ∧ x16.isOwn = false ∧ x17.isOwn = false ∧ x18.isOwn = false)) ∧
  ρ = V x2 x3 x4 x5 x6 x7 x8 x9 x10 x11 x12 x13 x14 x15 x16 x17 x18
theorem late_ok : Refl cA 40 (.tup [.str "moment", .lst [.int 1, .int (-1), .str "late"]]) := by unfold Refl; kernel_rfl
theorem fz_next {i : Nat} {G : Env' → M Fl} {ρ ρ' : Env'} {n : Nat} {P : Fl → Prop} (h : fz i ρ = ρ') (k : Tk (G ρ') n P) : Tk (sFz i G ρ) n P := by
  unfold sFz
  rw [h]
  exact k
theorem det {G1 G2 : Env' → M Fl} {ρ ρ' : Env'} {n : Nat} {P : Fl → Prop} (h : G1 ρ = .ret (.next ρ')) (k : Tk (G2 ρ') n P) : Tk (sSeq G1 G2 ρ) n P := by
  refine (Tk.seq (n := 0) (n2 := n) (I := fun r => r = ρ') (Tk.eq h ⟨_, rfl, rfl⟩) ?_).le (by omega)
  rintro _ rfl
  exact k
theorem turn_ok {ρ : Env'} (h : Free ρ) : Tk (turnB cA ρ) 151 (fun fl => ∃ ρ', fl = .next ρ' ∧ Free ρ') := by
  obtain ⟨x2, x3, x4, x5, x6, x7, x8, x9, x10, x11, x12, x13, x14, x15, x16, x17, x18, ⟨⟨n2, n3, n4, n5, n6, n7⟩, ⟨n8, n9, n10, n11, n12, n13⟩, n14, n15, n16, n17, n18⟩, rfl⟩ := h
  refine Tk.seq (n := 26) (n2 := 125) (a0_ok (cA := cA)) ?_
  rintro _ ⟨cs, G, rfl⟩
  refine Tk.seq (n := 50) (n2 := 75) (a1_ok (cA := cA) G) ?_
  rintro _ ⟨t, rs, w, D, rfl⟩
  have hl := G.len
  refine det (a2_ok (cA := cA) D) ?_
  refine det (a3_ok (cA := cA) (by omega)) ?_
  refine Tk.seq (n := 8) (n2 := 67) (a4_ok (cA := cA) (ms := cs.map (·.1)) (fun n hn => ?_) (by rw [List.length_map]; omega)) ?_
  · obtain ⟨c, hc, rfl⟩ := List.mem_map.mp hn
    have k := G.okC c hc
    exact ⟨k.d1, k.b1⟩
  rintro _ ⟨ns, hns, nl, rfl⟩
  refine fz_next rfl ?_
  refine Tk.seq (n := 28) (n2 := 39) (a6_ok (cA := cA) D hns nl n8 n9 n10 n11 n12) ?_
  rintro _ ⟨y8, y9, y10, y11, y12, ⟨m8, m9, m10, m11, m12⟩, rfl⟩
  obtain ⟨y13, y14, ⟨m13, m14⟩, h7⟩ := a7_ok (cA := cA) (x2 := x2) (x3 := .val (.lst (cs.map cm))) (x5 := .val (.lst (rs.map cm))) (x6 := .val (.str w)) (x7 := .val (.lst (ns.map fr))) (x8 := y8) (x9 := y9) (x10 := y10) (x11 := y11) (x12 := y12) (x13 := x13) (x14 := x14) (x15 := x15) (x16 := x16) (x17 := x17) (x18 := x18) D.told n13 n14
  refine det h7 ?_
  refine Tk.seq (n := 1) (n2 := 38) (a8_ok (cA := cA) (by omega)) ?_
  rintro _ ⟨k, hk, rfl⟩
  refine Tk.seq (n := 30) (n2 := 8) (a9_ok (cA := cA) G hk m13 m14 n16) ?_
  rintro _ ⟨z13, z14, z16, ⟨p13, p14, p16⟩, rfl⟩
  refine Tk.seq (n := 7) (n2 := 1) (a10_ok (cA := cA) G) ?_
  rintro _ ⟨qs, R, rfl⟩
  refine Tk.seq (n := 1) (n2 := 0) (a11_ok (cA := cA) R.ne (by have := R.len; omega)) ?_
  rintro _ ⟨k2, hk2, rfl⟩
  obtain ⟨u13, u14, u16, ⟨q13, q14, q16⟩, h12⟩ := a12_ok (cA := cA) (x2 := x2) (x3 := .val (.lst (cs.map cm))) (x4 := .val t) (x5 := .val (.lst (rs.map cm))) (x6 := .val (.str w)) (x7 := .val (.lst (ns.map fr))) (x8 := y8) (x9 := y9) (x10 := y10) (x11 := y11) (x12 := y12) (x13 := z13) (x14 := z14) (x16 := z16) (x18 := x18) R hk2 p13 p14 p16
  refine det h12 ?_
  obtain ⟨v11, v13, ⟨r11, r13⟩, h13⟩ := a13_ok (cA := cA) (x2 := x2) (x3 := .val (.lst (cs.map cm))) (x4 := .val t) (x5 := .val (.lst (rs.map cm))) (x6 := .val (.str w)) (x7 := .val (.lst (ns.map fr))) (x8 := y8) (x9 := y9) (x10 := y10) (x11 := y11) (x12 := y12) (x13 := u13) (x14 := u14) (x15 := .val (.int ((k2 + 1 : Nat) : Int))) (x16 := u16) (x17 := .val (.lst (qs.map cm))) (x18 := x18) m11 q13
  refine det h13 ?_
  have h14 : a14 cA (V x2 (.val (.lst (cs.map cm))) (.val t) (.val (.lst (rs.map cm))) (.val (.str w)) (.val (.lst (ns.map fr))) y8 y9 y10 v11 y12 v13 u14 (.val (.int ((k2 + 1 : Nat) : Int))) u16 (.val (.lst (qs.map cm))) x18) = .ret (.next (V x2 (.val (.lst (cs.map cm))) (.val t) (.val (.lst (rs.map cm))) (.val (.str w)) (.val (.lst (ns.map fr))) y8 y9 y10 v11 y12 v13 u14 (.val (.int ((k2 + 1 : Nat) : Int))) u16 (.val (.lst (qs.map cm))) (.own [.int 1, .int (-1)]))) := rfl
  refine det h14 ?_
  have h15 := held_ok (cA := cA) (x2 := x2) (x4 := .val t) (x5 := .val (.lst (rs.map cm))) (x6 := .val (.str w)) (x7 := .val (.lst (ns.map fr))) (x8 := y8) (x9 := y9) (x10 := y10) (x11 := v11) (x12 := y12) (x13 := v13) (x14 := u14) (x15 := .val (.int ((k2 + 1 : Nat) : Int))) (x16 := u16) (x17 := .val (.lst (qs.map cm))) D.toldC ⟨⟨n2, rfl, rfl, rfl, rfl, m8⟩, ⟨m9, m10, r11, m12, r13⟩, q14, rfl, q16, rfl⟩
  refine det h15 ?_
  refine fz_next rfl ?_
  refine Tk.eq (a := .next (V x2 (.val (.lst (cs.map cm))) (.val t) (.val (.lst (rs.map cm))) (.val (.str w)) (.val (.lst (ns.map fr))) y8 y9 y10 (.val (.tup [.str "moment", .lst [.int 1, .int (-1), .str "late"]])) y12 v13 u14 (.val (.int ((k2 + 1 : Nat) : Int))) u16 (.val (.lst (qs.map cm))) .any)) ?_ ⟨_, rfl, _, _, _, _, _, _, _, _, _, _, _, _, _, _, _, _, _, ⟨⟨n2, rfl, rfl, rfl, rfl, rfl⟩, ⟨m8, m9, m10, rfl, m12, r13⟩, q14, rfl, q16, rfl, rfl⟩, rfl⟩
  exact g_ifF (v_not (cb := true) (v_bool (v_call (v_cons (v_var rfl) (v_cons rfl v_nil)) (late_ok (cA := cA))))) rfl
theorem free0 : Free ((List.replicate 21 Sl.any).set 1 .strm) := ⟨.any, .any, .any, .any, .any, .any, .any, .any, .any, .any, .any, .any, .any, .any, .any, .any, .any, ⟨⟨rfl, rfl, rfl, rfl, rfl, rfl⟩, ⟨rfl, rfl, rfl, rfl, rfl, rfl⟩, rfl, rfl, rfl, rfl, rfl⟩, rfl⟩
theorem law_ok : Tk (G_law cA ((List.replicate 21 Sl.any).set 1 .strm)) 906 (fun fl => fl = .ret (.bl true)) := by
  unfold G_law
  refine Tk.seq (n := 906) (n2 := 0) (I := fun _ => True) ?_ fun ρ' _ => Tk.eq rfl rfl
  refine (Tk.sFor (bd := bName 2) (G := turnB cA) (n := 0) (c := 151) (L := 6) (A := fun ts => ts.length = 6) (fun _ ρ => Free ρ) (Tk.eq rfl rfl) (fun ts h => by omega) free0 ?_).imp ?_
  · rintro ts _ j u ρ hu ⟨x2, x3, x4, x5, x6, x7, x8, x9, x10, x11, x12, x13, x14, x15, x16, x17, x18, ⟨⟨n2, nA⟩, nB⟩, rfl⟩
    exact ⟨_, rfl, turn_ok ⟨.val u, x3, x4, x5, x6, x7, x8, x9, x10, x11, x12, x13, x14, x15, x16, x17, x18, ⟨⟨rfl, nA⟩, nB⟩, rfl⟩⟩
  · rintro fl ⟨ρ', ts, e, _, _⟩
    exact ⟨_, e, trivial⟩
end Tw
end
section
namespace Tw
open PySem PySem.Spec PyProof.Rows L2 DP
theorem good {cA : Str → Addr} : (G_law cA ((List.replicate 21 Sl.any).set 1 .strm)).wp (10 ^ 13) (fun _ fl => fl = .ret (.bl true)) fun _ _ _ => False := law_ok.good (by decide) fun _ _ p => p
end Tw
end
set_option Elab.async false
set_option linter.all false
set_option maxRecDepth 100000
set_option maxHeartbeats 0
open PySem PySem.W PySem.Calls PyProof.Rows DP
theorem PySem.Challenge.cw_quickbythen_k02_whole_comers_holds : PySem.Challenge.rw_quickbythen_k02_whole_comers.Holds := by
  w_on; o_law
  refine HandSHeadRun.head_imp (r := OpenLaw.row PySem.Challenge.rw_quickbythen_k02_whole_comers) (q := view (OpenLaw.row PySem.Challenge.rw_quickbythen_k02_whole_comers).prog [0, 47]) (H := Tw.hk) (ob := Tw.ob) (M := 20000) (loose := Tw.loose) (d := HandSHeadRun.topDef (OpenLaw.row PySem.Challenge.rw_quickbythen_k02_whole_comers).prog 47) (kwd := []) Tw.ob_eq
    Tw.run (by kernel_rfl) (by kernel_rfl) (by kernel_rfl) (by rfl) (by first | assumption | decide +kernel) (by decide +kernel) ⟨rfl, rfl, rfl, rfl, rfl, by decide +kernel⟩ ?hw ?hc
  case hw => w_witness2
  case hc =>
    refine walk_topT (l := PySem.Challenge.rw_quickbythen_k02_whole_comers) (n := 63) (x := "_law_script") rfl (by decide) (by kernel_rfl) ?F
    intro w mg fa h Y G hmg0
    obtain ⟨K, KX, cx⟩ := Y
    have c := saysF_of cx
    have hmg : mg ("law" : PySem.Str) = some (.ref fa) := by
      have e : (HandSHeadRun.topDef (OpenLaw.row PySem.Challenge.rw_quickbythen_k02_whole_comers).prog 47).name = ("law" : PySem.Str) := by kernel_rfl
      rw [← e]
      exact hmg0
    obtain ⟨Y, aL⟩ := Tw.txa KX G c
    have e := hmg.symm.trans Y.mg_law
    cases e
    have tfm : (("law", none) : He.Defn) ∈ Tw.tf := List.mem_singleton.mpr rfl
    refine ⟨K, Y.d_law, spLawT K [((He.cT K ("law", none)).2, ("law" : PySem.Str) ++ ".<locals>." ++ "<lambda>")], [He.cT K ("law", none)], KX, fun p hp => ?_, fun p hp => ?_, fun p hp => ?_, bt_of (y := "_law_script") Y.F_law fun _ _ _ _ _ _ us hl => match us, hl with | [_], _ => rfl, fun H a ns hl hT hS => ⟨fun p hp => ?_, a, ns, rfl, hS, fun _ => rfl⟩, fun base TB => Tw.ok_law Y (TB _ (List.mem_singleton.mpr rfl)) (fun cdv hc => code_eq (by rw [aL]; rfl) hc) Tw.good⟩
    · rw [List.mem_singleton.mp hp]; exact cx.empty _ tfm
    · rw [List.mem_singleton.mp hp]; exact cx.out _ tfm
    · rw [List.mem_singleton.mp hp]; exact PySem.W.codeHd_of_K KX (cx.hd _ tfm)
    · rw [List.mem_singleton.mp hp]; exact hT _ (List.mem_singleton.mpr rfl)
