import PyProof.Rows.All
import Wide.All
import OpenK.AllK
import Wide.FinOn
import HandS.ForMost
import HandS.ForExc
import HandS.Wide
import HandS.CallSlots
import HandS.TupSets
import HandS.Lambda
import HandS.Deep
import HandS.IsInst
import HandS.Gcd
import HandS.Style
import HandS.NoneIn
import HandS.Walk
import HandS.ExcOwn
import HandS.CallLocal
import HandS.Conv
import PyProof.IsiStr
import PyProof.FactsAll.object
import HandS.Zip
import HandS.ExcInit
import HandS.SortInts
import PyProof.Draws
import PyProof.EnumMake
import HandS.ExcField
import HandS.HeadHook2
import HandS.ListItems
import HandS.Small
import HandS.RaiseMore
import PyProof.ReprRoads
import HandS.SetFor
import HandS.Strs
import HandS.HeadEnd
import HandS.TryMany
import HandS.Head0
import HandS.Head1
import HandS.Head2
import HandS.HeadHook1
import HandS.EndTab
import HandS.HeadHook3
import HandS.HeadHook4
import HandS.Head3
import PySem.Challenge.RW_quickbythen_k42_cuts
set_option Elab.async false
section
set_option Elab.async false
set_option linter.all false
set_option maxRecDepth 100000
/-! Values at any depth, and programs upon them: a layer over HandS. -/
namespace DP
open PySem PySem.Spec PyProof.Rows L2

/-- a value at any depth -/
inductive T where
  | non | bl (b : Bool) | int (i : Int) | str (x : Str)
  | tup (xs : List T) | lst (xs : List T) | dct (kvs : List (Key × T))
  | obj (C : Addr) (fs : List (Str × T)) | fn (a : Addr) | pn (a : Addr) (xs : List T)
  deriving Inhabited

abbrev KF := PySem.W.Frag
abbrev Sg := List (Option V)

mutual
/-- v stands for t, by what the heap F holds -/
inductive Rep (K : KF) (F : Hp) : V → T → Prop
  | non : Rep K F .non .non
  | bl (b : Bool) : Rep K F (.bl b) (.bl b)
  | int (i : Int) : Rep K F (.int i) (.int i)
  | str (x : Str) : Rep K F (.str x) (.str x)
  | tup {a : Addr} {vs : List V} {ts : List T} : SqT K F a vs → Reps K F vs ts → Rep K F (.ref a) (.tup ts)
  | lst {a : Addr} {vs : List V} {ts : List T} : F a = some (.lst vs) → Reps K F vs ts → Rep K F (.ref a) (.lst ts)
  | dct {a : Addr} {vs : List (Key × V)} {ts : List (Key × T)} : F a = some (.dK vs) → RepK K F vs ts → Rep K F (.ref a) (.dct ts)
  | obj {a dx C : Addr} {vs : List (Str × V)} {ts : List (Str × T)} : F a = some (.ins C dx vs) → RepF K F vs ts → Rep K F (.ref a) (.obj C ts)
  | fn {a : Addr} : PySem.W.typeIn K (.ref a) = some (.type "function") → Rep K F (.ref a) (.fn a)
  | pn {a : Addr} {vs : List V} {ts : List T} : F a = some (.lst vs) → Reps K F vs ts → Rep K F (.ref a) (.pn a ts)
inductive Reps (K : KF) (F : Hp) : List V → List T → Prop
  | nil : Reps K F [] []
  | cons {v : V} {vs : List V} {t : T} {ts : List T} : Rep K F v t → Reps K F vs ts → Reps K F (v :: vs) (t :: ts)
inductive RepK (K : KF) (F : Hp) : List (Key × V) → List (Key × T) → Prop
  | nil : RepK K F [] []
  | cons {k : Key} {v : V} {vs : List (Key × V)} {t : T} {ts : List (Key × T)} : Rep K F v t → RepK K F vs ts → RepK K F ((k, v) :: vs) ((k, t) :: ts)
inductive RepF (K : KF) (F : Hp) : List (Str × V) → List (Str × T) → Prop
  | nil : RepF K F [] []
  | cons {k : Str} {v : V} {vs : List (Str × V)} {t : T} {ts : List (Str × T)} : Rep K F v t → RepF K F vs ts → RepF K F ((k, v) :: vs) ((k, t) :: ts)
end

/-- what was known is known -/
abbrev Ext (F F' : Hp) : Prop := Same F F'

mutual
theorem Rep.ext {K : KF} {F F' : Hp} (e : Ext F F') : ∀ {t : T} {v : V}, Rep K F v t → Rep K F' v t
  | _, _, .non => .non
  | _, _, .bl b => .bl b
  | _, _, .int i => .int i
  | _, _, .str x => .str x
  | _, _, .tup (vs := vs) h r => .tup (by
      rcases h with (h | ⟨o, h⟩) | h
      · exact .inl (.inl (e _ _ h))
      · exact .inl (.inr ⟨o, e _ _ h⟩)
      · exact .inr h) (Reps.ext e r)
  | _, _, .lst h r => .lst (e _ _ h) (Reps.ext e r)
  | _, _, .dct h r => .dct (e _ _ h) (RepK.ext e r)
  | _, _, .obj h r => .obj (e _ _ h) (RepF.ext e r)
  | _, _, .fn h => .fn h
  | _, _, .pn h r => .pn (e _ _ h) (Reps.ext e r)
theorem Reps.ext {K : KF} {F F' : Hp} (e : Ext F F') : ∀ {ts : List T} {vs : List V}, Reps K F vs ts → Reps K F' vs ts
  | _, _, .nil => .nil
  | _, _, .cons h r => .cons (Rep.ext e h) (Reps.ext e r)
theorem RepK.ext {K : KF} {F F' : Hp} (e : Ext F F') : ∀ {ts : List (Key × T)} {vs : List (Key × V)}, RepK K F vs ts → RepK K F' vs ts
  | _, _, .nil => .nil
  | _, _, .cons h r => .cons (Rep.ext e h) (RepK.ext e r)
theorem RepF.ext {K : KF} {F F' : Hp} (e : Ext F F') : ∀ {ts : List (Str × T)} {vs : List (Str × V)}, RepF K F vs ts → RepF K F' vs ts
  | _, _, .nil => .nil
  | _, _, .cons h r => .cons (Rep.ext e h) (RepF.ext e r)
end
theorem Reps.length {K : KF} {F : Hp} : ∀ {vs : List V} {ts : List T}, Reps K F vs ts → vs.length = ts.length
  | _, _, .nil => rfl
  | _, _, .cons _ r => by simp [Reps.length r]
theorem Reps.get {K : KF} {F : Hp} : ∀ {vs : List V} {ts : List T} {i : Nat} {v : V}, Reps K F vs ts → vs[i]? = some v → ∃ t, ts[i]? = some t ∧ Rep K F v t
  | _, _, _, _, .nil, e => by simp at e
  | _, _, 0, _, .cons h _, e => by simp at e; subst e; exact ⟨_, rfl, h⟩
  | _, _, i + 1, v, .cons _ r, e => by simpa using Reps.get (i := i) (v := v) r (by simpa using e)
theorem Reps.get' {K : KF} {F : Hp} : ∀ {vs : List V} {ts : List T} {i : Nat} {t : T}, Reps K F vs ts → ts[i]? = some t → ∃ v, vs[i]? = some v ∧ Rep K F v t
  | _, _, _, _, .nil, e => by simp at e
  | _, _, 0, _, .cons h _, e => by simp at e; subst e; exact ⟨_, rfl, h⟩
  | _, _, i + 1, t, .cons _ r, e => by simpa using Reps.get' (i := i) (t := t) r (by simpa using e)
theorem Reps.append {K : KF} {F : Hp} : ∀ {vs ws : List V} {ts us : List T}, Reps K F vs ts → Reps K F ws us → Reps K F (vs ++ ws) (ts ++ us)
  | _, _, _, _, .nil, s => s
  | _, _, _, _, .cons h r, s => .cons h (Reps.append r s)
theorem Reps.take {K : KF} {F : Hp} : ∀ {vs : List V} {ts : List T} (n : Nat), Reps K F vs ts → Reps K F (vs.take n) (ts.take n)
  | _, _, 0, _ => .nil
  | _, _, _ + 1, .nil => .nil
  | _, _, n + 1, .cons h r => .cons h (Reps.take n r)
theorem Reps.drop {K : KF} {F : Hp} : ∀ {vs : List V} {ts : List T} (n : Nat), Reps K F vs ts → Reps K F (vs.drop n) (ts.drop n)
  | _, _, 0, r => r
  | _, _, _ + 1, .nil => .nil
  | _, _, n + 1, .cons _ r => Reps.drop n r
theorem Reps.one {K : KF} {F : Hp} {v : V} {t : T} (h : Rep K F v t) : Reps K F [v] [t] := .cons h .nil

/-! ### programs: draws, errors -/
inductive M (α : Type) where
  | ret (a : α)
  | draw (n : Int) (k : Int → M α)
  | exc (c : Str) (t : T)
  | stuck

def M.bind {α β : Type} : M α → (α → M β) → M β
  | .ret a, f => f a
  | .draw n k, f => .draw n fun d => (k d).bind f
  | .exc c t, _ => .exc c t
  | .stuck, _ => .stuck

/-- all runs with at most b draws end so -/
def M.wp {α : Type} : M α → Nat → (Nat → α → Prop) → (Nat → Str → T → Prop) → Prop
  | .ret a, b, Q, _ => Q b a
  | .draw n k, b, Q, E => 0 < n ∧ 0 < b ∧ ∀ d, 0 ≤ d → d < n → (k d).wp (b - 1) Q E
  | .exc c t, b, _, E => E b c t
  | .stuck, _, _, _ => False

theorem M.wp_mono {α : Type} : ∀ {m : M α} {b : Nat} {Q Q' : Nat → α → Prop} {E E' : Nat → Str → T → Prop}, m.wp b Q E → (∀ b a, Q b a → Q' b a) → (∀ b c t, E b c t → E' b c t) → m.wp b Q' E'
  | .ret _, _, _, _, _, _, h, q, _ => q _ _ h
  | .draw _ k, _, _, _, _, _, h, q, e => ⟨h.1, h.2.1, fun d h1 h2 => M.wp_mono (m := k d) (h.2.2 d h1 h2) q e⟩
  | .exc _ _, _, _, _, _, _, h, _, e => e _ _ _ h
  | .stuck, _, _, _, _, _, h, _, _ => h.elim
theorem M.wp_bind {α β : Type} : ∀ {m : M α} {f : α → M β} {b : Nat} {Q : Nat → β → Prop} {E : Nat → Str → T → Prop}, (m.bind f).wp b Q E ↔ m.wp b (fun b a => (f a).wp b Q E) E
  | .ret _, _, _, _, _ => Iff.rfl
  | .draw n k, f, b, Q, E => by
    show (0 < n ∧ 0 < b ∧ ∀ d, 0 ≤ d → d < n → ((k d).bind f).wp (b - 1) Q E) ↔ (0 < n ∧ 0 < b ∧ ∀ d, 0 ≤ d → d < n → (k d).wp (b - 1) (fun b a => (f a).wp b Q E) E)
    constructor
    · exact fun h => ⟨h.1, h.2.1, fun d h1 h2 => M.wp_bind.mp (h.2.2 d h1 h2)⟩
    · exact fun h => ⟨h.1, h.2.1, fun d h1 h2 => M.wp_bind.mpr (h.2.2 d h1 h2)⟩
  | .exc _ _, _, _, _, _ => Iff.rfl
  | .stuck, _, _, _, _ => Iff.rfl
instance : Monad M where
  pure := .ret
  bind := .bind

/-- a set's members: tuples of ints that are known -/
structure MemP (K : KF) (F : Hp) (L : List (Addr × List Int)) (ks : List (List Int)) : Prop where
  mem : ∀ p ∈ L, SqT K F p.1 (p.2.map V.int)
  perm : (L.map (·.2)).Perm ks
theorem sqT_ext' {K : KF} {F F' : Hp} (e : Ext F F') {a : Addr} {vs : List V} (h : SqT K F a vs) : SqT K F' a vs := by
  rcases h with (h | ⟨o, h⟩) | h
  · exact .inl (.inl (e _ _ h))
  · exact .inl (.inr ⟨o, e _ _ h⟩)
  · exact .inr h
theorem MemP.ext {K : KF} {F F' : Hp} {L : List (Addr × List Int)} {ks : List (List Int)} (m : MemP K F L ks) (e : Ext F F') : MemP K F' L ks := ⟨fun p h => sqT_ext' e (m.mem p h), m.perm⟩

/-! ### a def's state -/
/-- what a slot holds: nothing that is known; a value; a list, a dict of the def's own, which may still change; the stream -/
inductive Sl where
  | any | val (t : T) | own (ts : List T) | ownD (kvs : List (Key × T)) | ownS (ks : List (List Int)) | strm | pin
  deriving Inhabited
abbrev Env' := List Sl

/-- what stays through a def's run: the heap at the entry, what was known of it, the stream's two objects, the errors' classes and fields -/
structure Cn where
  K : KF
  H0 : Hp
  F0 : Hp
  S : Option (Addr × Addr)
  X : Str → Addr × Str
  me : Option Addr
  so : Addr → List (Addr × List Int) → HO
  T : List (Addr × Str) := []

/-- what the def may change besides its own: the stream's two lists, the tables of its lambdas' code -/
def Cn.inS (g : Cn) (a : Addr) : Prop := (∃ s l, g.S = some (s, l) ∧ (a = s ∨ a = l)) ∨ ∃ q, (a, q) ∈ g.T
/-- a table of code: what it tells is known, and bears the name q -/
def TabAt (F H : Hp) (P : Addr) (q : Str) : Prop := ∃ ps : Array Value, H P = some (.tbl ps) ∧ TriplesOk ps.toList ∧ ∀ (pos : Pos) (cv : Value), codeAmong pos ps.toList = some cv → ∃ c, cv = .ref c ∧ F c = some (LamX.CodeO c q)
theorem TabAt.ext {F F' H H' : Hp} {P : Addr} {q : Str} (t : TabAt F H P q) (e : Ext F F') (k : ∀ o, H P = some o → H' P = some o) : TabAt F' H' P q := by
  obtain ⟨ps, h1, h2, h3⟩ := t
  refine ⟨ps, k _ h1, h2, fun pos cv h => ?_⟩
  obtain ⟨c, e1, e2⟩ := h3 pos cv h
  exact ⟨c, e1, e _ _ e2⟩
theorem TabAt.has {F H : Hp} {P : Addr} {q : Str} (t : TabAt F H P q) : ∃ ps, H P = some (.tbl ps) := let ⟨ps, h, _⟩ := t; ⟨ps, h⟩
/-- the stream: the cells that are left, the cell that is drawn from, the number of draws, a mixed number -/
def StreamAt (H : Hp) (s l : Addr) (b : Nat) : Prop := ∃ (ns : List Int) (c n m : Int), H s = some (.lst [.ref l, .int c, .int n, .int m]) ∧ H l = some (.lst (ns.map V.int)) ∧
  0 ≤ c ∧ 0 ≤ n ∧ n + b ≤ 10 ^ 14 ∧ 0 ≤ m ∧ m < 2147483647

inductive SlOk (g : Cn) (F H : Hp) : Option V → Sl → Prop
  | any (v : Option V) : SlOk g F H v .any
  | val {v : V} {t : T} : Rep g.K F v t → SlOk g F H (some v) (.val t)
  | own {a : Addr} {vs : List V} {ts : List T} : H a = some (.lst vs) → F a = none → g.H0 a = none → ¬ g.inS a → Reps g.K F vs ts → SlOk g F H (some (.ref a)) (.own ts)
  | ownD {a : Addr} {vs : List (Key × V)} {ts : List (Key × T)} : H a = some (.dK vs) → F a = none → g.H0 a = none → ¬ g.inS a → RepK g.K F vs ts → SlOk g F H (some (.ref a)) (.ownD ts)
  | ownS {a : Addr} {L : List (Addr × List Int)} {ks : List (List Int)} : H a = some (g.so a L) → F a = none → g.H0 a = none → ¬ g.inS a → MemP g.K F L ks → SlOk g F H (some (.ref a)) (.ownS ks)
  | strm {s l : Addr} : g.S = some (s, l) → SlOk g F H (some (.ref s)) .strm
  | pin {a : Addr} : g.me = some a → SlOk g F H (some (.ref a)) .pin
def Sl.isOwn : Sl → Bool
  | .own _ => true
  | .ownD _ => true
  | .ownS _ => true
  | _ => false

structure SR (g : Cn) (F H : Hp) (σ : Sg) (ρ : Env') (b : Nat) : Prop where
  sub : Ext F H
  f0 : Ext g.F0 F
  keep : ∀ a o, g.H0 a = some o → ¬ g.inS a → H a = some o
  new : ∀ a o, g.H0 a = some o → g.F0 a = none → F a = none
  slots : Paired (SlOk g F H) σ ρ
  dis : ∀ (i j : Nat) (a : Addr) (x y : Sl), i ≠ j → ρ[i]? = some x → ρ[j]? = some y → x.isOwn = true → y.isOwn = true → σ[i]? = some (some (.ref a)) → σ[j]? ≠ some (some (.ref a))
  strm : ∀ s l, g.S = some (s, l) → F s = none ∧ F l = none ∧ s ≠ l ∧ StreamAt H s l b
  tabs : ∀ p q, (p, q) ∈ g.T → F p = none ∧ TabAt F H p q

theorem Paired.get1 {α β : Type} {R : α → β → Prop} : ∀ {xs : List α} {ys : List β} {i : Nat} {y : β}, Paired R xs ys → ys[i]? = some y → ∃ x, xs[i]? = some x ∧ R x y
  | _, _, _, _, .nil, e => by simp at e
  | _, _, 0, _, .cons r _, e => by simp at e; subst e; exact ⟨_, rfl, r⟩
  | _, _, i + 1, y, .cons _ t, e => by simpa using Paired.get1 (i := i) (y := y) t (by simpa using e)
theorem Paired.set2 {α β : Type} {R : α → β → Prop} {x : α} {y : β} (r : R x y) : ∀ {xs : List α} {ys : List β} (i : Nat), Paired R xs ys → Paired R (xs.set i x) (ys.set i y)
  | _, _, _, .nil => .nil
  | _, _, 0, .cons _ t => .cons r t
  | _, _, i + 1, .cons q t => .cons q (Paired.set2 r i t)
theorem Paired.imp2 {α β : Type} {R R' : α → β → Prop} : ∀ {xs : List α} {ys : List β}, Paired R xs ys → (∀ (i : Nat) (x : α) (y : β), xs[i]? = some x → ys[i]? = some y → R x y → R' x y) → Paired R' xs ys
  | _, _, .nil, _ => .nil
  | _, _, .cons r t, f => .cons (f 0 _ _ rfl rfl r) (Paired.imp2 t fun i x y e1 e2 => f (i + 1) x y (by simpa using e1) (by simpa using e2))

theorem SR.there {g : Cn} {F H : Hp} {σ : Sg} {ρ : Env'} {b : Nat} (s : SR g F H σ ρ b) {a : Addr} {o : HO} (h : g.H0 a = some o) : ∃ u, H a = some u := by
  by_cases hs : g.inS a
  · rcases hs with ⟨p, l, e, z⟩ | ⟨q, hq⟩
    · obtain ⟨_, _, _, ns, c, n, m, q1, q2, _⟩ := s.strm p l e
      rcases z with rfl | rfl
      · exact ⟨_, q1⟩
      · exact ⟨_, q2⟩
    · obtain ⟨ps, e⟩ := (s.tabs a q hq).2.has
      exact ⟨_, e⟩
  · exact ⟨_, s.keep a o h hs⟩
theorem SR.fresh {g : Cn} {F H : Hp} {σ : Sg} {ρ : Env'} {b : Nat} (s : SR g F H σ ρ b) {p : Addr} (h : H p = none) : F p = none := s.sub.free h
theorem Ext.upd {F : Hp} {p : Addr} {o : HO} (h : F p = none) : Ext F (upd F p o) := fun a u e => by rw [upd_ne (ne_of_none e h)]; exact e
/-- a new object that is known from now on -/
theorem SR.grow {g : Cn} {F H : Hp} {σ : Sg} {ρ : Env'} {b : Nat} (s : SR g F H σ ρ b) {p : Addr} (o : HO) (h : H p = none) : SR g (upd F p o) (upd H p o) σ ρ b where
  sub := fun a u e => by
    by_cases ha : a = p
    · subst ha; rw [upd_same] at e ⊢; exact e
    · rw [upd_ne ha] at e ⊢; exact s.sub a u e
  f0 := fun a u e => Ext.upd (s.fresh h) a u (s.f0 a u e)
  keep := fun a u e n => by
    have q := s.keep a u e n
    rw [upd_ne (ne_of_none q h)]
    exact q
  new := fun a u e n => by
    obtain ⟨w, q⟩ := s.there e
    rw [upd_ne (ne_of_none q h)]
    exact s.new a u e n
  slots := Paired.imp2 s.slots fun i v x _ _ r => by
    have e := Ext.upd (o := o) (s.fresh h)
    cases r with
    | any v => exact .any v
    | val r => exact .val (r.ext e)
    | own h1 h2 h3 h4 r => exact .own (by rw [upd_ne (ne_of_none h1 h)]; exact h1) (by rw [upd_ne (ne_of_none h1 h)]; exact h2) h3 h4 (r.ext e)
    | ownD h1 h2 h3 h4 r => exact .ownD (by rw [upd_ne (ne_of_none h1 h)]; exact h1) (by rw [upd_ne (ne_of_none h1 h)]; exact h2) h3 h4 (r.ext e)
    | ownS h1 h2 h3 h4 r => exact .ownS (by rw [upd_ne (ne_of_none h1 h)]; exact h1) (by rw [upd_ne (ne_of_none h1 h)]; exact h2) h3 h4 (r.ext e)
    | strm h => exact .strm h
    | pin h => exact .pin h
  dis := s.dis
  strm := fun p1 p2 e => by
    obtain ⟨h1, h2, h3, ns, c, n, m, q1, q2, q3⟩ := s.strm p1 p2 e
    exact ⟨by rw [upd_ne (ne_of_none q1 h)]; exact h1, by rw [upd_ne (ne_of_none q2 h)]; exact h2, h3, ns, c, n, m, by rw [upd_ne (ne_of_none q1 h)]; exact q1, by rw [upd_ne (ne_of_none q2 h)]; exact q2, q3⟩
  tabs := fun p1 q1 e => by
    obtain ⟨h1, h2⟩ := s.tabs p1 q1 e
    obtain ⟨ps, hp⟩ := h2.has
    exact ⟨by rw [upd_ne (ne_of_none hp h)]; exact h1, h2.ext (Ext.upd (s.fresh h)) fun o e => by rw [upd_ne (ne_of_none e h)]; exact e⟩
/-- a new object that is not known (as a list that may still change, ahead of its slot) -/
theorem SR.growU {g : Cn} {F H : Hp} {σ : Sg} {ρ : Env'} {b : Nat} (s : SR g F H σ ρ b) {p : Addr} (o : HO) (h : H p = none) : SR g F (upd H p o) σ ρ b where
  sub := fun a u e => by rw [upd_ne (ne_of_none (s.sub a u e) h)]; exact s.sub a u e
  f0 := s.f0
  keep := fun a u e n => by
    have q := s.keep a u e n
    rw [upd_ne (ne_of_none q h)]
    exact q
  new := s.new
  slots := Paired.imp2 s.slots fun i v x _ _ r => by
    cases r with
    | any v => exact .any v
    | val r => exact .val r
    | own h1 h2 h3 h4 r => exact .own (by rw [upd_ne (ne_of_none h1 h)]; exact h1) h2 h3 h4 r
    | ownD h1 h2 h3 h4 r => exact .ownD (by rw [upd_ne (ne_of_none h1 h)]; exact h1) h2 h3 h4 r
    | ownS h1 h2 h3 h4 r => exact .ownS (by rw [upd_ne (ne_of_none h1 h)]; exact h1) h2 h3 h4 r
    | strm h => exact .strm h
    | pin h => exact .pin h
  dis := s.dis
  strm := fun p1 p2 e => by
    obtain ⟨h1, h2, h3, ns, c, n, m, q1, q2, q3⟩ := s.strm p1 p2 e
    exact ⟨h1, h2, h3, ns, c, n, m, by rw [upd_ne (ne_of_none q1 h)]; exact q1, by rw [upd_ne (ne_of_none q2 h)]; exact q2, q3⟩
  tabs := fun p1 q1 e => by
    obtain ⟨h1, h2⟩ := s.tabs p1 q1 e
    exact ⟨h1, h2.ext (Same.refl _) fun o e => by rw [upd_ne (ne_of_none e h)]; exact e⟩
theorem SR.tabK {g : Cn} {F H F' H' : Hp} {σ : Sg} {ρ : Env'} {b : Nat} (s : SR g F H σ ρ b) (e : Ext F F') (k : ∀ p q, (p, q) ∈ g.T → (∀ o, H p = some o → H' p = some o) ∧ F' p = none) : ∀ p q, (p, q) ∈ g.T → F' p = none ∧ TabAt F' H' p q :=
  fun p q m => ⟨(k p q m).2, (s.tabs p q m).2.ext e (k p q m).1⟩
theorem Cn.tabNe {g : Cn} {p a : Addr} {q : Str} (h : ¬ g.inS a) (m : (p, q) ∈ g.T) : p ≠ a := fun z => h (by rw [← z]; exact .inr ⟨q, m⟩)
theorem Cn.tabIn {g : Cn} {p : Addr} {q : Str} (m : (p, q) ∈ g.T) : g.inS p := .inr ⟨q, m⟩
end DP
end
section
set_option Elab.async false
set_option linter.all false
set_option maxRecDepth 100000
namespace DP
open PySem PySem.Spec PyProof.Rows L2

def OwnAt (σ : Sg) (ρ : Env') (a : Addr) : Prop := ∃ (i : Nat) (x : Sl), ρ[i]? = some x ∧ x.isOwn = true ∧ σ[i]? = some (some (V.ref a))

/-- from (F, H) to (F', H'), the slots being as they are -/
structure Step (g : Cn) (σ : Sg) (ρ : Env') (F H F' H' : Hp) (b : Nat) : Prop where
  ext : Ext F F'
  sr : SR g F' H' σ ρ b
  kp : ∀ a o, H a = some o → ¬ g.inS a → ¬ OwnAt σ ρ a → H' a = some o
  new : ∀ a o, H a = some o → F a = none → F' a = none

section
variable {g : Cn} {σ : Sg} {ρ : Env'} {F H F' H' F1 H1 : Hp} {b b' : Nat}
theorem Step.refl (s : SR g F H σ ρ b) : Step g σ ρ F H F H b := ⟨Same.refl _, s, fun _ _ h _ _ => h, fun _ _ _ h => h⟩
theorem SR.live (s : SR g F H σ ρ b) {a : Addr} (h : g.inS a ∨ OwnAt σ ρ a) : ∃ o, H a = some o := by
  rcases h with (⟨p, l, e, z⟩ | ⟨q, hq⟩) | ⟨i, x, h1, h2, h3⟩
  · obtain ⟨_, _, _, ns, c, n, m, q1, q2, _⟩ := s.strm p l e
    rcases z with rfl | rfl
    · exact ⟨_, q1⟩
    · exact ⟨_, q2⟩
  · obtain ⟨ps, e⟩ := (s.tabs a q hq).2.has
    exact ⟨_, e⟩
  · obtain ⟨v, hv, r⟩ := Paired.get1 s.slots h1
    rw [h3] at hv
    cases hv
    cases r with
    | any v => cases h2
    | val r => cases h2
    | own q _ _ _ _ => exact ⟨_, q⟩
    | ownD q _ _ _ _ => exact ⟨_, q⟩
    | ownS q _ _ _ _ => exact ⟨_, q⟩
    | strm _ => cases h2
    | pin _ => cases h2
theorem Step.trans (s : Step g σ ρ F H F1 H1 b) (t : Step g σ ρ F1 H1 F' H' b') : Step g σ ρ F H F' H' b' :=
  ⟨s.ext.trans t.ext, t.sr, fun a o h n1 n2 => t.kp a o (s.kp a o h n1 n2) n1 n2, fun a o h n => by
    by_cases hs : g.inS a ∨ OwnAt σ ρ a
    · obtain ⟨u, q⟩ := s.sr.live hs
      exact t.new a u q (s.new a o h n)
    · exact t.new a o (s.kp a o h (fun z => hs (.inl z)) fun z => hs (.inr z)) (s.new a o h n)⟩
theorem SR.step (s : SR g F H σ ρ b) {p : Addr} (o : HO) (h : H p = none) : Step g σ ρ F H (upd F p o) (upd H p o) b :=
  ⟨Ext.upd (s.fresh h), s.grow o h, fun a u e _ _ => by rw [upd_ne (ne_of_none e h)]; exact e, fun a u e n => by rw [upd_ne (ne_of_none e h)]; exact n⟩
theorem SR.stepU (s : SR g F H σ ρ b) {p : Addr} (o : HO) (h : H p = none) : Step g σ ρ F H F (upd H p o) b :=
  ⟨Same.refl _, s.growU o h, fun a u e _ _ => by rw [upd_ne (ne_of_none e h)]; exact e, fun a u e n => n⟩
end

/-! ### judgements -/
theorem pe_imp {X : Cx} {e : Expr} {t t' : TE} (h : PE X e t) (i : ∀ σ H Q, t' σ H Q → t σ H Q) : PE X e t' := ⟨fun pins s σ H Q I hw => h.run pins s σ H Q I (i σ H Q hw)⟩
theorem pt_imp {X : Cx} {e : Expr} {t t' : TT} (h : PT X e t) (i : ∀ σ H Q, t' σ H Q → t σ H Q) : PT X e t' := ⟨fun pins s σ H Q I hw => h.run pins s σ H Q I (i σ H Q hw)⟩
theorem pa_imp {X : Cx} {es : List Expr} {t t' : TA} (h : PA X es t) (i : ∀ σ H Q, t' σ H Q → t σ H Q) : PA X es t' := ⟨fun pos pins s σ H Q I hw => h.run pos pins s σ H Q I (i σ H Q hw)⟩
theorem ps_imp {X : Cx} {st : Stmt} {t t' : TS} (h : PS X st t) (i : ∀ D σ H, t' D σ H → t D σ H) : PS X st t' := ⟨fun pins s σ H D I hw => h.run pins s σ H D I (i D σ H hw)⟩
theorem pss_imp {X : Cx} {st : List Stmt} {t t' : TS} (h : PSs X st t) (i : ∀ D σ H, t' D σ H → t D σ H) : PSs X st t' := ⟨fun pins s σ H D I hw => h.run pins s σ H D I (i D σ H hw)⟩

/-- what is wanted of an error that is raised within an expression -/
def EX (g : Cn) (W : WX) (σ : Sg) (ρ : Env') (F H : Hp) : Nat → Str → T → Prop := fun b c t => ∀ d v H' F', Step g σ ρ F H F' H' b → H' d = some (.xd [((g.X c).2, v)]) → Rep g.K F' v t → W (.ref (g.X c).1) (some d) σ H'
theorem EX.step {g : Cn} {W : WX} {σ : Sg} {ρ : Env'} {F H F1 H1 : Hp} {b : Nat} (s : Step g σ ρ F H F1 H1 b) : ∀ b' c t, EX g W σ ρ F H b' c t → EX g W σ ρ F1 H1 b' c t := fun _ _ _ h d v H' F' s1 => h d v H' F' (s.trans s1)

/-- an expression's value -/
def tD (g : Cn) (W : WX) (f : Env' → M T) : TE := fun σ H Q => ∃ ρ F b, SR g F H σ ρ b ∧ (f ρ).wp b (fun b' t => ∀ v H' F', Step g σ ρ F H F' H' b' → Rep g.K F' v t → Q v H') (EX g W σ ρ F H)
/-- a test -/
def tDT (g : Cn) (W : WX) (f : Env' → M Bool) : TT := fun σ H Q => ∃ ρ F b, SR g F H σ ρ b ∧ (f ρ).wp b (fun b' t => ∀ H' F', Step g σ ρ F H F' H' b' → Q t H') (EX g W σ ρ F H)
/-- an argument list -/
def tDA (g : Cn) (W : WX) (f : Env' → M (List T)) : TA := fun σ H Q => ∃ ρ F b, SR g F H σ ρ b ∧ (f ρ).wp b (fun b' ts => ∀ vs H' F', Step g σ ρ F H F' H' b' → Reps g.K F' vs ts → Q vs H') (EX g W σ ρ F H)
/-- the list (true) or tuple of p stands at a, whatever is reckoned meanwhile -/
def Stab (g : Cn) (σ : Sg) (ρ : Env') (F H : Hp) (a : Addr) (p : Bool × List T) : Prop := ∀ F' H' b', Step g σ ρ F H F' H' b' → ∃ vs, (if p.1 = true then H' a = some (.lst vs) else SqT g.K F' a vs) ∧ Reps g.K F' vs p.2
/-- a list (true) or a tuple that is read -/
def tDL (g : Cn) (W : WX) (f : Env' → M (Bool × List T)) : TE := fun σ H Q => ∃ ρ F b, SR g F H σ ρ b ∧ (f ρ).wp b (fun b' t => ∀ a H' F', Step g σ ρ F H F' H' b' → Stab g σ ρ F' H' a t → Q (.ref a) H') (EX g W σ ρ F H)
/-- a new list, not known yet -/
def tDN (g : Cn) (W : WX) (f : Env' → M (List T)) : TE := fun σ H Q => ∃ ρ F b, SR g F H σ ρ b ∧ (f ρ).wp b (fun b' ts => ∀ p vs H1 H' F', Step g σ ρ F H F' H1 b' → H1 p = none → H' = upd H1 p (.lst vs) → Reps g.K F' vs ts → Q (.ref p) H') (EX g W σ ρ F H)

abbrev DE (X : Cx) (g : Cn) (W : WX) (e : Expr) (f : Env' → M T) : Prop := PE X e (tD g W f)
abbrev DT (X : Cx) (g : Cn) (W : WX) (e : Expr) (f : Env' → M Bool) : Prop := PT X e (tDT g W f)
abbrev DA (X : Cx) (g : Cn) (W : WX) (es : List Expr) (f : Env' → M (List T)) : Prop := PA X es (tDA g W f)
abbrev DL (X : Cx) (g : Cn) (W : WX) (e : Expr) (f : Env' → M (Bool × List T)) : Prop := PE X e (tDL g W f)
abbrev DN (X : Cx) (g : Cn) (W : WX) (e : Expr) (f : Env' → M (List T)) : Prop := PE X e (tDN g W f)

/-! ### names, constants -/
def eC (t : T) : Env' → M T := fun _ => .ret t
def eV (i : Nat) : Env' → M T := fun ρ => match ρ[i]? with
  | some (.val t) => .ret t
  | _ => .stuck
def seqT : T → M (Bool × List T)
  | .lst ts => .ret (true, ts)
  | .tup ts => .ret (false, ts)
  | .pn _ ts => .ret (true, ts)
  | _ => .stuck
def eVS (i : Nat) : Env' → M (Bool × List T) := fun ρ => match ρ[i]? with
  | some (.val t) => seqT t
  | some (.own ts) => .ret (true, ts)
  | _ => .stuck
def e1 {α β : Type} (k : α → M β) (f : Env' → M α) : Env' → M β := fun ρ => (f ρ).bind k
def e2 {α β γ : Type} (k : α → β → M γ) (f : Env' → M α) (h : Env' → M β) : Env' → M γ := fun ρ => (f ρ).bind fun a => (h ρ).bind fun b => k a b

section
variable {X : Cx} {g : Cn} {W : WX} {pos : Pos}
theorem Rep.atom {K : KF} {F : Hp} : (∀ b, Rep K F (.bl b) (.bl b)) := fun b => .bl b
theorem de_const {e : Expr} {v : V} {t : T} (h : PE X e (tC v)) (r : ∀ K F, Rep K F v t) : DE X g W e (eC t) := pe_imp h fun σ H Q ⟨ρ, F, b, s, q⟩ => q v H F (Step.refl s) (r _ _)
theorem de_int {i j} : DE X g W (.Constant (.int i) j pos) (eC (.int i)) := de_const pe_int fun _ _ => .int i
theorem de_bl {c j} : DE X g W (.Constant (.bool c) j pos) (eC (.bl c)) := de_const pe_bl fun _ _ => .bl c
theorem de_non {j} : DE X g W (.Constant .none j pos) (eC .non) := de_const pe_non fun _ _ => .non
theorem de_str {x j} : DE X g W (.Constant (.str x) j pos) (eC (.str x)) := de_const pe_str fun _ _ => .str x
theorem de_var {e : Expr} (i : Nat) (h : PE X e (tVar i)) : DE X g W e (eV i) := pe_imp h fun σ H Q ⟨ρ, F, b, s, q⟩ => by
  unfold eV at q
  cases e : ρ[i]? with
  | none => rw [e] at q; exact q.elim
  | some x =>
    rw [e] at q
    obtain ⟨ov, hv, r⟩ := Paired.get1 s.slots e
    cases r with
    | val r => exact ⟨_, hv, q _ H F (Step.refl s) r⟩
    | any v => exact q.elim
    | own _ _ _ _ _ => exact q.elim
    | ownD _ _ _ _ _ => exact q.elim
    | ownS _ _ _ _ _ => exact q.elim
    | strm _ => exact q.elim
    | pin _ => exact q.elim
theorem seq_of {b : Nat} {t : T} {Q : Nat → Bool × List T → Prop} {E : Nat → Str → T → Prop} (h : (seqT t).wp b Q E) : (∃ ts, t = .lst ts ∧ Q b (true, ts)) ∨ (∃ ts, t = .tup ts ∧ Q b (false, ts)) ∨ (∃ a ts, t = .pn a ts ∧ Q b (true, ts)) := by
  cases t <;> first
    | exact .inl ⟨_, rfl, h⟩
    | exact .inr (.inl ⟨_, rfl, h⟩)
    | exact .inr (.inr ⟨_, _, rfl, h⟩)
    | exact h.elim
theorem seq_rep {g : Cn} {σ : Sg} {ρ : Env'} {F H : Hp} {v : V} {t : T} {b : Nat} {Q : Nat → Bool × List T → Prop} {E : Nat → Str → T → Prop} (r : Rep g.K F v t) (h : (seqT t).wp b Q E) :
    ∃ a, ∃ p : Bool × List T, v = .ref a ∧ Stab g σ ρ F H a p ∧ Q b p := by
  rcases seq_of h with ⟨ts, rfl, q⟩ | ⟨ts, rfl, q⟩ | ⟨a, ts, rfl, q⟩
  · cases r with
    | lst h1 h2 => exact ⟨_, (true, ts), rfl, fun F' H' b' s => ⟨_, by rw [if_pos rfl]; exact s.sr.sub _ _ (s.ext _ _ h1), h2.ext s.ext⟩, q⟩
  · cases r with
    | tup h1 h2 =>
      refine ⟨_, (false, ts), rfl, fun F' H' b' s => ⟨_, ?_, h2.ext s.ext⟩, q⟩
      rw [if_neg Bool.false_ne_true]
      rcases h1 with (h | ⟨o, h⟩) | h
      · exact .inl (.inl (s.ext _ _ h))
      · exact .inl (.inr ⟨o, s.ext _ _ h⟩)
      · exact .inr h
  · cases r with
    | pn h1 h2 => exact ⟨_, (true, ts), rfl, fun F' H' b' s => ⟨_, by rw [if_pos rfl]; exact s.sr.sub _ _ (s.ext _ _ h1), h2.ext s.ext⟩, q⟩
theorem dl_var {e : Expr} (i : Nat) (h : PE X e (tVar i)) : DL X g W e (eVS i) := pe_imp h fun σ H Q ⟨ρ, F, b, s, q⟩ => by
  unfold eVS at q
  cases e : ρ[i]? with
  | none => rw [e] at q; exact q.elim
  | some x =>
    rw [e] at q
    obtain ⟨ov, hv, r⟩ := Paired.get1 s.slots e
    cases r with
    | val r =>
      obtain ⟨a, p, rfl, h1, h3⟩ := seq_rep (σ := σ) (ρ := ρ) (H := H) r q
      exact ⟨_, hv, h3 a H F (Step.refl s) h1⟩
    | any v => exact q.elim
    | own h1 h2 h3 h4 h5 =>
      refine ⟨_, hv, q _ H F (Step.refl s) fun F' H' b' st => ?_⟩
      obtain ⟨ov, hv', r'⟩ := Paired.get1 st.sr.slots e
      rw [hv] at hv'
      cases hv'
      cases r' with
      | own z1 z2 z3 z4 z5 => exact ⟨_, by rw [if_pos rfl]; exact z1, z5⟩
    | ownD _ _ _ _ _ => exact q.elim
    | ownS _ _ _ _ _ => exact q.elim
    | strm _ => exact q.elim
    | pin _ => exact q.elim
theorem dl_de {e : Expr} {f : Env' → M T} (h : DE X g W e f) : DL X g W e (e1 seqT f) := pe_imp h fun σ H Q ⟨ρ, F, b, s, q⟩ => ⟨ρ, F, b, s, M.wp_mono (M.wp_bind.mp q) (fun b' t q1 v H' F' st r => by
    obtain ⟨a, p, rfl, h1, h3⟩ := seq_rep (σ := σ) (ρ := ρ) (H := H') r q1
    exact h3 a H' F' st h1) fun _ _ _ h => h⟩
def lstT (ts : List T) : M T := .ret (.lst ts)
/-- a new list as a value -/
theorem de_dn {e : Expr} {f : Env' → M (List T)} (h : DN X g W e f) : DE X g W e (e1 lstT f) := pe_imp h fun σ H Q ⟨ρ, F, b, s, q⟩ => ⟨ρ, F, b, s, M.wp_mono (M.wp_bind.mp q) (fun b' ts q1 p vs H1 H' F' st hp e r => by
    subst e
    have st2 := st.sr.step (.lst vs) hp
    exact q1 _ _ _ (st.trans st2) (.lst upd_same (r.ext st2.ext))) fun _ _ _ h => h⟩
/-- .. as one that is read -/
theorem dl_dn {e : Expr} {f : Env' → M (List T)} (h : DN X g W e f) : DL X g W e (e1 (fun ts => .ret (true, ts)) f) := pe_imp h fun σ H Q ⟨ρ, F, b, s, q⟩ => ⟨ρ, F, b, s, M.wp_mono (M.wp_bind.mp q) (fun b' ts q1 p vs H1 H' F' st hp e r => by
    subst e
    have st2 := st.sr.stepU (.lst vs) hp
    refine q1 p _ _ (st.trans st2) fun F2 H2 b2 s2 => ⟨vs, ?_, r.ext s2.ext⟩
    rw [if_pos rfl]
    refine s2.kp p _ upd_same (fun z => ?_) fun z => ?_
    · obtain ⟨o, h⟩ := st.sr.live (.inl z)
      rw [hp] at h
      cases h
    · obtain ⟨o, h⟩ := st.sr.live (.inr z)
      rw [hp] at h
      cases h) fun _ _ _ h => h⟩

/-! ### two in a row -/
theorem wp2 {α β : Type} {f : Env' → M α} {h : Env' → M β} {γ : Type} {k : α → β → M γ} {ρ : Env'} {b : Nat} {Q : Nat → γ → Prop} {E : Nat → Str → T → Prop} :
    (e2 k f h ρ).wp b Q E ↔ (f ρ).wp b (fun b1 x => (h ρ).wp b1 (fun b2 y => (k x y).wp b2 Q E) E) E := by
  unfold e2
  rw [M.wp_bind]
  constructor
  · exact fun q => M.wp_mono q (fun _ _ z => M.wp_bind.mp z) fun _ _ _ z => z
  · exact fun q => M.wp_mono q (fun _ _ z => M.wp_bind.mpr z) fun _ _ _ z => z
/-- what a binary operation asks -/
def Bin (g : Cn) (W : WX) (r : R2) (k : T → T → M T) : Prop := ∀ (σ : Sg) (ρ : Env') (F H : Hp) (b : Nat) (x y : V) (t u : T) (Q : VK), SR g F H σ ρ b → Rep g.K F x t → Rep g.K F y u →
  (k t u).wp b (fun b' w => ∀ v H' F', Step g σ ρ F H F' H' b' → Rep g.K F' v w → Q v H') (EX g W σ ρ F H) → r x y H Q
theorem de_bin {op : Operator} {r : R2} {k : T → T → M T} {a c : Expr} {fa fc : Env' → M T} (ho : OpR X (binaryOp op) r) (hk : Bin g W r k) (ha : DE X g W a fa) (hc : DE X g W c fc) : DE X g W (.BinOp a op c pos) (e2 k fa fc) :=
  pe_imp (pe_op ho ha hc) fun σ H Q ⟨ρ, F, b, s, q⟩ => ⟨ρ, F, b, s, M.wp_mono (wp2.mp q) (fun b1 t q1 x H1 F1 s1 r1 => ⟨ρ, F1, b1, s1.sr, M.wp_mono q1 (fun b2 u q2 y H2 F2 s2 r2 =>
    hk σ ρ F2 H2 b2 x y t u Q s2.sr (r1.ext s2.ext) r2 (M.wp_mono q2 (fun b3 w q3 v H3 F3 s3 r3 => q3 v H3 F3 ((s1.trans s2).trans s3) r3) fun b' c' t' z => EX.step (s1.trans s2) b' c' t' z)) fun b' c' t' z => EX.step s1 b' c' t' z⟩) fun _ _ _ z => z⟩
theorem de_cmp {op : CmpOp} {r : R2} {k : T → T → M T} {a c : Expr} {fa fc : Env' → M T} (ho : OpR X (compareOp op) r) (hk : Bin g W r k) (ha : DE X g W a fa) (hc : DE X g W c fc) (hm : behindInMarks op c = false) : DE X g W (.Compare a [op] [c] pos) (e2 k fa fc) :=
  pe_imp (pe_cmpR ho ha hc hm) fun σ H Q ⟨ρ, F, b, s, q⟩ => ⟨ρ, F, b, s, M.wp_mono (wp2.mp q) (fun b1 t q1 x H1 F1 s1 r1 => ⟨ρ, F1, b1, s1.sr, M.wp_mono q1 (fun b2 u q2 y H2 F2 s2 r2 =>
    hk σ ρ F2 H2 b2 x y t u Q s2.sr (r1.ext s2.ext) r2 (M.wp_mono q2 (fun b3 w q3 v H3 F3 s3 r3 => q3 v H3 F3 ((s1.trans s2).trans s3) r3) fun b' c' t' z => EX.step (s1.trans s2) b' c' t' z)) fun b' c' t' z => EX.step s1 b' c' t' z⟩) fun _ _ _ z => z⟩
theorem Bin.or {r r' : R2} {k : T → T → M T} (h : ∀ (σ : Sg) (ρ : Env') (F H : Hp) (b : Nat) (x y : V) (t u : T) (Q : VK), SR g F H σ ρ b → Rep g.K F x t → Rep g.K F y u →
  (k t u).wp b (fun b' w => ∀ v H' F', Step g σ ρ F H F' H' b' → Rep g.K F' v w → Q v H') (EX g W σ ρ F H) → r x y H Q ∨ r' x y H Q) : Bin g W (fun x y H Q => r x y H Q ∨ r' x y H Q) k := h
end
end DP
end
section
set_option Elab.async false
set_option linter.all false
set_option maxRecDepth 100000
namespace DP
open PySem PySem.Spec PyProof.Rows L2

/-! ### data -/
mutual
def dataT : T → Option PyData
  | .non => some .none
  | .bl b => some (.bool b)
  | .int i => some (.int i)
  | .str x => some (.str x)
  | .tup ts => (dataTs ts).map .tuple
  | .lst ts => (dataTs ts).map .list
  | _ => none
def dataTs : List T → Option (List PyData)
  | [] => some []
  | t :: ts => (dataT t).bind fun d => (dataTs ts).map fun ds => d :: ds
end
theorem sqT_ext {K : KF} {F H : Hp} {a : Addr} {vs : List V} (e : Ext F H) (h : SqT K F a vs) : SqT K H a vs := by
  rcases h with (h | ⟨o, h⟩) | h
  · exact .inl (.inl (e _ _ h))
  · exact .inl (.inr ⟨o, e _ _ h⟩)
  · exact .inr h
mutual
theorem Rep.dp {K : KF} {F H : Hp} (e : Ext F H) : ∀ {t : T} {v : V} {d : PyData}, Rep K F v t → dataT t = some d → Dp K H v d
  | _, _, _, .non, h => by cases h; exact .non
  | _, _, _, .bl b, h => by cases h; exact .bl b
  | _, _, _, .int i, h => by cases h; exact .int i
  | _, _, _, .str x, h => by cases h; exact .str x
  | _, _, _, .tup (ts := ts) h r, q => by
    unfold dataT at q
    cases z : dataTs ts with
    | none => rw [z] at q; cases q
    | some ds => rw [z] at q; cases q; exact .tup (sqT_ext e h) (Reps.dp e r z)
  | _, _, _, .lst (ts := ts) h r, q => by
    unfold dataT at q
    cases z : dataTs ts with
    | none => rw [z] at q; cases q
    | some ds => rw [z] at q; cases q; exact .lst (SqL.of (e _ _ h)) (Reps.dp e r z)
  | _, _, _, .dct _ _, q => by cases q
  | _, _, _, .obj _ _, q => by cases q
  | _, _, _, .fn _, q => by cases q
  | _, _, _, .pn _ _, q => by cases q
theorem Reps.dp {K : KF} {F H : Hp} (e : Ext F H) : ∀ {ts : List T} {vs : List V} {ds : List PyData}, Reps K F vs ts → dataTs ts = some ds → DpAll K H vs ds
  | _, _, _, .nil, q => by cases q; exact .nil
  | _, _, _, .cons (t := t) (ts := ts) h r, q => by
    unfold dataTs at q
    cases z : dataT t with
    | none => rw [z] at q; cases q
    | some d =>
      rw [z] at q
      cases z2 : dataTs ts with
      | none => rw [z2] at q; cases q
      | some ds => rw [z2] at q; cases q; exact .cons (Rep.dp e h z) (Reps.dp e r z2)
end

/-! ### operations by values -/
theorem if_of {α : Type} {c : Prop} [Decidable c] {m : M α} {b : Nat} {Q : Nat → α → Prop} {E : Nat → Str → T → Prop} (h : (if c then m else M.stuck).wp b Q E) : c ∧ m.wp b Q E := by
  by_cases hc : c
  · rw [if_pos hc] at h; exact ⟨hc, h⟩
  · rw [if_neg hc] at h; exact h.elim
def fit (i : Int) : Bool := decide (i.natAbs.log2 < 8000)
def okLen (n : Nat) : Bool := decide (n ≤ 1000000)
theorem okLen_line {n : Nat} (h : okLen n = true) : n < sizeLine := by
  have h1 := of_decide_eq_true h
  have h2 := sizeLine_eq
  omega
def addT : T → T → M T
  | .int i, .int j => .ret (.int (i + j))
  | .lst xs, .lst ys => if okLen (xs.length + ys.length) = true then .ret (.lst (xs ++ ys)) else .stuck
  | _, _ => .stuck
def subT : T → T → M T
  | .int i, .int j => .ret (.int (i - j))
  | _, _ => .stuck
def mulT : T → T → M T
  | .int i, .int j => if (fit i && fit j) = true then .ret (.int (i * j)) else .stuck
  | _, _ => .stuck
def fdivT : T → T → M T
  | .int i, .int j => if (decide (0 < j) && fit j) = true then .ret (.int (i / j)) else .stuck
  | _, _ => .stuck
def modT : T → T → M T
  | .int i, .int j => if 0 < j then .ret (.int (i % j)) else .stuck
  | _, _ => .stuck
def ltT : T → T → M T
  | .int i, .int j => .ret (.bl (decide (i < j)))
  | _, _ => .stuck
def leT : T → T → M T
  | .int i, .int j => .ret (.bl (decide (i ≤ j)))
  | _, _ => .stuck
def gtT : T → T → M T
  | .int i, .int j => .ret (.bl (decide (j < i)))
  | _, _ => .stuck
def geT : T → T → M T
  | .int i, .int j => .ret (.bl (decide (j ≤ i)))
  | .bl p, .int j => .ret (.bl (decide (j ≤ (if p = true then (1 : Int) else 0))))
  | _, _ => .stuck
def eqT (t u : T) : M T := match dataT t, dataT u with
  | some d, some e => if (SeqAt.shaped d && SeqAt.shaped e) = true then .ret (.bl (PyData.eqv d e)) else .stuck
  | _, _ => .stuck
def neT (t u : T) : M T := match dataT t, dataT u with
  | some d, some e => if (SeqAt.shaped d && SeqAt.shaped e) = true then .ret (.bl (!PyData.eqv d e)) else .stuck
  | _, _ => .stuck
def isNonT : T → Bool
  | .non => true
  | _ => false
def isT : T → T → M T
  | t, .non => .ret (.bl (isNonT t))
  | .bl a, .bl b => .ret (.bl (decide (a = b)))
  | .int _, .bl _ => .ret (.bl false)
  | _, _ => .stuck
def isntT : T → T → M T
  | t, .non => .ret (.bl (!isNonT t))
  | .bl a, .bl b => .ret (.bl (!decide (a = b)))
  | .int _, .bl _ => .ret (.bl true)
  | _, _ => .stuck
theorem isNon_rep {K : KF} {F : Hp} {v : V} {t : T} (r : Rep K F v t) : decide (v = .non) = isNonT t := by
  cases r <;> rfl

section
variable {X : Cx} {g : Cn} {W : WX}
theorem bin_int {C : Int → Int → Prop} {fn : Int → Int → V} {k : T → T → M T}
    (h : ∀ t u b (Q : Nat → T → Prop) (E : Nat → Str → T → Prop), (k t u).wp b Q E → ∃ i j, t = .int i ∧ u = .int j ∧ C i j ∧ ∃ w, (∀ K F, Rep K F (fn i j) w) ∧ Q b w) : Bin g W (rI C fn) k := by
  intro σ ρ F H b x y t u Q s rx ry q
  obtain ⟨i, j, rfl, rfl, c, w, rw', q⟩ := h _ _ _ _ _ q
  cases rx
  cases ry
  exact ⟨i, j, rfl, rfl, c, q _ H F (Step.refl s) (rw' _ _)⟩
theorem bin_int0 {fn : Int → Int → V} {k : T → T → M T}
    (h : ∀ t u b (Q : Nat → T → Prop) (E : Nat → Str → T → Prop), (k t u).wp b Q E → ∃ i j, t = .int i ∧ u = .int j ∧ ∃ w, (∀ K F, Rep K F (fn i j) w) ∧ Q b w) : Bin g W (rI0 fn) k := by
  intro σ ρ F H b x y t u Q s rx ry q
  obtain ⟨i, j, rfl, rfl, w, rw', q⟩ := h _ _ _ _ _ q
  cases rx
  cases ry
  exact ⟨i, j, rfl, rfl, q _ H F (Step.refl s) (rw' _ _)⟩
theorem b_sub : Bin g W (rI0 fun i j => .int (i - j)) subT := bin_int0 fun t u b Q E h => by
  cases t <;> cases u <;> first
    | exact h.elim
    | exact ⟨_, _, rfl, rfl, _, fun _ _ => .int _, h⟩
theorem b_mul : Bin g W (rI CMulW fun i j => .int (i * j)) mulT := bin_int fun t u b Q E h => by
  cases t <;> cases u <;> first
    | exact h.elim
    | (obtain ⟨c, h⟩ := if_of h
       · rw [Bool.and_eq_true] at c
         have h1 := of_decide_eq_true c.1
         have h2 := of_decide_eq_true c.2
         exact ⟨_, _, rfl, rfl, by unfold CMulW; omega, _, fun _ _ => .int _, h⟩)
theorem b_fdiv : Bin g W (rI CDivW fun i j => .int (i / j)) fdivT := bin_int fun t u b Q E h => by
  cases t <;> cases u <;> first
    | exact h.elim
    | (obtain ⟨c, h⟩ := if_of h
       · rw [Bool.and_eq_true] at c
         have h1 := of_decide_eq_true c.1
         have h2 := of_decide_eq_true c.2
         exact ⟨_, _, rfl, rfl, ⟨h1, by omega⟩, _, fun _ _ => .int _, h⟩)
theorem b_mod : Bin g W (rI (fun _ j => 0 < j) fun i j => .int (i % j)) modT := bin_int fun t u b Q E h => by
  cases t <;> cases u <;> first
    | exact h.elim
    | (obtain ⟨c, h⟩ := if_of h
       exact ⟨_, _, rfl, rfl, c, _, fun _ _ => .int _, h⟩)
theorem b_lt : Bin g W (rI0 fun i j => .bl (decide (i < j))) ltT := bin_int0 fun t u b Q E h => by
  cases t <;> cases u <;> first
    | exact h.elim
    | exact ⟨_, _, rfl, rfl, _, fun _ _ => .bl _, h⟩
theorem b_le : Bin g W (rI0 fun i j => .bl (decide (i ≤ j))) leT := bin_int0 fun t u b Q E h => by
  cases t <;> cases u <;> first
    | exact h.elim
    | exact ⟨_, _, rfl, rfl, _, fun _ _ => .bl _, h⟩
theorem b_gt : Bin g W (rI0 fun i j => .bl (decide (j < i))) gtT := bin_int0 fun t u b Q E h => by
  cases t <;> cases u <;> first
    | exact h.elim
    | exact ⟨_, _, rfl, rfl, _, fun _ _ => .bl _, h⟩
theorem gives_ge_bi (p : Bool) (b : Int) (u : Tok) : Gives (Builtin.«int.__ge__» ⟨[.bool p, .int b u], []⟩) (.val (Value.bool ((fun x1 x2 => decide (x1 ≥ x2)) (if p = true then (1 : Int) else 0) b))) :=
  .of_wp fun M A E s Q h => by obtain ⟨hp, g, d, tk, os⟩ := s; wp_walk; exact ⟨_, rfl, h⟩
theorem ge_bi {prog : Program} {w : World} {A : Around} {E : Value → Shared → Prop} {s : Shared} {p : Bool} {j : Int} {u : Tok} {Q : Value → Shared → Prop} (h : Q (.bool (decide (j ≤ (if p = true then (1 : Int) else 0)))) s) : wpAny (model prog w) A (compareOp .GtE (.bool p) (.int j u)) Q E s := by
  show wpAny _ A (richCompare .GtE _ _) Q E s
  exact wpAny_richCompare_left (typeIs_bool' s p) (typeIs_int s j u) (by decide) F.sub_int_bool F.slot_bool_ge
    (call_gives F.slot_bool_ge (typeIs_bool' s p) F.entry_int_ge (F.args_int_ge_2 _ _) (gives_ge_bi p j u) ⟨nofun, h⟩)
def rGeB : R2 := fun x y H Q => ∃ (p : Bool) (j : Int), x = .bl p ∧ y = .int j ∧ Q (.bl (decide (j ≤ (if p = true then (1 : Int) else 0)))) H
theorem op_geB : OpR X (compareOp .GtE) rGeB := by
  intro pins s σ H x y v u Q I rx ry h
  obtain ⟨p, j, rfl, rfl, q⟩ := h
  cases (show v = Value.bool p from rx)
  obtain ⟨t, rfl⟩ := ry
  exact ge_bi ⟨.bl _, H, I, rfl, q⟩
def rGe2 : R2 := fun x y H Q => rI0 (fun i j => .bl (decide (j ≤ i))) x y H Q ∨ rGeB x y H Q
theorem op_ge2 : OpR X (compareOp .GtE) rGe2 := OpR.or op_ge op_geB
theorem b_ge : Bin g W rGe2 geT := by
  intro σ ρ F H b x y t u Q s rx ry q
  cases t with
  | int i =>
    cases u with
    | int j =>
      cases rx; cases ry
      exact .inl ⟨_, _, rfl, rfl, q _ H F (Step.refl s) (.bl _)⟩
    | _ => exact q.elim
  | bl p =>
    cases u with
    | int j =>
      cases rx; cases ry
      exact .inr ⟨_, _, rfl, rfl, q _ H F (Step.refl s) (.bl _)⟩
    | _ => exact q.elim
  | _ => cases u <;> exact q.elim
theorem b_eq : Bin g W (rEqD g.K) eqT := by
  intro σ ρ F H b x y t u Q s rx ry q
  unfold eqT at q
  cases e1 : dataT t with
  | none => rw [e1] at q; exact q.elim
  | some d =>
    cases e2 : dataT u with
    | none => rw [e1, e2] at q; exact q.elim
    | some e =>
      rw [e1, e2] at q
      dsimp only at q
      split at q
      · rename_i c
        rw [Bool.and_eq_true] at c
        exact ⟨d, e, Rep.dp s.sub rx e1, Rep.dp s.sub ry e2, c.1, c.2, q _ H F (Step.refl s) (.bl _)⟩
      · exact q.elim
theorem b_ne : Bin g W (rNeD g.K) neT := by
  intro σ ρ F H b x y t u Q s rx ry q
  unfold neT at q
  cases e1 : dataT t with
  | none => rw [e1] at q; exact q.elim
  | some d =>
    cases e2 : dataT u with
    | none => rw [e1, e2] at q; exact q.elim
    | some e =>
      rw [e1, e2] at q
      dsimp only at q
      split at q
      · rename_i c
        rw [Bool.and_eq_true] at c
        exact ⟨d, e, Rep.dp s.sub rx e1, Rep.dp s.sub ry e2, c.1, c.2, q _ H F (Step.refl s) (.bl _)⟩
      · exact q.elim
def rIsIB : R2 := fun x y H Q => ∃ (i : Int) (b : Bool), x = .int i ∧ y = .bl b ∧ Q (.bl false) H
def rNotIB : R2 := fun x y H Q => ∃ (i : Int) (b : Bool), x = .int i ∧ y = .bl b ∧ Q (.bl true) H
theorem op_isIB : OpR X (compareOp .Is) rIsIB := by
  intro pins s σ H x y v u Q I rx ry h
  obtain ⟨i, b, rfl, rfl, q⟩ := h
  obtain ⟨t, rfl⟩ := rx
  cases (show u = Value.bool b from ry)
  exact wpAny_is_other rfl (fun z => nomatch z) ⟨.bl false, H, I, rfl, q⟩
theorem op_notIB : OpR X (compareOp .IsNot) rNotIB := by
  intro pins s σ H x y v u Q I rx ry h
  obtain ⟨i, b, rfl, rfl, q⟩ := h
  obtain ⟨t, rfl⟩ := rx
  cases (show u = Value.bool b from ry)
  exact wpAny_isNot_other rfl (fun z => nomatch z) ⟨.bl true, H, I, rfl, q⟩
def rIs2 : R2 := fun x y H Q => (y = .non ∧ Q (.bl (decide (x = .non))) H) ∨ (rIsB x y H Q ∨ rIsIB x y H Q)
def rIsnt2 : R2 := fun x y H Q => (y = .non ∧ Q (.bl (!decide (x = .non))) H) ∨ (rNotB x y H Q ∨ rNotIB x y H Q)
theorem op_is2 : OpR X (compareOp .Is) rIs2 := OpR.or op_isN (OpR.or op_isBl op_isIB)
theorem op_isnt2 : OpR X (compareOp .IsNot) rIsnt2 := OpR.or op_notN (OpR.or op_notBl op_notIB)
theorem b_is : Bin g W rIs2 isT := by
  intro σ ρ F H b x y t u Q s rx ry q
  cases u with
  | non =>
    cases ry
    refine .inl ⟨rfl, ?_⟩
    rw [isNon_rep rx]
    cases t <;> exact q _ H F (Step.refl s) (.bl _)
  | bl c =>
    cases ry
    cases t with
    | bl a =>
      cases rx
      exact .inr (.inl ⟨_, _, rfl, rfl, q _ H F (Step.refl s) (.bl _)⟩)
    | int a =>
      cases rx
      exact .inr (.inr ⟨_, _, rfl, rfl, q _ H F (Step.refl s) (.bl _)⟩)
    | _ => exact q.elim
  | _ => cases t <;> exact q.elim
theorem b_isnt : Bin g W rIsnt2 isntT := by
  intro σ ρ F H b x y t u Q s rx ry q
  cases u with
  | non =>
    cases ry
    refine .inl ⟨rfl, ?_⟩
    rw [isNon_rep rx]
    cases t <;> exact q _ H F (Step.refl s) (.bl _)
  | bl c =>
    cases ry
    cases t with
    | bl a =>
      cases rx
      exact .inr (.inl ⟨_, _, rfl, rfl, q _ H F (Step.refl s) (.bl _)⟩)
    | int a =>
      cases rx
      exact .inr (.inr ⟨_, _, rfl, rfl, q _ H F (Step.refl s) (.bl _)⟩)
    | _ => exact q.elim
  | _ => cases t <;> exact q.elim
def rAdd2 : R2 := fun x y H Q => rI0 (fun i j => .int (i + j)) x y H Q ∨ rCat x y H Q
theorem op_add2 : OpR X (binaryOp .Add) rAdd2 := OpR.or op_add op_cat
theorem b_add : Bin g W rAdd2 addT := by
  intro σ ρ F H b x y t u Q s rx ry q
  cases t with
  | int i =>
    cases u with
    | int j => cases rx; cases ry; exact .inl ⟨_, _, rfl, rfl, q _ H F (Step.refl s) (.int _)⟩
    | _ => exact q.elim
  | lst xs =>
    cases u with
    | lst ys =>
      obtain ⟨c, q⟩ := if_of q
      · cases rx with
        | lst h1 r1 =>
          cases ry with
          | lst h2 r2 =>
            refine .inr ⟨_, _, _, _, rfl, rfl, s.sub _ _ h1, s.sub _ _ h2, ?_, fun p hp => ?_⟩
            · rw [r1.length, r2.length]; exact Nat.le_of_lt (okLen_line c)
            · exact q _ _ _ (s.step _ hp) (.lst upd_same ((r1.append r2).ext (s.step _ hp).ext))
    | _ => exact q.elim
  | _ => cases u <;> exact q.elim
variable {k : Nat} {pos : Pos} {a c : Expr} {fa fc : Env' → M T}
theorem de_add (ha : DE X g W a fa) (hc : DE X g W c fc) : DE X g W (.BinOp a .Add c pos) (e2 addT fa fc) := de_bin op_add2 b_add ha hc
theorem de_sub (ha : DE X g W a fa) (hc : DE X g W c fc) : DE X g W (.BinOp a .Sub c pos) (e2 subT fa fc) := de_bin op_sub b_sub ha hc
theorem de_mul (ha : DE X g W a fa) (hc : DE X g W c fc) : DE X g W (.BinOp a .Mult c pos) (e2 mulT fa fc) := de_bin op_mulW b_mul ha hc
theorem de_fdiv (ha : DE X g W a fa) (hc : DE X g W c fc) : DE X g W (.BinOp a .FloorDiv c pos) (e2 fdivT fa fc) := de_bin op_fdivW b_fdiv ha hc
theorem de_mod (ha : DE X g W a fa) (hc : DE X g W c fc) : DE X g W (.BinOp a .Mod c pos) (e2 modT fa fc) := de_bin op_mod b_mod ha hc
theorem de_lt (ha : DE X g W a fa) (hc : DE X g W c fc) : DE X g W (.Compare a [.Lt] [c] pos) (e2 ltT fa fc) := de_cmp op_lt b_lt ha hc (nomark _)
theorem de_le (ha : DE X g W a fa) (hc : DE X g W c fc) : DE X g W (.Compare a [.LtE] [c] pos) (e2 leT fa fc) := de_cmp op_le b_le ha hc (nomark _)
theorem de_gt (ha : DE X g W a fa) (hc : DE X g W c fc) : DE X g W (.Compare a [.Gt] [c] pos) (e2 gtT fa fc) := de_cmp op_gt b_gt ha hc (nomark _)
theorem de_ge (ha : DE X g W a fa) (hc : DE X g W c fc) : DE X g W (.Compare a [.GtE] [c] pos) (e2 geT fa fc) := de_cmp op_ge2 b_ge ha hc (nomark _)
theorem de_eq (hr : Room k X.A) (ha : DE X g W a fa) (hc : DE X g W c fc) (hK : X.K = g.K := by rfl) : DE X g W (.Compare a [.Eq] [c] pos) (e2 eqT fa fc) := de_cmp (op_eqD hr.units) (by rw [hK]; exact b_eq) ha hc (nomark _)
theorem de_ne (hr : Room k X.A) (ha : DE X g W a fa) (hc : DE X g W c fc) (hK : X.K = g.K := by rfl) : DE X g W (.Compare a [.NotEq] [c] pos) (e2 neT fa fc) := de_cmp (op_neD hr.units) (by rw [hK]; exact b_ne) ha hc (nomark _)
theorem de_is (ha : DE X g W a fa) (hc : DE X g W c fc) : DE X g W (.Compare a [.Is] [c] pos) (e2 isT fa fc) := de_cmp op_is2 b_is ha hc (nomark _)
theorem de_isnt (ha : DE X g W a fa) (hc : DE X g W c fc) : DE X g W (.Compare a [.IsNot] [c] pos) (e2 isntT fa fc) := de_cmp op_isnt2 b_isnt ha hc (nomark _)
end

/-! ### truth, and, or, not -/
def boolT : T → M Bool
  | .bl c => .ret c
  | _ => .stuck
theorem boolT_of {b : Nat} {t : T} {Q : Nat → Bool → Prop} {E : Nat → Str → T → Prop} (h : (boolT t).wp b Q E) : ∃ c, t = .bl c ∧ Q b c := by
  cases t <;> first
    | exact ⟨_, rfl, h⟩
    | exact h.elim
def eAnd (f h : Env' → M Bool) : Env' → M Bool := fun ρ => (f ρ).bind fun c => if c = true then h ρ else .ret false
def eOr (f h : Env' → M Bool) : Env' → M Bool := fun ρ => (f ρ).bind fun c => if c = true then .ret true else h ρ
def eNot (f : Env' → M Bool) : Env' → M Bool := fun ρ => (f ρ).bind fun c => .ret (!c)
def eBl (f : Env' → M Bool) : Env' → M T := fun ρ => (f ρ).bind fun c => .ret (.bl c)
def eAndV (f h : Env' → M T) : Env' → M T := fun ρ => (f ρ).bind fun t => (boolT t).bind fun c => if c = true then h ρ else .ret (.bl false)
def eOrV (f h : Env' → M T) : Env' → M T := fun ρ => (f ρ).bind fun t => (boolT t).bind fun c => if c = true then .ret (.bl true) else h ρ
def eNotV (f : Env' → M T) : Env' → M T := fun ρ => (f ρ).bind fun t => (boolT t).bind fun c => .ret (.bl (!c))
def eIf (c : Env' → M Bool) (f h : Env' → M T) : Env' → M T := fun ρ => (c ρ).bind fun b => if b = true then f ρ else h ρ
section
variable {X : Cx} {g : Cn} {W : WX} {k : Nat} {pos : Pos} {a c e : Expr} {rest : List Expr} {fa fc : Env' → M T} {ta tc : Env' → M Bool}
abbrev DW (X : Cx) (g : Cn) (W : WX) (e : Expr) (f : Env' → M Bool) : Prop := PW X e (tDT g W f)
theorem pw_imp {X : Cx} {e : Expr} {t t' : TT} (h : PW X e t) (i : ∀ σ H Q, t' σ H Q → t σ H Q) : PW X e t' := ⟨fun wh pins s σ H Q I hw => h.run wh pins s σ H Q I (i σ H Q hw)⟩
theorem dt_val (h : DE X g W e fa) (he : ∀ whole, isTrue e X.env whole = (do let v ← whole; standAt e.pos; holding [v] (truthy v)) := by intro _; rfl) : DT X g W e (e1 boolT fa) :=
  pt_imp (pt_val h he) fun σ H Q ⟨ρ, F, b, s, q⟩ => ⟨ρ, F, b, s, M.wp_mono (M.wp_bind.mp q) (fun b1 t q1 v H1 F1 s1 r1 => by
    obtain ⟨c, rfl, q2⟩ := boolT_of q1
    cases r1
    exact ⟨c, rfl, q2 H1 F1 s1⟩) fun _ _ _ z => z⟩
/-- a comparison as a test -/
theorem dt_bin {op : CmpOp} {r : R2} {k : T → T → M T} (ho : OpR X (compareOp op) r) (hk : Bin g W r k) (ha : DE X g W a fa) (hc : DE X g W c fc) (hm : behindInMarks op c = false) : DT X g W (.Compare a [op] [c] pos) (e1 boolT (e2 k fa fc)) :=
  pt_imp (pt_cmpR ho ha hc hm) fun σ H Q ⟨ρ, F, b, s, q⟩ => ⟨ρ, F, b, s, M.wp_mono (wp2.mp (M.wp_bind.mp q)) (fun b1 t q1 x H1 F1 s1 r1 => ⟨ρ, F1, b1, s1.sr, M.wp_mono q1 (fun b2 u q2 y H2 F2 s2 r2 =>
    hk σ ρ F2 H2 b2 x y t u _ s2.sr (r1.ext s2.ext) r2 (M.wp_mono q2 (fun b3 w q3 v H3 F3 s3 r3 => by
      obtain ⟨c, rfl, q4⟩ := boolT_of q3
      cases r3
      exact ⟨c, rfl, q4 H3 F3 ((s1.trans s2).trans s3)⟩) fun b' c' t' z => EX.step (s1.trans s2) b' c' t' z)) fun b' c' t' z => EX.step s1 b' c' t' z⟩) fun _ _ _ z => z⟩
theorem dt_lt (ha : DE X g W a fa) (hc : DE X g W c fc) : DT X g W (.Compare a [.Lt] [c] pos) (e1 boolT (e2 ltT fa fc)) := dt_bin op_lt b_lt ha hc (nomark _)
theorem dt_le (ha : DE X g W a fa) (hc : DE X g W c fc) : DT X g W (.Compare a [.LtE] [c] pos) (e1 boolT (e2 leT fa fc)) := dt_bin op_le b_le ha hc (nomark _)
theorem dt_gt (ha : DE X g W a fa) (hc : DE X g W c fc) : DT X g W (.Compare a [.Gt] [c] pos) (e1 boolT (e2 gtT fa fc)) := dt_bin op_gt b_gt ha hc (nomark _)
theorem dt_ge (ha : DE X g W a fa) (hc : DE X g W c fc) : DT X g W (.Compare a [.GtE] [c] pos) (e1 boolT (e2 geT fa fc)) := dt_bin op_ge2 b_ge ha hc (nomark _)
theorem dt_eq (hr : Room k X.A) (ha : DE X g W a fa) (hc : DE X g W c fc) (hK : X.K = g.K := by rfl) : DT X g W (.Compare a [.Eq] [c] pos) (e1 boolT (e2 eqT fa fc)) := dt_bin (op_eqD hr.units) (by rw [hK]; exact b_eq) ha hc (nomark _)
theorem dt_ne (hr : Room k X.A) (ha : DE X g W a fa) (hc : DE X g W c fc) (hK : X.K = g.K := by rfl) : DT X g W (.Compare a [.NotEq] [c] pos) (e1 boolT (e2 neT fa fc)) := dt_bin (op_neD hr.units) (by rw [hK]; exact b_ne) ha hc (nomark _)
theorem dt_is (ha : DE X g W a fa) (hc : DE X g W c fc) : DT X g W (.Compare a [.Is] [c] pos) (e1 boolT (e2 isT fa fc)) := dt_bin op_is2 b_is ha hc (nomark _)
theorem dt_isnt (ha : DE X g W a fa) (hc : DE X g W c fc) : DT X g W (.Compare a [.IsNot] [c] pos) (e1 boolT (e2 isntT fa fc)) := dt_bin op_isnt2 b_isnt ha hc (nomark _)
theorem dw_and1 (h : DT X g W e ta) : DW X g W (.BoolOp .And [e] pos) ta := pw_and1 h
theorem dw_or1 (h : DT X g W e ta) : DW X g W (.BoolOp .Or [e] pos) ta := pw_or1 h
theorem dw_and (h : DT X g W a ta) (h2 : DW X g W (.BoolOp .And (c :: rest) pos) tc) : DW X g W (.BoolOp .And (a :: c :: rest) pos) (eAnd ta tc) :=
  pw_imp (pw_and h h2) fun σ H Q ⟨ρ, F, b, s, q⟩ => ⟨ρ, F, b, s, M.wp_mono (M.wp_bind.mp q) (fun b1 v q1 H1 F1 s1 => by
    cases v with
    | true =>
      rw [if_pos rfl] at q1 ⊢
      exact ⟨ρ, F1, b1, s1.sr, M.wp_mono q1 (fun b2 v2 q2 H2 F2 s2 => q2 H2 F2 (s1.trans s2)) fun b' c' t' z => EX.step s1 b' c' t' z⟩
    | false =>
      rw [if_neg Bool.false_ne_true] at q1 ⊢
      exact q1 H1 F1 s1) fun _ _ _ z => z⟩
theorem dw_or (h : DT X g W a ta) (h2 : DW X g W (.BoolOp .Or (c :: rest) pos) tc) : DW X g W (.BoolOp .Or (a :: c :: rest) pos) (eOr ta tc) :=
  pw_imp (pw_or h h2) fun σ H Q ⟨ρ, F, b, s, q⟩ => ⟨ρ, F, b, s, M.wp_mono (M.wp_bind.mp q) (fun b1 v q1 H1 F1 s1 => by
    cases v with
    | false =>
      rw [if_neg Bool.false_ne_true] at q1 ⊢
      exact ⟨ρ, F1, b1, s1.sr, M.wp_mono q1 (fun b2 v2 q2 H2 F2 s2 => q2 H2 F2 (s1.trans s2)) fun b' c' t' z => EX.step s1 b' c' t' z⟩
    | true =>
      rw [if_pos rfl] at q1 ⊢
      exact q1 H1 F1 s1) fun _ _ _ z => z⟩
theorem dt_w (h : DW X g W e ta) : DT X g W e ta := h.pt
theorem dt_not (h : DT X g W e ta) : DT X g W (.UnaryOp .Not e pos) (eNot ta) := pt_imp (pt_not h) fun σ H Q ⟨ρ, F, b, s, q⟩ => ⟨ρ, F, b, s, M.wp_mono (M.wp_bind.mp q) (fun b1 v q1 H1 F1 s1 => q1 H1 F1 s1) fun _ _ _ z => z⟩
theorem de_one {op} (h : DE X g W e fa) : DE X g W (.BoolOp op [e] pos) fa := pe_one h
theorem de_and (h : DE X g W a fa) (h2 : DE X g W (.BoolOp .And (c :: rest) pos) fc) : DE X g W (.BoolOp .And (a :: c :: rest) pos) (eAndV fa fc) :=
  pe_imp (pe_and h h2) fun σ H Q ⟨ρ, F, b, s, q⟩ => ⟨ρ, F, b, s, M.wp_mono (M.wp_bind.mp q) (fun b1 t q1 v H1 F1 s1 r1 => by
    obtain ⟨d, rfl, q2⟩ := boolT_of (M.wp_bind.mp q1)
    cases r1
    refine ⟨d, rfl, ?_⟩
    cases d with
    | true =>
      rw [if_pos rfl] at q2 ⊢
      exact ⟨ρ, F1, b1, s1.sr, M.wp_mono q2 (fun b2 v2 q2 w H2 F2 s2 => q2 w H2 F2 (s1.trans s2)) fun b' c' t' z => EX.step s1 b' c' t' z⟩
    | false =>
      rw [if_neg Bool.false_ne_true] at q2 ⊢
      exact q2 _ H1 F1 s1 (.bl _)) fun _ _ _ z => z⟩
theorem de_or (h : DE X g W a fa) (h2 : DE X g W (.BoolOp .Or (c :: rest) pos) fc) : DE X g W (.BoolOp .Or (a :: c :: rest) pos) (eOrV fa fc) :=
  pe_imp (pe_or h h2) fun σ H Q ⟨ρ, F, b, s, q⟩ => ⟨ρ, F, b, s, M.wp_mono (M.wp_bind.mp q) (fun b1 t q1 v H1 F1 s1 r1 => by
    obtain ⟨d, rfl, q2⟩ := boolT_of (M.wp_bind.mp q1)
    cases r1
    refine ⟨d, rfl, ?_⟩
    cases d with
    | false =>
      rw [if_neg Bool.false_ne_true] at q2 ⊢
      exact ⟨ρ, F1, b1, s1.sr, M.wp_mono q2 (fun b2 v2 q2 w H2 F2 s2 => q2 w H2 F2 (s1.trans s2)) fun b' c' t' z => EX.step s1 b' c' t' z⟩
    | true =>
      rw [if_pos rfl] at q2 ⊢
      exact q2 _ H1 F1 s1 (.bl _)) fun _ _ _ z => z⟩
theorem de_not (h : DE X g W a fa) : DE X g W (.UnaryOp .Not a pos) (eNotV fa) :=
  pe_imp (pe_not h) fun σ H Q ⟨ρ, F, b, s, q⟩ => ⟨ρ, F, b, s, M.wp_mono (M.wp_bind.mp q) (fun b1 t q1 v H1 F1 s1 r1 => by
    obtain ⟨d, rfl, q2⟩ := boolT_of (M.wp_bind.mp q1)
    cases r1
    exact ⟨d, rfl, q2 _ H1 F1 s1 (.bl _)⟩) fun _ _ _ z => z⟩
theorem de_if (h : DT X g W e ta) (h1 : DE X g W a fa) (h2 : DE X g W c fc) : DE X g W (.IfExp e a c pos) (eIf ta fa fc) :=
  pe_imp (pe_ifExp h h1 h2) fun σ H Q ⟨ρ, F, b, s, q⟩ => ⟨ρ, F, b, s, M.wp_mono (M.wp_bind.mp q) (fun b1 d q1 H1 F1 s1 => by
    cases d with
    | true =>
      rw [if_pos rfl] at q1 ⊢
      exact ⟨ρ, F1, b1, s1.sr, M.wp_mono q1 (fun b2 v2 q2 w H2 F2 s2 => q2 w H2 F2 (s1.trans s2)) fun b' c' t' z => EX.step s1 b' c' t' z⟩
    | false =>
      rw [if_neg Bool.false_ne_true] at q1 ⊢
      exact ⟨ρ, F1, b1, s1.sr, M.wp_mono q1 (fun b2 v2 q2 w H2 F2 s2 => q2 w H2 F2 (s1.trans s2)) fun b' c' t' z => EX.step s1 b' c' t' z⟩) fun _ _ _ z => z⟩
end
end DP
end
section
set_option Elab.async false
set_option linter.all false
set_option maxRecDepth 100000
namespace DP
open PySem PySem.Spec PyProof.Rows L2

/-! ### argument lists, displays -/
def aNil : Env' → M (List T) := fun _ => .ret []
def aCons (f : Env' → M T) (h : Env' → M (List T)) : Env' → M (List T) := e2 (fun t ts => .ret (t :: ts)) f h
def eTup (f : Env' → M (List T)) : Env' → M T := fun ρ => (f ρ).bind fun ts => if okLen ts.length = true then .ret (.tup ts) else .stuck
def nLst (f : Env' → M (List T)) : Env' → M (List T) := fun ρ => (f ρ).bind fun ts => if okLen ts.length = true then .ret ts else .stuck
section
variable {X : Cx} {g : Cn} {W : WX} {k : Nat} {pos : Pos} {a c e : Expr} {es : List Expr} {fa fc : Env' → M T} {fs : Env' → M (List T)} {fl fl2 : Env' → M (Bool × List T)} {fn : Env' → M (List T)}
theorem da_nil : DA X g W [] aNil := pa_imp pa_nil fun σ H Q ⟨ρ, F, b, s, q⟩ => q [] H F (Step.refl s) .nil
theorem da_cons (h : DE X g W e fa) (hs : DA X g W es fs) (hst : starEach (e :: es) X.env = (false, eval e X.env) :: starEach es X.env := by rfl) : DA X g W (e :: es) (aCons fa fs) :=
  pa_imp (pa_cons h hs hst) fun σ H Q ⟨ρ, F, b, s, q⟩ => ⟨ρ, F, b, s, M.wp_mono (wp2.mp q) (fun b1 t q1 x H1 F1 s1 r1 => ⟨ρ, F1, b1, s1.sr, M.wp_mono q1 (fun b2 ts q2 vs H2 F2 s2 r2 =>
    q2 (x :: vs) H2 F2 (s1.trans s2) (.cons (r1.ext s2.ext) r2)) fun b' c' t' z => EX.step s1 b' c' t' z⟩) fun _ _ _ z => z⟩
theorem de_tup {x1} (h : DA X g W es fs) : DE X g W (.Tuple es x1 pos) (eTup fs) :=
  pe_imp (pe_tup h) fun σ H Q ⟨ρ, F, b, s, q⟩ => ⟨ρ, F, b, s, M.wp_mono (M.wp_bind.mp q) (fun b1 ts q1 vs H1 F1 s1 r1 => by
    obtain ⟨c, q2⟩ := if_of q1
    refine ⟨by rw [r1.length]; exact Nat.le_of_lt (okLen_line c), fun p hp => ?_⟩
    have st := s1.sr.step (.tup vs) hp
    exact q2 _ _ _ (s1.trans st) (.tup (SqT.of upd_same) (r1.ext st.ext))) fun _ _ _ z => z⟩
theorem dn_lst (h : DA X g W es fs) : DN X g W (.List es pos) (nLst fs) :=
  pe_imp (pe_lst h) fun σ H Q ⟨ρ, F, b, s, q⟩ => ⟨ρ, F, b, s, M.wp_mono (M.wp_bind.mp q) (fun b1 ts q1 vs H1 F1 s1 r1 => by
    obtain ⟨c, q2⟩ := if_of q1
    exact ⟨by rw [r1.length]; exact Nat.le_of_lt (okLen_line c), fun p hp => q2 p vs H1 _ F1 s1 hp rfl r1⟩) fun _ _ _ z => z⟩

/-! ### items, lengths, parts -/
def ixT (p : Bool × List T) : T → M T
  | .int i => match atI p.2 i with
    | some t => .ret t
    | none => .stuck
  | _ => .stuck
theorem Reps.isEmpty {K : KF} {F : Hp} {vs : List V} {ts : List T} (r : Reps K F vs ts) : vs.isEmpty = ts.isEmpty := by cases r <;> rfl
theorem ixN_len {n m : Nat} {i : Int} (h : n = m) : ixN n i = ixN m i := by rw [h]
theorem atI_rep {K : KF} {F : Hp} {vs : List V} {ts : List T} {i : Int} {t : T} (r : Reps K F vs ts) (h : atI ts i = some t) : ∃ v, atI vs i = some v ∧ Rep K F v t := by
  unfold atI at h ⊢
  rw [ixN_len r.length]
  cases e : ixN ts.length i with
  | none => rw [e] at h; cases h
  | some j =>
    rw [e] at h
    obtain ⟨v, h1, h2⟩ := r.get' (i := j) (t := t) h
    exact ⟨v, h1, h2⟩
theorem seqQ {K : KF} {F H : Hp} {a : Addr} {vs : List V} {p : Bool} (e : Ext F H) (h : if p = true then H a = some (.lst vs) else SqT K F a vs) : SqL K H a vs ∨ SqT K H a vs := by
  cases p with
  | true => rw [if_pos rfl] at h; exact .inl (SqL.of h)
  | false => rw [if_neg Bool.false_ne_true] at h; exact .inr (sqT_ext e h)
theorem Stab.now {g : Cn} {σ : Sg} {ρ : Env'} {F H : Hp} {a : Addr} {p : Bool × List T} {b : Nat} (h : Stab g σ ρ F H a p) (s : SR g F H σ ρ b) : ∃ vs, (SqL g.K H a vs ∨ SqT g.K H a vs) ∧ Reps g.K F vs p.2 := by
  obtain ⟨vs, h1, h2⟩ := h F H b (Step.refl s)
  exact ⟨vs, seqQ s.sub h1, h2⟩
theorem Stab.step {g : Cn} {σ : Sg} {ρ : Env'} {F H F1 H1 : Hp} {a : Addr} {p : Bool × List T} {b : Nat} (h : Stab g σ ρ F H a p) (s : Step g σ ρ F H F1 H1 b) : Stab g σ ρ F1 H1 a p := fun F' H' b' s' => h F' H' b' (s.trans s')
/-- x[i] of a list, a tuple -/
theorem de_ix (ha : DL X g W a fl) (hc : DE X g W c fc) (hs : PlainIx c := by first | exact fun _ _ => rfl | (intro _ _; rfl)) (hK : X.K = g.K := by rfl) : DE X g W (.Subscript a c pos) (e2 ixT fl fc) :=
  pe_imp (pe_ix (ix_list.or ix_tup) ha hc hs) fun σ H Q ⟨ρ, F, b, s, q⟩ => ⟨ρ, F, b, s, M.wp_mono (wp2.mp q) (fun b1 p q1 d H1 F1 s1 h1 => ⟨ρ, F1, b1, s1.sr, M.wp_mono q1 (fun b2 t q2 v H2 F2 s2 r2 => by
    obtain ⟨vs, h2, r3⟩ := (h1.step s2).now s2.sr
    cases t with
    | int i =>
      cases r2
      have q2 : (match atI p.2 i with | some t => M.ret t | none => M.stuck).wp b2 _ _ := q2
      cases e : atI p.2 i with
      | none => rw [e] at q2; exact q2.elim
      | some t =>
        rw [e] at q2
        obtain ⟨v, h3, r4⟩ := atI_rep r3 e
        rcases h2 with h2 | h2
        · exact .inl ⟨_, _, _, _, rfl, rfl, by rw [hK]; exact h2, h3, q2 v H2 F2 (s1.trans s2) r4⟩
        · exact .inr ⟨_, _, _, _, rfl, rfl, by rw [hK]; exact h2, h3, q2 v H2 F2 (s1.trans s2) r4⟩
    | _ => exact q2.elim) fun b' c' t' z => EX.step s1 b' c' t' z⟩) fun _ _ _ z => z⟩
def lenT (p : Bool × List T) : M T := .ret (.int p.2.length)
/-- the reading of a built-in function of one list or tuple -/
theorem de_len {x : Str} {p : Pos} (hg : Gl X x) (hm : X.mg x = none) (hv : bootBuiltins x = some (.builtin "len")) (ha : DL X g W e fl) (hn : x ≠ "__name__" := by decide) (hdb : (x == ("__debug__" : Str)) = false := by decide)
    (he : starEach (e :: []) X.env = (false, eval e X.env) :: starEach [] X.env := by rfl) (hpl : (backTo pos (starEach [] X.env)).any (·.1) = false := by rfl) (hK : X.K = g.K := by rfl) : DE X g W (.Call (.Name x p) [e] [] pos) (e1 lenT fl) :=
  pe_imp (pe_callB call_len_seq hg hm hv (pa_cons ha pa_nil he) hn hdb he hpl) fun σ H Q ⟨ρ, F, b, s, q⟩ => ⟨ρ, F, b, s, M.wp_mono (M.wp_bind.mp q) (fun b1 p q1 d H1 F1 s1 h1 => by
    obtain ⟨vs, h2, r3⟩ := h1.now s1.sr
    refine ⟨d, vs, rfl, by rw [hK]; exact h2, ?_⟩
    have q1 := q1 (.int (p.2.length : Int)) H1 F1 s1 (.int _)
    rw [← r3.length] at q1
    exact q1) fun _ _ _ z => z⟩
/-- a list's, a tuple's truth -/
def truL (p : Bool × List T) : M Bool := .ret (!p.2.isEmpty)
theorem dt_truth (ha : DL X g W e fl) (he : ∀ whole, isTrue e X.env whole = (do let v ← whole; standAt e.pos; holding [v] (truthy v)) := by intro _; rfl) (hK : X.K = g.K := by rfl) : DT X g W e (e1 truL fl) :=
  pt_imp (pt_truth ha he) fun σ H Q ⟨ρ, F, b, s, q⟩ => ⟨ρ, F, b, s, M.wp_mono (M.wp_bind.mp q) (fun b1 p q1 d H1 F1 s1 h1 => by
    obtain ⟨vs, h2, r3⟩ := h1.now s1.sr
    have e : (!vs.isEmpty) = !p.2.isEmpty := by rw [r3.isEmpty]
    refine ⟨!vs.isEmpty, ?_, by rw [e]; exact q1 H1 F1 s1⟩
    rcases h2 with h2 | h2
    · exact .inl ⟨vs, by rw [hK]; exact h2, rfl⟩
    · exact .inr (.inl ⟨vs, by rw [hK]; exact h2, rfl⟩)) fun _ _ _ z => z⟩
/-- x + y, lists -/
def nCat (p q : Bool × List T) : M (List T) := if (p.1 && q.1 && okLen (p.2.length + q.2.length)) = true then .ret (p.2 ++ q.2) else .stuck
theorem dn_cat (ha : DL X g W a fl) (hc : DL X g W c fl2) : DN X g W (.BinOp a .Add c pos) (e2 nCat fl fl2) :=
  pe_imp (pe_op op_cat ha hc) fun σ H Q ⟨ρ, F, b, s, q⟩ => ⟨ρ, F, b, s, M.wp_mono (wp2.mp q) (fun b1 p q1 d H1 F1 s1 h1 => ⟨ρ, F1, b1, s1.sr, M.wp_mono q1 (fun b2 p2 q2 d2 H2 F2 s2 h2 => by
    obtain ⟨c, q3⟩ := if_of q2
    rw [Bool.and_eq_true, Bool.and_eq_true] at c
    obtain ⟨vs, z1, r1⟩ := (h1.step s2) F2 H2 b2 (Step.refl s2.sr)
    obtain ⟨ws, z2, r2⟩ := h2 F2 H2 b2 (Step.refl s2.sr)
    rw [if_pos c.1.1] at z1
    rw [if_pos c.1.2] at z2
    refine ⟨_, _, _, _, rfl, rfl, z1, z2, ?_, fun p hp => q3 p _ H2 _ F2 (s1.trans s2) hp rfl (r1.append r2)⟩
    rw [r1.length, r2.length]
    exact Nat.le_of_lt (okLen_line c.2)) fun b' c' t' z => EX.step s1 b' c' t' z⟩) fun _ _ _ z => z⟩
end
end DP
end
section
set_option Elab.async false
set_option linter.all false
set_option maxRecDepth 100000
namespace DP
open PySem PySem.Spec PyProof.Rows L2

inductive Fl where
  | next (ρ : Env') | ret (t : T) | brk (ρ : Env') | cont (ρ : Env')
def FlOk (g : Cn) (F : Hp) (D : Ends) (b : Nat) : Fl → Prop
  | .next ρ => ∀ σ H F', Ext F F' → SR g F' H σ ρ b → D.nx σ H
  | .ret t => ∀ v σ ρ H F', Ext F F' → SR g F' H σ ρ b → Rep g.K F' v t → D.rt v H
  | .brk ρ => ∀ σ H F', Ext F F' → SR g F' H σ ρ b → D.bk σ H
  | .cont ρ => ∀ σ H F', Ext F F' → SR g F' H σ ρ b → D.ct σ H
def EXs (g : Cn) (W : WX) (F : Hp) : Nat → Str → T → Prop := fun b c t => ∀ d v σ ρ H F', Ext F F' → SR g F' H σ ρ b → H d = some (.xd [((g.X c).2, v)]) → Rep g.K F' v t → W (.ref (g.X c).1) (some d) σ H
theorem FlOk.step {g : Cn} {F F' : Hp} {D : Ends} {b : Nat} (e : Ext F F') : ∀ {fl : Fl}, FlOk g F D b fl → FlOk g F' D b fl
  | .next _, h => fun σ H F2 e2 s => h σ H F2 (e.trans e2) s
  | .ret _, h => fun v σ ρ H F2 e2 s => h v σ ρ H F2 (e.trans e2) s
  | .brk _, h => fun σ H F2 e2 s => h σ H F2 (e.trans e2) s
  | .cont _, h => fun σ H F2 e2 s => h σ H F2 (e.trans e2) s
theorem EXs.step {g : Cn} {W : WX} {F F' : Hp} (e : Ext F F') {b : Nat} {c : Str} {t : T} (h : EXs g W F b c t) : EXs g W F' b c t := fun d v σ ρ H F2 e2 s => h d v σ ρ H F2 (e.trans e2) s
theorem EXs.ex {g : Cn} {W : WX} {σ : Sg} {ρ : Env'} {F H : Hp} {b : Nat} {c : Str} {t : T} (h : EXs g W F b c t) : EX g W σ ρ F H b c t := fun d v H' F' s e r => h d v σ ρ H' F' s.ext s.sr e r
def tDS (g : Cn) (W : WX) (G : Env' → M Fl) : TS := fun D σ H => ∃ ρ F b, SR g F H σ ρ b ∧ (G ρ).wp b (FlOk g F D) (EXs g W F)
abbrev DS (X : Cx) (g : Cn) (W : WX) (st : Stmt) (G : Env' → M Fl) : Prop := PS X st (tDS g W G)
abbrev DSs (X : Cx) (g : Cn) (W : WX) (st : List Stmt) (G : Env' → M Fl) : Prop := PSs X st (tDS g W G)

/-! ### slots stored -/
theorem get_set {α : Type} {xs : List α} {i j : Nat} {x y : α} (h : (xs.set i x)[j]? = some y) : (j = i ∧ x = y ∧ i < xs.length) ∨ (j ≠ i ∧ xs[j]? = some y) := by
  by_cases e : j = i
  · subst e
    rw [List.getElem?_set] at h
    simp at h
    exact .inl ⟨rfl, h.2, h.1⟩
  · rw [List.getElem?_set_ne (Ne.symm e)] at h
    exact .inr ⟨e, h⟩
theorem Paired.setImp {α β : Type} {R R' : α → β → Prop} {y : β} : ∀ {xs : List α} {ys : List β} {i : Nat} {x : α}, Paired R xs ys → xs[i]? = some x → R' x y → (∀ (j : Nat) (v : α) (z : β), j ≠ i → xs[j]? = some v → ys[j]? = some z → R v z → R' v z) → Paired R' xs (ys.set i y)
  | _, _, _, _, .nil, h, _, _ => by simp at h
  | _, _, 0, _, .cons _ t, h, r, f => by
    simp at h
    subst h
    exact .cons r (Paired.imp2 t fun j v z e1 e2 q => f (j + 1) v z (by omega) (by simpa using e1) (by simpa using e2) q)
  | _, _, i + 1, x, .cons q t, h, r, f => .cons (f 0 _ _ (by omega) rfl rfl q) (Paired.setImp (i := i) (x := x) t (by simpa using h) r fun j v z hj e1 e2 q => f (j + 1) v z (by omega) (by simpa using e1) (by simpa using e2) q)
theorem SR.set {g : Cn} {F H : Hp} {σ : Sg} {ρ : Env'} {b : Nat} (s : SR g F H σ ρ b) (i : Nat) {v : Option V} {x : Sl} (h : SlOk g F H v x) (n : x.isOwn = false) : SR g F H (σ.set i v) (ρ.set i x) b :=
  ⟨s.sub, s.f0, s.keep, s.new, Paired.set2 h i s.slots, fun j k a y z jk hy hz oy oz e => by
    rcases get_set hy with ⟨rfl, rfl, _⟩ | ⟨nj, hy⟩
    · rw [n] at oy; cases oy
    · rcases get_set hz with ⟨rfl, rfl, _⟩ | ⟨nk, hz⟩
      · rw [n] at oz; cases oz
      · rw [List.getElem?_set_ne (Ne.symm nj)] at e
        rw [List.getElem?_set_ne (Ne.symm nk)]
        exact s.dis j k a y z jk hy hz oy oz e, s.strm, s.tabs⟩
theorem SR.h0 {g : Cn} {F H : Hp} {σ : Sg} {ρ : Env'} {b : Nat} (s : SR g F H σ ρ b) {p : Addr} (h : H p = none) : g.H0 p = none ∧ ¬ g.inS p ∧ F p = none ∧ ¬ OwnAt σ ρ p := by
  refine ⟨?_, fun z => ?_, s.fresh h, fun z => ?_⟩
  · cases e : g.H0 p with
    | none => rfl
    | some o =>
      obtain ⟨u, q⟩ := s.there e
      rw [h] at q
      cases q
  · obtain ⟨o, q⟩ := s.live (.inl z)
    rw [h] at q
    cases q
  · obtain ⟨o, q⟩ := s.live (.inr z)
    rw [h] at q
    cases q
theorem ownAt_addr {σ : Sg} {ρ : Env'} {i : Nat} {x : Sl} {a : Addr} (h : ρ[i]? = some x) (o : x.isOwn = true) (e : σ[i]? = some (some (V.ref a))) : OwnAt σ ρ a := ⟨i, x, h, o, e⟩
/-- a new list in a slot -/
theorem SR.setOwn {g : Cn} {F H : Hp} {σ : Sg} {ρ : Env'} {b : Nat} (s : SR g F H σ ρ b) (i : Nat) {p : Addr} {vs : List V} {ts : List T} (h : H p = none) (r : Reps g.K F vs ts) : SR g F (upd H p (.lst vs)) (σ.set i (some (.ref p))) (ρ.set i (.own ts)) b := by
  obtain ⟨h0, ns, hf, no⟩ := s.h0 h
  have s1 := s.growU (.lst vs) h
  exact ⟨s1.sub, s1.f0, s1.keep, s1.new, Paired.set2 (.own upd_same hf h0 ns r) i s1.slots, fun j k a y z jk hy hz oy oz e q => by
    rcases get_set hy with ⟨rfl, rfl, _⟩ | ⟨nj, hy'⟩
    · rcases get_set hz with ⟨rfl, rfl, _⟩ | ⟨nk, hz'⟩
      · exact jk rfl
      · rcases get_set e with ⟨_, e1, _⟩ | ⟨nn, _⟩
        · cases e1
          rcases get_set q with ⟨e2, _⟩ | ⟨_, q'⟩
          · exact nk e2
          · exact no (ownAt_addr hz' oz q')
        · exact nn rfl
    · rcases get_set e with ⟨e1, _⟩ | ⟨_, e'⟩
      · exact nj e1
      · rcases get_set hz with ⟨rfl, rfl, _⟩ | ⟨nk, hz'⟩
        · rcases get_set q with ⟨_, e1, _⟩ | ⟨nn, _⟩
          · cases e1
            exact no (ownAt_addr hy' oy e')
          · exact nn rfl
        · rcases get_set q with ⟨e1, _⟩ | ⟨_, q'⟩
          · exact nk e1
          · exact s.dis j k a y z jk hy' hz' oy oz e' q', s1.strm, s1.tabs⟩

def sNext : Env' → M Fl := fun ρ => .ret (.next ρ)
def sSeq (G1 G2 : Env' → M Fl) : Env' → M Fl := fun ρ => (G1 ρ).bind fun fl => match fl with
  | .next ρ' => G2 ρ'
  | .ret t => .ret (.ret t)
  | .brk ρ' => .ret (.brk ρ')
  | .cont ρ' => .ret (.cont ρ')
def sSet (i : Nat) (f : Env' → M T) : Env' → M Fl := fun ρ => (f ρ).bind fun t => .ret (.next (ρ.set i (.val t)))
def sOwn (i : Nat) (f : Env' → M (List T)) : Env' → M Fl := fun ρ => (f ρ).bind fun ts => .ret (.next (ρ.set i (.own ts)))
def sRet (f : Env' → M T) : Env' → M Fl := fun ρ => (f ρ).bind fun t => .ret (.ret t)
def sIf (c : Env' → M Bool) (G1 G2 : Env' → M Fl) : Env' → M Fl := fun ρ => (c ρ).bind fun b => if b = true then G1 ρ else G2 ρ
def sDrop (f : Env' → M T) : Env' → M Fl := fun ρ => (f ρ).bind fun _ => .ret (.next ρ)
def sBrk : Env' → M Fl := fun ρ => .ret (.brk ρ)
def sCont : Env' → M Fl := fun ρ => .ret (.cont ρ)
def sStuck : Env' → M Fl := fun _ => .stuck
/-- a list of the def's own is final from here on -/
def fz (i : Nat) (ρ : Env') : Env' := match ρ[i]? with
  | some (.own ts) => ρ.set i (.val (.lst ts))
  | some (.ownD kvs) => ρ.set i (.val (.dct kvs))
  | _ => ρ
def sFz (i : Nat) (G : Env' → M Fl) : Env' → M Fl := fun ρ => G (fz i ρ)

section
variable {X : Cx} {g : Cn} {W : WX} {k : Nat} {pos : Pos} {c e : Expr} {st : Stmt} {rest body : List Stmt} {f : Env' → M T} {fn : Env' → M (List T)} {tc : Env' → M Bool} {G G1 G2 : Env' → M Fl}
theorem dss_nil : DSs X g W [] sNext := pss_imp pss_nil fun D σ H ⟨ρ, F, b, s, q⟩ => q σ H F (Same.refl _) s
theorem dss_cons (h1 : DS X g W st G1) (h2 : DSs X g W rest G2) : DSs X g W (st :: rest) (sSeq G1 G2) := pss_imp (pss_cons h1 h2) fun D σ H ⟨ρ, F, b, s, q⟩ => ⟨ρ, F, b, s, M.wp_mono (M.wp_bind.mp q) (fun b1 fl q1 => by
  cases fl with
  | next ρ' => exact fun σ' H' F' e s' => ⟨ρ', F', b1, s', M.wp_mono q1 (fun _ _ z => z.step e) fun _ _ _ z => z.step e⟩
  | ret t => exact q1
  | brk ρ' => exact q1
  | cont ρ' => exact q1) fun _ _ _ z => z⟩
theorem dss_one (h1 : DS X g W st G1) : DSs X g W [st] G1 := pss_one h1
theorem ds_pass : DS X g W (.Pass pos) sNext := ps_imp ps_pass fun D σ H ⟨ρ, F, b, s, q⟩ => q σ H F (Same.refl _) s
theorem ds_break : DS X g W (.Break pos) sBrk := ps_imp ps_break fun D σ H ⟨ρ, F, b, s, q⟩ => q σ H F (Same.refl _) s
theorem ds_continue : DS X g W (.Continue pos) sCont := ps_imp ps_continue fun D σ H ⟨ρ, F, b, s, q⟩ => q σ H F (Same.refl _) s
theorem ds_never : DS X g W st sStuck := ps_imp ps_never fun D σ H ⟨ρ, F, b, s, q⟩ => q
theorem ds_ret (he : DE X g W e f) : DS X g W (.Return (some e) pos) (sRet f) := ps_imp (ps_ret he) fun D σ H ⟨ρ, F, b, s, q⟩ => ⟨ρ, F, b, s, M.wp_mono (M.wp_bind.mp q) (fun b1 t q1 v H' F' s1 r => q1 v σ ρ H' F' s1.ext s1.sr r) fun _ _ _ z => z.ex⟩
theorem ds_drop (he : DE X g W e f) (hs : swapsWith e none pos.line X.env = pure false := by rfl) : DS X g W (.Expr e pos) (sDrop f) := ps_imp (ps_expr he hs) fun D σ H ⟨ρ, F, b, s, q⟩ => ⟨ρ, F, b, s, M.wp_mono (M.wp_bind.mp q) (fun b1 t q1 v H' F' s1 r => q1 σ H' F' s1.ext s1.sr) fun _ _ _ z => z.ex⟩
theorem ds_if {a1 a2 : List Stmt} (hc : DT X g W c tc) (h1 : DSs X g W a1 G1) (h2 : DSs X g W a2 G2) : DS X g W (.If c a1 a2 pos) (sIf tc G1 G2) := ps_imp (ps_if hc h1 h2) fun D σ H ⟨ρ, F, b, s, q⟩ => ⟨ρ, F, b, s, M.wp_mono (M.wp_bind.mp q) (fun b1 d q1 H' F' s1 => by
  cases d with
  | true =>
    rw [if_pos rfl] at q1 ⊢
    exact ⟨ρ, F', b1, s1.sr, M.wp_mono q1 (fun _ _ z => z.step s1.ext) fun _ _ _ z => z.step s1.ext⟩
  | false =>
    rw [if_neg Bool.false_ne_true] at q1 ⊢
    exact ⟨ρ, F', b1, s1.sr, M.wp_mono q1 (fun _ _ z => z.step s1.ext) fun _ _ _ z => z.step s1.ext⟩) fun _ _ _ z => z.ex⟩
theorem ds_set {i : Nat} {x : Str} {pos' : Pos} (hN : X.N.Nodup) (hi : X.N[i]? = some x) (hx : Loc X.env.scope x) (he : DE X g W e f) (hs : swapsWith e (some (.Name x pos')) pos.line X.env = pure false := by rfl) (hf : X.fn x = true ∨ X.env.scope.names.lookup x = some .local := by first | exact .inl rfl | exact .inr rfl | assumption) :
    DS X g W (.Assign [.Name x pos'] e pos) (sSet i f) := ps_imp (ps_set hN hi hx he hs hf) fun D σ H ⟨ρ, F, b, s, q⟩ => ⟨ρ, F, b, s, M.wp_mono (M.wp_bind.mp q) (fun b1 t q1 v H' F' s1 r => q1 _ H' F' s1.ext (s1.sr.set i (.val r) rfl)) fun _ _ _ z => z.ex⟩
theorem ds_own {i : Nat} {x : Str} {pos' : Pos} (hN : X.N.Nodup) (hi : X.N[i]? = some x) (hx : Loc X.env.scope x) (he : DN X g W e fn) (hs : swapsWith e (some (.Name x pos')) pos.line X.env = pure false := by rfl) (hf : X.fn x = true ∨ X.env.scope.names.lookup x = some .local := by first | exact .inl rfl | exact .inr rfl | assumption) :
    DS X g W (.Assign [.Name x pos'] e pos) (sOwn i fn) := ps_imp (ps_set hN hi hx he hs hf) fun D σ H ⟨ρ, F, b, s, q⟩ => ⟨ρ, F, b, s, M.wp_mono (M.wp_bind.mp q) (fun b1 ts q1 p vs H1 H' F' s1 hp e r => by
  subst e
  exact q1 _ _ F' s1.ext (s1.sr.setOwn i hp r)) fun _ _ _ z => z.ex⟩
theorem ds_setLc {i : Nat} {y : Str} {py lpos spos : Pos} {elt : Expr} {gs : List Comprehension} {scope : Scope} (h : PS X (.Assign [.Name y py] (.ListComp elt gs scope lpos) spos) (tAsg (tDN g W fn) (gName i))) : DS X g W (.Assign [.Name y py] (.ListComp elt gs scope lpos) spos) (sSet i (e1 lstT fn)) :=
  ps_imp h fun D σ H ⟨ρ, F, b, s, q⟩ => ⟨ρ, F, b, s, M.wp_mono (M.wp_bind.mp (M.wp_bind.mp q)) (fun b1 ts q1 p vs H1 H' F' s1 hp e r => by
  subst e
  have st := s1.sr.step (.lst vs) hp
  exact q1 _ _ _ (s1.ext.trans st.ext) (st.sr.set i (.val (.lst upd_same (r.ext st.ext))) rfl)) fun _ _ _ z => z.ex⟩
theorem ds_ownLc {i : Nat} {y : Str} {py lpos spos : Pos} {elt : Expr} {gs : List Comprehension} {scope : Scope} (h : PS X (.Assign [.Name y py] (.ListComp elt gs scope lpos) spos) (tAsg (tDN g W fn) (gName i))) : DS X g W (.Assign [.Name y py] (.ListComp elt gs scope lpos) spos) (sOwn i fn) :=
  ps_imp h fun D σ H ⟨ρ, F, b, s, q⟩ => ⟨ρ, F, b, s, M.wp_mono (M.wp_bind.mp q) (fun b1 ts q1 p vs H1 H' F' s1 hp e r => by
  subst e
  exact q1 _ _ F' s1.ext (s1.sr.setOwn i hp r)) fun _ _ _ z => z.ex⟩
/-- the ghost step -/
theorem SR.fz {g : Cn} {F H : Hp} {σ : Sg} {ρ : Env'} {b : Nat} (s : SR g F H σ ρ b) (i : Nat) : ∃ F', Ext F F' ∧ SR g F' H σ (fz i ρ) b := by
  unfold DP.fz
  have go : ∀ (a : Addr) (o : HO) (x y : Sl), ρ[i]? = some x → x.isOwn = true → σ[i]? = some (some (.ref a)) → H a = some o → F a = none → g.H0 a = none → ¬ g.inS a → y.isOwn = false → (∀ F', Ext F F' → F' a = some o → SlOk g F' H (some (.ref a)) y) → ∃ F', Ext F F' ∧ SR g F' H σ (ρ.set i y) b := by
    intro a o x y hx ox hv ha hfa h0 ns ny hy
    have e : Ext F (upd F a o) := Ext.upd hfa
    have il : i < ρ.length := (List.getElem?_eq_some_iff.mp hx).1
    refine ⟨upd F a o, e, ⟨fun c u q => ?_, s.f0.trans e, s.keep, fun c u q1 q2 => ?_, ?_, fun j k c z w jk hz hw oz ow e1 => ?_, fun p l q => ?_, s.tabK e fun p q m => ⟨fun _ h => h, by rw [upd_ne (Cn.tabNe ns m)]; exact (s.tabs p q m).1⟩⟩⟩
    · by_cases hc : c = a
      · subst hc; rw [upd_same] at q; cases q; exact ha
      · rw [upd_ne hc] at q; exact s.sub c u q
    · rw [upd_ne (fun z => by subst z; rw [h0] at q1; cases q1)]; exact s.new c u q1 q2
    · refine Paired.setImp (i := i) s.slots hv (hy _ e upd_same) fun j v z hj h1 h2 r => ?_
      have ne : ∀ c : Addr, v = some (.ref c) → z.isOwn = true → c ≠ a := fun c e1 oz z1 => by
        subst z1
        exact s.dis i j c x z (Ne.symm hj) hx h2 ox oz hv (by rw [h1, e1])
      cases r with
      | any v => exact .any v
      | val r => exact .val (r.ext e)
      | own z1 z2 z3 z4 z5 => exact .own z1 (by rw [upd_ne (ne _ rfl rfl)]; exact z2) z3 z4 (z5.ext e)
      | ownD z1 z2 z3 z4 z5 => exact .ownD z1 (by rw [upd_ne (ne _ rfl rfl)]; exact z2) z3 z4 (z5.ext e)
      | ownS z1 z2 z3 z4 z5 => exact .ownS z1 (by rw [upd_ne (ne _ rfl rfl)]; exact z2) z3 z4 (z5.ext e)
      | strm h => exact .strm h
      | pin h => exact .pin h
    · rcases get_set hz with ⟨rfl, rfl, _⟩ | ⟨nj, hz⟩
      · rw [ny] at oz; cases oz
      · rcases get_set hw with ⟨rfl, rfl, _⟩ | ⟨nk, hw⟩
        · rw [ny] at ow; cases ow
        · exact s.dis j k c z w jk hz hw oz ow e1
    · obtain ⟨q1, q2, q3, q4⟩ := s.strm p l q
      refine ⟨by rw [upd_ne (fun z => ns (.inl ⟨p, l, q, .inl z.symm⟩))]; exact q1, by rw [upd_ne (fun z => ns (.inl ⟨p, l, q, .inr z.symm⟩))]; exact q2, q3, q4⟩
  cases hx : ρ[i]? with
  | none => exact ⟨F, Same.refl _, s⟩
  | some x =>
    obtain ⟨v, hv, r⟩ := Paired.get1 s.slots hx
    cases r with
    | any v => exact ⟨F, Same.refl _, s⟩
    | val r => exact ⟨F, Same.refl _, s⟩
    | strm h => exact ⟨F, Same.refl _, s⟩
    | pin a => exact ⟨F, Same.refl _, s⟩
    | own h1 h2 h3 h4 h5 => exact go _ _ _ _ hx rfl hv h1 h2 h3 h4 rfl fun F' e ha => .val (.lst ha (h5.ext e))
    | ownD h1 h2 h3 h4 h5 => exact go _ _ _ _ hx rfl hv h1 h2 h3 h4 rfl fun F' e ha => .val (.dct ha (h5.ext e))
    | ownS _ _ _ _ _ => exact ⟨F, Same.refl _, s⟩
theorem dss_fz (i : Nat) (h : DSs X g W rest G) : DSs X g W rest (sFz i G) := pss_imp h fun D σ H ⟨ρ, F, b, s, q⟩ => by
  obtain ⟨F', e, s'⟩ := s.fz i
  exact ⟨fz i ρ, F', b, s', M.wp_mono q (fun _ _ z => z.step e) fun _ _ _ z => z.step e⟩
end
end DP
end
section
set_option Elab.async false
set_option linter.all false
set_option maxRecDepth 100000
namespace DP
open PySem PySem.Spec PyProof.Rows L2

/-! ### while -/
def whileL (c : Env' → M Bool) (G : Env' → M Fl) : Nat → Env' → M Fl
  | 0, _ => .stuck
  | n + 1, ρ => (c ρ).bind fun b => if b = true then (G ρ).bind fun fl => match fl with
      | .next ρ' => whileL c G n ρ'
      | .cont ρ' => whileL c G n ρ'
      | .brk ρ' => .ret (.next ρ')
      | .ret t => .ret (.ret t)
    else .ret (.next ρ)
def sWhile (n : Nat) (c : Env' → M Bool) (G : Env' → M Fl) : Env' → M Fl := whileL c G n
/-! ### for -/
def forL (bd : T → Env' → Option Env') (G : Env' → M Fl) : List T → Env' → M Fl
  | [], ρ => .ret (.next ρ)
  | t :: ts, ρ => match bd t ρ with
    | none => .stuck
    | some ρ1 => (G ρ1).bind fun fl => match fl with
      | .next ρ' => forL bd G ts ρ'
      | .cont ρ' => forL bd G ts ρ'
      | .brk ρ' => .ret (.next ρ')
      | .ret t => .ret (.ret t)
def sFor (fi : Env' → M (List T)) (bd : T → Env' → Option Env') (G : Env' → M Fl) : Env' → M Fl := fun ρ => (fi ρ).bind fun ts => forL bd G ts ρ

/-- an iterator that gives ts -/
structure Wk (g : Cn) (J : It) (F : Hp) (ts : List T) : Prop where
  go : ∀ (i : Nat) (F2 H : Hp), Ext F F2 → Ext F2 H → i < ts.length → J.go i H
  stop : ∀ (F2 H : Hp), Ext F F2 → Ext F2 H → J.stop ts.length H
  yld : ∀ (i : Nat) (F2 H : Hp) (x : V) (H' : Hp) (t : T), Ext F F2 → Ext F2 H → ts[i]? = some t → J.yld i H x H' → (H' = H ∧ Rep g.K F2 x t) ∨ ∃ p vs us, H p = none ∧ H' = upd H p (.tup vs) ∧ x = .ref p ∧ t = .tup us ∧ Reps g.K F2 vs us
def tDI (g : Cn) (W : WX) (f : Env' → M (List T)) : TI := fun σ H R => ∃ ρ F b, SR g F H σ ρ b ∧ (f ρ).wp b (fun b' ts => ∀ J F' H', Step g σ ρ F H F' H' b' → Wk g J F' ts → R J H') (EX g W σ ρ F H)
abbrev DI (X : Cx) (g : Cn) (W : WX) (tg e : Expr) (f : Env' → M (List T)) : Prop := PI X tg e (tDI g W f)
/-- only slots of vs are other ones -/
def Apart {α : Type} (vs : List Nat) (xs ys : List α) : Prop := xs.length = ys.length ∧ ∀ j, j ∉ vs → xs[j]? = ys[j]?
theorem Apart.refl {α : Type} (vs : List Nat) (xs : List α) : Apart vs xs xs := ⟨rfl, fun _ _ => rfl⟩
theorem Apart.trans {α : Type} {vs ws : List Nat} {xs ys zs : List α} (a : Apart vs xs ys) (b : Apart ws ys zs) : Apart (vs ++ ws) xs zs := ⟨a.1.trans b.1, fun j h => (a.2 j fun z => h (List.mem_append_left _ z)).trans (b.2 j fun z => h (List.mem_append_right _ z))⟩
theorem Apart.set {α : Type} (xs : List α) (i : Nat) (x : α) : Apart [i] xs (xs.set i x) := ⟨by simp, fun j h => by rw [List.getElem?_set_ne (fun z => h (List.mem_singleton.mpr z.symm))]⟩
def NoOwn (vs : List Nat) (ρ : Env') : Prop := ∀ i ∈ vs, ∀ x, ρ[i]? = some x → x.isOwn = false
theorem NoOwn.app {vs ws : List Nat} {ρ ρ' : Env'} (h : NoOwn vs ρ) (a : Apart ws ρ ρ') (h' : NoOwn ws ρ') : NoOwn (vs ++ ws) ρ' := fun i hi x e => by
  by_cases hw : i ∈ ws
  · exact h' i hw x e
  · rw [← a.2 i hw] at e
    exact h i ((List.mem_append.mp hi).resolve_right hw) x e
def tDG (g : Cn) (vs : List Nat) (bd : T → Env' → Option Env') : TG := fun v σ H Q => ∃ ρ F b t, SR g F H σ ρ b ∧ Rep g.K F v t ∧ ∃ ρ', bd t ρ = some ρ' ∧ ∀ σ', SR g F H σ' ρ' b → Apart vs σ σ' → Apart vs ρ ρ' → NoOwn vs ρ' → Q σ' H
abbrev DG (X : Cx) (g : Cn) (vs : List Nat) (tg : Expr) (bd : T → Env' → Option Env') : Prop := PG X tg (tDG g vs bd)

theorem pi_imp {X : Cx} {tg e : Expr} {t t' : TI} (h : PI X tg e t) (i : ∀ σ H R, t' σ H R → t σ H R) : PI X tg e t' := ⟨fun pins s σ H R I hw => h.run pins s σ H R I (i σ H R hw)⟩
theorem pg_imp {X : Cx} {tg : Expr} {t t' : TG} (h : PG X tg t) (i : ∀ v σ H Q, t' v σ H Q → t v σ H Q) : PG X tg t' := ⟨fun pins s σ H v u Q I r hw => h.run pins s σ H v u Q I r (i v σ H Q hw)⟩

section
variable {X : Cx} {g : Cn} {W : WX} {k : Nat} {pos : Pos} {c e tg iter : Expr} {body : List Stmt} {f : Env' → M T} {fi fn : Env' → M (List T)} {tc : Env' → M Bool} {G : Env' → M Fl} {bd : T → Env' → Option Env'} {ws us : List Nat}
theorem ds_while (n : Nat) (hp : PassesOwn (model X.prog X.w) X.A X.env X.xe) (hc : DT X g W c tc) (hb : DSs X g W body G) : DS X g W (.While c body [] pos) (sWhile n tc G) :=
  ps_imp (ps_while hp hc hb) fun D σ H ⟨ρ, F, b, s, q⟩ => by
    refine ⟨fun m σ' H' => ∃ ρ' F' b', Ext F F' ∧ SR g F' H' σ' ρ' b' ∧ (whileL tc G m ρ').wp b' (FlOk g F D) (EXs g W F), ⟨n, ρ, F, b, Same.refl _, s, q⟩, ?_⟩
    rintro m σ1 H1 ⟨ρ1, F1, b1, e1, s1, q1⟩
    cases m with
    | zero => exact q1.elim
    | succ m =>
      refine ⟨ρ1, F1, b1, s1, M.wp_mono (M.wp_bind.mp q1) (fun b2 d q2 H2 F2 s2 => ?_) fun _ _ _ z => (z.step e1).ex⟩
      cases d with
      | false =>
        rw [if_neg Bool.false_ne_true] at q2 ⊢
        exact q2 σ1 H2 F2 (e1.trans s2.ext) s2.sr
      | true =>
        rw [if_pos rfl] at q2 ⊢
        refine ⟨fun σ' H' => ∃ ρ' F' b', Ext F F' ∧ SR g F' H' σ' ρ' b' ∧ (whileL tc G m ρ').wp b' (FlOk g F D) (EXs g W F), fun σ' H' h => ⟨m, Nat.lt_succ_self m, h⟩, ρ1, F2, b2, s2.sr, M.wp_mono (M.wp_bind.mp q2) (fun b3 fl q3 => ?_) fun _ _ _ z => z.step (e1.trans s2.ext)⟩
        cases fl with
        | next ρ' => exact fun σ' H' F' e' s' => ⟨ρ', F', b3, (e1.trans s2.ext).trans e', s', q3⟩
        | cont ρ' => exact fun σ' H' F' e' s' => ⟨ρ', F', b3, (e1.trans s2.ext).trans e', s', q3⟩
        | brk ρ' => exact fun σ' H' F' e' s' => q3 σ' H' F' ((e1.trans s2.ext).trans e') s'
        | ret t => exact fun v σ' ρ' H' F' e' s' => q3 v σ' ρ' H' F' ((e1.trans s2.ext).trans e') s'
theorem ds_for (hp : PassesOwn (model X.prog X.w) X.A X.env X.xe) (hc : X.calm = true) (hi : DI X g W tg iter fi) (hg : DG X g ws tg bd) (hb : DSs X g W body G)
    (hs : ∀ x, foldedSetIterable iter X.env x = pure x := by intro _; rfl) : DS X g W (.For tg iter body [] pos) (sFor fi bd G) :=
  ps_imp (ps_for hp hc hi hg hb hs) fun D σ H ⟨ρ, F, b, s, q⟩ => by
    refine ⟨ρ, F, b, s, M.wp_mono (M.wp_bind.mp q) (fun b1 ts q1 J F1 H1 s1 w => ?_) fun _ _ _ z => z.ex⟩
    refine ⟨fun i m σ' H' => m = ts.length - i ∧ i ≤ ts.length ∧ ∃ ρ' F' b', Ext F1 F' ∧ SR g F' H' σ' ρ' b' ∧ (forL bd G (ts.drop i) ρ').wp b' (FlOk g F D) (EXs g W F), ⟨ts.length, by simp, Nat.zero_le _, ρ, F1, b1, Same.refl _, s1.sr, q1⟩, ?_⟩
    rintro i m σ2 H2 ⟨rfl, hi, ρ2, F2, b2, e2, s2, q2⟩
    by_cases hl : i < ts.length
    · refine .inr ⟨w.go i F2 H2 e2 s2.sub hl, fun σ' H' => ts.length - (i + 1) = ts.length - (i + 1) ∧ i + 1 ≤ ts.length ∧ ∃ ρ' F' b', Ext F1 F' ∧ SR g F' H' σ' ρ' b' ∧ (forL bd G (ts.drop (i + 1)) ρ').wp b' (FlOk g F D) (EXs g W F), fun σ' H' h => ⟨ts.length - (i + 1), by omega, h⟩, fun x H3 y => ?_⟩
      have hd : ts.drop i = ts[i] :: ts.drop (i + 1) := List.drop_eq_getElem_cons hl
      rw [hd] at q2
      have eF : Ext F F2 := s1.ext.trans e2
      cases hb' : bd ts[i] ρ2 with
      | none =>
        have q2 : (match bd ts[i] ρ2 with | none => M.stuck | some ρ1 => (G ρ1).bind _).wp b2 _ _ := q2
        rw [hb'] at q2
        exact q2.elim
      | some ρ3 =>
        have q2 : (match bd ts[i] ρ2 with | none => M.stuck | some ρ1 => (G ρ1).bind _).wp b2 _ _ := q2
        rw [hb'] at q2
        have q3 := M.wp_bind.mp q2
        have fin : ∀ (F4 : Hp), Ext F2 F4 → ∀ (σ4 : Sg) (H4 : Hp), SR g F4 H4 σ4 ρ3 b2 → tDS g W G { D with nx := fun σ' H' => ts.length - (i + 1) = ts.length - (i + 1) ∧ i + 1 ≤ ts.length ∧ ∃ ρ' F' b', Ext F1 F' ∧ SR g F' H' σ' ρ' b' ∧ (forL bd G (ts.drop (i + 1)) ρ').wp b' (FlOk g F D) (EXs g W F), ct := fun σ' H' => ts.length - (i + 1) = ts.length - (i + 1) ∧ i + 1 ≤ ts.length ∧ ∃ ρ' F' b', Ext F1 F' ∧ SR g F' H' σ' ρ' b' ∧ (forL bd G (ts.drop (i + 1)) ρ').wp b' (FlOk g F D) (EXs g W F), bk := D.nx } σ4 H4 := by
          intro F4 e4 σ4 H4 s4
          refine ⟨ρ3, F4, b2, s4, M.wp_mono q3 (fun b5 fl q5 => ?_) fun _ _ _ z => z.step (eF.trans e4)⟩
          cases fl with
          | next ρ' => exact fun σ' H' F' e' s' => ⟨rfl, hl, ρ', F', b5, (e2.trans e4).trans e', s', q5⟩
          | cont ρ' => exact fun σ' H' F' e' s' => ⟨rfl, hl, ρ', F', b5, (e2.trans e4).trans e', s', q5⟩
          | brk ρ' => exact fun σ' H' F' e' s' => q5 σ' H' F' ((eF.trans e4).trans e') s'
          | ret t => exact fun v σ' ρ' H' F' e' s' => q5 v σ' ρ' H' F' ((eF.trans e4).trans e') s'
        rcases w.yld i F2 H2 x H3 ts[i] e2 s2.sub (List.getElem?_eq_getElem hl) y with ⟨rfl, r⟩ | ⟨p, vs, us, hp', rfl, rfl, et, r⟩
        · exact ⟨ρ2, F2, b2, _, s2, r, ρ3, hb', fun σ4 s4 _ _ _ => fin F2 (Same.refl _) σ4 _ s4⟩
        · have st := s2.step (.tup vs) hp'
          refine ⟨ρ2, _, b2, _, st.sr, ?_, ρ3, hb', fun σ4 s4 _ _ _ => fin _ st.ext σ4 _ s4⟩
          rw [et]
          exact .tup (SqT.of upd_same) (r.ext st.ext)
    · have e : i = ts.length := by omega
      subst e
      rw [List.drop_length] at q2
      exact .inl ⟨w.stop F2 H2 e2 s2.sub, q2 σ2 H2 F2 (s1.ext.trans e2) s2⟩

/-! ### targets -/
def bName (i : Nat) : T → Env' → Option Env' := fun t ρ => some (ρ.set i (.val t))
def bSkip : T → Env' → Option Env' := fun _ ρ => some ρ
def bNil : List T → Env' → Option Env'
  | [], ρ => some ρ
  | _, _ => none
def bCons (b : T → Env' → Option Env') (bs : List T → Env' → Option Env') : List T → Env' → Option Env'
  | t :: ts, ρ => (b t ρ).bind (bs ts)
  | _, _ => none
def bTup (bs : List T → Env' → Option Env') : T → Env' → Option Env'
  | .tup ts, ρ => bs ts ρ
  | .lst ts, ρ => bs ts ρ
  | _, _ => none
def tDGs (g : Cn) (ws : List Nat) (bs : List T → Env' → Option Env') : TGs := fun vs σ H Q => ∃ ρ F b ts, SR g F H σ ρ b ∧ Reps g.K F vs ts ∧ ∃ ρ', bs ts ρ = some ρ' ∧ ∀ σ', SR g F H σ' ρ' b → Apart ws σ σ' → Apart ws ρ ρ' → NoOwn ws ρ' → Q σ' H
abbrev DGs (X : Cx) (g : Cn) (ws : List Nat) (es : List Expr) (bs : List T → Env' → Option Env') : Prop := PGs X es (tDGs g ws bs)
theorem pgs_imp {es : List Expr} {t t' : TGs} (h : PGs X es t) (i : ∀ vs σ H Q, t' vs σ H Q → t vs σ H Q) : PGs X es t' := ⟨fun pins s σ H v u Q I r hw => h.run pins s σ H v u Q I r (i v σ H Q hw)⟩
theorem dg_name {i : Nat} {x : Str} (hN : X.N.Nodup) (hi : X.N[i]? = some x) (hx : Loc X.env.scope x) (hf : X.fn x = true ∨ X.env.scope.names.lookup x = some .local := by first | exact .inl rfl | exact .inr rfl | assumption) : DG X g [i] (.Name x pos) (bName i) :=
  pg_imp (pg_name hN hi hx hf) fun v σ H Q ⟨ρ, F, b, t, s, r, ρ', e, q⟩ => by
    cases e
    exact q _ (s.set i (.val r) rfl) (Apart.set _ _ _) (Apart.set _ _ _) fun j hj x e => by
      cases List.mem_singleton.mp hj
      rcases get_set e with ⟨_, e, _⟩ | ⟨n, _⟩
      · subst e; rfl
      · exact absurd rfl n
theorem dgs_nil : DGs X g [] [] bNil := pgs_imp pgs_nil fun vs σ H Q ⟨ρ, F, b, ts, s, r, ρ', e, q⟩ => by
  cases ts with
  | nil => cases r; cases e; exact ⟨rfl, q _ s (Apart.refl _ _) (Apart.refl _ _) fun _ h => nomatch h⟩
  | cons t ts => cases e
theorem dgs_cons {es : List Expr} {b1 : T → Env' → Option Env'} {bs : List T → Env' → Option Env'} (h1 : DG X g ws e b1) (h2 : DGs X g us es bs)
    (hs : (assignEach (e :: es) X.env).map (·.2) = assign e X.env :: (assignEach es X.env).map (·.2) := by rfl) : DGs X g (ws ++ us) (e :: es) (bCons b1 bs) :=
  pgs_imp (pgs_cons h1 h2 hs) fun vs σ H Q ⟨ρ, F, b, ts, s, r, ρ', e, q⟩ => by
    cases r with
    | nil => cases e
    | @cons v vs t ts r rs =>
      have e : (b1 t ρ).bind (bs ts) = some ρ' := e
      cases z : b1 t ρ with
      | none => rw [z] at e; cases e
      | some ρ1 =>
        rw [z] at e
        exact ⟨v, vs, rfl, ρ, F, b, t, s, r, ρ1, z, fun σ1 s1 a1 a2 n1 => ⟨ρ1, F, b, ts, s1, rs, ρ', e, fun σ2 s2 a3 a4 n2 => q σ2 s2 (a1.trans a3) (a2.trans a4) (n1.app a4 n2)⟩⟩
theorem pg_or {t t' : TG} (h : PG X e t) (h' : PG X e t') : PG X e (fun v σ H Q => t v σ H Q ∨ t' v σ H Q) := ⟨fun pins s σ H v u Q I r hw => hw.elim (h.run pins s σ H v u Q I r) (h'.run pins s σ H v u Q I r)⟩
theorem dg_tup {es : List Expr} {kk n : Nat} {bs : List T → Env' → Option Env'} (hc : X.calm = true) (h : DGs X g ws es bs) (hlen : ∀ ts ρ ρ', bs ts ρ = some ρ' → ts.length = n)
    (hn : (assignEach es X.env).length = n := by rfl) (hst : (assignEach es X.env).findIdx? (·.1) = none := by rfl) (hK : X.K = g.K := by rfl) : DG X g ws (.Tuple es kk pos) (bTup bs) :=
  pg_imp (pg_or (pg_tup hc h hn hst) (pg_unl hc h hn hst)) fun v σ H Q ⟨ρ, F, b, t, s, r, ρ', e, q⟩ => by
    cases t with
    | tup ts =>
      cases r with
      | @tup a vs _ h1 h2 => exact .inl ⟨a, vs, rfl, by rw [hK]; exact sqT_ext s.sub h1, by rw [h2.length]; exact hlen _ _ _ e, ρ, F, b, ts, s, h2, ρ', e, q⟩
    | lst ts =>
      cases r with
      | @lst a vs _ h1 h2 => exact .inr ⟨a, vs, rfl, SqL.of (s.sub _ _ h1), by rw [h2.length]; exact hlen _ _ _ e, ρ, F, b, ts, s, h2, ρ', e, q⟩
    | _ => cases e
theorem bNil_len : ∀ (ts : List T) (ρ ρ' : Env'), bNil ts ρ = some ρ' → ts.length = 0
  | [], _, _, _ => rfl
  | _ :: _, _, _, e => by cases e
theorem bCons_len {b : T → Env' → Option Env'} {bs : List T → Env' → Option Env'} {n : Nat} (h : ∀ (ts : List T) (ρ ρ' : Env'), bs ts ρ = some ρ' → ts.length = n) : ∀ (ts : List T) (ρ ρ' : Env'), bCons b bs ts ρ = some ρ' → ts.length = n + 1
  | [], _, _, e => by cases e
  | t :: ts, ρ, ρ', e => by
    have e : (b t ρ).bind (bs ts) = some ρ' := e
    cases z : b t ρ with
    | none => rw [z] at e; cases e
    | some ρ1 =>
      rw [z] at e
      have e : bs ts ρ1 = some ρ' := e
      simp [h ts ρ1 ρ' e]
/-- target = e -/
def sAsg (f : Env' → M T) (bd : T → Env' → Option Env') : Env' → M Fl := fun ρ => (f ρ).bind fun t => match bd t ρ with
  | some ρ' => .ret (.next ρ')
  | none => .stuck
theorem ds_asg (he : DE X g W e f) (hg : DG X g ws tg bd) (hs : swapsWithSole [tg] e pos.line X.env = pure false := by rfl) (hw : swappedStores [tg] e X.env = pure none := by rfl)
    (h1 : (assignEach [tg] X.env).map (·.2) = [assign tg X.env] := by rfl) : DS X g W (.Assign [tg] e pos) (sAsg f bd) :=
  ps_imp (ps_asg he hg hs hw h1) fun D σ H ⟨ρ, F, b, s, q⟩ => ⟨ρ, F, b, s, M.wp_mono (M.wp_bind.mp q) (fun b1 t q1 v H' F' s1 r => by
    cases z : bd t ρ with
    | none => rw [z] at q1; exact q1.elim
    | some ρ' =>
      rw [z] at q1
      exact ⟨ρ, F', b1, t, s1.sr, r, ρ', z, fun σ' s' _ _ _ => q1 σ' H' F' s1.ext s'⟩) fun _ _ _ z => z.ex⟩

/-! ### what is walked -/
def itemsT : T → M (List T)
  | .lst ts => .ret ts
  | .tup ts => .ret ts
  | _ => .stuck
theorem wk_list {a : Addr} {F : Hp} {vs : List V} {ts : List T} (hK : X.K = g.K) (h : F a = some (.lst vs)) (r : Reps g.K F vs ts) : Wk g (Itl X.K a) F ts where
  go := fun i F2 H e1 e2 hi => ⟨vs, vs[i]'(by rw [r.length]; exact hi), SqL.of (e2 _ _ (e1 _ _ h)), by simp [r.length, hi]⟩
  stop := fun F2 H e1 e2 => ⟨vs, SqL.of (e2 _ _ (e1 _ _ h)), by rw [r.length]; exact Nat.le_refl _⟩
  yld := fun i F2 H x H' t e1 e2 ht y => .inl ⟨y.1, by
    obtain ⟨v, hv, rv⟩ := r.get' ht
    have e := y.2 vs (SqL.of (e2 _ _ (e1 _ _ h)))
    rw [hv] at e
    cases e
    exact rv.ext e1⟩
theorem wk_tup {a : Addr} {F : Hp} {vs : List V} {ts : List T} (hK : X.K = g.K) (h : SqT g.K F a vs) (r : Reps g.K F vs ts) : Wk g (Itt X.K a) F ts where
  go := fun i F2 H e1 e2 hi => ⟨vs, vs[i]'(by rw [r.length]; exact hi), by rw [hK]; exact sqT_ext (e1.trans e2) h, by simp [r.length, hi]⟩
  stop := fun F2 H e1 e2 => ⟨vs, by rw [hK]; exact sqT_ext (e1.trans e2) h, by rw [r.length]; exact Nat.le_refl _⟩
  yld := fun i F2 H x H' t e1 e2 ht y => .inl ⟨y.1, by
    obtain ⟨v, hv, rv⟩ := r.get' ht
    have e := y.2 vs (by rw [hK]; exact sqT_ext (e1.trans e2) h)
    rw [hv] at e
    cases e
    exact rv.ext e1⟩
/-- a list or a tuple, by what the expression gives -/
theorem pi_seq {l : Expr} {tl : TE} (hl : PE X l tl) : PI X tg l (fun σ H R => tl σ H fun x H1 => ∃ a, x = .ref a ∧ (((∃ xs, SqL X.K H1 a xs) ∧ R (Itl X.K a) H1) ∨ ((∃ xs, SqT X.K H1 a xs) ∧ R (Itt X.K a) H1))) := by
  refine ⟨fun pins s σ H R I h => thn (hl.run pins s σ H _ I h) fun v s1 hv => ?_⟩
  obtain ⟨x, H1, I1, r1, a, rfl, q⟩ := hv
  cases r1
  have fp : ∀ b ∈ [s1.heap.objs.size], FpOk X pins H1 b := fun b hb => by
    cases List.mem_singleton.mp hb
    exact I1.fpOk (Nat.le_refl _) (I1.hok.fresh (Nat.le_refl _))
  rcases q with ⟨⟨xs, hq⟩, q⟩ | ⟨⟨xs, hq⟩, q⟩
  · obtain ⟨its, rv, p, hz⟩ := I1.list hq
    exact wpAny_pyIter_list p.isList ⟨_, [s1.heap.objs.size], _, _, H1, rfl, I1.kept (t' := s1.toks) fun b o e => Heap.get?_push_of_some _ e, turn_list a _, ⟨_, Heap.get?_push_size _ rfl, rfl, rfl⟩, fp, q⟩
  · obtain ⟨its, rv, p, hz⟩ := I1.tuple hq
    exact wpAny_pyIter_tuple (show s1.heap.IsTuple a its.toArray from p) ⟨_, [s1.heap.objs.size], _, _, H1, rfl, I1.kept (t' := s1.toks) fun b o e => Heap.get?_push_of_some _ e, turn_tuple a _, ⟨_, Heap.get?_push_size _ rfl, rfl, rfl⟩, fp, q⟩
theorem di_seq (h : DE X g W e f) (hK : X.K = g.K := by rfl) : DI X g W tg e (e1 itemsT f) :=
  pi_imp (pi_seq h) fun σ H R ⟨ρ, F, b, s, q⟩ => ⟨ρ, F, b, s, M.wp_mono (M.wp_bind.mp q) (fun b1 t q1 v H' F' s1 r => by
    cases t with
    | lst ts =>
      cases r with
      | @lst a vs _ h1 h2 => exact ⟨a, rfl, .inl ⟨⟨vs, SqL.of (s1.sr.sub _ _ h1)⟩, q1 _ F' H' s1 (wk_list hK h1 h2)⟩⟩
    | tup ts =>
      cases r with
      | @tup a vs _ h1 h2 => exact ⟨a, rfl, .inr ⟨⟨vs, by rw [hK]; exact sqT_ext s1.sr.sub h1⟩, q1 _ F' H' s1 (wk_tup hK h1 h2)⟩⟩
    | _ => exact q1.elim) fun _ _ _ z => z⟩
end
end DP
end
section
set_option Elab.async false
set_option linter.all false
set_option maxRecDepth 100000
namespace DP
open PySem PySem.Spec PyProof.Rows L2

/-! ### what a def promises -/
def inS (S : Option (Addr × Addr)) (a : Addr) : Prop := ∃ s l, S = some (s, l) ∧ (a = s ∨ a = l)
structure After (S : Option (Addr × Addr)) (F H F' H' : Hp) (b : Nat) : Prop where
  ext : Ext F F'
  sub : Ext F' H'
  keep : ∀ a o, H a = some o → ¬ inS S a → H' a = some o
  new : ∀ a o, H a = some o → F a = none → F' a = none
  strm : ∀ s l, S = some (s, l) → StreamAt H' s l b
/-- the parameters: the stream ahead (st), then np values; the value is m's -/
def spD (K : KF) (Xc : Str → Addr × Str) (st : Bool) (np : Nat) (m : List T → M T) : Sp := fun vs H Q E => ∃ S F b vs' ts,
  vs'.length = np ∧ (if st = true then ∃ s l, S = some (s, l) ∧ vs = .ref s :: vs' ∧ F s = none ∧ F l = none ∧ s ≠ l ∧ StreamAt H s l b else S = none ∧ vs = vs') ∧ Ext F H ∧ Reps K F vs' ts ∧
  (m ts).wp b (fun b' t => ∀ v H' F', After S F H F' H' b' → Rep K F' v t → Q v H') (fun b' c t => ∀ d v H' F', After S F H F' H' b' → H' d = some (.xd [((Xc c).2, v)]) → Rep K F' v t → E (.ref (Xc c).1) (some d) H')
/-- the slots at the entry -/
def start' (st : Bool) (n : Nat) (ts : List T) : Env' := (if st = true then [Sl.strm] else []) ++ ts.map Sl.val ++ List.replicate (n - (ts.length + if st = true then 1 else 0)) Sl.any
/-- a def by its body -/
def fnM (st : Bool) (n : Nat) (G : Env' → M Fl) : List T → M T := fun ts => (G (start' st n ts)).bind fun fl => match fl with
  | .ret t => .ret t
  | .next _ => .ret .non
  | _ => .stuck

theorem slots_vals {g : Cn} {F H : Hp} : ∀ {vs : List V} {ts : List T}, Reps g.K F vs ts → Paired (SlOk g F H) (vs.map some) (ts.map Sl.val)
  | _, _, .nil => .nil
  | _, _, .cons h r => .cons (.val h) (slots_vals r)
theorem slots_any {g : Cn} {F H : Hp} : ∀ n : Nat, Paired (SlOk g F H) (List.replicate n (none : Option V)) (List.replicate n Sl.any)
  | 0 => .nil
  | n + 1 => .cons (.any _) (slots_any n)
theorem Paired.app {α β : Type} {R : α → β → Prop} : ∀ {xs zs : List α} {ys ws : List β}, Paired R xs ys → Paired R zs ws → Paired R (xs ++ zs) (ys ++ ws)
  | _, _, _, _, .nil, s => s
  | _, _, _, _, .cons r t, s => .cons r (Paired.app t s)
theorem start_noOwn (st : Bool) (n : Nat) (ts : List T) : ∀ x ∈ start' st n ts, x.isOwn = false := by
  intro x hx
  unfold start' at hx
  rcases List.mem_append.mp hx with hx | hx
  · rcases List.mem_append.mp hx with hx | hx
    · cases st with
      | true => rw [if_pos rfl] at hx; cases List.mem_singleton.mp hx; rfl
      | false => rw [if_neg Bool.false_ne_true] at hx; cases hx
    · obtain ⟨t, _, e⟩ := List.mem_map.mp hx; subst e; rfl
  · rw [(List.mem_replicate.mp hx).2]; rfl

section
variable {P : Program} {w : World} {K : KF} {mg : Str → Option Value} {base : Heap} {Xc : Str → Addr × Str} {st : Bool} {np : Nat} {x qual : Str} {sd : Stmt} {fa : Addr} {fd : FuncData} {N ps : List Str} {k : Nat} {Gb : Env' → M Fl}
/-- THE RULE for a def -/
theorem fn_deep (F : Fun K x qual sd fa fd) (S : FnScope N ps (defScope sd)) (hps : ps.length = np + if st = true then 1 else 0)
    (body : ∀ (cdv : Value) (A : Around) (outer : List Env) (s : Shared) (H : Hp) (E : XK) (F0 : Hp) (S0 : Option (Addr × Addr)), Room k (A.deeper (envOfC qual (defScope sd) s.heap.objs.size fa cdv)) →
      DSs (cxOf (L2.CX P w) P w K mg base N qual (defScope sd) fa cdv A outer s H E) ⟨K, H, F0, S0, Xc, none, SetTO P w, []⟩ (fun cls d _ H => E cls d H) (defBody sd) Gb) : FnOk P w K mg base (L2.CX P w) (k + 1) fa fd ps (spD K Xc st np (fnM st N.length Gb)) := by
  have len : ∀ vs H Q E, spD K Xc st np (fnM st N.length Gb) vs H Q E → vs.length = ps.length := by
    rintro vs H Q E ⟨S, F, b, vs', ts, h1, h2, _⟩
    cases st with
    | true =>
      rw [if_pos rfl] at h2 hps
      obtain ⟨s, l, _, rfl, _⟩ := h2
      rw [List.length_cons, h1, hps]
    | false =>
      rw [if_neg Bool.false_ne_true] at h2 hps
      rw [h2.2, h1, hps]
      rfl
  refine F.okX S len fun cdv A outer s H vs Q E hr h => ?_
  have hlen := len _ _ _ _ h
  obtain ⟨S', F', b, vs', ts, h1, h2, h3, h4, h5⟩ := h
  refine ⟨_, body cdv A outer s H E F' S' hr, start' st N.length ts, F', b, ?_, ?_⟩
  · have hN : ps.length ≤ N.length := by have := congrArg List.length S.pre; rw [List.length_take] at this; omega
    refine ⟨h3, Same.refl _, fun _ _ q _ => q, fun _ _ _ q => q, ?_, fun i j a y z _ hy _ oy _ => ?_, fun p l e => ?_, fun p q m => nomatch m⟩
    · have hz := h4.length
      unfold L2.start start'
      cases st with
      | true =>
        rw [if_pos rfl] at h2 hps
        rw [if_pos rfl, if_pos rfl]
        obtain ⟨p, l, e1, rfl, e3, e4, e5, e6⟩ := h2
        rw [hlen]
        have e : N.length - ps.length = N.length - (ts.length + 1) := by omega
        rw [e]
        exact Paired.app (Paired.app (.cons (.strm e1) .nil) (slots_vals h4)) (slots_any _)
      | false =>
        rw [if_neg Bool.false_ne_true] at h2 hps
        rw [if_neg Bool.false_ne_true, if_neg Bool.false_ne_true]
        obtain ⟨e1, rfl⟩ := h2
        rw [hlen]
        have e : N.length - ps.length = N.length - (ts.length + 0) := by omega
        rw [e]
        exact Paired.app (slots_vals h4) (slots_any _)
    · rw [start_noOwn st _ ts y (List.mem_of_getElem? hy)] at oy
      cases oy
    · cases st with
      | true =>
        rw [if_pos rfl] at h2
        obtain ⟨p', l', e1, rfl, e3, e4, e5, e6⟩ := h2
        have e : S' = some (p, l) := e
        rw [e1] at e
        cases e
        exact ⟨e3, e4, e5, e6⟩
      | false =>
        rw [if_neg Bool.false_ne_true] at h2
        have e : S' = some (p, l) := e
        rw [h2.1] at e
        cases e
  · have aft : ∀ {σ : Sg} {ρ : Env'} {H2 F2 : Hp} {b' : Nat}, SR ⟨K, H, F', S', Xc, none, SetTO P w, []⟩ F2 H2 σ ρ b' → After S' F' H F2 H2 b' := fun {σ ρ H2 F2 b'} s2 => ⟨s2.f0, s2.sub, fun a o h n => s2.keep a o h fun z => z.elim n (fun ⟨_, m⟩ => nomatch m), s2.new, fun p l e => (s2.strm p l e).2.2.2⟩
    have h5 : (fnM st N.length Gb ts).wp b _ _ := h5
    refine M.wp_mono (M.wp_bind.mp h5) (fun b' fl q => ?_) fun b' c t q d v σ ρ H2 F2 _ s2 hd r => q d v H2 F2 (aft s2) hd r
    cases fl with
    | next ρ' => exact fun σ' H2 F2 _ s2 => q .non H2 F2 (aft s2) .non
    | ret t => exact fun v σ' ρ' H2 F2 _ s2 r => q v H2 F2 (aft s2) r
    | brk ρ' => exact q.elim
    | cont ρ' => exact q.elim
end

/-! ### calls -/
def eCall (m : List T → M T) (f : Env' → M (List T)) : Env' → M T := fun ρ => (f ρ).bind m
/-- .. with the stream ahead, which slot i holds -/
def eCallS (i : Nat) (m : List T → M T) (f : Env' → M (List T)) : Env' → M T := fun ρ => match ρ[i]? with
  | some .strm => (f ρ).bind m
  | _ => .stuck
theorem wp_ret_bind {α β : Type} {a : α} {f : α → M β} : (M.ret a).bind f = f a := rfl
theorem M.wp_le {α : Type} : ∀ {m : M α} {b : Nat} {Q : Nat → α → Prop} {E : Nat → Str → T → Prop}, m.wp b Q E → m.wp b (fun b' a => b' ≤ b ∧ Q b' a) (fun b' c t => b' ≤ b ∧ E b' c t)
  | .ret _, _, _, _, h => ⟨Nat.le_refl _, h⟩
  | .draw _ k, b, _, _, h => ⟨h.1, h.2.1, fun d h1 h2 => M.wp_mono (M.wp_le (m := k d) (h.2.2 d h1 h2)) (fun _ _ z => ⟨Nat.le_trans z.1 (Nat.sub_le _ _), z.2⟩) fun _ _ _ z => ⟨Nat.le_trans z.1 (Nat.sub_le _ _), z.2⟩⟩
  | .exc _ _, _, _, _, h => ⟨Nat.le_refl _, h⟩
  | .stuck, _, _, _, h => h.elim
theorem StreamAt.mono {H : Hp} {s l : Addr} {b b' : Nat} (h : StreamAt H s l b) (e : b' ≤ b) : StreamAt H s l b' := by
  obtain ⟨ns, c, n, m, q1, q2, q6, q7, q8, q9, q10⟩ := h
  exact ⟨ns, c, n, m, q1, q2, q6, q7, by omega, q9, q10⟩
section
variable {X : Cx} {g : Cn} {W : WX} {k : Nat} {f : Addr} {fd : FuncData} {ps : List Str} {x : Str} {p pos : Pos} {e : Expr} {es : List Expr} {fs : Env' → M (List T)} {m : List T → M T} {np : Nat}
theorem Step.of_after {S : Option (Addr × Addr)} {σ : Sg} {ρ : Env'} {F H F' H' : Hp} {b b' : Nat} (s : SR g F H σ ρ b) (a : After S F H F' H' b') (hS : S = g.S ∨ (S = none ∧ b' ≤ b)) : Step g σ ρ F H F' H' b' := by
  have kp : ∀ c o, H c = some o → ¬ g.inS c → H' c = some o := fun c o h n => a.keep c o h fun z => by
    rcases hS with e | e
    · rw [e] at z; exact n (.inl z)
    · obtain ⟨_, _, q, _⟩ := z
      rw [e.1] at q
      cases q
  refine ⟨a.ext, ⟨a.sub, s.f0.trans a.ext, fun c o h n => kp c o (s.keep c o h n) n, fun c o h n => ?_, Paired.imp2 s.slots fun i v z _ _ r => ?_, s.dis, fun p l h => ?_, s.tabK a.ext fun p q m => ?_⟩, fun c o h n _ => kp c o h n, a.new⟩
  · obtain ⟨u, q⟩ := s.there h
    exact a.new c u q (s.new c o h n)
  · cases r with
    | any v => exact .any v
    | val r => exact .val (r.ext a.ext)
    | own h1 h2 h3 h4 h5 => exact .own (kp _ _ h1 h4) (a.new _ _ h1 h2) h3 h4 (h5.ext a.ext)
    | ownD h1 h2 h3 h4 h5 => exact .ownD (kp _ _ h1 h4) (a.new _ _ h1 h2) h3 h4 (h5.ext a.ext)
    | ownS h1 h2 h3 h4 h5 => exact .ownS (kp _ _ h1 h4) (a.new _ _ h1 h2) h3 h4 (h5.ext a.ext)
    | strm h => exact .strm h
    | pin h => exact .pin h
  · obtain ⟨h1, h2, h3, h4⟩ := s.strm p l h
    have h4' := h4
    obtain ⟨ns, c, n, z, q1, q2, _⟩ := h4'
    refine ⟨a.new _ _ q1 h1, a.new _ _ q2 h2, h3, ?_⟩
    rcases hS with e | e
    · exact a.strm p l (e.trans h)
    · have k1 := a.keep _ _ q1 fun z => by
        obtain ⟨_, _, q, _⟩ := z
        rw [e.1] at q
        cases q
      have k2 := a.keep _ _ q2 fun z => by
        obtain ⟨_, _, q, _⟩ := z
        rw [e.1] at q
        cases q
      obtain ⟨ns', c', n', m', r1, r2, r3⟩ := h4.mono e.2
      rw [q1] at r1
      cases r1
      rw [q2] at r2
      have e5 := HO.lst.inj (Option.some.inj r2)
      exact ⟨ns', _, _, _, k1, by rw [k2, e5], r3⟩
  · obtain ⟨h1, h2⟩ := s.tabs p q m
    obtain ⟨ps, hp⟩ := h2.has
    refine ⟨fun o e => a.keep p o e fun z => ?_, a.new p _ hp h1⟩
    obtain ⟨s1, l1, e1, e2⟩ := z
    rcases hS with e3 | e3
    · obtain ⟨_, _, _, ns, c, n, mm, q1, q2, _⟩ := s.strm s1 l1 (e3.symm.trans e1)
      rcases e2 with e2 | e2
      · rw [← e2, hp] at q1; cases q1
      · rw [← e2, hp] at q2; cases q2
    · rw [e3.1] at e1; cases e1
/-- the caller's side of a promise -/
theorem call_sp {σ : Sg} {ρ : Env'} {F H : Hp} {b : Nat} {vs : List V} {ts : List T} {Q : VK} (s : SR g F H σ ρ b) (r : Reps g.K F vs ts) (hl : vs.length = np)
    (q : (m ts).wp b (fun b' t => ∀ v H' F', Step g σ ρ F H F' H' b' → Rep g.K F' v t → Q v H') (EX g W σ ρ F H)) : spD g.K g.X false np m vs H Q (WE W σ) :=
  ⟨none, F, b, vs, ts, hl, by rw [if_neg Bool.false_ne_true]; exact ⟨rfl, rfl⟩, s.sub, r, M.wp_mono (M.wp_le q) (fun b' t z v H' F' a rr => z.2 v H' F' (Step.of_after s a (.inr ⟨rfl, z.1⟩)) rr) fun b' c t z d v H' F' a hd rr => z.2 d v H' F' (Step.of_after s a (.inr ⟨rfl, z.1⟩)) hd rr⟩
theorem call_spS {σ : Sg} {ρ : Env'} {F H : Hp} {b : Nat} {p l : Addr} {vs : List V} {ts : List T} {Q : VK} (s : SR g F H σ ρ b) (hS : g.S = some (p, l)) (r : Reps g.K F vs ts) (hl : vs.length = np)
    (q : (m ts).wp b (fun b' t => ∀ v H' F', Step g σ ρ F H F' H' b' → Rep g.K F' v t → Q v H') (EX g W σ ρ F H)) : spD g.K g.X true np m (.ref p :: vs) H Q (WE W σ) := by
  obtain ⟨h1, h2, h3, h4⟩ := s.strm p l hS
  exact ⟨g.S, F, b, vs, ts, hl, by rw [if_pos rfl]; exact ⟨p, l, hS, rfl, h1, h2, h3, h4⟩, s.sub, r, M.wp_mono q (fun b' t z v H' F' a rr => z v H' F' (Step.of_after s a (.inl rfl)) rr) fun b' c t z d v H' F' a hd rr => z d v H' F' (Step.of_after s a (.inl rfl)) hd rr⟩
def aLen (n : Nat) (f : Env' → M (List T)) : Env' → M (List T) := f
theorem aCons_len {f : Env' → M T} {fs : Env' → M (List T)} {n : Nat} (h : ∀ (ρ : Env') (b : Nat) (Q : Nat → List T → Prop) (E : Nat → Str → T → Prop), (fs ρ).wp b Q E → (fs ρ).wp b (fun b ts => ts.length = n ∧ Q b ts) E)
    (ρ : Env') (b : Nat) (Q : Nat → List T → Prop) (E : Nat → Str → T → Prop) (q : (aCons f fs ρ).wp b Q E) : (aCons f fs ρ).wp b (fun b ts => ts.length = n + 1 ∧ Q b ts) E :=
  wp2.mpr (M.wp_mono (wp2.mp q) (fun b1 t z => M.wp_mono (h ρ b1 _ _ z) (fun b2 ts y => ⟨by rw [List.length_cons, y.1], y.2⟩) fun _ _ _ y => y) fun _ _ _ y => y)
theorem aNil_len (ρ : Env') (b : Nat) (Q : Nat → List T → Prop) (E : Nat → Str → T → Prop) (q : (aNil ρ).wp b Q E) : (aNil ρ).wp b (fun b ts => ts.length = 0 ∧ Q b ts) E := ⟨rfl, q⟩
/-- f(e, ..) -/
theorem de_call (F : FnOk X.prog X.w X.K X.mg X.base (L2.CX X.prog X.w) k f fd ps (spD g.K g.X false np m)) (hr : Room k X.A) (tk : Takes X W) (hm : X.mg x = some (.ref f)) (hk : PySem.W.keepIn X.K (.ref f) = true) (hb : Binds X.K fd ps []) (ha : DA X g W (e :: es) fs)
    (hn : ∀ (ρ : Env') (b : Nat) (Q : Nat → List T → Prop) (E : Nat → Str → T → Prop), (fs ρ).wp b Q E → (fs ρ).wp b (fun b ts => ts.length = np ∧ Q b ts) E)
    (hg : Gl X x := by rfl) (hdb : (x == ("__debug__" : Str)) = false := by decide) (he : starEach (e :: es) X.env = (false, eval e X.env) :: starEach es X.env := by rfl) (hpl : (backTo pos (starEach es X.env)).any (·.1) = false := by rfl) :
    DE X g W (.Call (.Name x p) (e :: es) [] pos) (eCall m fs) :=
  pe_imp (pe_callS F hr hg hm hk hb (fun σ => passAt tk σ) ha hdb he hpl) fun σ H Q ⟨ρ, F, b, s, q⟩ => ⟨ρ, F, b, s, M.wp_mono (hn ρ b _ _ (M.wp_bind.mp q)) (fun b1 ts z vs H1 F1 s1 r1 =>
    call_sp s1.sr r1 (by rw [r1.length]; exact z.1) (M.wp_mono z.2 (fun b2 t y v H2 F2 s2 r2 => y v H2 F2 (s1.trans s2) r2) fun b' c t y => EX.step s1 b' c t y)) fun _ _ _ z => z⟩
/-- f(stream, e, ..) -/
theorem de_callS {e0 : Expr} {i : Nat} (F : FnOk X.prog X.w X.K X.mg X.base (L2.CX X.prog X.w) k f fd ps (spD g.K g.X true np m)) (hr : Room k X.A) (tk : Takes X W) (hm : X.mg x = some (.ref f)) (hk : PySem.W.keepIn X.K (.ref f) = true) (hb : Binds X.K fd ps []) (h0 : PE X e0 (tVar i)) (ha : DA X g W es fs)
    (hn : ∀ (ρ : Env') (b : Nat) (Q : Nat → List T → Prop) (E : Nat → Str → T → Prop), (fs ρ).wp b Q E → (fs ρ).wp b (fun b ts => ts.length = np ∧ Q b ts) E)
    (hg : Gl X x := by rfl) (hdb : (x == ("__debug__" : Str)) = false := by decide) (he : starEach (e0 :: es) X.env = (false, eval e0 X.env) :: starEach es X.env := by rfl) (hpl : (backTo pos (starEach es X.env)).any (·.1) = false := by rfl) :
    DE X g W (.Call (.Name x p) (e0 :: es) [] pos) (eCallS i m fs) :=
  pe_imp (pe_callS F hr hg hm hk hb (fun σ => passAt tk σ) (pa_cons h0 ha he) hdb he hpl) fun σ H Q ⟨ρ, F, b, s, q⟩ => by
    have q : (match ρ[i]? with | some .strm => (fs ρ).bind m | _ => .stuck).wp b _ _ := q
    cases e : ρ[i]? with
    | none => rw [e] at q; exact q.elim
    | some sl =>
      rw [e] at q
      obtain ⟨ov, hv, r⟩ := Paired.get1 s.slots e
      cases r with
      | strm hS =>
        refine ⟨_, hv, ρ, F, b, s, M.wp_mono (hn ρ b _ _ (M.wp_bind.mp q)) (fun b1 ts z vs H1 F1 s1 r1 =>
          call_spS s1.sr hS r1 (by rw [r1.length]; exact z.1) (M.wp_mono z.2 (fun b2 t y v H2 F2 s2 r2 => y v H2 F2 (s1.trans s2) r2) fun b' c t y => EX.step s1 b' c t y)) fun _ _ _ z => z⟩
      | any v => exact q.elim
      | pin a => exact q.elim
      | val r => exact q.elim
      | own _ _ _ _ _ => exact q.elim
      | ownD _ _ _ _ _ => exact q.elim
      | ownS _ _ _ _ _ => exact q.elim
end
end DP
end
section
set_option Elab.async false
set_option linter.all false
set_option maxRecDepth 100000
namespace DP
open PySem PySem.Spec PyProof.Rows L2

/-! ### comprehensions -/
def wipeE (ρ : Env') : List Nat → Env'
  | [] => ρ
  | i :: vs => (wipeE ρ vs).set i .any
theorem wipe_apart (σ : Sg) : ∀ vs : List Nat, Apart vs σ (wipe σ vs)
  | [] => Apart.refl _ _
  | i :: vs => by
    have h := wipe_apart σ vs
    show Apart (i :: vs) σ ((wipe σ vs).set i none)
    exact ⟨by rw [List.length_set]; exact h.1, fun j hj => by
      rw [List.getElem?_set_ne (fun z => hj (by rw [z]; exact List.mem_cons_self))]
      exact h.2 j fun z => hj (List.mem_cons_of_mem _ z)⟩
theorem wipeE_apart (ρ : Env') : ∀ vs : List Nat, Apart vs ρ (wipeE ρ vs)
  | [] => Apart.refl _ _
  | i :: vs => by
    have h := wipeE_apart ρ vs
    show Apart (i :: vs) ρ ((wipeE ρ vs).set i .any)
    exact ⟨by rw [List.length_set]; exact h.1, fun j hj => by
      rw [List.getElem?_set_ne (fun z => hj (by rw [z]; exact List.mem_cons_self))]
      exact h.2 j fun z => hj (List.mem_cons_of_mem _ z)⟩
theorem wipe_sr {g : Cn} {F H : Hp} {σ : Sg} {ρ : Env'} {b : Nat} (s : SR g F H σ ρ b) : ∀ vs : List Nat, SR g F H (wipe σ vs) (wipeE ρ vs) b
  | [] => s
  | i :: vs => (wipe_sr s vs).set i (.any _) rfl
theorem wipe_eq {vs : List Nat} {σ σ' : Sg} (h : Apart vs σ σ') : wipe σ' vs = wipe σ vs := by
  apply List.ext_getElem?
  have len : ∀ (σ : Sg) (vs : List Nat), (wipe σ vs).length = σ.length := fun σ vs => wipe_length σ vs
  have inn : ∀ (vs : List Nat) (σ : Sg) (j : Nat), j ∈ vs → j < σ.length → (wipe σ vs)[j]? = some none := by
    intro vs
    induction vs with
    | nil => intro σ j h; cases h
    | cons i vs ih =>
      intro σ j hj hl
      show ((wipe σ vs).set i none)[j]? = some none
      by_cases e : j = i
      · subst e
        rw [List.getElem?_set_self (by rw [len]; exact hl)]
      · rw [List.getElem?_set_ne (Ne.symm e)]
        exact ih σ j ((List.mem_cons.mp hj).resolve_left e) hl
  intro j
  by_cases hj : j ∈ vs
  · by_cases hl : j < σ.length
    · rw [inn vs σ j hj hl, inn vs σ' j hj (by rw [← h.1]; exact hl)]
    · rw [List.getElem?_eq_none (by rw [len]; exact Nat.le_of_not_lt (by rw [← h.1]; exact hl)), List.getElem?_eq_none (by rw [len]; exact Nat.le_of_not_lt hl)]
  · rw [← (wipe_apart σ' vs).2 j hj, ← (wipe_apart σ vs).2 j hj, h.2 j hj]
/-- a step of a block is a step of the def -/
theorem Step.block {g : Cn} {σ σ2 : Sg} {ρ ρ2 : Env'} {F H F' H' : Hp} {b b' : Nat} {vs : List Nat} (s : SR g F H σ ρ b) (a1 : Apart vs σ σ2) (a2 : Apart vs ρ ρ2) (n1 : NoOwn vs ρ) (n2 : NoOwn vs ρ2) (st : Step g σ2 ρ2 F H F' H' b') : Step g σ ρ F H F' H' b' := by
  refine ⟨st.ext, ⟨st.sr.sub, st.sr.f0, st.sr.keep, st.sr.new, ?_, s.dis, st.sr.strm, st.sr.tabs⟩, fun c o h n m => st.kp c o h n fun z => ?_, st.new⟩
  · refine Paired.imp2 s.slots fun j v x h1 h2 r => ?_
    by_cases hj : j ∈ vs
    · have no := n1 j hj x h2
      cases r with
      | any v => exact .any v
      | val r => exact .val (r.ext st.ext)
      | own _ _ _ _ _ => cases no
      | ownD _ _ _ _ _ => cases no
      | ownS _ _ _ _ _ => cases no
      | strm h => exact .strm h
      | pin h => exact .pin h
    · rw [a1.2 j hj] at h1
      rw [a2.2 j hj] at h2
      obtain ⟨v', hv, r'⟩ := Paired.get1 st.sr.slots h2
      rw [h1] at hv
      cases hv
      exact r'
  · obtain ⟨j, x, h1, h2, h3⟩ := z
    by_cases hj : j ∈ vs
    · have q := n2 j hj x h1
      rw [h2] at q
      cases q
    · exact m ⟨j, x, by rw [a2.2 j hj]; exact h1, h2, by rw [a1.2 j hj]; exact h3⟩


def noExc {α : Type} : M α → M α
  | .ret a => .ret a
  | .draw n k => .draw n fun d => noExc (k d)
  | .exc _ _ => .stuck
  | .stuck => .stuck
theorem noExc_wp {α : Type} : ∀ {m : M α} {b : Nat} {Q : Nat → α → Prop} {E : Nat → Str → T → Prop}, (noExc m).wp b Q E → m.wp b Q (fun _ _ _ => False)
  | .ret _, _, _, _, h => h
  | .draw _ k, _, _, _, h => ⟨h.1, h.2.1, fun d h1 h2 => noExc_wp (m := k d) (h.2.2 d h1 h2)⟩
  | .exc _ _, _, _, _, h => h.elim
  | .stuck, _, _, _, h => h.elim
def lcL (vs : List Nat) (bd : T → Env' → Option Env') (c : Env' → M Bool) (f : Env' → M T) (ρ : Env') : List T → List T → M (List T)
  | [], acc => .ret acc
  | t :: ts, acc => match bd t (wipeE ρ vs) with
    | none => .stuck
    | some ρ1 => (noExc (c ρ1)).bind fun b => if b = true then (noExc (f ρ1)).bind fun y => if okLen acc.length = true then lcL vs bd c f ρ ts (acc ++ [y]) else .stuck
      else lcL vs bd c f ρ ts acc
def noOwnB (vs : List Nat) (ρ : Env') : Bool := vs.all fun i => match ρ[i]? with
  | some x => !x.isOwn
  | none => true
theorem noOwnB_of {vs : List Nat} {ρ : Env'} (h : noOwnB vs ρ = true) : NoOwn vs ρ := fun i hi x e => by
  have q := List.all_eq_true.mp h i hi
  rw [e] at q
  cases z : x.isOwn with
  | false => rfl
  | true => simp [z] at q
def nLc (vs : List Nat) (fi : Env' → M (List T)) (bd : T → Env' → Option Env') (c : Env' → M Bool) (f : Env' → M T) : Env' → M (List T) := fun ρ => (fi ρ).bind fun ts => if noOwnB vs ρ = true then lcL vs bd c f ρ ts [] else .stuck
def cYes : Env' → M Bool := fun _ => .ret true
abbrev DTs (X : Cx) (g : Cn) (W : WX) (es : List Expr) (f : Env' → M Bool) : Prop := PTs X es (tDT g W f)
theorem pts_imp {X : Cx} {es : List Expr} {t t' : TT} (h : PTs X es t) (i : ∀ σ H Q, t' σ H Q → t σ H Q) : PTs X es t' := ⟨fun pins s σ H Q I hw => h.run pins s σ H Q I (i σ H Q hw)⟩
/-- no error leaves -/
abbrev W0 : WX := fun _ _ _ _ => False
section
variable {X : Cx} {g : Cn} {W : WX} {pos : Pos} {elt tg iter c : Expr} {ifs : List Expr} {scope : Scope} {own : List (Str × Nat)} {fi : Env' → M (List T)} {bd : T → Env' → Option Env'} {fc : Env' → M Bool} {f : Env' → M T}
theorem dts_nil : DTs X g W [] cYes := pts_imp pts_nil fun σ H Q ⟨ρ, F, b, s, q⟩ => q H F (Step.refl s)
theorem dts_one (h : DT X g W c fc) : DTs X g W [c] fc := pts_one h
theorem SR.but {g : Cn} {F H H' : Hp} {σ : Sg} {ρ : Env'} {b : Nat} {D : Addr} (s : SR g F H σ ρ b) (h : ∀ a, a ≠ D → H' a = H a) (hf : F D = none) (hs : ¬ g.inS D) (ho : ¬ OwnAt σ ρ D) (h0 : g.H0 D = none) : SR g F H' σ ρ b where
  sub := fun a o e => by rw [h a (ne_of_none e hf)]; exact s.sub a o e
  f0 := s.f0
  keep := fun a o e n => by rw [h a (ne_of_none e h0)]; exact s.keep a o e n
  new := s.new
  slots := Paired.imp2 s.slots fun i v x h1 h2 r => by
    cases r with
    | any v => exact .any v
    | val r => exact .val r
    | @own a _ _ z1 z2 z3 z4 z5 => exact .own (by rw [h a fun e => ho ⟨i, _, h2, rfl, by rw [h1, e]⟩]; exact z1) z2 z3 z4 z5
    | @ownD a _ _ z1 z2 z3 z4 z5 => exact .ownD (by rw [h a fun e => ho ⟨i, _, h2, rfl, by rw [h1, e]⟩]; exact z1) z2 z3 z4 z5
    | @ownS a _ _ z1 z2 z3 z4 z5 => exact .ownS (by rw [h a fun e => ho ⟨i, _, h2, rfl, by rw [h1, e]⟩]; exact z1) z2 z3 z4 z5
    | strm e => exact .strm e
    | pin h => exact .pin h
  dis := s.dis
  strm := fun p l e => by
    obtain ⟨h1, h2, h3, ns, c, n, m, q1, q2, q3⟩ := s.strm p l e
    exact ⟨h1, h2, h3, ns, c, n, m, by rw [h p fun z => hs (.inl ⟨p, l, e, .inl z.symm⟩)]; exact q1, by rw [h l fun z => hs (.inl ⟨p, l, e, .inr z.symm⟩)]; exact q2, q3⟩
  tabs := s.tabK (Same.refl _) fun p q m => ⟨fun o e => by rw [h p (Cn.tabNe hs m)]; exact e, (s.tabs p q m).1⟩
theorem Step.but {g : Cn} {σ : Sg} {ρ : Env'} {F H F' H' H2 : Hp} {b : Nat} {D : Addr} (s : Step g σ ρ F H F' H' b) (hD : H D = none) (h : ∀ a, a ≠ D → H2 a = H' a) (hf : F' D = none) (hs : ¬ g.inS D) (ho : ¬ OwnAt σ ρ D) (h0 : g.H0 D = none) : Step g σ ρ F H F' H2 b :=
  ⟨s.ext, s.sr.but h hf hs ho h0, fun a o e n m => by rw [h a (ne_of_none e hD)]; exact s.kp a o e n m, s.new⟩
theorem Apart.tr {α : Type} {vs : List Nat} {xs ys zs : List α} (a : Apart vs xs ys) (b : Apart vs ys zs) : Apart vs xs zs := ⟨a.1.trans b.1, fun j h => (a.2 j h).trans (b.2 j h)⟩
/-- what the reading of a comprehension asks, from the deep one -/
theorem lc_read {σ : Sg} {H : Hp} {Q : VK} (h : tDN g W (nLc (own.map (·.2)) fi bd fc f) σ H Q) : tLc (tDI g W fi) (tDG g (own.map (·.2)) bd) (tDT g W0 fc) (tD g W0 f) (own.map (·.2)) σ H Q := by
  obtain ⟨ρ, F, b, s, q⟩ := h
  refine ⟨ρ, F, b, s, M.wp_mono (M.wp_bind.mp q) (fun b1 ts q1 J F1 H1 s1 w D hD => ?_) fun _ _ _ z => z⟩
  obtain ⟨no, q1⟩ := if_of q1
  have no := noOwnB_of no
  generalize hvs : own.map (·.2) = vs at q1 no ⊢
  obtain ⟨h0, nS, fD, nO⟩ := s1.sr.h0 hD
  refine ⟨fun i m H' => m = ts.length - i ∧ i ≤ ts.length ∧ ∃ F' b' acc as, Step g σ ρ F1 H1 F' H' b' ∧ F' D = none ∧ H' D = some (.lst acc) ∧ Reps g.K F' acc as ∧ (lcL vs bd fc f ρ (ts.drop i) as).wp b' (fun b' ts => ∀ p vs H1 H' F', Step g σ ρ F H F' H1 b' → H1 p = none → H' = upd H1 p (.lst vs) → Reps g.K F' vs ts → Q (.ref p) H') (EX g W σ ρ F H),
    ⟨ts.length, by simp, Nat.zero_le _, F1, b1, [], [], (Step.refl s1.sr).but hD (fun a h => upd_ne h) fD nS nO h0, fD, upd_same, .nil, q1⟩, ?_⟩
  rintro i m H2 ⟨rfl, hi, F2, b2, acc, as, s2, f2, hD2, ra, q2⟩
  by_cases hl : i < ts.length
  · have hd : ts.drop i = ts[i] :: ts.drop (i + 1) := List.drop_eq_getElem_cons hl
    rw [hd] at q2
    cases hb' : bd ts[i] (wipeE ρ vs) with
    | none =>
      have q2 : (match bd ts[i] (wipeE ρ vs) with | none => M.stuck | some ρ1 => _).wp b2 _ _ := q2
      rw [hb'] at q2
      exact q2.elim
    | some ρ1 =>
      have q2 : (match bd ts[i] (wipeE ρ vs) with | none => M.stuck | some ρ1 => _).wp b2 _ _ := q2
      rw [hb'] at q2
      have q3 := noExc_wp (M.wp_bind.mp q2)
      refine .inr ⟨w.go i F2 H2 s2.ext s2.sr.sub hl, fun H' => ts.length - (i + 1) = ts.length - (i + 1) ∧ i + 1 ≤ ts.length ∧ ∃ F' b' acc as, Step g σ ρ F1 H1 F' H' b' ∧ F' D = none ∧ H' D = some (.lst acc) ∧ Reps g.K F' acc as ∧ (lcL vs bd fc f ρ (ts.drop (i + 1)) as).wp b' (fun b' ts => ∀ p vs H1 H' F', Step g σ ρ F H F' H1 b' → H1 p = none → H' = upd H1 p (.lst vs) → Reps g.K F' vs ts → Q (.ref p) H') (EX g W σ ρ F H),
        fun H' h => ⟨ts.length - (i + 1), by omega, h⟩, fun x H3 y => ?_⟩
      -- the item stands: (F3, H3)
      have item : ∃ F3, Step g σ ρ F2 H2 F3 H3 b2 ∧ F3 D = none ∧ H3 D = some (.lst acc) ∧ Rep g.K F3 x ts[i] := by
        rcases w.yld i F2 H2 x H3 ts[i] s2.ext s2.sr.sub (List.getElem?_eq_getElem hl) y with ⟨rfl, r⟩ | ⟨p, ws, us, hp', rfl, rfl, et, r⟩
        · exact ⟨F2, Step.refl s2.sr, f2, hD2, r⟩
        · have st := s2.sr.step (.tup ws) hp'
          have ne : D ≠ p := ne_of_none hD2 hp'
          refine ⟨_, st, by rw [upd_ne ne]; exact f2, by rw [upd_ne ne]; exact hD2, ?_⟩
          rw [et]
          exact .tup (SqT.of upd_same) (r.ext st.ext)
      obtain ⟨F3, s3, f3, hD3, r3⟩ := item
      refine ⟨wipeE ρ vs, F3, b2, _, wipe_sr s3.sr vs, r3, ρ1, hb', fun σ2 S2 a1 a2 n2 => ⟨wipe_eq ((wipe_apart σ vs).tr a1), ?_⟩⟩
      have A1 : Apart vs σ σ2 := (wipe_apart σ vs).tr a1
      have A2 : Apart vs ρ ρ1 := (wipeE_apart ρ vs).tr a2
      have nO2 : ¬ OwnAt σ2 ρ1 D := fun ⟨j, z, z1, z2, z3⟩ => by
        by_cases hj : j ∈ vs
        · rw [n2 j hj z z1] at z2
          cases z2
        · exact nO ⟨j, z, by rw [A2.2 j hj]; exact z1, z2, by rw [A1.2 j hj]; exact z3⟩
      refine ⟨ρ1, F3, b2, S2, M.wp_mono q3 (fun b3 cb q4 H4 F4 s4 => ?_) fun _ _ _ z => z.elim⟩
      have hD4 := s4.kp D _ hD3 nS nO2
      have f4 := s4.new D _ hD3 f3
      have t4 : Step g σ ρ F1 H1 F4 H4 b3 := s2.trans (s3.trans (Step.block s3.sr A1 A2 no n2 s4))
      cases cb with
      | false =>
        rw [if_neg Bool.false_ne_true] at q4
        exact iteF ⟨rfl, hl, F4, b3, acc, as, t4, f4, hD4, (ra.ext s3.ext).ext s4.ext, q4⟩
      | true =>
        rw [if_pos rfl] at q4
        refine iteT ⟨ρ1, F4, b3, s4.sr, M.wp_mono (noExc_wp (M.wp_bind.mp q4)) (fun b5 u q5 v H5 F5 s5 r5 => ?_) fun _ _ _ z => z.elim⟩
        obtain ⟨ok, q5⟩ := if_of q5
        have hD5 := s5.kp D _ hD4 nS nO2
        have f5 := s5.new D _ hD4 f4
        have ra5 := ((ra.ext s3.ext).ext s4.ext).ext s5.ext
        refine ⟨acc, hD5, by rw [ra.length]; exact okLen_line ok, rfl, hl, F5, b5, acc ++ [v], as ++ [u], ?_, f5, upd_same, ra5.append (.one r5), q5⟩
        exact (t4.trans (Step.block t4.sr A1 A2 no n2 s5)).but hD (fun a h => upd_ne h) f5 nS nO h0
  · have e : i = ts.length := by omega
    subst e
    rw [List.drop_length] at q2
    refine .inl ⟨w.stop F2 H2 s2.ext s2.sr.sub, q2 D acc (fun a => if a = D then none else H2 a) H2 F2 (s1.trans (s2.but hD (fun a h => if_neg h) f2 nS nO h0)) (if_pos rfl) ?_ ra⟩
    funext a
    by_cases h : a = D
    · subst h; rw [upd_same]; exact hD2
    · rw [upd_ne h]; exact (if_neg h).symm
theorem dn_lc (hc : X.calm = true) (hN : X.N.Nodup) (hi : DI X g W tg iter fi) (ok : BlkOk X.N X.env.scope scope own)
    (hg : ∀ (s : Shared) (H : Hp) (C : Addr) (cl : List (Str × Addr)) (fp : List Addr), DG (X.blk s H scope (compEnvC scope cl C X.env) fp) g (own.map (·.2)) tg bd) (ht : ∀ (s : Shared) (H : Hp) (C : Addr) (cl : List (Str × Addr)) (fp : List Addr), DTs (X.blk s H scope (compEnvC scope cl C X.env) fp) g W0 ifs fc)
    (he : ∀ (s : Shared) (H : Hp) (C : Addr) (cl : List (Str × Addr)) (fp : List Addr), DE (X.blk s H scope (compEnvC scope cl C X.env) fp) g W0 elt f) (hs : ∀ x, foldedSetIterable iter X.env x = pure x := by intro _; rfl) :
    DN X g W (.ListComp elt [⟨tg, iter, ifs, 0⟩] scope pos) (nLc (own.map (·.2)) fi bd fc f) := pe_imp (pe_lc hc hN hi ok hg ht he hs) fun σ H Q h => lc_read h
/-- name = [..] on one line: for ds_setLc, ds_ownLc -/
theorem lc_set {i : Nat} {y : Str} {py spos : Pos} (hc : X.calm = true) (hN : X.N.Nodup) (hy : X.N[i]? = some y) (hyl : X.env.scope.names.lookup y = some .local)
    (hsw : swapsWith (.ListComp elt [⟨tg, iter, ifs, 0⟩] scope pos) (some (.Name y py)) spos.line X.env = pure true) (hi : DI X g W tg iter fi) (ok : BlkOk X.N X.env.scope scope own)
    (hg : ∀ (s : Shared) (H : Hp) (C : Addr) (cl : List (Str × Addr)) (fp : List Addr), DG (X.blk s H scope (compEnvC scope cl C X.env) fp) g (own.map (·.2)) tg bd) (ht : ∀ (s : Shared) (H : Hp) (C : Addr) (cl : List (Str × Addr)) (fp : List Addr), DTs (X.blk s H scope (compEnvC scope cl C X.env) fp) g W0 ifs fc)
    (he : ∀ (s : Shared) (H : Hp) (C : Addr) (cl : List (Str × Addr)) (fp : List Addr), DE (X.blk s H scope (compEnvC scope cl C X.env) fp) g W0 elt f) (hs : ∀ x, foldedSetIterable iter X.env x = pure x := by intro _; rfl) :
    PS X (.Assign [.Name y py] (.ListComp elt [⟨tg, iter, ifs, 0⟩] scope pos) spos) (tAsg (tDN g W (nLc (own.map (·.2)) fi bd fc f)) (gName i)) := ps_imp (ps_setLc hc hN hy hyl hsw hi ok hg ht he hs) fun D σ H h => lc_read h
end
end DP
end
section
set_option Elab.async false
set_option linter.all false
set_option maxRecDepth 100000
/-! isinstance of a function -/
namespace FunIs
open PySem
open Sem (wp)
theorem fun_ga : Slot "function" "__getattribute__" "object.__getattribute__" := by
  refine .of (owner := "object") (n := "__getattribute__") ?_ ?_ ?_ ?_ ?_ ?_
  · rw [typeLookup_type, builtinLookup_eq_fast]
    kernel_rfl
  · decide +kernel
  · decide +kernel
  · decide +kernel
  · first
      | exact .inl (by decide +kernel)
      | exact .inr (by decide +kernel)
  · rw [isSubtype_type]
    kernel_rfl
theorem fun_class : typeLookup (.type "function") "__class__" = pure (some (.builtin "object.__class__")) := by
  rw [typeLookup_type, builtinLookup_eq_fast]
  kernel_rfl
theorem fun_owner : isSubtype (.type "function") (.type (".".intercalate ("object.__class__".cutAt '.').dropLast)) = pure true := by
  rw [F.owner_object_class, isSubtype_type]
  kernel_rfl
section
variable {prog : Program} {w : World} {A : Around} {E : Value → Shared → Prop} {h : Heap} {g : Array GenState} {d : Drawn} {t : Nat} {os : OsState} {a : Addr} {o : Obj}
abbrev st (h : Heap) (g : Array GenState) (d : Drawn) (t : Nat) (os : OsState) : Shared := ⟨h, g, d, t, os⟩
theorem cls_get {R : Result → Shared → Prop} (at_ : h.get? a = some o) (cl : o.cls = .type "function") (go : R (.ok (.ret (.type "function"))) (st h g d t os)) :
    codeAny (model prog w) A (.call (.builtin "getset_descriptor.__get__") ⟨[.builtin "object.__class__", .ref a, .type "function"], []⟩) R (st h g d t os) := by
  have ty : (st h g d t os).TypeIs (.ref a) "function" := ⟨_, at_, cl⟩
  have ty2 : (st h g d t os).TypeIs (.builtin "object.__class__") "getset_descriptor" := F.typeOf_object_class
  have own := fun_owner
  refine codeAny_call_builtin F.slot_gs_get.plain F.entry_gs_get (F.slot_gs_get.check _ _ _ _ _ _ _ _ ty2 (F.args_gs_get _ _ _) ?_)
  repeat any_goals (first | assumption | wp_step)
  refine ⟨Code.quiet_builtin _ (by decide +kernel), ?_⟩
  refine codeAny_builtin F.entry_object_class ?_
  repeat any_goals (first | assumption | wp_step)
theorem cls_entry {tk : Tok} {Q : Fin → Shared → Prop} (at_ : h.get? a = some o) (cl : o.cls = .type "function") (go : Q (.done (.ret (.type "function"))) (st h g d t os)) :
    wpAny (model prog w) A (Builtin.«object.__getattribute__» ⟨[.ref a, .str "__class__" tk], []⟩) Q E (st h g d t os) := by
  have ty : (st h g d t os).TypeIs (.ref a) "function" := ⟨_, at_, cl⟩
  have ty2 : (st h g d t os).TypeIs (.builtin "object.__class__") "getset_descriptor" := F.typeOf_object_class
  have k1 := fun_class
  have k2 := F.typeOf_object_class
  have k3 := F.slot_gs_get.lookup
  have k4 := F.slot_gs_set.lookup
  repeat any_goals (first | assumption | wp_step)
  refine cls_get at_ cl ?_
  repeat any_goals (first | assumption | wp_step)
theorem cls_by {tk : Tok} {Q : Value → Shared → Prop} (at_ : h.get? a = some o) (cl : o.cls = .type "function") (go : Q (.type "function") (st h g d t os)) :
    wpAny (model prog w) A (getAttrBy (.ref a) (.str "__class__" tk) false) Q E (st h g d t os) := by
  have ty : (st h g d t os).TypeIs (.ref a) "function" := ⟨_, at_, cl⟩
  have k1 := fun_ga.lookup
  have k2 := fun_ga.bind (.ref a)
  repeat any_goals (first | assumption | wp_step)
  refine codeAny_call_builtin fun_ga.plain F.entry_object_getattribute (fun_ga.check _ _ _ _ _ _ _ _ ty (F.args_object_getattribute_2 _ _) (cls_entry at_ cl ?_))
  repeat any_goals (first | assumption | wp_step)
theorem cls_attr {Q : Option Value → Shared → Prop} (at_ : h.get? a = some o) (cl : o.cls = .type "function") (go : Q (some (.type "function")) (st h g d (t + 1) os)) :
    wpAny (model prog w) A (getAttr? (.ref a) "__class__") Q E (st h g d t os) := by
  unfold getAttr? getAttrBy?
  repeat any_goals (first | assumption | with_reducible apply cls_by at_ cl | wp_step)
end
theorem kit {K : PySem.W.Frag} {a : Addr} : PySem.W.KitX K (.ref a) (.type "function") (PySem.W.KitAt a "function") := PySem.W.kitx_of PySem.W.kitAt_ty (fun {_ _ _ _ _ s} p k => by
  obtain ⟨h, g, d, t, os⟩ := s
  obtain ⟨o, h1, h2⟩ := p
  exact cls_attr h1 h2 k)
end FunIs
namespace DP
open PySem PySem.Spec PyProof.Rows L2
/-- the class of what is known, of a function too -/
inductive TyY (K : PySem.W.Frag) (H : Hp) : V → Value → Prop
  | x {v : V} {t : Value} (h : TyX K H v t) : TyY K H v t
  | fn {a : Addr} (h : PySem.W.typeIn K (.ref a) = some (.type "function")) : TyY K H (.ref a) (.type "function")
def rOne (K : PySem.W.Frag) : List V → Hp → VK → Prop := fun xs H Q => ∃ (v c : V) (t u : Value) (b : Bool), xs = [v, c] ∧ ClsV c u ∧ TyY K H v t ∧ PySem.W.kitOne K t u = some b ∧ Q (.bl b) H
def rSome (K : PySem.W.Frag) : List V → Hp → VK → Prop := fun xs H Q => ∃ (v : V) (tp : Addr) (cs : List V) (t : Value) (us : List Value) (b : Bool), xs = [v, .ref tp] ∧ H tp = some (.tup cs) ∧ Paired ClsV cs us ∧ TyY K H v t ∧ PySem.W.kitAny K t us = some b ∧ Q (.bl b) H
section
variable {X : Cx} {ps : List (Addr × Obj)} {τ : L2.St} {H : Hp} {s : Shared}
theorem kit_ofY {v : V} {u t : Value} (I : Inv X ps τ H s) (r : RelV v u) (ty : TyY X.K H v t) : ∃ P : Heap → Prop, PySem.W.KitX X.K u t P ∧ P s.heap ∧ u ≠ .builtin "__main__.__loader__#opaque" := by
  cases ty with
  | x h => exact kit_of I r h
  | @fn a h =>
    obtain rfl : u = Value.ref a := r
    refine ⟨_, FunIs.kit, ?_, fun z => nomatch z⟩
    have h : (X.K.lookup a).map (·.cls) = some (.type "function") := h
    cases e : X.K.lookup a with
    | none => rw [e] at h; cases h
    | some o => rw [e] at h; exact ⟨o, I.kIn _ _ e, Option.some.inj h⟩
theorem call_one : CallR X (.builtin "isinstance") (rOne X.K) := by
  intro ps s τ H xs us Q I r want
  obtain ⟨v, c, t, u, b, rfl, k, ty, e, q⟩ := want
  obtain ⟨w1, w2, rfl, r1, r2⟩ := vals2 r
  obtain rfl := k.eq r2
  obtain ⟨P, Z, at_, no⟩ := kit_ofY I r1 ty
  exact PySem.W.kia_one Z I.kIn at_ e no fun tk => ⟨.bl b, H, I.tok tk, rfl, q⟩
theorem call_some : CallR X (.builtin "isinstance") (rSome X.K) := by
  intro ps s τ H xs us Q I r want
  obtain ⟨v, tp, cs, t, ws, b, rfl, hT, k, ty, e, q⟩ := want
  obtain ⟨w1, w2, rfl, r1, r2⟩ := vals2 r
  obtain rfl : w2 = Value.ref tp := r2
  obtain ⟨P, Z, at_, no⟩ := kit_ofY I r1 ty
  obtain ⟨_, its, rv, o, h1, h2, n, h3⟩ := (show ObjOk X.prog X.w H s.heap tp (.tup cs) from I.hok tp _ hT)
  obtain rfl := ClsV.all k rv
  obtain ⟨oc, od, dt, sl⟩ := o
  simp only at h2 h3
  subst h2 h3
  exact PySem.W.kia_tup Z I.kIn at_ h1 e no fun tk => ⟨.bl b, H, I.tok tk, rfl, q⟩
end
end DP
end
section
set_option Elab.async false
set_option linter.all false
set_option maxRecDepth 100000
namespace DP
open PySem PySem.Spec PyProof.Rows L2

/-! ### constants of the module -/
section
variable {X : Cx} {g : Cn} {W : WX} {k : Nat} {pos : Pos} {a c e e2 : Expr} {es : List Expr} {f fa fc : Env' → M T} {fs : Env' → M (List T)} {fl : Env' → M (Bool × List T)} {fn : Env' → M (List T)} {x : Str} {p : Pos}
theorem de_glob {v : V} {u : Value} {t : T} (hm : X.mg x = some u) (rv : RelV v u) (r : ∀ F, Rep g.K F v t) (hg : Gl X x := by rfl) (hd : (x == ("__debug__" : Str)) = false := by decide) : DE X g W (.Name x pos) (eC t) :=
  pe_imp (pe_glob hg hm rv hd) fun σ H Q ⟨ρ, F, b, s, q⟩ => q v H F (Step.refl s) (r F)

/-! ### built-in functions of values -/
def Cal (g : Cn) (W : WX) (r : List V → Hp → VK → Prop) (k : List T → M T) : Prop := ∀ (σ : Sg) (ρ : Env') (F H : Hp) (b : Nat) (vs : List V) (ts : List T) (Q : VK), SR g F H σ ρ b → Reps g.K F vs ts →
  (k ts).wp b (fun b' w => ∀ v H' F', Step g σ ρ F H F' H' b' → Rep g.K F' v w → Q v H') (EX g W σ ρ F H) → r vs H Q
theorem cal_read {r : List V → Hp → VK → Prop} {kf : List T → M T} (hk : Cal g W r kf) {σ : Sg} {H : Hp} {Q : VK} (h : tD g W (e1 kf fs) σ H Q) : tCB r (tDA g W fs) σ H Q := by
  obtain ⟨ρ, F, b, s, q⟩ := h
  exact ⟨ρ, F, b, s, M.wp_mono (M.wp_bind.mp q) (fun b1 ts q1 vs H1 F1 s1 r1 => hk σ ρ F1 H1 b1 vs ts Q s1.sr r1 (M.wp_mono q1 (fun b2 w q2 v H2 F2 s2 r2 => q2 v H2 F2 (s1.trans s2) r2) fun b' c t z => EX.step s1 b' c t z)) fun _ _ _ z => z⟩
theorem de_callB {id : String} {r : List V → Hp → VK → Prop} {kf : List T → M T} (hc : CallR X (.builtin id) r) (hk : Cal g W r kf) (hm : X.mg x = none) (hv : bootBuiltins x = some (.builtin id)) (ha : DA X g W (e :: es) fs) (hg : Gl X x := by rfl) (hn : x ≠ "__name__" := by decide) (hdb : (x == ("__debug__" : Str)) = false := by decide)
    (he : starEach (e :: es) X.env = (false, eval e X.env) :: starEach es X.env := by rfl) (hpl : (backTo pos (starEach es X.env)).any (·.1) = false := by rfl) : DE X g W (.Call (.Name x p) (e :: es) [] pos) (e1 kf fs) :=
  pe_imp (pe_callB hc hg hm hv ha hn hdb he hpl) fun σ H Q h => cal_read hk h
theorem de_callTy {ty : String} {r : List V → Hp → VK → Prop} {kf : List T → M T} (hc : CallR X (.type ty) r) (hk : Cal g W r kf) (hm : X.mg x = none) (hv : bootBuiltins x = some (.type ty)) (ha : DA X g W (e :: es) fs) (hg : Gl X x := by rfl) (hn : x ≠ "__name__" := by decide) (hdb : (x == ("__debug__" : Str)) = false := by decide)
    (he : starEach (e :: es) X.env = (false, eval e X.env) :: starEach es X.env := by rfl) (hpl : (backTo pos (starEach es X.env)).any (·.1) = false := by rfl) : DE X g W (.Call (.Name x p) (e :: es) [] pos) (e1 kf fs) :=
  pe_imp (pe_callTy hc hg hm hv ha hn hdb he hpl) fun σ H Q h => cal_read hk h
theorem de_callF {id : String} {r : List V → Hp → VK → Prop} {kf : List T → M T} (hc : CallR X (.builtin id) r) (hk : Cal g W r kf) (hm : X.mg x = some (.builtin id)) (ha : DA X g W (e :: es) fs) (hg : Gl X x := by rfl) (hdb : (x == ("__debug__" : Str)) = false := by decide)
    (he : starEach (e :: es) X.env = (false, eval e X.env) :: starEach es X.env := by rfl) (hpl : (backTo pos (starEach es X.env)).any (·.1) = false := by rfl) : DE X g W (.Call (.Name x p) (e :: es) [] pos) (e1 kf fs) :=
  pe_imp (pe_callBfun hc hg hm ha hdb he hpl) fun σ H Q h => cal_read hk h
def gcdT : List T → M T
  | [.int a, .int b] => .ret (.int ((Nat.gcd a.natAbs b.natAbs : Nat) : Int))
  | _ => .stuck
theorem c_gcd : Cal g W rGcd gcdT := fun σ ρ F H b vs ts Q s r q => by
  rcases r with _ | ⟨r1, _ | ⟨r2, _ | ⟨r3, r4⟩⟩⟩
  · exact q.elim
  · cases r1 <;> exact q.elim
  · cases r1 <;> first
      | exact q.elim
      | (cases r2 <;> first
          | exact q.elim
          | exact ⟨_, _, rfl, q _ H F (Step.refl s) (.int _)⟩)
  · cases r1 <;> first
      | exact q.elim
      | (cases r2 <;> exact q.elim)
def absT : List T → M T
  | [.int a] => .ret (.int (if a < 0 then -a else a))
  | _ => .stuck
theorem c_abs : Cal g W (fun xs H Q => ∃ i, xs = [.int i] ∧ Q (.int (if i < 0 then -i else i)) H) absT := fun σ ρ F H b vs ts Q s r q => by
  rcases r with _ | ⟨r1, _ | ⟨r2, r3⟩⟩
  · exact q.elim
  · cases r1 <;> first
      | exact q.elim
      | exact ⟨_, rfl, q _ H F (Step.refl s) (.int _)⟩
  · cases r1 <;> exact q.elim
def intT : List T → M T
  | [.int a] => .ret (.int a)
  | _ => .stuck
theorem c_int : Cal g W (fun xs H Q => (∃ i, xs = [.int i] ∧ Q (.int i) H) ∨ ∃ k, xs = [.bl k] ∧ Q (.int (if k then 1 else 0)) H) intT := fun σ ρ F H b vs ts Q s r q => by
  rcases r with _ | ⟨r1, _ | ⟨r2, r3⟩⟩
  · exact q.elim
  · cases r1 <;> first
      | exact q.elim
      | exact .inl ⟨_, rfl, q _ H F (Step.refl s) (.int _)⟩
  · cases r1 <;> exact q.elim

/-! ### isinstance -/
def tyName : T → Option String
  | .non => some "NoneType"
  | .bl _ => some "bool"
  | .int _ => some "int"
  | .str _ => some "str"
  | .tup _ => some "tuple"
  | .lst _ => some "list"
  | .dct _ => some "dict"
  | .pn _ _ => some "list"
  | .fn _ => some "function"
  | _ => none
def isiT (n : String) (t : T) : M T := match tyName t with
  | some a => match kitB a n with
    | some b => .ret (.bl b)
    | none => .stuck
  | none => .stuck
def isiT2 (n m : String) (t : T) : M T := match tyName t with
  | some a => match kitB a n, kitB a m with
    | some b, some c => .ret (.bl (b || c))
    | _, _ => .stuck
  | none => .stuck
theorem tyX_of {K : KF} {F H : Hp} {v : V} {t : T} {n : String} (e : Ext F H) (r : Rep K F v t) (h : tyName t = some n) : TyY K H v (.type n) := by
  cases r with
  | non => cases h; exact .x (.base .non)
  | bl b => cases h; exact .x (.base (.bl b))
  | int i => cases h; exact .x (.base (.int i))
  | str x => cases h; exact .x (.base (.str x))
  | tup h1 _ =>
    cases h
    rcases h1 with (h1 | ⟨o, h1⟩) | ⟨o, _, _, h1, h2, _⟩
    · exact .x (.base (.tup (e _ _ h1)))
    · exact .x (.fTuple (e _ _ h1))
    · exact .x (.kTuple h1 h2)
  | lst h1 _ => cases h; exact .x (.base (.lst (e _ _ h1)))
  | dct h1 _ => cases h; exact .x (.base (.dK (e _ _ h1)))
  | obj _ _ => cases h
  | fn ty => cases h; exact .fn ty
  | pn h1 _ => cases h; exact .x (.base (.lst (e _ _ h1)))
/-- isinstance(e, T), T a built-in class -/
theorem de_isi {y : Str} {n : String} {p2 : Pos} (hm : X.mg "isinstance" = none) (hy : X.mg y = none) (hv : bootBuiltins y = some (.type n)) (ha : DE X g W e f) (hg : Gl X "isinstance" := by rfl) (hgy : Gl X y := by rfl) (hny : y ≠ "__name__" := by decide) (hdy : (y == ("__debug__" : Str)) = false := by decide)
    (he : starEach (e :: [.Name y p2]) X.env = (false, eval e X.env) :: starEach [.Name y p2] X.env := by rfl) (he2 : starEach (.Name y p2 :: []) X.env = (false, eval (.Name y p2) X.env) :: starEach [] X.env := by rfl) (hpl : (backTo pos (starEach [.Name y p2] X.env)).any (·.1) = false := by rfl) (hK : X.K = g.K := by rfl) :
    DE X g W (.Call (.Name "isinstance" p) [e, .Name y p2] [] pos) (e1 (isiT n) f) :=
  pe_imp (pe_callB call_one hg hm (by decide +kernel) (pa_cons ha (pa_cons (pe_bltn (v := .ty n) hgy hy hv rfl hny hdy) pa_nil he2) he) (by decide) (by decide) he hpl) fun σ H Q ⟨ρ, F, b, s, q⟩ => ⟨ρ, F, b, s, M.wp_mono (M.wp_bind.mp q) (fun b1 t q1 v H1 F1 s1 r1 => by
    have q1 : (match tyName t with | some a => (match kitB a n with | some b => M.ret (T.bl b) | none => .stuck) | none => .stuck).wp b1 _ _ := q1
    cases e1 : tyName t with
    | none => rw [e1] at q1; exact q1.elim
    | some a =>
      rw [e1] at q1
      dsimp only at q1
      cases e2 : kitB a n with
      | none => rw [e2] at q1; exact q1.elim
      | some b' =>
        rw [e2] at q1
        exact ⟨v, .ty n, .type a, .type n, b', rfl, .ty n, by rw [hK]; exact tyX_of s1.sr.sub r1 e1, kit_ty e2, q1 _ H1 F1 s1 (.bl _)⟩) fun _ _ _ z => z⟩
/-- isinstance(e, (T, U)) -/
theorem de_isi2 {y z : Str} {n m : String} {p2 p3 p4 : Pos} {kk : Nat} (hm : X.mg "isinstance" = none) (hy : X.mg y = none) (hv : bootBuiltins y = some (.type n)) (hz : X.mg z = none) (hvz : bootBuiltins z = some (.type m)) (ha : DE X g W e f) (hg : Gl X "isinstance" := by rfl) (hgy : Gl X y := by rfl) (hgz : Gl X z := by rfl)
    (hny : y ≠ "__name__" := by decide) (hdy : (y == ("__debug__" : Str)) = false := by decide) (hnz : z ≠ "__name__" := by decide) (hdz : (z == ("__debug__" : Str)) = false := by decide)
    (he : starEach (e :: [.Tuple [.Name y p2, .Name z p3] kk p4]) X.env = (false, eval e X.env) :: starEach [.Tuple [.Name y p2, .Name z p3] kk p4] X.env := by rfl) (he2 : starEach (.Tuple [.Name y p2, .Name z p3] kk p4 :: []) X.env = (false, eval (.Tuple [.Name y p2, .Name z p3] kk p4) X.env) :: starEach [] X.env := by rfl)
    (he3 : starEach (.Name y p2 :: [.Name z p3]) X.env = (false, eval (.Name y p2) X.env) :: starEach [.Name z p3] X.env := by rfl) (he4 : starEach (.Name z p3 :: []) X.env = (false, eval (.Name z p3) X.env) :: starEach [] X.env := by rfl)
    (hpl : (backTo pos (starEach [.Tuple [.Name y p2, .Name z p3] kk p4] X.env)).any (·.1) = false := by rfl) (hK : X.K = g.K := by rfl) :
    DE X g W (.Call (.Name "isinstance" p) [e, .Tuple [.Name y p2, .Name z p3] kk p4] [] pos) (e1 (isiT2 n m) f) :=
  pe_imp (pe_callB call_some hg hm (by decide +kernel) (pa_cons ha (pa_cons (pe_tup (pa_cons (pe_bltn (v := .ty n) hgy hy hv rfl hny hdy) (pa_cons (pe_bltn (v := .ty m) hgz hz hvz rfl hnz hdz) pa_nil he4) he3)) pa_nil he2) he) (by decide) (by decide) he hpl) fun σ H Q ⟨ρ, F, b, s, q⟩ => ⟨ρ, F, b, s, M.wp_mono (M.wp_bind.mp q) (fun b1 t q1 v H1 F1 s1 r1 => by
    have q1 : (match tyName t with | some a => (match kitB a n, kitB a m with | some b, some c => M.ret (T.bl (b || c)) | _, _ => .stuck) | none => .stuck).wp b1 _ _ := q1
    refine ⟨by show 2 ≤ sizeLine; decide, fun tp htp => ?_⟩
    cases e1 : tyName t with
    | none => rw [e1] at q1; exact q1.elim
    | some a =>
      rw [e1] at q1
      dsimp only at q1
      cases e2 : kitB a n with
      | none => rw [e2] at q1; exact q1.elim
      | some b' =>
        cases e3 : kitB a m with
        | none => rw [e2, e3] at q1; exact q1.elim
        | some c' =>
          rw [e2, e3] at q1
          have st := s1.sr.stepU (.tup [.ty n, .ty m]) htp
          refine ⟨v, tp, [.ty n, .ty m], .type a, [.type n, .type m], b' || c', rfl, upd_same, .cons (.ty n) (.cons (.ty m) .nil), by rw [hK]; exact tyX_of st.sr.sub (r1.ext st.ext) e1, ?_, q1 _ _ _ (s1.trans st) (.bl _)⟩
          refine kitAny_cons (kit_ty e2) (fun hb => ?_) (fun hb => by rw [hb]; rfl)
          refine kitAny_cons (kit_ty e3) (fun hc => ?_) (fun hc => by rw [hc, hb]; rfl)
          rw [hb, hc]
          exact kitAny_nil) fun _ _ _ z => z⟩

/-! ### list(x), tuple(x) -/
def nList (p : Bool × List T) : M (List T) := .ret p.2
theorem dn_list (hm : X.mg "list" = none) (ha : DL X g W e fl) (hg : Gl X "list" := by rfl) (he : starEach (e :: []) X.env = (false, eval e X.env) :: starEach [] X.env := by rfl) (hpl : (backTo pos (starEach [] X.env)).any (·.1) = false := by rfl) (hK : X.K = g.K := by rfl) :
    DN X g W (.Call (.Name "list" p) [e] [] pos) (e1 nList fl) :=
  pe_imp (pe_callTy call_list_of hg hm (by decide +kernel) (pa_cons ha pa_nil he) (by decide) (by decide) he hpl) fun σ H Q ⟨ρ, F, b, s, q⟩ => ⟨ρ, F, b, s, M.wp_mono (M.wp_bind.mp q) (fun b1 pp q1 d H1 F1 s1 h1 => by
    obtain ⟨vs, h2, r3⟩ := h1.now s1.sr
    exact ⟨d, vs, rfl, by rw [hK]; exact h2, fun l hl => q1 l vs H1 _ F1 s1 hl rfl r3⟩) fun _ _ _ z => z⟩
def tupT (p : Bool × List T) : M T := .ret (.tup p.2)
theorem de_tuple (hm : X.mg "tuple" = none) (ha : DL X g W e fl) (hg : Gl X "tuple" := by rfl) (he : starEach (e :: []) X.env = (false, eval e X.env) :: starEach [] X.env := by rfl) (hpl : (backTo pos (starEach [] X.env)).any (·.1) = false := by rfl) (hK : X.K = g.K := by rfl) :
    DE X g W (.Call (.Name "tuple" p) [e] [] pos) (e1 tupT fl) :=
  pe_imp (pe_callTy call_tuple_of hg hm (by decide +kernel) (pa_cons ha pa_nil he) (by decide) (by decide) he hpl) fun σ H Q ⟨ρ, F, b, s, q⟩ => ⟨ρ, F, b, s, M.wp_mono (M.wp_bind.mp q) (fun b1 pp q1 d H1 F1 s1 h1 => by
    obtain ⟨vs, h2, r3⟩ := h1 F1 H1 b1 (Step.refl s1.sr)
    cases hb : pp.1 with
    | true =>
      rw [if_pos hb] at h2
      refine ⟨d, vs, rfl, .inl ⟨SqL.of h2, fun l hl => ?_⟩⟩
      have st := s1.sr.step (.tup vs) hl
      exact q1 _ _ _ (s1.trans st) (.tup (SqT.of upd_same) (r3.ext st.ext))
    | false =>
      rw [if_neg (by rw [hb]; exact Bool.false_ne_true)] at h2
      exact ⟨d, vs, rfl, .inr ⟨by rw [hK]; exact sqT_ext s1.sr.sub h2, q1 _ _ _ s1 (.tup h2 r3)⟩⟩) fun _ _ _ z => z⟩
end
end DP
end
section
set_option Elab.async false
set_option linter.all false
set_option maxRecDepth 100000
namespace DP
open PySem PySem.Spec PyProof.Rows L2

/-- a list of the def's own is another one from here on -/
theorem SR.updOwn {g : Cn} {F H : Hp} {σ : Sg} {ρ : Env'} {b i : Nat} {a : Addr} {vs vs' : List V} {ts ts' : List T} (s : SR g F H σ ρ b) (hx : ρ[i]? = some (.own ts)) (hv : σ[i]? = some (some (.ref a))) (ha : H a = some (.lst vs)) (r : Reps g.K F vs' ts') :
    SR g F (upd H a (.lst vs')) σ (ρ.set i (.own ts')) b := by
  obtain ⟨v, hv', sl⟩ := Paired.get1 s.slots hx
  rw [hv] at hv'
  cases hv'
  cases sl with
  | own z1 z2 z3 z4 z5 =>
    have ne : ∀ (j : Nat) (c : Addr) (z : Sl), j ≠ i → ρ[j]? = some z → z.isOwn = true → σ[j]? = some (some (.ref c)) → c ≠ a := fun j c z hj hz oz e q => by
      subst q
      exact s.dis i j c _ z (Ne.symm hj) hx hz rfl oz hv e
    refine ⟨fun c o e => by rw [upd_ne (ne_of_none e z2)]; exact s.sub c o e, s.f0, fun c o e n => by rw [upd_ne (ne_of_none e z3)]; exact s.keep c o e n, s.new, ?_, ?_, fun p l e => ?_, s.tabK (Same.refl _) fun p q m => ⟨fun o e => by rw [upd_ne (Cn.tabNe z4 m)]; exact e, (s.tabs p q m).1⟩⟩
    · refine Paired.setImp s.slots hv (.own upd_same z2 z3 z4 r) fun j v z hj h1 h2 q => ?_
      cases q with
      | any v => exact .any v
      | val r => exact .val r
      | own y1 y2 y3 y4 y5 => exact .own (by rw [upd_ne (ne j _ _ hj h2 rfl h1)]; exact y1) y2 y3 y4 y5
      | ownD y1 y2 y3 y4 y5 => exact .ownD (by rw [upd_ne (ne j _ _ hj h2 rfl h1)]; exact y1) y2 y3 y4 y5
      | ownS y1 y2 y3 y4 y5 => exact .ownS (by rw [upd_ne (ne j _ _ hj h2 rfl h1)]; exact y1) y2 y3 y4 y5
      | strm e => exact .strm e
      | pin h => exact .pin h
    · intro j k c y z jk hy hz oy oz e
      rcases get_set hy with ⟨rfl, rfl, _⟩ | ⟨nj, hy'⟩
      · rcases get_set hz with ⟨rfl, rfl, _⟩ | ⟨nk, hz'⟩
        · exact absurd rfl jk
        · exact s.dis _ _ _ _ _ jk hx hz' rfl oz e
      · rcases get_set hz with ⟨rfl, rfl, _⟩ | ⟨nk, hz'⟩
        · exact s.dis _ _ _ _ _ jk hy' hx oy rfl e
        · exact s.dis _ _ _ _ _ jk hy' hz' oy oz e
    · obtain ⟨h1, h2, h3, ns, c, n, m, q1, q2, q3⟩ := s.strm p l e
      exact ⟨h1, h2, h3, ns, c, n, m, by rw [upd_ne fun z => z4 (.inl ⟨p, l, e, .inl z.symm⟩)]; exact q1, by rw [upd_ne fun z => z4 (.inl ⟨p, l, e, .inr z.symm⟩)]; exact q2, q3⟩
theorem SR.ownAt {g : Cn} {F H : Hp} {σ : Sg} {ρ : Env'} {b i : Nat} {ts : List T} (s : SR g F H σ ρ b) (hx : ρ[i]? = some (.own ts)) : ∃ a vs, σ[i]? = some (some (.ref a)) ∧ H a = some (.lst vs) ∧ Reps g.K F vs ts := by
  obtain ⟨v, hv, sl⟩ := Paired.get1 s.slots hx
  cases sl with
  | own z1 z2 z3 z4 z5 => exact ⟨_, _, hv, z1, z5⟩

def ownL (i : Nat) (ρ : Env') : Option (List T) := match ρ[i]? with
  | some (.own ts) => some ts
  | _ => none
theorem ownL_of {i : Nat} {ρ : Env'} {ts : List T} (h : ownL i ρ = some ts) : ρ[i]? = some (.own ts) := by
  unfold ownL at h
  cases e : ρ[i]? with
  | none => rw [e] at h; cases h
  | some x =>
    rw [e] at h
    cases x <;> first
      | (cases h; rfl)
      | cases h
def sApp (i : Nat) (f : Env' → M T) : Env' → M Fl := fun ρ => match ownL i ρ with
  | some ts => (f ρ).bind fun t => if okLen ts.length = true then .ret (.next (ρ.set i (.own (ts ++ [t])))) else .stuck
  | none => .stuck
def sExt (i : Nat) (f : Env' → M (Bool × List T)) : Env' → M Fl := fun ρ => match ownL i ρ with
  | some ts => (f ρ).bind fun p => if (p.1 && okLen (ts.length + p.2.length)) = true then .ret (.next (ρ.set i (.own (ts ++ p.2)))) else .stuck
  | none => .stuck
/-- an expression that changes a slot -/
def tDX (g : Cn) (W : WX) (f : Env' → M (T × Env')) : TE := fun σ H Q => ∃ ρ F b, SR g F H σ ρ b ∧ (f ρ).wp b (fun b' p => ∀ v H' F', Ext F F' → SR g F' H' σ p.2 b' → Rep g.K F' v p.1 → Q v H') (EX g W σ ρ F H)
abbrev DX (X : Cx) (g : Cn) (W : WX) (e : Expr) (f : Env' → M (T × Env')) : Prop := PE X e (tDX g W f)
def xPop (i : Nat) : Env' → M (T × Env') := fun ρ => match ownL i ρ with
  | some ts => match ts[ts.length - 1]? with
    | some t => .ret (t, ρ.set i (.own ts.dropLast))
    | none => .stuck
  | none => .stuck
def xPopAt (i : Nat) (f : Env' → M T) : Env' → M (T × Env') := fun ρ => match ownL i ρ with
  | some ts => (f ρ).bind fun t => match t with
    | .int j => match ts[j.toNat]? with
      | some t => if (decide (0 ≤ j) && okLen ts.length) = true then .ret (t, ρ.set i (.own (ts.eraseIdx j.toNat))) else .stuck
      | none => .stuck
    | _ => .stuck
  | none => .stuck
def sSetX (i : Nat) (f : Env' → M (T × Env')) : Env' → M Fl := fun ρ => (f ρ).bind fun p => .ret (.next (p.2.set i (.val p.1)))
def sAsgX (f : Env' → M (T × Env')) (bd : T → Env' → Option Env') : Env' → M Fl := fun ρ => (f ρ).bind fun p => match bd p.1 p.2 with
  | some ρ' => .ret (.next ρ')
  | none => .stuck
def sAppX (i : Nat) (f : Env' → M (T × Env')) : Env' → M Fl := fun ρ => if (ownL i ρ).isSome = true then (f ρ).bind fun p => match ownL i p.2 with
      | some ts => if okLen ts.length = true then .ret (.next (p.2.set i (.own (ts ++ [p.1])))) else .stuck
      | none => .stuck
    else .stuck
theorem Reps.erase {K : KF} {F : Hp} : ∀ {vs : List V} {ts : List T} (i : Nat), Reps K F vs ts → Reps K F (vs.eraseIdx i) (ts.eraseIdx i)
  | _, _, _, .nil => .nil
  | _, _, 0, .cons _ r => r
  | _, _, i + 1, .cons h r => .cons h (Reps.erase i r)
theorem Reps.dropLast {K : KF} {F : Hp} {vs : List V} {ts : List T} (r : Reps K F vs ts) : Reps K F vs.dropLast ts.dropLast := by
  rw [List.dropLast_eq_take, List.dropLast_eq_take, r.length]
  exact r.take _

section
variable {X : Cx} {g : Cn} {W : WX} {k i : Nat} {pos apos spos : Pos} {a c e o tg : Expr} {es : List Expr} {f fa fc : Env' → M T} {fs : Env' → M (List T)} {fl : Env' → M (Bool × List T)} {fx : Env' → M (T × Env')} {x : Str} {p : Pos} {bd : T → Env' → Option Env'} {ws : List Nat}
theorem ds_append (h0 : PE X o (tVar i)) (he : DE X g W e f) (hs : swapsWith (.Call (.Attribute o "append" apos) [e] [] pos) none spos.line X.env = pure false := by rfl)
    (hbase : attributeBase o "append" X.env (eval o X.env) = eval o X.env := by rfl)
    (hfew : ((backTo pos (starEach (e :: []) X.env)).all (fun x => !x.1) && (backToKw pos (keywordEach [] X.env)).all (fun x => x.1.isSome)
      && decide ((e :: []).length + ([] : List Keyword).length + (if ([] : List Keyword).isEmpty then 0 else 1) < 30)) = true := by rfl)
    (hline : (apos.endLine == pos.line) = true := by rfl) (hst : starEach (e :: []) X.env = (false, eval e X.env) :: starEach [] X.env := by rfl) (hplain : (backTo pos (starEach [] X.env)).any (·.1) = false := by rfl) :
    DS X g W (.Expr (.Call (.Attribute o "append" apos) [e] [] pos) spos) (sApp i f) :=
  ps_imp (ps_expr (pe_bm PySem.F.plainAttrs_list PySem.F.slot_list_append PySem.F.type_list_append mt_append h0 (pa_cons he pa_nil hst) hbase hfew hline hst hplain) hs) fun D σ H ⟨ρ, F, b, s, q⟩ => by
    have q : (match ownL i ρ with | some ts => (f ρ).bind _ | none => .stuck).wp b _ _ := q
    cases z : ownL i ρ with
    | none => rw [z] at q; exact q.elim
    | some ts =>
      rw [z] at q
      have hx := ownL_of z
      obtain ⟨l, vs, hv, hl, r⟩ := s.ownAt hx
      refine ⟨_, hv, .inl ⟨rfl, vs, SqL.of hl⟩, ρ, F, b, s, M.wp_mono (M.wp_bind.mp q) (fun b1 t q1 v H1 F1 s1 r1 => ?_) fun _ _ _ z => z.ex⟩
      obtain ⟨ok, q2⟩ := if_of q1
      obtain ⟨l', vs', hv', hl', r'⟩ := s1.sr.ownAt hx
      rw [hv] at hv'
      cases hv'
      exact ⟨l, vs', v, rfl, rfl, hl', by rw [r'.length]; exact okLen_line ok, q2 _ _ F1 s1.ext (s1.sr.updOwn hx hv hl' (r'.append (.one r1)))⟩
theorem ds_extend (h0 : PE X o (tVar i)) (he : DL X g W e fl) (hs : swapsWith (.Call (.Attribute o "extend" apos) [e] [] pos) none spos.line X.env = pure false := by rfl)
    (hbase : attributeBase o "extend" X.env (eval o X.env) = eval o X.env := by rfl)
    (hfew : ((backTo pos (starEach (e :: []) X.env)).all (fun x => !x.1) && (backToKw pos (keywordEach [] X.env)).all (fun x => x.1.isSome)
      && decide ((e :: []).length + ([] : List Keyword).length + (if ([] : List Keyword).isEmpty then 0 else 1) < 30)) = true := by rfl)
    (hline : (apos.endLine == pos.line) = true := by rfl) (hst : starEach (e :: []) X.env = (false, eval e X.env) :: starEach [] X.env := by rfl) (hplain : (backTo pos (starEach [] X.env)).any (·.1) = false := by rfl) :
    DS X g W (.Expr (.Call (.Attribute o "extend" apos) [e] [] pos) spos) (sExt i fl) :=
  ps_imp (ps_expr (pe_bm PySem.F.plainAttrs_list PySem.F.slot_list_extend PySem.F.type_list_extend mt_extend h0 (pa_cons he pa_nil hst) hbase hfew hline hst hplain) hs) fun D σ H ⟨ρ, F, b, s, q⟩ => by
    have q : (match ownL i ρ with | some ts => (fl ρ).bind _ | none => .stuck).wp b _ _ := q
    cases z : ownL i ρ with
    | none => rw [z] at q; exact q.elim
    | some ts =>
      rw [z] at q
      have hx := ownL_of z
      obtain ⟨l, vs, hv, hl, r⟩ := s.ownAt hx
      refine ⟨_, hv, .inl ⟨rfl, vs, SqL.of hl⟩, ρ, F, b, s, M.wp_mono (M.wp_bind.mp q) (fun b1 t q1 d H1 F1 s1 h1 => ?_) fun _ _ _ z => z.ex⟩
      obtain ⟨ok, q2⟩ := if_of q1
      rw [Bool.and_eq_true] at ok
      obtain ⟨l', vs', hv', hl', r'⟩ := s1.sr.ownAt hx
      rw [hv] at hv'
      cases hv'
      obtain ⟨ws, z1, r2⟩ := h1 F1 H1 b1 (Step.refl s1.sr)
      rw [if_pos ok.1] at z1
      exact ⟨l, d, vs', ws, rfl, rfl, hl', z1, by rw [r'.length, r2.length]; exact Nat.le_of_lt (okLen_line ok.2), q2 _ _ F1 s1.ext (s1.sr.updOwn hx hv hl' (r'.append r2))⟩
theorem dx_pop (h0 : PE X o (tVar i)) (hbase : attributeBase o "pop" X.env (eval o X.env) = eval o X.env := by rfl) (hline : (apos.endLine == pos.line) = true := by rfl) : DX X g W (.Call (.Attribute o "pop" apos) [] [] pos) (xPop i) :=
  pe_imp (pe_bm0 PySem.F.plainAttrs_list PySem.F.slot_list_pop PySem.F.type_list_pop mt_pop h0 hbase hline) fun σ H Q ⟨ρ, F, b, s, q⟩ => by
    have q : (match ownL i ρ with | some ts => (match ts[ts.length - 1]? with | some t => M.ret (t, ρ.set i (.own ts.dropLast)) | none => .stuck) | none => .stuck).wp b _ _ := q
    cases z : ownL i ρ with
    | none => rw [z] at q; exact q.elim
    | some ts =>
      rw [z] at q
      have hx := ownL_of z
      obtain ⟨l, vs, hv, hl, r⟩ := s.ownAt hx
      dsimp only at q
      cases e : ts[ts.length - 1]? with
      | none => rw [e] at q; exact q.elim
      | some t =>
        rw [e] at q
        obtain ⟨v, hv2, rv⟩ := r.get' e
        exact ⟨_, hv, .inl ⟨rfl, vs, SqL.of hl⟩, l, vs, v, rfl, rfl, hl, by rw [r.length]; exact hv2, q v _ F (Same.refl _) (s.updOwn hx hv hl r.dropLast) rv⟩
theorem dx_popAt (h0 : PE X o (tVar i)) (he : DE X g W e f)
    (hbase : attributeBase o "pop" X.env (eval o X.env) = eval o X.env := by rfl)
    (hfew : ((backTo pos (starEach (e :: []) X.env)).all (fun x => !x.1) && (backToKw pos (keywordEach [] X.env)).all (fun x => x.1.isSome)
      && decide ((e :: []).length + ([] : List Keyword).length + (if ([] : List Keyword).isEmpty then 0 else 1) < 30)) = true := by rfl)
    (hline : (apos.endLine == pos.line) = true := by rfl) (hst : starEach (e :: []) X.env = (false, eval e X.env) :: starEach [] X.env := by rfl) (hplain : (backTo pos (starEach [] X.env)).any (·.1) = false := by rfl) : DX X g W (.Call (.Attribute o "pop" apos) [e] [] pos) (xPopAt i f) :=
  pe_imp (pe_bm PySem.F.plainAttrs_list PySem.F.slot_list_pop PySem.F.type_list_pop mt_popAt h0 (pa_cons he pa_nil hst) hbase hfew hline hst hplain) fun σ H Q ⟨ρ, F, b, s, q⟩ => by
    have q : (match ownL i ρ with | some ts => (f ρ).bind _ | none => .stuck).wp b _ _ := q
    cases z : ownL i ρ with
    | none => rw [z] at q; exact q.elim
    | some ts =>
      rw [z] at q
      have hx := ownL_of z
      obtain ⟨l, vs, hv, hl, r⟩ := s.ownAt hx
      refine ⟨_, hv, .inl ⟨rfl, vs, SqL.of hl⟩, ρ, F, b, s, M.wp_mono (M.wp_bind.mp q) (fun b1 t q1 v H1 F1 s1 r1 => ?_) fun _ _ _ z => z⟩
      obtain ⟨l', vs', hv', hl', r'⟩ := s1.sr.ownAt hx
      rw [hv] at hv'
      cases hv'
      cases t with
      | int j =>
        cases r1
        dsimp only at q1
        cases e : ts[j.toNat]? with
        | none => rw [e] at q1; exact q1.elim
        | some t =>
          rw [e] at q1
          obtain ⟨ok, q2⟩ := if_of q1
          rw [Bool.and_eq_true] at ok
          have h0 := of_decide_eq_true ok.1
          have hz := of_decide_eq_true ok.2
          obtain ⟨v, hv2, rv⟩ := r'.get' e
          have hlt : j.toNat < ts.length := (List.getElem?_eq_some_iff.mp e).1
          have hix : ixN vs'.length j = some j.toNat := by
            unfold ixN
            rw [if_pos h0, if_pos (by rw [r'.length]; omega)]
          exact ⟨l, vs', j, j.toNat, v, rfl, rfl, hl', by omega, by omega, (ixN_seq hix).1, hv2, q2 v _ F1 s1.ext (s1.sr.updOwn hx hv hl' (r'.erase _)) rv⟩
      | _ => exact q1.elim
theorem ds_setX {pos' : Pos} (hN : X.N.Nodup) (hi : X.N[i]? = some x) (hx : Loc X.env.scope x) (he : DX X g W e fx) (hs : swapsWith e (some (.Name x pos')) pos.line X.env = pure false := by rfl) (hf : X.fn x = true ∨ X.env.scope.names.lookup x = some .local := by first | exact .inl rfl | exact .inr rfl | assumption) :
    DS X g W (.Assign [.Name x pos'] e pos) (sSetX i fx) := ps_imp (ps_set hN hi hx he hs hf) fun D σ H ⟨ρ, F, b, s, q⟩ => ⟨ρ, F, b, s, M.wp_mono (M.wp_bind.mp q) (fun b1 t q1 v H' F' e1 s1 r => q1 _ H' F' e1 (s1.set i (.val r) rfl)) fun _ _ _ z => z.ex⟩
theorem ds_asgX (he : DX X g W e fx) (hg : DG X g ws tg bd) (hs : swapsWithSole [tg] e pos.line X.env = pure false := by rfl) (hw : swappedStores [tg] e X.env = pure none := by rfl)
    (h1 : (assignEach [tg] X.env).map (·.2) = [assign tg X.env] := by rfl) : DS X g W (.Assign [tg] e pos) (sAsgX fx bd) :=
  ps_imp (ps_asg he hg hs hw h1) fun D σ H ⟨ρ, F, b, s, q⟩ => ⟨ρ, F, b, s, M.wp_mono (M.wp_bind.mp q) (fun b1 t q1 v H' F' e1 s1 r => by
    cases z : bd t.1 t.2 with
    | none => rw [z] at q1; exact q1.elim
    | some ρ' =>
      rw [z] at q1
      exact ⟨t.2, F', b1, t.1, s1, r, ρ', z, fun σ' s' _ _ _ => q1 σ' H' F' e1 s'⟩) fun _ _ _ z => z.ex⟩
/-- xs.append(ys.pop(..)) -/
theorem ds_appendX (h0 : PE X o (tVar i)) (he : DX X g W e fx) (hs : swapsWith (.Call (.Attribute o "append" apos) [e] [] pos) none spos.line X.env = pure false := by rfl)
    (hbase : attributeBase o "append" X.env (eval o X.env) = eval o X.env := by rfl)
    (hfew : ((backTo pos (starEach (e :: []) X.env)).all (fun x => !x.1) && (backToKw pos (keywordEach [] X.env)).all (fun x => x.1.isSome)
      && decide ((e :: []).length + ([] : List Keyword).length + (if ([] : List Keyword).isEmpty then 0 else 1) < 30)) = true := by rfl)
    (hline : (apos.endLine == pos.line) = true := by rfl) (hst : starEach (e :: []) X.env = (false, eval e X.env) :: starEach [] X.env := by rfl) (hplain : (backTo pos (starEach [] X.env)).any (·.1) = false := by rfl) :
    DS X g W (.Expr (.Call (.Attribute o "append" apos) [e] [] pos) spos) (sAppX i fx) :=
  ps_imp (ps_expr (pe_bm PySem.F.plainAttrs_list PySem.F.slot_list_append PySem.F.type_list_append mt_append h0 (pa_cons he pa_nil hst) hbase hfew hline hst hplain) hs) fun D σ H ⟨ρ, F, b, s, q⟩ => by
    have q : (if (ownL i ρ).isSome = true then (fx ρ).bind _ else M.stuck).wp b _ _ := q
    obtain ⟨ho, q⟩ := if_of q
    cases z : ownL i ρ with
    | none => rw [z] at ho; cases ho
    | some ts =>
      have hx := ownL_of z
      obtain ⟨l, vs, hv, hl, r⟩ := s.ownAt hx
      refine ⟨_, hv, .inl ⟨rfl, vs, SqL.of hl⟩, ρ, F, b, s, M.wp_mono (M.wp_bind.mp q) (fun b1 t q1 v H1 F1 e1 s1 r1 => ?_) fun _ _ _ z => z.ex⟩
      cases z2 : ownL i t.2 with
      | none =>
        have q1 : (match ownL i t.2 with | some ts => _ | none => M.stuck).wp b1 _ _ := q1
        rw [z2] at q1
        exact q1.elim
      | some ts2 =>
        have q1 : (match ownL i t.2 with | some ts => _ | none => M.stuck).wp b1 _ _ := q1
        rw [z2] at q1
        obtain ⟨ok, q2⟩ := if_of q1
        have hx2 := ownL_of z2
        obtain ⟨l', vs', hv', hl', r'⟩ := s1.ownAt hx2
        rw [hv] at hv'
        cases hv'
        exact ⟨l, vs', v, rfl, rfl, hl', by rw [r'.length]; exact okLen_line ok, q2 _ _ F1 e1 (s1.updOwn hx2 hv hl' (r'.append (.one r1)))⟩

/-! ### ranges, enumerate, zip -/
def okR (i : Int) : Bool := decide (-1000000 ≤ i ∧ i ≤ 1000000)
def rng1 : List T → M (List T)
  | [.int j] => if okR j = true then .ret ((List.range j.toNat).map fun k => .int (0 + (k : Nat))) else .stuck
  | _ => .stuck
def rng2 : List T → M (List T)
  | [.int i, .int j] => if (okR i && okR j) = true then .ret ((List.range (j - i).toNat).map fun k => .int (i + (k : Nat))) else .stuck
  | _ => .stuck
theorem wk_range {lo : Int} {n : Nat} {F : Hp} : Wk g (Itr lo n) F ((List.range n).map fun k => .int (lo + (k : Nat))) where
  go := fun i F2 H _ _ h => by show i < n; simpa using h
  stop := fun F2 H _ _ => by show n ≤ _; simp
  yld := fun i F2 H x H' t _ _ ht y => .inl ⟨y.1, by
    obtain ⟨_, rfl⟩ := y
    rw [List.getElem?_map] at ht
    cases e : (List.range n)[i]? with
    | none => rw [e] at ht; cases ht
    | some k =>
      rw [e] at ht
      cases ht
      obtain ⟨h1, h2⟩ := List.getElem?_eq_some_iff.mp e
      simp at h2
      subst h2
      exact .int _⟩
theorem di_range1 (hm : X.mg "range" = none) (ha : DA X g W [a] fs) (hg : Gl X "range" := by rfl) (hs : starEach [a] X.env = [(false, eval a X.env)] := by rfl) : DI X g W tg (.Call (.Name "range" p) [a] [] pos) (e1 rng1 fs) :=
  pi_imp (pi_range1 hg hm ha hs) fun σ H R ⟨ρ, F, b, s, q⟩ => ⟨ρ, F, b, s, M.wp_mono (M.wp_bind.mp q) (fun b1 ts q1 vs H1 F1 s1 r => by
    rcases r with _ | ⟨r1, _ | ⟨r2, r3⟩⟩
    · exact q1.elim
    · cases r1 <;> first
        | exact q1.elim
        | (obtain ⟨ok, q2⟩ := if_of q1
           have h := of_decide_eq_true ok
           exact ⟨_, rfl, by omega, by omega, q2 _ F1 H1 s1 wk_range⟩)
    · cases r1 <;> exact q1.elim) fun _ _ _ z => z⟩
theorem di_range2 (hm : X.mg "range" = none) (ha : DA X g W [a, c] fs) (hg : Gl X "range" := by rfl) (hs : starEach [a, c] X.env = [(false, eval a X.env), (false, eval c X.env)] := by rfl) (hs2 : starEach [c] X.env = [(false, eval c X.env)] := by rfl) : DI X g W tg (.Call (.Name "range" p) [a, c] [] pos) (e1 rng2 fs) :=
  pi_imp (pi_range2 hg hm ha hs hs2) fun σ H R ⟨ρ, F, b, s, q⟩ => ⟨ρ, F, b, s, M.wp_mono (M.wp_bind.mp q) (fun b1 ts q1 vs H1 F1 s1 r => by
    rcases r with _ | ⟨r1, _ | ⟨r2, _ | ⟨r3, r4⟩⟩⟩
    · exact q1.elim
    · cases r1 <;> exact q1.elim
    · cases r1 <;> first
        | exact q1.elim
        | (cases r2 <;> first
            | exact q1.elim
            | (obtain ⟨ok, q2⟩ := if_of q1
               rw [Bool.and_eq_true] at ok
               have h1 := of_decide_eq_true ok.1
               have h2 := of_decide_eq_true ok.2
               exact ⟨_, _, rfl, ⟨by omega, by omega, by omega, by omega⟩, q2 _ F1 H1 s1 wk_range⟩))
    · cases r1 <;> first
        | exact q1.elim
        | (cases r2 <;> exact q1.elim)) fun _ _ _ z => z⟩
end
end DP
end
section
set_option Elab.async false
set_option linter.all false
set_option maxRecDepth 100000
namespace DP
open PySem PySem.Spec PyProof.Rows L2

/-! ### the law's draws -/
def drawM : List T → M T
  | [.int n] => if fit n = true then .draw n fun d => .ret (.int d) else .stuck
  | _ => .stuck
/-- the stream as it stands, all else as in H or new -/
structure St4 (H H' : Hp) (s l : Addr) (ns : List Int) (c n m : Int) : Prop where
  at_s : H' s = some (.lst [.ref l, .int c, .int n, .int m])
  at_l : H' l = some (.lst (ns.map V.int))
  ne : s ≠ l
  keep : ∀ a o, H a = some o → a ≠ s → a ≠ l → H' a = some o
section
variable {H H' : Hp} {s l p : Addr} {ns : List Int} {c n m : Int}
theorem St4.setS (S : St4 H H' s l ns c n m) (c' n' m' : Int) : St4 H (upd H' s (.lst [.ref l, .int c', .int n', .int m'])) s l ns c' n' m' :=
  ⟨upd_same, by rw [upd_ne S.ne.symm]; exact S.at_l, S.ne, fun a o e h1 h2 => by rw [upd_ne h1]; exact S.keep a o e h1 h2⟩
theorem St4.setL (S : St4 H H' s l ns c n m) (ns' : List Int) : St4 H (upd H' l (.lst (ns'.map V.int))) s l ns' c n m :=
  ⟨by rw [upd_ne S.ne]; exact S.at_s, upd_same, S.ne, fun a o e h1 h2 => by rw [upd_ne h2]; exact S.keep a o e h1 h2⟩
theorem St4.new (S : St4 H H' s l ns c n m) {o : HO} (hp : H' p = none) : St4 H (upd H' p o) s l ns c n m :=
  ⟨by rw [upd_ne (ne_of_none S.at_s hp)]; exact S.at_s, by rw [upd_ne (ne_of_none S.at_l hp)]; exact S.at_l, S.ne, fun a u e h1 h2 => by rw [upd_ne (ne_of_none (S.keep a u e h1 h2) hp)]; exact S.keep a u e h1 h2⟩
theorem strm_after {F : Hp} {b' : Nat} (S : St4 H H' s l ns c n m) (sub : Ext F H) (f1 : F s = none) (f2 : F l = none) (q1 : 0 ≤ c) (q2 : 0 ≤ n) (q3 : n + b' ≤ 10 ^ 14) (q4 : 0 ≤ m) (q5 : m < 2147483647) : After (some (s, l)) F H F H' b' := by
  refine ⟨Same.refl _, fun a o e => S.keep a o (sub a o e) (ne_of_none e f1) (ne_of_none e f2), fun a o e h => S.keep a o e (fun z => h ⟨s, l, rfl, .inl z⟩) (fun z => h ⟨s, l, rfl, .inr z⟩), fun _ _ _ h => h, fun p r e => ?_⟩
  cases e
  exact ⟨ns, c, n, m, S.at_s, S.at_l, q1, q2, q3, q4, q5⟩
end
theorem dpInts {K : KF} {H : Hp} : ∀ ns : List Int, DpAll K H (ns.map V.int) (ns.map PyData.int)
  | [] => .nil
  | n :: ns => .cons (.int n) (dpInts ns)
theorem layInts : ∀ ns : List Int, PyData.canLayAll0 (ns.map PyData.int) = true
  | [] => by simp [PyData.canLayAll0]
  | n :: ns => by simp [PyData.canLayAll0, PyData.canLay0, layInts ns]
theorem depthInts : ∀ ns : List Int, PyData.depthAll (ns.map PyData.int) ≤ 1
  | [] => by simp [PyData.depthAll]
  | n :: ns => by
    have h := depthInts ns
    simp [PyData.depthAll, PyData.depth]
    omega
theorem shapedInts (ns : List Int) : SeqAt.shaped (.list (ns.map PyData.int)) = true := by
  have h := depthInts ns
  simp [SeqAt.shaped, PyData.canLay0, PyData.depth, layInts]
  omega
theorem shapedNil : SeqAt.shaped (.list []) = true := shapedInts []
theorem eqvNil (ns : List Int) : PyData.eqv (.list (ns.map PyData.int)) (.list []) = ns.isEmpty := by
  cases ns <;> simp [PyData.eqv, PyData.eqvAll]
theorem pow_lt {i : Int} (h0 : 0 ≤ i) (h : i < 18446744073709551616) : i.natAbs < 2 ^ 64 := by
  have e : (2 : Nat) ^ 64 = 18446744073709551616 := by decide
  rw [e]
  omega
/-- what the law's text of _law_draw has to be, for a body by its term: the proof's words stand where the row is known -/
theorem draw_read {K : KF} {E : XK} {H : Hp} {vs : List V} {Q : VK} {Xc : Str → Addr × Str} (h : spD K Xc true 1 drawM vs H Q E) :
    ∃ (s l : Addr) (ns : List Int) (c n m many : Int), vs = [.ref s, .int many] ∧ St4 H H s l ns c n m ∧ 0 ≤ c ∧ 0 ≤ n ∧ n + 1 ≤ 100000000000000 ∧ 0 ≤ m ∧ m < 2147483647 ∧ 0 < many ∧ fit many = true ∧
      ∀ (H' : Hp) (d c' m' : Int) (ns' : List Int), St4 H H' s l ns' c' (n + 1) m' → 0 ≤ d → d < many → 0 ≤ c' → 0 ≤ m' → m' < 2147483647 → Q (.int d) H' := by
  obtain ⟨S, F, b, vs', ts, h1, h2, h3, h4, h5⟩ := h
  rw [if_pos rfl] at h2
  obtain ⟨s, l, rfl, rfl, f1, f2, h6, ns, c, n, m, q1, q2, q3, q4, q5, q6, q7⟩ := h2
  rcases h4 with _ | ⟨r1, _ | ⟨r2, r3⟩⟩
  · cases h1
  · rename_i v t
    cases r1 with
    | int many =>
      obtain ⟨ft, h5⟩ := if_of h5
      obtain ⟨p1, p2, p3⟩ := h5
      refine ⟨s, l, ns, c, n, m, many, rfl, ⟨q1, q2, h6, fun _ _ e _ _ => e⟩, q3, q4, by omega, q6, q7, p1, ft, fun H' d c' m' ns' S d1 d2 e1 e2 e3 => ?_⟩
      exact p3 d d1 d2 (.int d) _ F (strm_after S h3 f1 f2 e1 (by omega) (by omega) e2 e3) (.int d)
    | _ => exact h5.elim
  · cases h1
end DP
end
section
set_option Elab.async false
set_option linter.all false
set_option maxRecDepth 100000
namespace DP
open PySem PySem.Spec PyProof.Rows L2

/-! ### a, b = x, y -/
inductive Pd where
  | val (t : T) | own (ts : List T)
def Pd.sl : Pd → Sl
  | .val t => .val t
  | .own ts => .own ts
/-- a value that is about to be stored -/
inductive PdOk (g : Cn) (σ : Sg) (ρ : Env') (F H : Hp) : V → Pd → Prop
  | val {v : V} {t : T} : Rep g.K F v t → PdOk g σ ρ F H v (.val t)
  | own {p : Addr} {vs : List V} {ts : List T} : H p = some (.lst vs) → F p = none → g.H0 p = none → ¬ g.inS p → ¬ OwnAt σ ρ p → Reps g.K F vs ts → PdOk g σ ρ F H (.ref p) (.own ts)
inductive Pds (g : Cn) (σ : Sg) (ρ : Env') (F H : Hp) : List V → List Pd → Prop
  | nil : Pds g σ ρ F H [] []
  | cons {v : V} {vs : List V} {d : Pd} {ds : List Pd} : PdOk g σ ρ F H v d → Pds g σ ρ F H vs ds → (∀ ts, d = .own ts → ∀ (j : Nat) ts', ds[j]? = some (.own ts') → vs[j]? ≠ some v) → Pds g σ ρ F H (v :: vs) (d :: ds)
theorem PdOk.step {g : Cn} {σ : Sg} {ρ : Env'} {F H F' H' : Hp} {b : Nat} {v : V} {d : Pd} (h : PdOk g σ ρ F H v d) (s : Step g σ ρ F H F' H' b) : PdOk g σ ρ F' H' v d := by
  cases h with
  | val r => exact .val (r.ext s.ext)
  | own h1 h2 h3 h4 h5 h6 => exact .own (s.kp _ _ h1 h4 h5) (s.new _ _ h1 h2) h3 h4 h5 (h6.ext s.ext)
def tDP (g : Cn) (W : WX) (f : Env' → M (List Pd)) : TA := fun σ H Q => ∃ ρ F b, SR g F H σ ρ b ∧ (f ρ).wp b (fun b' ds => ∀ vs H' F', Step g σ ρ F H F' H' b' → Pds g σ ρ F' H' vs ds → (∀ (j : Nat) (v : V) (ts : List T), vs[j]? = some v → ds[j]? = some (Pd.own ts) → ∀ p : Addr, v = V.ref p → H p = none) → Q vs H') (EX g W σ ρ F H)
def pNil : Env' → M (List Pd) := fun _ => .ret []
def pCons (f : Env' → M T) (h : Env' → M (List Pd)) : Env' → M (List Pd) := e2 (fun t ds => .ret (.val t :: ds)) f h
def pConsN (f : Env' → M (List T)) (h : Env' → M (List Pd)) : Env' → M (List Pd) := e2 (fun ts ds => .ret (.own ts :: ds)) f h
section
variable {X : Cx} {g : Cn} {W : WX} {k : Nat} {pos : Pos} {a c e : Expr} {es : List Expr} {f : Env' → M T} {fn : Env' → M (List T)} {fp : Env' → M (List Pd)}
theorem dp_nil : PA X [] (tDP g W pNil) := pa_imp pa_nil fun σ H Q ⟨ρ, F, b, s, q⟩ => q [] H F (Step.refl s) .nil fun _ _ _ h => by simp at h
theorem dp_cons (h : DE X g W e f) (hs : PA X es (tDP g W fp)) (hst : starEach (e :: es) X.env = (false, eval e X.env) :: starEach es X.env := by rfl) : PA X (e :: es) (tDP g W (pCons f fp)) :=
  pa_imp (pa_cons h hs hst) fun σ H Q ⟨ρ, F, b, s, q⟩ => ⟨ρ, F, b, s, M.wp_mono (wp2.mp q) (fun b1 t q1 x H1 F1 s1 r1 => ⟨ρ, F1, b1, s1.sr, M.wp_mono q1 (fun b2 ds q2 vs H2 F2 s2 r2 n2 =>
    q2 (x :: vs) H2 F2 (s1.trans s2) (.cons (.val (r1.ext s2.ext)) r2 fun _ e => nomatch e) fun j v ts h1 h2 p e => by
      cases j with
      | zero => cases h2
      | succ j =>
        have z := n2 j v ts (by simpa using h1) (by simpa using h2) p e
        cases hq : H p with
        | none => rfl
        | some o =>
          by_cases hs : g.inS p ∨ OwnAt σ ρ p
          · obtain ⟨u, y⟩ := s1.sr.live hs
            rw [z] at y
            cases y
          · have y := s1.kp p o hq (fun w => hs (.inl w)) fun w => hs (.inr w)
            rw [z] at y
            cases y) fun b' c' t' z => EX.step s1 b' c' t' z⟩) fun _ _ _ z => z⟩
theorem dp_consN (h : DN X g W e fn) (hs : PA X es (tDP g W fp)) (hst : starEach (e :: es) X.env = (false, eval e X.env) :: starEach es X.env := by rfl) : PA X (e :: es) (tDP g W (pConsN fn fp)) :=
  pa_imp (pa_cons h hs hst) fun σ H Q ⟨ρ, F, b, s, q⟩ => ⟨ρ, F, b, s, M.wp_mono (wp2.mp q) (fun b1 ts q1 p vs1 H0 H1 F1 s1 hp eH r1 => by
    subst eH
    obtain ⟨h0, nS, fD, nO⟩ := s1.sr.h0 hp
    have t1 := s1.trans (s1.sr.stepU (.lst vs1) hp)
    refine ⟨ρ, F1, b1, t1.sr, M.wp_mono q1 (fun b2 ds q2 vs H2 F2 s2 r2 n2 => ?_) fun b' c' t' z => EX.step t1 b' c' t' z⟩
    have back : ∀ c, upd H0 p (.lst vs1) c = none → H c = none := fun c z => by
      cases hq : H c with
      | none => rfl
      | some o =>
        by_cases hs : g.inS c ∨ OwnAt σ ρ c
        · obtain ⟨u, y⟩ := t1.sr.live hs
          rw [z] at y
          cases y
        · have y := t1.kp c o hq (fun w => hs (.inl w)) fun w => hs (.inr w)
          rw [z] at y
          cases y
    refine q2 (.ref p :: vs) H2 F2 (t1.trans s2) (.cons (PdOk.step (.own upd_same fD h0 nS nO r1) s2) r2 fun _ _ j ts' h1 h2 => ?_) fun j v ts h1 h2 c e => ?_
    · have z := n2 j (.ref p) ts' h2 h1 p rfl
      rw [upd_same] at z
      cases z
    · cases j with
      | zero =>
        simp at h1
        subst h1
        cases e
        cases hq : H p with
        | none => rfl
        | some o =>
          have y := s1.kp p o hq nS nO
          rw [hp] at y
          cases y
      | succ j => exact back c (n2 j v ts (by simpa using h1) (by simpa using h2) c e)) fun _ _ _ z => z⟩
theorem SR.setP {F H : Hp} {σ : Sg} {ρ : Env'} {b : Nat} {v : V} {d : Pd} (s : SR g F H σ ρ b) (i : Nat) (h : PdOk g σ ρ F H v d) : SR g F H (σ.set i (some v)) (ρ.set i d.sl) b := by
  cases h with
  | val r => exact s.set i (.val r) rfl
  | @own p vs ts h1 h2 h3 h4 h5 h6 =>
    refine ⟨s.sub, s.f0, s.keep, s.new, Paired.set2 (.own h1 h2 h3 h4 h6) i s.slots, fun j k c y z jk hy hz oy oz e q => ?_, s.strm, s.tabs⟩
    rcases get_set hy with ⟨rfl, rfl, _⟩ | ⟨nj, hy'⟩
    · rcases get_set hz with ⟨rfl, rfl, _⟩ | ⟨nk, hz'⟩
      · exact jk rfl
      · rcases get_set e with ⟨_, e1, _⟩ | ⟨nn, _⟩
        · cases e1
          rcases get_set q with ⟨e2, _⟩ | ⟨_, q'⟩
          · exact nk e2
          · exact h5 (ownAt_addr hz' oz q')
        · exact nn rfl
    · rcases get_set e with ⟨e1, _⟩ | ⟨_, e'⟩
      · exact nj e1
      · rcases get_set hz with ⟨rfl, rfl, _⟩ | ⟨nk, hz'⟩
        · rcases get_set q with ⟨_, e1, _⟩ | ⟨nn, _⟩
          · cases e1
            exact h5 (ownAt_addr hy' oy e')
          · exact nn rfl
        · rcases get_set q with ⟨e1, _⟩ | ⟨_, q'⟩
          · exact nk e1
          · exact s.dis j k c y z jk hy' hz' oy oz e' q'
/-- another value that is about to be stored, once the first one is -/
theorem PdOk.set {F H : Hp} {σ : Sg} {ρ : Env'} {v w : V} {d d2 : Pd} {i : Nat} (h : PdOk g σ ρ F H w d2) (n : ∀ ts, d = .own ts → ∀ ts', d2 = .own ts' → w ≠ v) : PdOk g (σ.set i (some v)) (ρ.set i d.sl) F H w d2 := by
  cases h with
  | val r => exact .val r
  | @own p vs ts h1 h2 h3 h4 h5 h6 =>
    refine .own h1 h2 h3 h4 (fun ⟨j, x, z1, z2, z3⟩ => ?_) h6
    rcases get_set z1 with ⟨rfl, rfl, _⟩ | ⟨nj, z1'⟩
    · rcases get_set z3 with ⟨_, e, _⟩ | ⟨nn, _⟩
      · cases d with
        | val t => cases z2
        | own us => exact n us rfl ts rfl (Option.some.inj e).symm
      · exact nn rfl
    · rcases get_set z3 with ⟨e, _⟩ | ⟨_, z3'⟩
      · exact nj e
      · exact h5 ⟨j, x, z1', z2, z3'⟩
def sPar (i j : Nat) (f : Env' → M (List Pd)) : Env' → M Fl := fun ρ => (f ρ).bind fun ds => match ds with
  | [d1, d2] => .ret (.next ((ρ.set i d1.sl).set j d2.sl))
  | _ => .stuck
def sPar3 (i j l : Nat) (f : Env' → M (List Pd)) : Env' → M Fl := fun ρ => (f ρ).bind fun ds => match ds with
  | [d1, d2, d3] => .ret (.next (((ρ.set i d1.sl).set j d2.sl).set l d3.sl))
  | _ => .stuck
theorem ds_par {i j : Nat} {x y : Str} {px py pt : Pos} {kt k2 pt2} (hc : X.calm = true) (hN : X.N.Nodup) (hi : X.N[i]? = some x) (hj : X.N[j]? = some y) (hij : i ≠ j)
    (hx : X.env.scope.names.lookup x = some .local) (hy : X.env.scope.names.lookup y = some .local) (ha : PA X [a, c] (tDP g W fp))
    (hw : swappedStores [.Tuple [.Name x px, .Name y py] kt pt] (.Tuple [a, c] k2 pt2) X.env = pure (some [x, y]) := by rfl)
    (hs : swapsWithSole [.Tuple [.Name x px, .Name y py] kt pt] (.Tuple [a, c] k2 pt2) pos.line X.env = pure false := by rfl) :
    DS X g W (.Assign [.Tuple [.Name x px, .Name y py] kt pt] (.Tuple [a, c] k2 pt2) pos) (sPar i j fp) :=
  ps_imp (ps_par hc hN hi hj hij hx hy ha hw hs) fun D σ H ⟨ρ, F, b, s, q⟩ => ⟨ρ, F, b, s, M.wp_mono (M.wp_bind.mp q) (fun b1 ds q1 vs H1 F1 s1 r _ => by
    cases r with
    | nil => exact q1.elim
    | cons r1 r r' =>
      cases r with
      | nil => exact q1.elim
      | cons r2 r3 r4 =>
        cases r3 with
        | nil =>
          refine ⟨_, _, rfl, q1 _ H1 F1 s1.ext ((s1.sr.setP i r1).setP j (r2.set fun ts e ts' e' z => ?_))⟩
          exact r' ts e 0 ts' (by rw [e']; rfl) (by rw [z]; rfl)
        | cons _ _ _ => exact q1.elim) fun _ _ _ z => z.ex⟩
theorem ds_par3 {i j l : Nat} {a' : Expr} {x y z : Str} {px py pz pt : Pos} {kt k2 pt2} (hc : X.calm = true) (hN : X.N.Nodup) (hi : X.N[i]? = some x) (hj : X.N[j]? = some y) (hl : X.N[l]? = some z) (hij : i ≠ j) (hil : i ≠ l) (hjl : j ≠ l)
    (h : PS X (.Assign [.Tuple [.Name x px, .Name y py, .Name z pz] kt pt] (.Tuple [a, c, a'] k2 pt2) pos) (tPar3 i j l (tDP g W fp))) :
    DS X g W (.Assign [.Tuple [.Name x px, .Name y py, .Name z pz] kt pt] (.Tuple [a, c, a'] k2 pt2) pos) (sPar3 i j l fp) :=
  ps_imp h fun D σ H ⟨ρ, F, b, s, q⟩ => ⟨ρ, F, b, s, M.wp_mono (M.wp_bind.mp q) (fun b1 ds q1 vs H1 F1 s1 r _ => by
    cases r with
    | nil => exact q1.elim
    | cons r1 r r' =>
      cases r with
      | nil => exact q1.elim
      | cons r2 r3 r4 =>
        cases r3 with
        | nil => exact q1.elim
        | cons r5 r6 r7 =>
          cases r6 with
          | nil =>
            refine ⟨_, _, _, rfl, q1 _ H1 F1 s1.ext (((s1.sr.setP i r1).setP j (r2.set fun ts e ts' e' z => ?_)).setP l ((r5.set fun ts e ts' e' z => ?_).set fun ts e ts' e' z => ?_))⟩
            · exact r' ts e 0 ts' (by rw [e']; rfl) (by rw [z]; rfl)
            · exact r' ts e 1 ts' (by rw [e']; rfl) (by rw [z]; rfl)
            · exact r4 ts e 0 ts' (by rw [e']; rfl) (by rw [z]; rfl)
          | cons _ _ _ => exact q1.elim) fun _ _ _ z => z.ex⟩
end
end DP
end
section
set_option Elab.async false
set_option linter.all false
set_option maxRecDepth 100000
namespace DP
open PySem PySem.Spec PyProof.Rows L2

/-! ### slices -/
def cutT (ts : List T) (lo hi : Option Int) : List T := (ts.drop (HT.sIx ts.length 0 lo)).take (HT.sIx ts.length ts.length hi - HT.sIx ts.length 0 lo)
theorem cut_rep {K : KF} {F : Hp} {vs : List V} {ts : List T} (r : Reps K F vs ts) (lo hi : Option Int) : Reps K F (cutV vs lo hi) (cutT ts lo hi) := by
  unfold cutV cutT
  rw [r.length]
  exact (r.drop _).take _
def tDO (g : Cn) (W : WX) (f : Env' → M (Option Int)) : TO := fun σ H Q => ∃ ρ F b, SR g F H σ ρ b ∧ (f ρ).wp b (fun b' o => ∀ H' F', Step g σ ρ F H F' H' b' → Q o H') (EX g W σ ρ F H)
abbrev DO (X : Cx) (g : Cn) (W : WX) (e : Option Expr) (f : Env' → M (Option Int)) : Prop := PO X e (tDO g W f)
def oNone : Env' → M (Option Int) := fun _ => .ret none
def oSome (f : Env' → M T) : Env' → M (Option Int) := fun ρ => (f ρ).bind fun t => match t with
  | .int i => .ret (some i)
  | _ => .stuck
theorem po_imp {X : Cx} {e : Option Expr} {t t' : TO} (h : PO X e t) (i : ∀ σ H Q, t' σ H Q → t σ H Q) : PO X e t' := ⟨fun pins s σ H Q I hw => h.run pins s σ H Q I (i σ H Q hw)⟩
section
variable {X : Cx} {g : Cn} {W : WX} {k i : Nat} {pos p2 : Pos} {a c e tg : Expr} {es : List Expr} {lo hi : Option Expr} {f fa fc fd : Env' → M T} {fs : Env' → M (List T)} {fl fl2 : Env' → M (Bool × List T)} {ol oh : Env' → M (Option Int)} {x : Str} {p : Pos}
theorem do_none : DO X g W none oNone := po_imp po_none fun σ H Q ⟨ρ, F, b, s, q⟩ => q H F (Step.refl s)
theorem do_some (h : DE X g W e f) : DO X g W (some e) (oSome f) := po_imp (po_some h) fun σ H Q ⟨ρ, F, b, s, q⟩ => ⟨ρ, F, b, s, M.wp_mono (M.wp_bind.mp q) (fun b1 t q1 v H1 F1 s1 r1 => by
  cases t with
  | int i => cases r1; exact ⟨i, rfl, q1 H1 F1 s1⟩
  | _ => exact q1.elim) fun _ _ _ z => z⟩
def nSl (fl : Env' → M (Bool × List T)) (ol oh : Env' → M (Option Int)) : Env' → M (List T) := fun ρ => (fl ρ).bind fun p => (ol ρ).bind fun lo => (oh ρ).bind fun hi => if p.1 = true then .ret (cutT p.2 lo hi) else .stuck
theorem dn_slice (ha : DL X g W a fl) (hl : DO X g W lo ol) (hh : DO X g W hi oh) (hK : X.K = g.K := by rfl) : DN X g W (.Subscript a (.Slice lo hi none p2) pos) (nSl fl ol oh) :=
  pe_imp (pe_slice sl_list ha hl hh) fun σ H Q ⟨ρ, F, b, s, q⟩ => ⟨ρ, F, b, s, M.wp_mono (M.wp_bind.mp q) (fun b1 pp q1 d H1 F1 s1 h1 => ⟨ρ, F1, b1, s1.sr, M.wp_mono (M.wp_bind.mp q1) (fun b2 o q2 H2 F2 s2 => ⟨ρ, F2, b2, s2.sr, M.wp_mono (M.wp_bind.mp q2) (fun b3 o2 q3 H3 F3 s3 => by
    obtain ⟨ok, q4⟩ := if_of q3
    obtain ⟨vs, z1, r⟩ := (h1.step (s2.trans s3)) F3 H3 b3 (Step.refl s3.sr)
    rw [if_pos ok] at z1
    exact ⟨d, vs, rfl, SqL.of z1, fun p hp => q4 p _ H3 _ F3 (s1.trans (s2.trans s3)) hp rfl (cut_rep r o o2)⟩) fun b' c' t' z => EX.step (s1.trans s2) b' c' t' z⟩) fun b' c' t' z => EX.step s1 b' c' t' z⟩) fun _ _ _ z => z⟩
def nRev (p : Bool × List T) : M (List T) := if p.1 = true then .ret p.2.reverse else .stuck
theorem Reps.rev {K : KF} {F : Hp} : ∀ {vs : List V} {ts : List T}, Reps K F vs ts → Reps K F vs.reverse ts.reverse
  | _, _, .nil => .nil
  | _, _, .cons h r => by
    rw [List.reverse_cons, List.reverse_cons]
    exact (Reps.rev r).append (.one h)
theorem dn_rev {kk : Nat} {q1 q2 q3 : Pos} (ha : DL X g W a fl) : DN X g W (.Subscript a (.Slice none none (some (.UnaryOp .USub (.Constant (.int 1) kk q1) q2)) q3) pos) (e1 nRev fl) :=
  pe_imp (pe_revL ha) fun σ H Q ⟨ρ, F, b, s, q⟩ => ⟨ρ, F, b, s, M.wp_mono (M.wp_bind.mp q) (fun b1 pp q1 d H1 F1 s1 h1 => by
    obtain ⟨ok, q4⟩ := if_of q1
    obtain ⟨vs, z1, r⟩ := h1 F1 H1 b1 (Step.refl s1.sr)
    rw [if_pos ok] at z1
    exact ⟨d, vs, rfl, SqL.of z1, fun p hp => q4 p _ H1 _ F1 s1 hp rfl r.rev⟩) fun _ _ _ z => z⟩
/-- xs * n -/
def nRep (p : Bool × List T) : T → M (List T)
  | .int j => if (p.1 && okR j && okLen (p.2.length * j.toNat)) = true then .ret (List.replicate j.toNat p.2).flatten else .stuck
  | _ => .stuck
theorem Reps.repl {K : KF} {F : Hp} {vs : List V} {ts : List T} (r : Reps K F vs ts) : ∀ n : Nat, Reps K F (List.replicate n vs).flatten (List.replicate n ts).flatten
  | 0 => .nil
  | n + 1 => by
    rw [List.replicate_succ, List.replicate_succ, List.flatten_cons, List.flatten_cons]
    exact r.append (Reps.repl r n)
theorem dn_rep (ha : DL X g W a fl) (hc : DE X g W c fc) : DN X g W (.BinOp a .Mult c pos) (e2 nRep fl fc) :=
  pe_imp (pe_op op_rep ha hc) fun σ H Q ⟨ρ, F, b, s, q⟩ => ⟨ρ, F, b, s, M.wp_mono (wp2.mp q) (fun b1 pp q1 d H1 F1 s1 h1 => ⟨ρ, F1, b1, s1.sr, M.wp_mono q1 (fun b2 t q2 v H2 F2 s2 r2 => by
    cases t with
    | int j =>
      cases r2
      obtain ⟨ok, q3⟩ := if_of q2
      rw [Bool.and_eq_true, Bool.and_eq_true] at ok
      obtain ⟨vs, z1, r⟩ := (h1.step s2) F2 H2 b2 (Step.refl s2.sr)
      rw [if_pos ok.1.1] at z1
      have hj := of_decide_eq_true ok.1.2
      exact ⟨d, j, vs, rfl, rfl, z1, by omega, by omega, by rw [r.length]; exact Nat.le_of_lt (okLen_line ok.2), fun p hp => q3 p _ H2 _ F2 (s1.trans s2) hp rfl (r.repl _)⟩
    | _ => exact q2.elim) fun b' c' t' z => EX.step s1 b' c' t' z⟩) fun _ _ _ z => z⟩
/-! ### -x; chains -/
def negT : T → M T
  | .int i => .ret (.int (-i))
  | _ => .stuck
theorem de_neg (ha : DE X g W a fa) : DE X g W (.UnaryOp .USub a pos) (e1 negT fa) :=
  pe_imp (pe_un un_neg ha) fun σ H Q ⟨ρ, F, b, s, q⟩ => ⟨ρ, F, b, s, M.wp_mono (M.wp_bind.mp q) (fun b1 t q1 v H1 F1 s1 r1 => by
    cases t with
    | int i => cases r1; exact ⟨i, rfl, q1 _ H1 F1 s1 (.int _)⟩
    | _ => exact q1.elim) fun _ _ _ z => z⟩
def eChain (k1 k2 : T → T → M T) (fa fc fd : Env' → M T) : Env' → M T := fun ρ => (fa ρ).bind fun t => (fc ρ).bind fun u => (k1 t u).bind fun z => (boolT z).bind fun b => if b = true then (fd ρ).bind fun w => k2 u w else .ret (.bl false)
theorem chain_read {r r' : R2} {k1 k2 : T → T → M T} (h1 : Bin g W r k1) (h2 : Bin g W r' k2) {σ : Sg} {H : Hp} {Q : VK} (h : tD g W (eChain k1 k2 fa fc fd) σ H Q) : tChain r r' (tD g W fa) (tD g W fc) (tD g W fd) σ H Q := by
  obtain ⟨ρ, F, b, s, q⟩ := h
  refine ⟨ρ, F, b, s, M.wp_mono (M.wp_bind.mp q) (fun b1 t q1 x H1 F1 s1 r1 => ⟨ρ, F1, b1, s1.sr, M.wp_mono (M.wp_bind.mp q1) (fun b2 u q2 y H2 F2 s2 r2 => ?_) fun b' c' t' z => EX.step s1 b' c' t' z⟩) fun _ _ _ z => z⟩
  have s12 := s1.trans s2
  refine h1 σ ρ F2 H2 b2 x y t u _ s2.sr (r1.ext s2.ext) r2 (M.wp_mono (M.wp_bind.mp q2) (fun b3 z q3 v H3 F3 s3 r3 => ?_) fun b' c' t' z => EX.step s12 b' c' t' z)
  obtain ⟨c', rfl, q4⟩ := boolT_of (M.wp_bind.mp q3)
  cases r3
  have s13 := s12.trans s3
  refine ⟨c', rfl, ?_⟩
  cases c' with
  | false =>
    rw [if_neg Bool.false_ne_true] at q4
    exact iteF (q4 _ H3 F3 s13 (.bl _))
  | true =>
    rw [if_pos rfl] at q4
    refine iteT ⟨ρ, F3, b3, s3.sr, M.wp_mono (M.wp_bind.mp q4) (fun b4 w q5 v4 H4 F4 s4 r4 => ?_) fun b' c' t' z => EX.step s13 b' c' t' z⟩
    exact h2 σ ρ F4 H4 b4 y v4 u w Q s4.sr ((r2.ext s3.ext).ext s4.ext) r4 (M.wp_mono q5 (fun b5 w q6 v5 H5 F5 s5 r5 => q6 v5 H5 F5 ((s13.trans s4).trans s5) r5) fun b' c' t' z => EX.step (s13.trans s4) b' c' t' z)
theorem de_chain {op op' : CmpOp} {r r' : R2} {k1 k2 : T → T → M T} {d : Expr} (ho : OpR X (compareOp op) r) (ho' : OpR X (compareOp op') r') (h1 : Bin g W r k1) (h2 : Bin g W r' k2) (ha : DE X g W a fa) (hc : DE X g W c fc) (hd : DE X g W d fd)
    (hm : lastMarks [op, op'] [c, d] = false := by with_unfolding_all rfl) : DE X g W (.Compare a [op, op'] [c, d] pos) (eChain k1 k2 fa fc fd) := pe_imp (pe_chain ho ho' ha hc hd hm) fun σ H Q h => chain_read h1 h2 h
/-! ### in, not in -/
def inT (neg : Bool) (t : T) (p : Bool × List T) : M T := match dataT t, dataTs p.2 with
  | some d, some ds => if (SeqAt.shaped d && SeqAt.shaped (.list ds)) = true then .ret (.bl (if neg = true then !ds.any (fun z => PyData.eqv z d) else ds.any fun z => PyData.eqv z d)) else .stuck
  | _, _ => .stuck
/-- what stands in a list (true) or in a tuple -/
def seqD (q : Bool) (ds : List PyData) : PyData := if q = true then .list ds else .tuple ds
def rInB (K : KF) (neg : Bool) : R2 := fun x y H Q => ∃ d ds q, Dp K H x d ∧ Dp K H y (seqD q ds) ∧ SeqAt.shaped d = true ∧ SeqAt.shaped (.list ds) = true ∧ Q (.bl (if neg = true then !ds.any (fun z => PyData.eqv z d) else ds.any fun z => PyData.eqv z d)) H
theorem in_read {σ : Sg} {H : Hp} {Q : VK} (neg : Bool) (h : tD g W (e2 (inT neg) fa fl) σ H Q) : tOp (rInB g.K neg) (tD g W fa) (tDL g W fl) σ H Q := by
  obtain ⟨ρ, F, b, s, q⟩ := h
  refine ⟨ρ, F, b, s, M.wp_mono (wp2.mp q) (fun b1 t q1 x H1 F1 s1 r1 => ⟨ρ, F1, b1, s1.sr, M.wp_mono q1 (fun b2 pp q2 d H2 F2 s2 h2 => ?_) fun b' c' t' z => EX.step s1 b' c' t' z⟩) fun _ _ _ z => z⟩
  unfold inT at q2
  cases e1 : dataT t with
  | none => rw [e1] at q2; exact q2.elim
  | some dt =>
    cases e2 : dataTs pp.2 with
    | none => rw [e1, e2] at q2; exact q2.elim
    | some ds =>
      rw [e1, e2] at q2
      obtain ⟨ok, q3⟩ := if_of q2
      rw [Bool.and_eq_true] at ok
      obtain ⟨vs, z1, r⟩ := h2 F2 H2 b2 (Step.refl s2.sr)
      refine ⟨dt, ds, pp.1, Rep.dp s2.sr.sub (r1.ext s2.ext) e1, ?_, ok.1, ok.2, q3 _ H2 F2 (s1.trans s2) (.bl _)⟩
      cases hp : pp.1 with
      | true => rw [if_pos hp] at z1; exact .lst (SqL.of z1) (Reps.dp s2.sr.sub r e2)
      | false => rw [hp, if_neg Bool.false_ne_true] at z1; exact .tup (sqT_ext s2.sr.sub z1) (Reps.dp s2.sr.sub r e2)
theorem room65 (hr : Room k X.A) : X.A.units + 65 < cLine := by have := hr.un; omega
theorem op_in' (hu : X.A.units + 65 < cLine) (hK : X.K = g.K) : OpR X (compareOp .In) (rInB g.K false) := by
  intro pins s σ H x y v u Q I rx ry h
  obtain ⟨d, ds, q, h1, h2, h3, h4, h5⟩ := h
  rw [← hK] at h1 h2
  obtain ⟨as, w1⟩ := Dp.reads I d x v h1 rx
  obtain ⟨bs, w2⟩ := Dp.reads I (seqD q ds) y u h2 ry
  cases q with
  | true => exact SeqAt.in_list_reads w2 w1 (SeqAt.canLay_of_shaped h4) (SeqAt.canLay_of_shaped h3) (room_in_shaped h3 hu) ⟨.bl _, H, I, rfl, h5⟩
  | false => exact SeqAt.in_tuple_reads w2 w1 (SeqAt.canLay_of_shaped h4) (SeqAt.canLay_of_shaped h3) (room_in_shaped h3 hu) ⟨.bl _, H, I, rfl, h5⟩
theorem op_nin' (hu : X.A.units + 65 < cLine) (hK : X.K = g.K) : OpR X (compareOp .NotIn) (rInB g.K true) := by
  intro pins s σ H x y v u Q I rx ry h
  obtain ⟨d, ds, q, h1, h2, h3, h4, h5⟩ := h
  rw [← hK] at h1 h2
  obtain ⟨as, w1⟩ := Dp.reads I d x v h1 rx
  obtain ⟨bs, w2⟩ := Dp.reads I (seqD q ds) y u h2 ry
  cases q with
  | true => exact SeqAt.notIn_list_reads w2 w1 (SeqAt.canLay_of_shaped h4) (SeqAt.canLay_of_shaped h3) (room_in_shaped h3 hu) ⟨.bl _, H, I, rfl, h5⟩
  | false => exact SeqAt.notIn_tuple_reads w2 w1 (SeqAt.canLay_of_shaped h4) (SeqAt.canLay_of_shaped h3) (room_in_shaped h3 hu) ⟨.bl _, H, I, rfl, h5⟩
theorem de_in (hr : Room k X.A) (ha : DE X g W a fa) (hc : DL X g W c fl) (hm : behindInMarks .In c = false := by rfl) (hK : X.K = g.K := by rfl) : DE X g W (.Compare a [.In] [c] pos) (e2 (inT false) fa fl) := pe_imp (pe_cmpR (op_in' (room65 hr) hK) ha hc hm) fun σ H Q h => in_read false h
theorem de_nin (hr : Room k X.A) (ha : DE X g W a fa) (hc : DL X g W c fl) (hm : behindInMarks .NotIn c = false := by rfl) (hK : X.K = g.K := by rfl) : DE X g W (.Compare a [.NotIn] [c] pos) (e2 (inT true) fa fl) := pe_imp (pe_cmpR (op_nin' (room65 hr) hK) ha hc hm) fun σ H Q h => in_read true h
/-- a bool's reading as a test's -/
theorem test_read {σ : Sg} {H : Hp} {Q : Bool → Hp → Prop} {f : Env' → M T} (h : tDT g W (e1 boolT f) σ H Q) : tD g W f σ H (fun x H' => ∃ k, x = .bl k ∧ Q k H') := by
  obtain ⟨ρ, F, b, s, q⟩ := h
  refine ⟨ρ, F, b, s, M.wp_mono (M.wp_bind.mp q) (fun b1 t q1 v H1 F1 s1 r1 => ?_) fun _ _ _ z => z⟩
  obtain ⟨c, rfl, q2⟩ := boolT_of q1
  cases r1
  exact ⟨c, rfl, q2 H1 F1 s1⟩
theorem dt_in (hr : Room k X.A) (ha : DE X g W a fa) (hc : DL X g W c fl) (hm : behindInMarks .In c = false := by rfl) (hK : X.K = g.K := by rfl) : DT X g W (.Compare a [.In] [c] pos) (e1 boolT (e2 (inT false) fa fl)) := pt_imp (pt_cmpR (op_in' (room65 hr) hK) ha hc hm) fun σ H Q h => in_read false (test_read h)
theorem dt_nin (hr : Room k X.A) (ha : DE X g W a fa) (hc : DL X g W c fl) (hm : behindInMarks .NotIn c = false := by rfl) (hK : X.K = g.K := by rfl) : DT X g W (.Compare a [.NotIn] [c] pos) (e1 boolT (e2 (inT true) fa fl)) := pt_imp (pt_cmpR (op_nin' (room65 hr) hK) ha hc hm) fun σ H Q h => in_read true (test_read h)
theorem dt_chain {op op' : CmpOp} {r r' : R2} {k1 k2 : T → T → M T} {d : Expr} (ho : OpR X (compareOp op) r) (ho' : OpR X (compareOp op') r') (h1 : Bin g W r k1) (h2 : Bin g W r' k2) (ha : DE X g W a fa) (hc : DE X g W c fc) (hd : DE X g W d fd)
    (hm : lastMarks [op, op'] [c, d] = false := by with_unfolding_all rfl) : DT X g W (.Compare a [op, op'] [c, d] pos) (e1 boolT (eChain k1 k2 fa fc fd)) := pt_imp (pt_chain ho ho' ha hc hd hm) fun σ H Q h => chain_read h1 h2 (test_read h)
/-! ### x == [], x != [] -/
def eqNilT (neg : Bool) (p : Bool × List T) : M T := match dataTs p.2 with
  | some ds => if (p.1 && SeqAt.shaped (.list ds)) = true then .ret (.bl (if neg = true then !p.2.isEmpty else p.2.isEmpty)) else .stuck
  | none => .stuck
theorem eqv_nil : ∀ ds : List PyData, PyData.eqv (.list ds) (.list []) = ds.isEmpty
  | [] => by simp [PyData.eqv, PyData.eqvAll]
  | _ :: _ => by simp [PyData.eqv, PyData.eqvAll]
theorem dataTs_empty {ts : List T} {ds : List PyData} (h : dataTs ts = some ds) : ds.isEmpty = ts.isEmpty := by
  cases ts with
  | nil => simp [dataTs] at h; subst h; rfl
  | cons t ts =>
    unfold dataTs at h
    cases e : dataT t with
    | none => rw [e] at h; cases h
    | some d =>
      rw [e] at h
      cases e2 : dataTs ts with
      | none => rw [e2] at h; cases h
      | some ds' => rw [e2] at h; cases h; rfl
theorem eqnil_read {σ : Sg} {H : Hp} {Q : VK} (neg : Bool) (h : tD g W (e1 (eqNilT neg) fl) σ H Q) : tOp (fun x y H Q => ∃ d e, Dp g.K H x d ∧ Dp g.K H y e ∧ SeqAt.shaped d = true ∧ SeqAt.shaped e = true ∧ Q (.bl (if neg = true then !PyData.eqv d e else PyData.eqv d e)) H) (tDL g W fl) (tLst tNil) σ H Q := by
  obtain ⟨ρ, F, b, s, q⟩ := h
  refine ⟨ρ, F, b, s, M.wp_mono (M.wp_bind.mp q) (fun b1 pp q1 d H1 F1 s1 h1 => ⟨Nat.zero_le _, fun l hl => ?_⟩) fun _ _ _ z => z⟩
  unfold eqNilT at q1
  cases e2 : dataTs pp.2 with
  | none => rw [e2] at q1; exact q1.elim
  | some ds =>
    rw [e2] at q1
    obtain ⟨ok, q3⟩ := if_of q1
    rw [Bool.and_eq_true] at ok
    have s2 := s1.sr.stepU (.lst []) hl
    obtain ⟨vs, z1, r⟩ := h1 _ _ _ s2
    rw [if_pos ok.1] at z1
    refine ⟨.list ds, .list [], .lst (SqL.of z1) (Reps.dp s2.sr.sub r e2), .lst (SqL.of upd_same) .nil, ok.2, shapedNil, ?_⟩
    rw [eqv_nil, dataTs_empty e2]
    exact q3 _ _ _ (s1.trans s2) (.bl _)
theorem op_eqD' (hu : X.A.units + 64 < cLine) (hK : X.K = g.K) : OpR X (compareOp .Eq) (fun x y H Q => ∃ d e, Dp g.K H x d ∧ Dp g.K H y e ∧ SeqAt.shaped d = true ∧ SeqAt.shaped e = true ∧ Q (.bl (if false = true then !PyData.eqv d e else PyData.eqv d e)) H) := by
  intro pins s σ H x y v u Q I rx ry h
  obtain ⟨d, e, h1, h2, h3, h4, h5⟩ := h
  exact op_eqD hu pins s σ H x y v u Q I rx ry ⟨d, e, by rw [hK]; exact h1, by rw [hK]; exact h2, h3, h4, h5⟩
theorem op_neD' (hu : X.A.units + 64 < cLine) (hK : X.K = g.K) : OpR X (compareOp .NotEq) (fun x y H Q => ∃ d e, Dp g.K H x d ∧ Dp g.K H y e ∧ SeqAt.shaped d = true ∧ SeqAt.shaped e = true ∧ Q (.bl (if true = true then !PyData.eqv d e else PyData.eqv d e)) H) := by
  intro pins s σ H x y v u Q I rx ry h
  obtain ⟨d, e, h1, h2, h3, h4, h5⟩ := h
  exact op_neD hu pins s σ H x y v u Q I rx ry ⟨d, e, by rw [hK]; exact h1, by rw [hK]; exact h2, h3, h4, h5⟩
theorem de_eqnil (hr : Room k X.A) (ha : DL X g W a fl) (hK : X.K = g.K := by rfl) : DE X g W (.Compare a [.Eq] [.List [] p] pos) (e1 (eqNilT false) fl) := pe_imp (pe_cmpR (op_eqD' hr.units hK) ha (pe_lst pa_nil) (nomark _)) fun σ H Q h => eqnil_read false h
theorem de_nenil (hr : Room k X.A) (ha : DL X g W a fl) (hK : X.K = g.K := by rfl) : DE X g W (.Compare a [.NotEq] [.List [] p] pos) (e1 (eqNilT true) fl) := pe_imp (pe_cmpR (op_neD' hr.units hK) ha (pe_lst pa_nil) (nomark _)) fun σ H Q h => eqnil_read true h
theorem dt_eqnil (hr : Room k X.A) (ha : DL X g W a fl) (hK : X.K = g.K := by rfl) : DT X g W (.Compare a [.Eq] [.List [] p] pos) (e1 boolT (e1 (eqNilT false) fl)) := pt_imp (pt_cmpR (op_eqD' hr.units hK) ha (pe_lst pa_nil) (nomark _)) fun σ H Q h => eqnil_read false (test_read h)
theorem dt_nenil (hr : Room k X.A) (ha : DL X g W a fl) (hK : X.K = g.K := by rfl) : DT X g W (.Compare a [.NotEq] [.List [] p] pos) (e1 boolT (e1 (eqNilT true) fl)) := pt_imp (pt_cmpR (op_neD' hr.units hK) ha (pe_lst pa_nil) (nomark _)) fun σ H Q h => eqnil_read true (test_read h)
/-! ### all, any of a list of bools -/
def blsT : List T → Option (List Bool)
  | [] => some []
  | .bl c :: ts => (blsT ts).map (c :: ·)
  | _ => none
theorem bls_rep {K : KF} {F : Hp} : ∀ {ts : List T} {vs : List V} {bs : List Bool}, Reps K F vs ts → blsT ts = some bs → vs = bs.map V.bl
  | [], _, _, .nil, h => by cases h; rfl
  | t :: ts, _, _, .cons r1 r2, h => by
    cases t with
    | bl c =>
      cases r1
      have h : (blsT ts).map (c :: ·) = some _ := h
      cases e : blsT ts with
      | none => rw [e] at h; cases h
      | some cs => rw [e] at h; cases h; rw [bls_rep r2 e]; rfl
    | _ => cases h
def allT (p : Bool × List T) : M T := match blsT p.2 with
  | some bs => if p.1 = true then .ret (.bl (bs.all id)) else .stuck
  | none => .stuck
def anyT (p : Bool × List T) : M T := match blsT p.2 with
  | some bs => if p.1 = true then .ret (.bl (bs.any id)) else .stuck
  | none => .stuck
theorem de_all (hc : X.calm = true) (hm : X.mg "all" = none) (ha : DL X g W e fl) (hg : Gl X "all" := by rfl) (he : starEach (e :: []) X.env = (false, eval e X.env) :: starEach [] X.env := by rfl) (hpl : (backTo pos (starEach [] X.env)).any (·.1) = false := by rfl) : DE X g W (.Call (.Name "all" p) [e] [] pos) (e1 allT fl) :=
  pe_imp (pe_callB (cr_all hc) hg hm (by decide +kernel) (pa_cons ha pa_nil he) (by decide) (by decide) he hpl) fun σ H Q ⟨ρ, F, b, s, q⟩ => ⟨ρ, F, b, s, M.wp_mono (M.wp_bind.mp q) (fun b1 pp q1 d H1 F1 s1 h1 => by
    unfold allT at q1
    cases e2 : blsT pp.2 with
    | none => rw [e2] at q1; exact q1.elim
    | some bs =>
      rw [e2] at q1
      obtain ⟨ok, q3⟩ := if_of q1
      obtain ⟨vs, z1, r⟩ := h1 F1 H1 b1 (Step.refl s1.sr)
      rw [if_pos ok, bls_rep r e2] at z1
      exact ⟨d, bs, rfl, SqL.of z1, q3 _ H1 F1 s1 (.bl _)⟩) fun _ _ _ z => z⟩
theorem de_any (hc : X.calm = true) (hm : X.mg "any" = none) (ha : DL X g W e fl) (hg : Gl X "any" := by rfl) (he : starEach (e :: []) X.env = (false, eval e X.env) :: starEach [] X.env := by rfl) (hpl : (backTo pos (starEach [] X.env)).any (·.1) = false := by rfl) : DE X g W (.Call (.Name "any" p) [e] [] pos) (e1 anyT fl) :=
  pe_imp (pe_callB (cr_any hc) hg hm (by decide +kernel) (pa_cons ha pa_nil he) (by decide) (by decide) he hpl) fun σ H Q ⟨ρ, F, b, s, q⟩ => ⟨ρ, F, b, s, M.wp_mono (M.wp_bind.mp q) (fun b1 pp q1 d H1 F1 s1 h1 => by
    unfold anyT at q1
    cases e2 : blsT pp.2 with
    | none => rw [e2] at q1; exact q1.elim
    | some bs =>
      rw [e2] at q1
      obtain ⟨ok, q3⟩ := if_of q1
      obtain ⟨vs, z1, r⟩ := h1 F1 H1 b1 (Step.refl s1.sr)
      rw [if_pos ok, bls_rep r e2] at z1
      exact ⟨d, bs, rfl, SqL.of z1, q3 _ H1 F1 s1 (.bl _)⟩) fun _ _ _ z => z⟩
/-! ### never reached -/
def seqN (ts : List T) : M (Bool × List T) := .ret (true, ts)
theorem de_never : DE X g W e (fun _ => .stuck) := ⟨fun pins s σ H Q I ⟨ρ, F, b, s', q⟩ => q.elim⟩
end
end DP
end
section
set_option Elab.async false
set_option linter.all false
set_option maxRecDepth 100000
namespace DP
open PySem PySem.Spec PyProof.Rows L2

/-! ### a def that is never called so -/
theorem fn_never {P : Program} {w : World} {K : KF} {mg : Str → Option Value} {base : Heap} {CX : CXT} {k np : Nat} {f : Addr} {fd : FuncData} {ps : List Str} {Xc : Str → Addr × Str} {st : Bool} {m : List T → M T} (h : ∀ ts, m ts = .stuck) : FnOk P w K mg base CX k f fd ps (spD K Xc st np m) := by
  have no : ∀ vs H Q E, ¬ spD K Xc st np m vs H Q E := by
    rintro vs H Q E ⟨S, F, b, vs', ts, _, _, _, _, z⟩
    rw [h] at z
    exact z
  exact ⟨fun vs H Q E z => (no _ _ _ _ z).elim, fun A outer s H args us vs Q E _ _ _ _ z => (no _ _ _ _ z).elim⟩
/-- a def that calls itself, by the depth -/
def recM (st : Bool) (np : Nat) (G : (List T → M T) → Env' → M Fl) : Nat → List T → M T
  | 0 => fun _ => .stuck
  | n + 1 => fnM st np (G (recM st np G n))

/-! ### enumerate, zip -/
def enumL (ts : List T) : List T := ts.mapIdx fun i t => .tup [.int (i : Nat), t]
def enumA : List T → M (List T)
  | [.lst ts] => .ret (enumL ts)
  | _ => .stuck
def zipL (xs ys : List T) : List T := List.zipWith (fun x y => .tup [x, y]) xs ys
def zipA : List T → M (List T)
  | [.lst xs, .lst ys] => .ret (zipL xs ys)
  | [.tup xs, .tup ys] => .ret (zipL xs ys)
  | _ => .stuck
section
variable {X : Cx} {g : Cn} {W : WX} {k : Nat} {pos p tpos : Pos} {a c tg : Expr} {elts : List Expr} {kk : Nat} {fs : Env' → M (List T)}
theorem wk_enum {b : Addr} {F : Hp} {vs : List V} {ts : List T} (hK : X.K = g.K) (h : F b = some (.lst vs)) (r : Reps g.K F vs ts) : Wk g (Ite X.K b) F (enumL ts) where
  go := fun i F2 H e1 e2 hi => by
    have hi : i < ts.length := by simpa [enumL] using hi
    exact ⟨vs, vs[i]'(by rw [r.length]; exact hi), SqL.of (e2 _ _ (e1 _ _ h)), by simp [r.length, hi]⟩
  stop := fun F2 H e1 e2 => ⟨vs, SqL.of (e2 _ _ (e1 _ _ h)), by rw [r.length]; simp [enumL]⟩
  yld := fun i F2 H x H' t e1 e2 ht y => .inr (by
    obtain ⟨q, z, rfl, hq, rfl, hz⟩ := y
    have hv := hz vs (SqL.of (e2 _ _ (e1 _ _ h)))
    obtain ⟨u, hu, ru⟩ := r.get hv
    have et : (enumL ts)[i]? = some (.tup [.int (i : Nat), u]) := by unfold enumL; rw [List.getElem?_mapIdx, hu]; rfl
    rw [et] at ht
    cases ht
    exact ⟨q, _, _, hq, rfl, rfl, rfl, .cons (.int _) (.one (ru.ext e1))⟩)
theorem di_enum (hm : X.mg "enumerate" = none) (ha : DA X g W [a] fs) (hg : Gl X "enumerate" := by rfl) (hs : starEach [a] X.env = [(false, eval a X.env)] := by rfl) (hK : X.K = g.K := by rfl) : DI X g W (.Tuple elts kk tpos) (.Call (.Name "enumerate" p) [a] [] pos) (e1 enumA fs) :=
  pi_imp (pi_enum hg hm ha hs) fun σ H R ⟨ρ, F, b, s, q⟩ => ⟨ρ, F, b, s, M.wp_mono (M.wp_bind.mp q) (fun b1 ts q1 vs H1 F1 s1 r => by
    rcases r with _ | ⟨r1, _ | ⟨r2, r3⟩⟩
    · exact q1.elim
    · cases r1 with
      | lst h1 h2 => exact ⟨_, _, rfl, SqL.of (s1.sr.sub _ _ h1), q1 _ F1 H1 s1 (wk_enum hK h1 h2)⟩
      | _ => exact q1.elim
    · cases r1 <;> exact q1.elim) fun _ _ _ z => z⟩
theorem zip_get : ∀ {xs ys : List T} {i : Nat} {t : T}, (zipL xs ys)[i]? = some t → ∃ x y, xs[i]? = some x ∧ ys[i]? = some y ∧ t = .tup [x, y] := fun {xs ys i t} h => by
  unfold zipL at h
  rw [List.getElem?_zipWith] at h
  cases e1 : xs[i]? with
  | none => rw [e1] at h; cases h
  | some x =>
    cases e2 : ys[i]? with
    | none => rw [e1, e2] at h; cases h
    | some y => rw [e1, e2] at h; cases h; exact ⟨x, y, rfl, rfl, rfl⟩
theorem zip_len {xs ys : List T} : (zipL xs ys).length = min xs.length ys.length := by simp [zipL]
theorem wk_zip {b d : Addr} {F : Hp} {vs us : List V} {xs ys : List T} (hK : X.K = g.K) (h : F b = some (.lst vs)) (h' : F d = some (.lst us)) (r : Reps g.K F vs xs) (r' : Reps g.K F us ys) : Wk g (Itz X.K b d) F (zipL xs ys) where
  go := fun i F2 H e1 e2 hi => by
    rw [zip_len] at hi
    exact ⟨vs, us, vs[i]'(by rw [r.length]; omega), us[i]'(by rw [r'.length]; omega), SqL.of (e2 _ _ (e1 _ _ h)), SqL.of (e2 _ _ (e1 _ _ h')), by rw [List.getElem?_eq_getElem], by rw [List.getElem?_eq_getElem]⟩
  stop := fun F2 H e1 e2 => ⟨vs, us, SqL.of (e2 _ _ (e1 _ _ h)), SqL.of (e2 _ _ (e1 _ _ h')), by rw [zip_len, r.length, r'.length]; omega⟩
  yld := fun i F2 H x H' t e1 e2 ht y => .inr (by
    obtain ⟨q, z, z', rfl, hq, rfl, hz, hz'⟩ := y
    have hv := hz vs (SqL.of (e2 _ _ (e1 _ _ h)))
    have hv' := hz' us (SqL.of (e2 _ _ (e1 _ _ h')))
    obtain ⟨u, hu, ru⟩ := r.get hv
    obtain ⟨u', hu', ru'⟩ := r'.get hv'
    obtain ⟨x, y, e3, e4, rfl⟩ := zip_get ht
    rw [hu] at e3
    rw [hu'] at e4
    cases e3
    cases e4
    exact ⟨q, _, _, hq, rfl, rfl, rfl, .cons (ru.ext e1) (.one (ru'.ext e1))⟩)
theorem wk_zipT {b d : Addr} {F : Hp} {vs us : List V} {xs ys : List T} (hK : X.K = g.K) (h : SqT g.K F b vs) (h' : SqT g.K F d us) (r : Reps g.K F vs xs) (r' : Reps g.K F us ys) : Wk g (RZ.ItzT X.K b d) F (zipL xs ys) where
  go := fun i F2 H e1 e2 hi => by
    rw [zip_len] at hi
    exact ⟨vs, us, vs[i]'(by rw [r.length]; omega), us[i]'(by rw [r'.length]; omega), by rw [hK]; exact sqT_ext (e1.trans e2) h, by rw [hK]; exact sqT_ext (e1.trans e2) h', by rw [List.getElem?_eq_getElem], by rw [List.getElem?_eq_getElem]⟩
  stop := fun F2 H e1 e2 => ⟨vs, us, by rw [hK]; exact sqT_ext (e1.trans e2) h, by rw [hK]; exact sqT_ext (e1.trans e2) h', by rw [zip_len, r.length, r'.length]; omega⟩
  yld := fun i F2 H x H' t e1 e2 ht y => .inr (by
    obtain ⟨q, z, z', rfl, hq, rfl, hz, hz'⟩ := y
    have hv := hz vs (by rw [hK]; exact sqT_ext (e1.trans e2) h)
    have hv' := hz' us (by rw [hK]; exact sqT_ext (e1.trans e2) h')
    obtain ⟨u, hu, ru⟩ := r.get hv
    obtain ⟨u', hu', ru'⟩ := r'.get hv'
    obtain ⟨x, y, e3, e4, rfl⟩ := zip_get ht
    rw [hu] at e3
    rw [hu'] at e4
    cases e3
    cases e4
    exact ⟨q, _, _, hq, rfl, rfl, rfl, .cons (ru.ext e1) (.one (ru'.ext e1))⟩)
theorem di_zip (hm : X.mg "zip" = none) (ha : DA X g W [a, c] fs) (hg : Gl X "zip" := by rfl) (hs : starEach [a, c] X.env = (false, eval a X.env) :: starEach [c] X.env := by rfl) (hpl : (backTo pos (starEach [c] X.env)).any (·.1) = false := by rfl) (hK : X.K = g.K := by rfl) : DI X g W (.Tuple elts kk tpos) (.Call (.Name "zip" p) [a, c] [] pos) (e1 zipA fs) :=
  pi_imp (RZ.pi_zipA hg hm ha hs hpl) fun σ H R ⟨ρ, F, b, s, q⟩ => ⟨ρ, F, b, s, M.wp_mono (M.wp_bind.mp q) (fun b1 ts q1 vs H1 F1 s1 r => by
    rcases r with _ | ⟨r1, _ | ⟨r2, _ | ⟨r3, r4⟩⟩⟩
    · exact q1.elim
    · cases r1 <;> exact q1.elim
    · cases r1 with
      | lst h1 h2 =>
        cases r2 with
        | lst h3 h4 => exact ⟨_, _, _, _, rfl, .inl ⟨SqL.of (s1.sr.sub _ _ h1), SqL.of (s1.sr.sub _ _ h3), q1 _ F1 H1 s1 (wk_zip hK h1 h3 h2 h4)⟩⟩
        | _ => exact q1.elim
      | tup h1 h2 =>
        cases r2 with
        | tup h3 h4 => exact ⟨_, _, _, _, rfl, .inr ⟨by rw [hK]; exact sqT_ext s1.sr.sub h1, by rw [hK]; exact sqT_ext s1.sr.sub h3, q1 _ F1 H1 s1 (wk_zipT hK h1 h3 h2 h4)⟩⟩
        | _ => exact q1.elim
      | _ => exact q1.elim
    · cases r1 with
      | lst _ _ => cases r2 <;> exact q1.elim
      | tup _ _ => cases r2 <;> exact q1.elim
      | _ => exact q1.elim) fun _ _ _ z => z⟩
end
end DP
end
section
set_option Elab.async false
set_option linter.all false
set_option maxRecDepth 100000
namespace DP
open PySem PySem.Spec PyProof.Rows L2

/-! ### raise X(e), X an error that keeps its one thing -/
/-- __init__ of such an error -/
def spExc (C : Addr) (f : Str) : Sp := fun vs H Q _ => ∃ a v, vs = [.ref a, v] ∧ H a = some (exo a C none) ∧ ∀ dx, H dx = none → dx ≠ a → Q .non (upd (upd H dx (exd dx [(f, v)])) a (exo a C (some dx)))
theorem exc_len {C : Addr} {f : Str} {vs : List V} {H : Hp} {Q : VK} {E : XK} {ps : List Str} (hp : ps.length = 2) (h : spExc C f vs H Q E) : vs.length = ps.length := by
  obtain ⟨a, v, rfl, _⟩ := h
  rw [hp]
  rfl
theorem exc_read {K : KF} {C : Addr} {f x : Str} {vs : List V} {H : Hp} {Q : VK} {E : XK} (T : OexC K C) (hno : PySem.W.findIn K (.ref C) f = some none) (h : spExc C f vs H Q E) : tOst K f (tVar 0) (tVar 1) { nx := fun _ H' => Q .non H', rt := Q } (start ["self", x] vs) H := by
  obtain ⟨a, v, rfl, h1, h2⟩ := h
  exact ⟨_, rfl, _, rfl, a, C, rfl, T, hno, .inl ⟨h1, h2⟩⟩
/-- what the written part says of such an error's class -/
structure ExcD (K : KF) (mg : Str → Option Value) (x f : Str) (C fI : Addr) : Prop where
  cls : OexC K C
  ini : PySem.W.findIn K (.ref C) "__init__" = some (some (.ref fI))
  ty : PySem.W.typeIn K (.ref fI) = some (.type "function")
  no : PySem.W.findIn K (.ref C) f = some none
  at_ : mg x = some (.ref C)
def sRaise (x : Str) (f : Env' → M T) : Env' → M Fl := fun ρ => (f ρ).bind fun t => .exc x t
theorem del_upds {H : Hp} {a dx : Addr} {o1 o2 o3 u : HO} (ha : H a = none) : upd (del (upd (upd (upd H a o1) dx o2) a o3) a) dx u = upd H dx u := by
  funext c
  by_cases h1 : c = dx
  · subst h1; rw [upd_same, upd_same]
  · rw [upd_ne h1, upd_ne h1]
    by_cases h2 : c = a
    · subst h2; rw [del_same, ha]
    · rw [del_ne h2, upd_ne h2, upd_ne h1, upd_ne h2]
section
variable {X : Cx} {g : Cn} {W : WX} {k : Nat} {pos pos2 p : Pos} {e : Expr} {f : Env' → M T} {x fl : Str} {C fI : Addr} {fd : FuncData} {ps : List Str}
theorem ds_raise (hc : X.calm = true) (tk : Takes X W) (D : ExcD X.K X.mg x fl C fI) (F : FnOk X.prog X.w X.K X.mg X.base (L2.CX X.prog X.w) k fI fd ps (spExc C fl)) (hr : Room (k + 1) X.A) (hb : Binds X.K fd ps []) (hX : g.X x = (C, fl)) (ha : DE X g W e f)
    (hg : Gl X x := by rfl) (hdb : (x == ("__debug__" : Str)) = false := by decide) (he : starEach (e :: []) X.env = (false, eval e X.env) :: starEach [] X.env := by rfl) (hpl : (backTo pos (starEach [] X.env)).any (·.1) = false := by rfl) :
    DS X g W (.Raise (some (.Call (.Name x p) [e] [] pos)) none pos2) (sRaise x f) :=
  ps_imp (ps_raise hc tk (pmk_oex D.cls D.ini D.ty F hr hb .nil passL hg D.at_ (pa_cons ha pa_nil he) hdb he hpl)) fun Ds σ H ⟨ρ, F0, b, s, q⟩ => ⟨ρ, F0, b, s, M.wp_mono (M.wp_bind.mp q) (fun b1 t q1 v H1 F1 s1 r => ⟨(by decide : 1 ≤ 1000), fun a hn => ⟨a, v, rfl, upd_same, fun dx hdx hne => ⟨rfl, dx, _, upd_same, by rw [upd_ne hne]; exact upd_same, by rw [upd_ne hne] at hdx; exact hdx, by
    rw [upd_ne hne] at hdx
    rw [del_upds hn]
    have q1 : EXs g W F0 b1 x t := q1
    have z := q1 dx v σ ρ (upd H1 dx (.xd [(fl, v)])) F1 s1.ext (s1.sr.growU _ hdx)
    rw [hX] at z
    exact z upd_same r⟩⟩⟩) fun _ _ _ z => z.ex⟩
end
end DP
end
section
set_option Elab.async false
set_option linter.all false
set_option maxRecDepth 100000
namespace DP
open PySem PySem.Spec PyProof.Rows L2

/-! ### an instance's fields -/
def putT (f : Str) (t : T) : List (Str × T) → List (Str × T)
  | [] => [(f, t)]
  | (g, x) :: r => if g = f then (g, t) :: r else (g, x) :: putT f t r
theorem RepF.put {K : KF} {F : Hp} {f : Str} {v : V} {t : T} (rv : Rep K F v t) : ∀ {vs : List (Str × V)} {ts : List (Str × T)}, RepF K F vs ts → RepF K F (putF f v vs) (putT f t ts)
  | _, _, .nil => .cons rv .nil
  | _, _, .cons (k := k) h r => by
    unfold putF putT
    by_cases e : k = f
    · rw [if_pos e, if_pos e]; exact .cons rv r
    · rw [if_neg e, if_neg e]; exact .cons h (RepF.put rv r)
theorem RepF.length {K : KF} {F : Hp} : ∀ {vs : List (Str × V)} {ts : List (Str × T)}, RepF K F vs ts → vs.length = ts.length
  | _, _, .nil => rfl
  | _, _, .cons _ r => by simp [RepF.length r]
theorem RepF.look {K : KF} {F : Hp} {f : Str} : ∀ {vs : List (Str × V)} {ts : List (Str × T)}, RepF K F vs ts → match ts.lookup f with | some t => ∃ v, vs.lookup f = some v ∧ Rep K F v t | none => vs.lookup f = none
  | _, _, .nil => rfl
  | _, _, .cons (k := k) (v := v) (t := t) h r => by
    by_cases e : f = k
    · subst e
      simp only [List.lookup, beq_self_eq_true]
      exact ⟨v, rfl, h⟩
    · have e' : (f == k) = false := beq_eq_false_iff_ne.mpr e
      simp only [List.lookup, e']
      exact RepF.look r
def attrT (C : Addr) (f : Str) : T → M T
  | .obj D fs => if D = C then (match fs.lookup f with
    | some t => .ret t
    | none => .stuck) else .stuck
  | _ => .stuck
/-- programs that raise nothing -/
def M.calm {α : Type} : M α → M α
  | .ret a => .ret a
  | .draw n k => .draw n fun d => (k d).calm
  | .exc _ _ => .stuck
  | .stuck => .stuck
theorem M.wp_calm {α : Type} : ∀ {m : M α} {b : Nat} {Q : Nat → α → Prop} {E : Nat → Str → T → Prop}, m.calm.wp b Q E → m.wp b Q fun _ _ _ => False
  | .ret _, _, _, _, h => h
  | .draw _ k, _, _, _, h => ⟨h.1, h.2.1, fun d h1 h2 => M.wp_calm (m := k d) (h.2.2 d h1 h2)⟩
  | .exc _ _, _, _, _, h => h.elim
  | .stuck, _, _, _, h => h.elim

section
variable {X : Cx} {g : Cn} {W : WX} {k np : Nat} {pos p p' : Pos} {e o : Expr} {es : List Expr} {fe : Env' → M T} {fs : Env' → M (List T)} {f x : Str} {C fa : Addr} {fd : FuncData} {ps : List Str} {m : List T → M T}
theorem de_attr (c : Cls X.K C) (n : NoAttr X.K C f) (he : DE X g W e fe) (hb : attributeBase e f X.env (eval e X.env) = eval e X.env := by rfl) : DE X g W (.Attribute e f pos) (e1 (attrT C f) fe) :=
  pe_imp (pe_fld he hb) fun σ H Q ⟨ρ, F, b, s, q⟩ => ⟨ρ, F, b, s, M.wp_mono (M.wp_bind.mp q) (fun b1 t q1 v H1 F1 s1 r1 => by
    cases t with
    | obj D us =>
      cases r1 with
      | @obj a dx _ vs _ h1 h2 =>
        have q1 : (if D = C then (match us.lookup f with | some t => M.ret t | none => .stuck) else .stuck).wp b1 _ _ := q1
        by_cases z : D = C
        · subst z
          rw [if_pos rfl] at q1
          have y := RepF.look (f := f) h2
          cases e1 : us.lookup f with
          | none => rw [e1] at q1; exact q1.elim
          | some t =>
            rw [e1] at q1 y
            obtain ⟨v, hv, rv⟩ := y
            exact ⟨a, D, dx, vs, v, rfl, s1.sr.sub _ _ h1, c, n, hv, q1 v H1 F1 s1 rv⟩
        · rw [if_neg z] at q1
          exact q1.elim
    | _ => exact q1.elim) fun _ _ _ z => z⟩
/-- obj.m() -/
def methT (C : Addr) (mn : Str) (m : List T → M T) (ts : List T) : T → M T
  | .obj D fs => if D = C then (if (fs.lookup mn).isNone = true then (m (.obj D fs :: ts)).calm else .stuck) else .stuck
  | _ => .stuck
theorem de_meth0 {mn : Str} (c : Cls X.K C) (hm : Meth X.K C mn fa) (F : FnOk X.prog X.w X.K X.mg X.base (L2.CX X.prog X.w) k fa fd ps (spD g.K g.X false 1 m)) (hr : Room k X.A) (hb : Binds X.K fd ps []) (he : DE X g W o fe) {pl : Sem Bool} {apos : Pos}
    (ht : eval (.Call (.Attribute o mn apos) [] [] pos) X.env = (do
      let ov ← eval o X.env
      standAt apos.atName
      let (f, first) ← holding [ov] (getMethod ov mn pl)
      callWith pos f first (backTo pos (starEach [] X.env)) (backToKw pos (keywordEach [] X.env))) := by rfl) : DE X g W (.Call (.Attribute o mn apos) [] [] pos) (e1 (methT C mn m []) fe) :=
  pe_imp (pe_meth0 (pl := pl) he c hm F hr hb .nil passL ht) fun σ H Q ⟨ρ, F, b, s, q⟩ => ⟨ρ, F, b, s, M.wp_mono (M.wp_bind.mp q) (fun b1 t q1 v H1 F1 s1 r1 => by
    cases t with
    | obj D us =>
      have r1' := r1
      cases r1 with
      | @obj a dx _ vs _ h1 h2 =>
        have q1 : (if D = C then (if (us.lookup mn).isNone = true then (m [.obj D us]).calm else .stuck) else .stuck).wp b1 _ _ := q1
        by_cases z : D = C
        · subst z
          rw [if_pos rfl] at q1
          obtain ⟨ok, q2⟩ := if_of q1
          have y := RepF.look (f := mn) h2
          have e1 : us.lookup mn = none := Option.isNone_iff_eq_none.mp ok
          rw [e1] at y
          exact ⟨a, dx, vs, rfl, s1.sr.sub _ _ h1, y, none, F1, b1, [.ref a], [.obj D us], rfl, by rw [if_neg Bool.false_ne_true]; exact ⟨rfl, rfl⟩, s1.sr.sub, .one r1', M.wp_mono (M.wp_le (M.wp_calm q2)) (fun b' t z v H' F' aa rr => z.2 v H' F' (s1.trans (Step.of_after s1.sr aa (.inr ⟨rfl, z.1⟩))) rr) fun _ _ _ z => z.2.elim⟩
        · rw [if_neg z] at q1
          exact q1.elim
    | _ => exact q1.elim) fun _ _ _ z => z⟩

/-! ### __init__: what is checked ahead, then the fields -/
theorem SR.poke {F H : Hp} {σ : Sg} {ρ : Env'} {b : Nat} (s : SR g F H σ ρ b) {a : Addr} (u : HO) (h1 : F a = none) (h2 : g.H0 a = none) (h3 : ¬ g.inS a) (h4 : ¬ OwnAt σ ρ a) : SR g F (upd H a u) σ ρ b where
  sub := fun c w z => by rw [upd_ne (fun y => by rw [y, h1] at z; cases z)]; exact s.sub c w z
  f0 := s.f0
  keep := fun c w z n => by rw [upd_ne (fun y => by rw [y, h2] at z; cases z)]; exact s.keep c w z n
  new := s.new
  slots := Paired.imp2 s.slots fun i v y e1 e2 r => by
    cases r with
    | any v => exact .any v
    | val r => exact .val r
    | own z1 z2 z3 z4 z5 => exact .own (by rw [upd_ne (fun y => h4 ⟨i, _, e2, rfl, by rw [e1, y]⟩)]; exact z1) z2 z3 z4 z5
    | ownD z1 z2 z3 z4 z5 => exact .ownD (by rw [upd_ne (fun y => h4 ⟨i, _, e2, rfl, by rw [e1, y]⟩)]; exact z1) z2 z3 z4 z5
    | ownS z1 z2 z3 z4 z5 => exact .ownS (by rw [upd_ne (fun y => h4 ⟨i, _, e2, rfl, by rw [e1, y]⟩)]; exact z1) z2 z3 z4 z5
    | strm h => exact .strm h
    | pin h => exact .pin h
  dis := s.dis
  strm := fun p l e => by
    obtain ⟨y1, y2, y3, ns, c, n, mm, q1, q2, q3⟩ := s.strm p l e
    have np : p ≠ a := fun y => h3 (.inl ⟨p, l, e, .inl y.symm⟩)
    have nl : l ≠ a := fun y => h3 (.inl ⟨p, l, e, .inr y.symm⟩)
    exact ⟨y1, y2, y3, ns, c, n, mm, by rw [upd_ne np]; exact q1, by rw [upd_ne nl]; exact q2, q3⟩
  tabs := s.tabK (Same.refl _) fun p q m => ⟨fun o e => by rw [upd_ne (Cn.tabNe h3 m)]; exact e, (s.tabs p q m).1⟩
/-- what stays while the fields of the object at a are stored -/
structure StepA (g : Cn) (σ : Sg) (ρ : Env') (a : Addr) (F H F' H' : Hp) (b : Nat) : Prop where
  ext : Ext F F'
  sr : SR g F' H' σ ρ b
  kp : ∀ c o, H c = some o → ¬ g.inS c → ¬ OwnAt σ ρ c → c ≠ a → H' c = some o
  new : ∀ c o, H c = some o → F c = none → F' c = none
def tDF (g : Cn) (W : WX) (C : Addr) (Gf : List (Str × T) → Env' → M (List (Str × T))) : TS := fun D σ H => ∃ ρ F b a dx vs us, SR g F H σ ρ b ∧ g.me = some a ∧ ρ[0]? = some .pin ∧ H a = some (.ins C dx vs) ∧ F a = none ∧ g.H0 a = none ∧ ¬ g.inS a ∧ RepF g.K F vs us ∧
  (Gf us ρ).wp b (fun b' us' => ∀ F' H' vs', StepA g σ ρ a F H F' H' b' → H' a = some (.ins C dx vs') → F' a = none → RepF g.K F' vs' us' → D.nx σ H') (fun _ _ _ => False)
def fNil : List (Str × T) → Env' → M (List (Str × T)) := fun us _ => .ret us
def fCons (f : Str) (fe : Env' → M T) (G : List (Str × T) → Env' → M (List (Str × T))) : List (Str × T) → Env' → M (List (Str × T)) := fun us ρ => (fe ρ).bind fun t => if decide (us.length < 1000) = true then G (putT f t us) ρ else .stuck
theorem df_nil : PSs X [] (tDF g W C fNil) := pss_imp pss_nil fun D σ H ⟨ρ, F, b, a, dx, vs, us, s, hme, h0, ha, hF, hH, hS, r, q⟩ => q F H vs ⟨Same.refl _, s, fun _ _ z _ _ _ => z, fun _ _ _ z => z⟩ ha hF r
theorem pin_not {F H : Hp} {σ : Sg} {ρ : Env'} {b : Nat} {a : Addr} (s : SR g F H σ ρ b) {u : HO} (hu : H a = some u) (nl : ∀ ts, u ≠ .lst ts) (nd : ∀ ts, u ≠ .dK ts) (ns : ∀ L, u ≠ g.so a L) : ¬ OwnAt σ ρ a := fun ⟨i, y, e1, e2, e3⟩ => by
  obtain ⟨v, hv, r⟩ := Paired.get1 s.slots e1
  rw [e3] at hv
  cases hv
  cases r with
  | own z1 _ _ _ _ => rw [hu] at z1; exact nl _ (Option.some.inj z1)
  | ownD z1 _ _ _ _ => rw [hu] at z1; exact nd _ (Option.some.inj z1)
  | ownS z1 _ _ _ _ => rw [hu] at z1; exact ns _ (Option.some.inj z1)
  | _ => cases e2
theorem df_cons {rest : List Stmt} {G : List (Str × T) → Env' → M (List (Str × T))} (c : Cls X.K C) (n : NoAttr X.K C f) (he : DE X g W e fe) (h0 : PE X o (tVar 0)) (ht : PSs X rest (tDF g W C G))
    (hs : swapsWith e (some (.Attribute o f p')) pos.line X.env = pure false := by rfl) (hso : g.so = SetTO X.prog X.w := by rfl) : PSs X (.Assign [.Attribute o f p'] e pos :: rest) (tDF g W C (fCons f fe G)) :=
  pss_imp (pss_cons (ps_fld h0 he hs) ht) fun D σ H ⟨ρ, F, b, a, dx, vs, us, s, hme, h1, ha, hF, hH, hS, r, q⟩ => ⟨ρ, F, b, s, M.wp_mono (M.wp_bind.mp q) (fun b1 t q1 v H1 F1 s1 r1 => by
    obtain ⟨ok, q2⟩ := if_of q1
    have ok := of_decide_eq_true ok
    have nO : ¬ OwnAt σ ρ a := pin_not s ha (fun _ z => nomatch z) (fun _ z => nomatch z) fun L z => by rw [hso] at z; nomatch z
    have ha1 := s1.kp a _ ha hS nO
    have hF1 := s1.new a _ ha hF
    obtain ⟨w, hw, rw'⟩ := Paired.get1 s.slots h1
    cases rw' with
    | @pin a' hm =>
      rw [hme] at hm
      cases hm
      refine ⟨_, hw, a, C, dx, vs, rfl, ha1, c, n, by rw [r.length]; exact ok, ρ, F1, b1, a, dx, _, _, s1.sr.poke _ hF1 hH hS nO, hme, h1, upd_same, hF1, hH, hS, (r.ext s1.ext).put r1, M.wp_mono q2 (fun b2 us' q3 F' H' vs' s2 y1 y2 y3 => q3 F' H' vs' ⟨s1.ext.trans s2.ext, s2.sr, fun d u z n1 n2 n3 => s2.kp d u (by rw [upd_ne n3]; exact s1.kp d u z n1 n2) n1 n2 n3, fun d u z n1 => ?_⟩ y1 y2 y3) fun _ _ _ z => z⟩
      by_cases e : d = a
      · exact s2.new d _ (by rw [e]; exact upd_same) (s1.new d u z n1)
      · by_cases hs : g.inS d ∨ OwnAt σ ρ d
        · obtain ⟨y, hy⟩ := s1.sr.live hs
          exact s2.new d y (by rw [upd_ne e]; exact hy) (s1.new d u z n1)
        · exact s2.new d u (by rw [upd_ne e]; exact s1.kp d u z (fun y => hs (.inl y)) fun y => hs (.inr y)) (s1.new d u z n1)) fun _ _ _ z => z.elim⟩
end
end DP
end
section
set_option Elab.async false
set_option linter.all false
set_option maxRecDepth 100000
namespace DP
open PySem PySem.Spec PyProof.Rows L2

/-- the same, but nothing is told of the object that is being made -/
def Cn.bare (g : Cn) : Cn := { g with H0 := fun c => if g.me = some c then none else g.H0 c }
theorem bare_H0 {g : Cn} {c : Addr} {o : HO} (h : g.bare.H0 c = some o) : g.H0 c = some o ∧ g.me ≠ some c := by
  have h : (if g.me = some c then none else g.H0 c) = some o := h
  by_cases e : g.me = some c
  · rw [if_pos e] at h; cases h
  · rw [if_neg e] at h; exact ⟨h, e⟩
theorem bare_none {g : Cn} {c : Addr} (h : g.H0 c = none) : g.bare.H0 c = none := by
  show (if g.me = some c then none else g.H0 c) = none
  by_cases e : g.me = some c
  · rw [if_pos e]
  · rw [if_neg e]; exact h
theorem SR.bare {g : Cn} {F H : Hp} {σ : Sg} {ρ : Env'} {b : Nat} (s : SR g F H σ ρ b) : SR g.bare F H σ ρ b where
  sub := s.sub
  f0 := s.f0
  keep := fun c o h n => s.keep c o (bare_H0 h).1 n
  new := fun c o h n => s.new c o (bare_H0 h).1 n
  slots := Paired.imp2 s.slots fun i v y _ _ r => by
    cases r with
    | any v => exact .any v
    | val r => exact .val r
    | own z1 z2 z3 z4 z5 => exact .own z1 z2 (bare_none z3) z4 z5
    | ownD z1 z2 z3 z4 z5 => exact .ownD z1 z2 (bare_none z3) z4 z5
    | ownS z1 z2 z3 z4 z5 => exact .ownS z1 z2 (bare_none z3) z4 z5
    | strm h => exact .strm h
    | pin h => exact .pin h
  dis := s.dis
  strm := s.strm
  tabs := s.tabs
/-- a body that makes an object's fields -/
def tDQ (g : Cn) (W : WX) (C : Addr) (G : Env' → M (List (Str × T))) : TS := fun D σ H => ∃ ρ F b a dx, SR g F H σ ρ b ∧ g.me = some a ∧ g.H0 a = some (.ins C dx []) ∧ g.F0 a = none ∧ (g.S = none ∧ g.T = []) ∧
  (G ρ).wp b (fun b' us => ∀ σ' H' F' ws, Ext F F' → Ext F' H' → (∀ c o, g.H0 c = some o → c ≠ a → H' c = some o) → (∀ c o, g.H0 c = some o → g.F0 c = none → F' c = none) → H' a = some (.ins C dx ws) → RepF g.K F' ws us → D.nx σ' H') (EXs g W F)
def qSeq (G1 : Env' → M Fl) (G2 : Env' → M (List (Str × T))) : Env' → M (List (Str × T)) := fun ρ => (G1 ρ).bind fun fl => match fl with
  | .next ρ' => G2 ρ'
  | _ => .stuck
def qFz (i : Nat) (G : Env' → M (List (Str × T))) : Env' → M (List (Str × T)) := fun ρ => G (fz i ρ)
def qTail (Gf : List (Str × T) → Env' → M (List (Str × T))) : Env' → M (List (Str × T)) := fun ρ => match ρ[0]? with
  | some Sl.pin => (Gf [] ρ).calm
  | _ => .stuck
theorem no_inS {g : Cn} (h : g.S = none ∧ g.T = []) (c : Addr) : ¬ g.inS c := fun z => by
  rcases z with ⟨_, _, e, _⟩ | ⟨q, m⟩
  · rw [h.1] at e; cases e
  · rw [h.2] at m; cases m
section
variable {X : Cx} {g : Cn} {W : WX} {k np : Nat} {st : Stmt} {rest : List Stmt} {C : Addr} {G1 : Env' → M Fl} {G2 : Env' → M (List (Str × T))} {Gf : List (Str × T) → Env' → M (List (Str × T))}
theorem dq_cons (h1 : DS X g W st G1) (h2 : PSs X rest (tDQ g W C G2)) : PSs X (st :: rest) (tDQ g W C (qSeq G1 G2)) := pss_imp (pss_cons h1 h2) fun D σ H ⟨ρ, F, b, a, dx, s, y1, y2, y3, y4, q⟩ => ⟨ρ, F, b, s, M.wp_mono (M.wp_bind.mp q) (fun b1 fl q1 => by
  cases fl with
  | next ρ' => exact fun σ' H' F' e s' => ⟨ρ', F', b1, a, dx, s', y1, y2, y3, y4, M.wp_mono q1 (fun _ _ z σ2 H2 F2 ws e2 => z σ2 H2 F2 ws (e.trans e2)) fun _ _ _ z => z.step e⟩
  | ret t => exact q1.elim
  | brk ρ' => exact q1.elim
  | cont ρ' => exact q1.elim) fun _ _ _ z => z⟩
theorem dq_fz (i : Nat) (h : PSs X rest (tDQ g W C G2)) : PSs X rest (tDQ g W C (qFz i G2)) := pss_imp h fun D σ H ⟨ρ, F, b, a, dx, s, y1, y2, y3, y4, q⟩ => by
  obtain ⟨F', e, s'⟩ := s.fz i
  exact ⟨fz i ρ, F', b, a, dx, s', y1, y2, y3, y4, M.wp_mono q (fun _ _ z σ2 H2 F2 ws e2 => z σ2 H2 F2 ws (e.trans e2)) fun _ _ _ z => z.step e⟩
theorem dq_tail (h : PSs X rest (tDF g.bare W C Gf)) : PSs X rest (tDQ g W C (qTail Gf)) := pss_imp h fun D σ H ⟨ρ, F, b, a, dx, s, y1, y2, y3, y4, q⟩ => by
  unfold qTail at q
  cases e : ρ[0]? with
  | none => rw [e] at q; exact q.elim
  | some sl =>
    rw [e] at q
    cases sl with
    | pin =>
      have nS := no_inS y4 a
      have hH : g.bare.H0 a = none := by
        show (if g.me = some a then none else g.H0 a) = none
        rw [if_pos y1]
      refine ⟨ρ, F, b, a, dx, [], [], s.bare, y1, e, s.keep a _ y2 nS, s.new a _ y2 y3, hH, nS, .nil, M.wp_mono (M.wp_calm q) (fun b' us' z F' H' vs' s2 z1 z2 z3 => z σ H' F' vs' s2.ext s2.sr.sub (fun c o hc ne => ?_) (fun c o hc n => ?_) z1 z3) fun _ _ _ z => z⟩
      · refine s2.sr.keep c o ?_ (no_inS y4 c)
        show (if g.me = some c then none else g.H0 c) = some o
        rw [if_neg (fun e => ne (Option.some.inj (e.symm.trans y1)))]
        exact hc
      · by_cases e2 : c = a
        · subst e2; exact z2
        · refine s2.sr.new c o ?_ n
          show (if g.me = some c then none else g.H0 c) = some o
          rw [if_neg (fun e => e2 (Option.some.inj (e.symm.trans y1)))]
          exact hc
    | _ => exact q.elim
end
/-- __init__'s promise -/
def spInit (K : KF) (Xc : Str → Addr × Str) (C : Addr) (np : Nat) (m : List T → M (List (Str × T))) : Sp := fun vs H Q E => ∃ F a dx vs' ts, vs = .ref a :: vs' ∧ vs'.length = np ∧ H a = some (.ins C dx []) ∧ F a = none ∧ Ext F H ∧ Reps K F vs' ts ∧
  (m ts).wp 0 (fun _ us => ∀ ws H' F', Ext F F' → Ext F' H' → (∀ c o, H c = some o → c ≠ a → H' c = some o) → (∀ c o, H c = some o → F c = none → F' c = none) → H' a = some (.ins C dx ws) → RepF K F' ws us → Q .non H')
    (fun _ c t => ∀ d v H' F', Ext F F' → Ext F' H' → (∀ c o, H c = some o → H' c = some o) → (∀ c o, H c = some o → F c = none → F' c = none) → H' d = some (.xd [((Xc c).2, v)]) → Rep K F' v t → E (.ref (Xc c).1) (some d) H')
def startI (n : Nat) (ts : List T) : Env' := (Sl.pin :: ts.map Sl.val) ++ List.replicate (n - (ts.length + 1)) Sl.any
def initM (n : Nat) (G : Env' → M (List (Str × T))) : List T → M (List (Str × T)) := fun ts => G (startI n ts)
theorem startI_noOwn (n : Nat) (ts : List T) (x : Sl) (h : x ∈ startI n ts) : x.isOwn = false := by
  unfold startI at h
  rw [List.mem_append, List.mem_cons] at h
  rcases h with (rfl | h) | h
  · rfl
  · obtain ⟨t, _, rfl⟩ := List.mem_map.mp h; rfl
  · obtain ⟨_, rfl⟩ := List.mem_replicate.mp h; rfl
section
variable {P : Program} {w : World} {K : KF} {mg : Str → Option Value} {base : Heap} {Xc : Str → Addr × Str} {np : Nat} {x qual : Str} {sd : Stmt} {fa C : Addr} {fd : FuncData} {N ps : List Str} {k : Nat} {G : Env' → M (List (Str × T))}
theorem init_deep (F : Fun K x qual sd fa fd) (S : FnScope N ps (defScope sd)) (hps : ps.length = np + 1)
    (body : ∀ (cdv : Value) (A : Around) (outer : List Env) (s : Shared) (H : Hp) (E : XK) (F0 : Hp) (a : Addr), Room k (A.deeper (envOfC qual (defScope sd) s.heap.objs.size fa cdv)) →
      PSs (cxOf (L2.CX P w) P w K mg base N qual (defScope sd) fa cdv A outer s H E) (defBody sd) (tDQ ⟨K, H, F0, none, Xc, some a, SetTO P w, []⟩ (fun cls d _ H => E cls d H) C G)) : FnOk P w K mg base (L2.CX P w) (k + 1) fa fd ps (spInit K Xc C np (initM N.length G)) := by
  have len : ∀ vs H Q E, spInit K Xc C np (initM N.length G) vs H Q E → vs.length = ps.length := by
    rintro vs H Q E ⟨F, a, dx, vs', ts, rfl, h2, _⟩
    rw [List.length_cons, h2, hps]
  refine F.okX S len fun cdv A outer s H vs Q E hr h => ?_
  have hlen := len _ _ _ _ h
  obtain ⟨F', a, dx, vs', ts, rfl, h2, h3, h4, h5, h6, h7⟩ := h
  refine ⟨_, body cdv A outer s H E F' a hr, startI N.length ts, F', 0, a, dx, ?_, rfl, h3, h4, ⟨rfl, rfl⟩, M.wp_mono h7 (fun b' us z σ' H2 F2 ws e1 e2 e3 e4 e5 e6 => z ws H2 F2 e1 e2 e3 e4 e5 e6) fun b' c t z d v σ ρ H2 F2 e s2 hd r => z d v H2 F2 s2.f0 s2.sub (fun c o hc => s2.keep c o hc (no_inS ⟨rfl, rfl⟩ c)) s2.new hd r⟩
  have hN : ps.length ≤ N.length := by have := congrArg List.length S.pre; rw [List.length_take] at this; omega
  refine ⟨h5, Same.refl _, fun _ _ q _ => q, fun _ _ _ q => q, ?_, fun i j a y z _ hy _ oy _ => ?_, fun p l e => (by cases e), fun p q m => nomatch m⟩
  · have hz := h6.length
    unfold L2.start startI
    rw [hlen]
    have e : N.length - ps.length = N.length - (ts.length + 1) := by omega
    rw [e]
    exact Paired.app (.cons (.pin rfl) (slots_vals h6)) (slots_any _)
  · rw [startI_noOwn _ ts y (List.mem_of_getElem? hy)] at oy
    cases oy
end
/-! ### C(e, ..) -/
/-- programs that raise nothing and draw nothing -/
def M.dry {α : Type} : M α → M α
  | .ret a => .ret a
  | _ => .stuck
theorem M.wp_dry {α : Type} : ∀ {m : M α} {b : Nat} {Q : Nat → α → Prop} {E : Nat → Str → T → Prop}, m.dry.wp b Q E → m.wp 0 (fun _ a => Q b a) fun _ _ _ => False
  | .ret _, _, _, _, h => h
  | .draw _ _, _, _, _, h => h.elim
  | .exc _ _, _, _, _, h => h.elim
  | .stuck, _, _, _, h => h.elim
def eMake (C : Addr) (m : List T → M (List (Str × T))) (fs : Env' → M (List T)) : Env' → M T := fun ρ => (fs ρ).bind fun ts => (m ts).dry.bind fun us => .ret (.obj C us)
section
variable {X : Cx} {g : Cn} {W : WX} {k np : Nat} {pos p : Pos} {e : Expr} {es : List Expr} {fs : Env' → M (List T)} {x : Str} {C fa : Addr} {fd : FuncData} {ps : List Str} {m : List T → M (List (Str × T))}
theorem de_make (Mk' : Mk X.K C fa) (F : FnOk X.prog X.w X.K X.mg X.base (L2.CX X.prog X.w) k fa fd ps (spInit g.K g.X C np m)) (hr : Room (k + 1) X.A) (hm : X.mg x = some (.ref C)) (hb : Binds X.K fd ps []) (ha : DA X g W (e :: es) fs)
    (hn : ∀ (ρ : Env') (b : Nat) (Q : Nat → List T → Prop) (E : Nat → Str → T → Prop), (fs ρ).wp b Q E → (fs ρ).wp b (fun b ts => ts.length = np ∧ Q b ts) E)
    (hg : Gl X x := by rfl) (hdb : (x == ("__debug__" : Str)) = false := by decide) (he : starEach (e :: es) X.env = (false, eval e X.env) :: starEach es X.env := by rfl) (hpl : (backTo pos (starEach es X.env)).any (·.1) = false := by rfl) :
    DE X g W (.Call (.Name x p) (e :: es) [] pos) (eMake C m fs) :=
  pe_imp (pe_make Mk' F hr hg hm hb .nil passL ha hdb he hpl) fun σ H Q ⟨ρ, F, b, s, q⟩ => ⟨ρ, F, b, s, M.wp_mono (hn ρ b _ _ (M.wp_bind.mp q)) (fun b1 ts z vs H1 F1 s1 r1 y dx hy hdx ne => by
    have t1 := s1.sr.stepU (.own y) hdx
    have hy' : upd H1 dx (.own y) y = none := by rw [upd_ne (Ne.symm ne)]; exact hy
    have t2 := t1.sr.stepU (.ins C dx []) hy'
    have fy := s1.sr.fresh hy
    refine ⟨F1, y, dx, vs, ts, by rw [List.append_nil], by rw [r1.length]; exact z.1, upd_same, fy, t2.sr.sub, r1, M.wp_mono (M.wp_dry (M.wp_bind.mp z.2)) (fun _ us q2 ws H' F' e1 e2 e3 e4 e5 e6 => ⟨rfl, ?_⟩) fun _ _ _ z => z.elim⟩
    have Fy : F' y = none := e4 y _ upd_same fy
    have ny : ∀ {c : Addr} {o : HO}, upd H1 dx (.own y) c = some o → c ≠ y := fun h w => by rw [w, hy'] at h; cases h
    have aft : After none F1 (upd H1 dx (.own y)) (upd F' y (.ins C dx ws)) H' b1 := ⟨e1.trans (Ext.upd Fy), fun c o h => by
      by_cases w : c = y
      · subst w; rw [upd_same] at h; rw [e5]; exact h
      · rw [upd_ne w] at h; exact e2 c o h, fun c o h _ => e3 c o (by rw [upd_ne (ny h)]; exact h) (ny h), fun c o h n => by rw [upd_ne (ny h)]; exact e4 c o (by rw [upd_ne (ny h)]; exact h) n, fun _ _ e => by cases e⟩
    exact q2 _ H' _ (s1.trans (t1.trans (Step.of_after t1.sr aft (.inr ⟨rfl, Nat.le_refl _⟩)))) (.obj upd_same (e6.ext (Ext.upd Fy)))) fun _ _ _ z => z⟩
end
end DP
end
section
set_option Elab.async false
set_option linter.all false
set_option maxRecDepth 100000
/-! A set of tuples of ints: asked whether one is in it; made empty; one more put in. -/
namespace DP
open PySem PySem.Spec PyProof.Rows L2
section
variable {P : Program} {w : World} {A : Around} {E : Value → Shared → Prop} {s : Shared} {a : Addr} {L : List (Addr × List Int)} {es : Array (Int × Value)} {ep : Nat} {t : SetTable}
/-- the walk's probe behind c steps -/
def wk (t : SetTable) (h : Int) (c : Nat) : SetTable.Probe :=
  nth t.mask (runAt t.mask (SetTable.bits h % (t.mask + 1))
    (SetTable.bits h)) c
theorem wk_add (t : SetTable) (h : Int) (c q : Nat) : nth t.mask (wk t h c) q = wk t h (c + q) := (nth_add t.mask c _ q).symm
theorem wk_clean (t : SetTable) (h : Int) : ∀ c, (wk t h c).dummy = none := fun c => by
  have z : ∀ (n : Nat) (p : SetTable.Probe), p.dummy = none →
      (nth t.mask p n).dummy = none := fun n => by
    induction n with
    | zero => exact fun _ h => h
    | succ n ih =>
      intro p h
      apply ih
      unfold adv
      split <;> exact h
  exact z c _ rfl
theorem find_from (R : SetTR P w s.heap a L es ep t) {x : Addr} {k : List Int} (hx : IsT P w s.heap k x)
    (hu : A.units < cLine) {K : Nat} (h1 : K < 10 * SetTable.turns t.mask) (h2 : (wk t (thash P w k) K).j ∉ t.place.toList)
    (h3 : ∀ c, c < K → (wk t (thash P w k) c).j ∈ t.place.toList) {Q : SetFound → Shared → Prop}
    (yes : ∀ i, k ∈ L.map (·.2) → Q (.there (some i)) s) (no : ∀ j, k ∉ L.map (·.2) → Q (.free j false) s) : ∀ (f c : Nat) (stand : Option SetTable.Probe),
      stand.getD (t.probeStart (thash P w k)) = wk t (thash P w k) c → c ≤ K → K - c < f →
      (∀ (i : Nat) p, L[i]? = some p → p.2 = k → ∃ d, c ≤ d ∧ d < K ∧ t.place.toList[i]? = some (wk t (thash P w k) d).j) →
      wpAny (model P w) A (setSearchFrom a (.ref x) (thash P w k) false f stand) Q E s
  | 0, c, stand, _, _, hf, _ => (Nat.not_lt_zero _ hf).elim
  | f + 1, c, stand, hst, hc, hf, hre => by
    obtain ⟨o, ho, hex, hd⟩ := R.ob
    rw [setSearchFrom_succ]
    apply wpAny_bind
    refine wpAny_setState_of ho hd R.fits ?_
    dsimp only
    refine wp_if_neg R.gw ?_
    try refine wpAny_bind (wpAny_pure ?_)
    have at_ : ∀ (i : Nat) p, L[i]? = some p → (es[i]?.map (·.1)).getD 0 = thash P w p.2 := fun i p hp => by
      rw [R.entry hp] <;> rfl
    have sp := go_spec t R.tab.ris R.tab.dm (fun i => (es[i]?.map (·.1)).getD 0) (thash P w k) (10 * SetTable.turns t.mask) (K - c)
      (wk t (thash P w k) c) (wk_clean _ _ _) (by omega) (fun q hq => by
        rw [wk_add]
        exact h3 (c + q) (by omega)) (by
        rw [wk_add, show c + (K - c) = K by omega]
        exact h2)
    rcases sp with ⟨q, i, hq, hi, hh, hno, hpr⟩ | ⟨hno, hpr⟩
    · rw [wk_add, wk_add] at hpr
      rw [wk_add] at hi
      have pr : t.probe (fun i => (es[i]?.map (·.1)).getD 0) (thash P w k) (stand.getD (t.probeStart (thash P w k))) =
          some (.candidate (wk t (thash P w k) (c + q)).j i (wk t (thash P w k) (c + (q + 1)))) := by
        rw [hst]; exact hpr
      rw [pr]
      dsimp only
      have il : i < L.length := by
        have y1 := (List.getElem?_eq_some_iff.mp hi).1
        have y2 := R.tab.sz
        rw [List.length_map] at y2
        rw [Array.length_toList] at y1
        omega
      obtain ⟨p, hp⟩ : ∃ p, L[i]? = some p := ⟨_, List.getElem?_eq_getElem il⟩
      have hm : p ∈ L := List.mem_of_getElem? hp
      have sl := slot_live R.tab.ris hi
      have rest : wpAny (model P w) A (searchRest a (.ref x) (thash P w k) false f es t (wk t (thash P w k) (c + q)).j i
          (wk t (thash P w k) (c + (q + 1)))) Q E s := by
        unfold searchRest
        rw [R.entry hp]
        dsimp only
        apply wpAny_bind
        refine wpAny_holding (wpAny_eqBool_tuple hu (R.tup p hm) hx ?_)
        apply wpAny_bind
        refine wpAny_setState_of ho hd R.fits ?_
        dsimp only
        refine wp_if_neg (by simp) ?_
        try refine wpAny_bind (wpAny_pure ?_)
        rw [sameMem]
        dsimp only
        simp only [if_true, sl, R.entry hp]
        apply wpAny_bind
        refine wpAny_isSame_ref_self ?_
        apply wpAny_bind
        refine wpAny_pure ?_
        simp only [if_true]
        by_cases e : p.2 = k
        · refine wp_if_pos (by simp [e]) ?_
          exact wpAny_pure (yes i (List.mem_map.mpr ⟨p, hm, e⟩))
        · refine wp_if_neg (by simp [e]) ?_
          refine find_from R hx hu h1 h2 h3 yes no f (c + (q + 1)) (some _) rfl (by omega) (by omega) fun i' p' g1 g2 => ?_
          obtain ⟨d, y1, y2, y3⟩ := hre i' p' g1 g2
          have dc : ¬ d < c + q := fun z => hno (d - c) i' (by omega) (by
              rw [wk_add, show c + (d - c) = d by omega]
              exact y3) ((at_ i' p' g1).trans (congrArg _ g2))
          have dn : d ≠ c + q := fun z => by
            rw [z] at y3
            have s1 := slot_live R.tab.ris y3
            rw [sl] at s1
            injection s1 with s1
            rw [← s1, hp] at g1
            cases g1
            exact e g2
          exact ⟨d, by omega, y2, y3⟩
      by_cases hl : t.led = true
      · refine wp_if_neg (by simp [hl]) ?_
        try refine wpAny_bind (wpAny_pure ?_)
        exact rest
      · refine wp_if_pos (by simp [hl]) ?_
        apply wpAny_bind
        refine seen_tup hx (fun y hy => ?_) ?_
        · obtain ⟨u, hu1, rfl⟩ := List.mem_map.mp hy
          have hu2 : u ∈ es ∧ u.1 = thash P w k := by simpa using hu1
          have hu3 : u ∈ es.toList := by simpa using hu2.1
          rw [R.rows] at hu3
          obtain ⟨p', y1, rfl⟩ := List.mem_map.mp hu3
          exact ⟨p'.2, p'.1, rfl, R.tup p' y1⟩
        · refine wp_if_neg (by decide) ?_
          try refine wpAny_bind (wpAny_pure ?_)
          exact rest
    · rw [wk_add, show c + (K - c) = K by omega] at hpr
      have pr : t.probe (fun i => (es[i]?.map (·.1)).getD 0) (thash P w k) (stand.getD (t.probeStart (thash P w k))) =
          some (.empty (wk t (thash P w k) K).j none) := by
        rw [hst]; exact hpr
      rw [pr]
      dsimp only
      refine wpAny_pure (no _ fun hm => ?_)
      obtain ⟨p', y1, y2⟩ := List.mem_map.mp hm
      obtain ⟨i', y3, y4⟩ := List.getElem_of_mem y1
      have y5 : L[i']? = some p' := by rw [List.getElem?_eq_getElem y3, y4]
      obtain ⟨d, z1, z2, z3⟩ := hre i' p' y5 y2
      exact hno (d - c) i' (by omega) (by
        rw [wk_add, show c + (d - c) = d by omega]
        exact z3) ((at_ i' p' y5).trans (congrArg _ y2))
end
end DP
end
section
set_option Elab.async false
set_option linter.all false
set_option maxRecDepth 100000
namespace DP
open PySem PySem.Spec PyProof.Rows L2
section
variable {P : Program} {w : World} {A : Around} {E : Value → Shared → Prop} {s : Shared} {a : Addr} {L : List (Addr × List Int)} {es : Array (Int × Value)} {ep : Nat} {t : SetTable}
theorem SetTR.typ (R : SetTR P w s.heap a L es ep t) : s.TypeIs (.ref a) "set" := by
  obtain ⟨o, ho, hx, _⟩ := R.ob
  exact ⟨o, ho, hx.1⟩
theorem search_in (R : SetTR P w s.heap a L es ep t) {x : Addr} {k : List Int} (hx : IsT P w s.heap k x) (hu : A.units < cLine) {Q : SetFound → Shared → Prop}
    (yes : ∀ i, k ∈ L.map (·.2) → Q (.there (some i)) s) (no : ∀ j, k ∉ L.map (·.2) → Q (.free j false) s) :
    wpAny (model P w) A (setSearch a (.ref x) (thash P w k)) Q E s := by
  have room := R.room
  obtain ⟨K, y1, y2, y3⟩ := R.tab.first (by rw [List.length_map]; omega) (thash P w k)
  have few : 10 * SetTable.turns t.mask ≤ 1420 := by
    unfold SetTable.turns
    rcases R.tab.mok with e | e | e <;> omega
  unfold setSearch
  refine find_from R hx hu y1 y2 y3 yes no 100000 0 none rfl (Nat.zero_le _) (by omega) fun i p hp hk => ?_
  have hi : (L.map fun p => thash P w p.2)[i]? = some (thash P w k) := by
    rw [List.getElem?_map, hp, ← hk] <;> rfl
  have il : i < t.place.toList.length := by
    have z1 := (List.getElem?_eq_some_iff.mp hp).1
    have z2 := R.tab.sz
    rw [List.length_map] at z2
    rw [Array.length_toList]
    omega
  obtain ⟨c, hc, e⟩ := R.tab.before y2 hi (List.getElem?_eq_getElem il)
  refine ⟨c, Nat.zero_le _, hc, ?_⟩
  rw [List.getElem?_eq_getElem il]
  exact congrArg some e.symm
theorem findIn_succ (a : Addr) (x : Value) (h : Int) (f : Nat) : setFindIn a x h (f + 1) = (do
    let (es, _, _) ← setState a
    if byScan x es then
      rule "set.find.by-scan"
      match ← setScan a x h false es with
      | .found i => return some i
      | .absent => return none
      | .anew => return ← setFindIn a x h f
    match ← setSearch a x h with
    | .there i => return i
    | .free .. => return none) := by rfl
theorem find_in (R : SetTR P w s.heap a L es ep t) {x : Addr} {k : List Int} (hx : IsT P w s.heap k x) (hu : A.units < cLine) {Q : Option Nat → Shared → Prop}
    (h : ∀ r : Option Nat, r.isSome = decide (k ∈ L.map (·.2)) → Q r s) : wpAny (model P w) A (setFind a (.ref x) (thash P w k)) Q E s := by
  obtain ⟨o, ho, hex, hd⟩ := R.ob
  unfold setFind
  rw [show (100000 : Nat) = 99999 + 1 from rfl, findIn_succ]
  apply wpAny_bind
  refine wpAny_setState_of ho hd R.fits ?_
  dsimp only
  refine wp_if_neg (by simp [byScan, Value.scannable]) ?_
  try refine wpAny_bind (wpAny_pure ?_)
  apply wpAny_bind
  refine search_in R hx hu (fun i hm => ?_) fun j hm => ?_
  · exact wpAny_pure (h _ (by simp [hm]))
  · exact wpAny_pure (h _ (by simp [hm]))
theorem contains_in (R : SetTR P w s.heap a L es ep t) {x : Addr} {k : List Int} (hx : IsT P w s.heap k x) (hu : A.in1.units < cLine) (hu' : A.units < cLine) {Q : Bool → Shared → Prop}
    (h : ∀ tk, Q (decide (k ∈ L.map (·.2))) { s with toks := tk }) : wpAny (model P w) A (contains (.ref a) (.ref x)) Q E s := by
  unfold contains
  try with_reducible refine wpAny_holding ?_
  apply wpAny_bind
  refine wpAny_specialOf (SetTR.typ R) F.slot_set_contains.lookup ?_
  show wpAny _ _ (if (some (Value.builtin "set.__contains__") == some Value.none) = true then _ else _) _ E s
  rw [if_neg (by rw [beq_builtin_none]; exact Bool.false_ne_true)]
  apply wpAny_bind
  refine wpAny_callSpecialUnlessNone?_slot (name := Str.ofString "__contains__") (SetTR.typ R) F.slot_set_contains ?_
  refine wpAny_call_entry F.slot_set_contains (SetTR.typ R) entry_set_contains ?_ (F.args_set_contains_2 _ _)
  unfold Builtin.«frozenset.__contains__» Builtin.Frozenset.oneOther
  simp only [List.isEmpty_nil, bind_assoc]
  unfold Builtin.Frozenset.addrOf Builtin.Frozenset.withSetAsKey setContains
  apply wpAny_bind
  refine wpAny_pure ?_
  try dsimp only
  apply wpAny_bind
  refine wpAny_pure ?_
  try dsimp only
  apply wpAny_bind
  refine wpAny_tryCatch ?_
  refine wpAny_holding ?_
  apply wpAny_bind
  refine wpAny_pyHash_tuple hu hx ?_
  apply wpAny_bind
  refine find_in (s := { s with toks := s.toks + (k.length + 1) }) R hx hu fun r hr => ?_
  refine wpAny_pure ?_
  show wpAny _ _ (ret (Value.bool r.isSome)) _ _ _
  rw [hr]
  exact wpAny_pure ⟨_, rfl, wpAny_truthy_bool (h _)⟩
end
end DP
end
section
set_option Elab.async false
set_option linter.all false
set_option maxRecDepth 100000
namespace DP
open PySem PySem.Spec PyProof.Rows L2
/-- the members, as they stand in the heap -/
abbrev Mems (K : PySem.W.Frag) (H : Hp) (L : List (Addr × List Int)) : Prop := ∀ p ∈ L, SqT K H p.1 (p.2.map V.int)
section
variable {X : Cx} {pins : List (Addr × Obj)} {σ : L2.St} {H : Hp} {s : Shared} {a : Addr} {L : List (Addr × List Int)}
theorem setTO_get (I : Inv X pins σ H s) (h : H a = some (SetTO X.prog X.w a L)) (m : Mems X.K H L) : ∃ es ep t, SetTR X.prog X.w s.heap a L es ep t :=
  SetT0.full (show ObjOk X.prog X.w H s.heap a (SetTO X.prog X.w a L) from I.hok a _ h).1 fun p hp => I.isT (m p hp)
/-- set() -/
theorem cr_set0T : CallR X (.type "set") (fun xs H Q => xs = [] ∧ ∀ p, H p = none → Q (.ref p) (upd H p (SetTO X.prog X.w p []))) := by
  intro pins s σ H xs us Q I r h
  obtain ⟨rfl, q⟩ := h
  cases r
  refine setR_new (w := X.w) fun _ => ?_
  have R : SetTR X.prog X.w (s.heap.push { cls := .type "set", dict := none, data := .set #[] 0 (.fresh 0 0 (!X.w.params.followText "set-order")) }) s.heap.objs.size [] #[] 0 (.fresh 0 0 (!X.w.params.followText "set-order")) := setTR_fresh (Heap.get?_push_size _ rfl)
  exact ⟨.ref _, upd H s.heap.objs.size (SetTO X.prog X.w s.heap.objs.size []), I.laid (t' := s.toks) (fun b u e => Heap.get?_push_of_some _ e) (Nat.le_refl _) (setTO_new R.t0), rfl, q _ (I.hok.fresh (Nat.le_refl _))⟩
/-- t in xs -/
def rInT (X : Cx) (neg : Bool) : V → V → Hp → VK → Prop := fun x y H Q => ∃ (b a : Addr) (k : List Int) (L : List (Addr × List Int)), x = .ref b ∧ y = .ref a ∧ SqT X.K H b (k.map V.int) ∧ H a = some (SetTO X.prog X.w a L) ∧ Mems X.K H L ∧
  Q (.bl (if neg = true then !decide (k ∈ L.map (·.2)) else decide (k ∈ L.map (·.2)))) H
theorem or_inT (hu : X.A.units + 64 < cLine) : OpR X (compareOp .In) (rInT X false) := by
  intro pins s σ H x y v u Q I rx ry h
  obtain ⟨b, a, k, L, rfl, rfl, h1, h2, h3, q⟩ := h
  obtain rfl : v = Value.ref b := rx
  obtain rfl : u = Value.ref a := ry
  obtain ⟨es, ep, t, R⟩ := setTO_get I h2 h3
  show wpAny _ _ (contains (Value.ref a) (Value.ref b) >>= fun r => pure (Value.bool r)) _ _ s
  apply wpAny_bind
  refine contains_in R (I.isT h1) (by show X.A.units + _ < cLine; omega) (by omega) fun tk => ?_
  exact wpAny_pure ⟨V.bl (decide (k ∈ L.map fun p : Addr × List Int => p.2)), H, I.tok _, rfl, q⟩
theorem or_ninT (hu : X.A.units + 64 < cLine) : OpR X (compareOp .NotIn) (rInT X true) := by
  intro pins s σ H x y v u Q I rx ry h
  obtain ⟨b, a, k, L, rfl, rfl, h1, h2, h3, q⟩ := h
  obtain rfl : v = Value.ref b := rx
  obtain rfl : u = Value.ref a := ry
  obtain ⟨es, ep, t, R⟩ := setTO_get I h2 h3
  show wpAny _ _ (contains (Value.ref a) (Value.ref b) >>= fun r => pure (Value.bool (!r))) _ _ s
  apply wpAny_bind
  refine contains_in R (I.isT h1) (by show X.A.units + _ < cLine; omega) (by omega) fun tk => ?_
  exact wpAny_pure ⟨V.bl (!decide (k ∈ L.map fun p : Addr × List Int => p.2)), H, I.tok _, rfl, q⟩
/-- xs.add(t) -/
def rAddT (X : Cx) : V → List V → Hp → VK → Prop := fun x xs H Q => ∃ (a b : Addr) (k : List Int) (L : List (Addr × List Int)), x = .ref a ∧ xs = [.ref b] ∧ SqT X.K H b (k.map V.int) ∧ H a = some (SetTO X.prog X.w a L) ∧ Mems X.K H L ∧ L.length + 1 < 64 ∧
  ∀ L' : List (Addr × List Int), (k ∈ L.map (·.2) → L' = L) → (k ∉ L.map (·.2) → L'.Perm ((b, k) :: L)) → Q .non (upd H a (SetTO X.prog X.w a L'))
theorem mt_addT (hu : X.A.units + 64 < cLine) : MtR X "set.add" (rAddT X) := by
  intro pins s σ H x xs v us Q I rx rxs h
  obtain ⟨a, b, k, L, rfl, rfl, h1, h2, h3, few, q⟩ := h
  cases rx
  cases rxs with
  | cons ry rt =>
    cases rt
    cases ry
    obtain ⟨es, ep, t, R⟩ := setTO_get I h2 h3
    have hx := I.isT h1
    refine wpAny_call_entry F.slot_set_add (SetTR.typ R) F.entry_set_add ?_ (F.args_set_add_2 _ _)
    unfold Builtin.«set.add» Builtin.Frozenset.oneOther
    simp only [List.isEmpty_nil, bind_assoc]
    unfold Builtin.Frozenset.addrOf setAdd
    apply wpAny_bind
    refine wpAny_pure ?_
    try dsimp only
    apply wpAny_bind
    refine wpAny_pure ?_
    try dsimp only
    apply wpAny_bind
    refine wpAny_holding ?_
    apply wpAny_bind
    refine wpAny_pyHash_tuple (by show X.A.units + _ < cLine; omega) hx ?_
    refine add_at (s := { s with toks := s.toks + (k.length + 1) }) R hx (by show X.A.units + _ < cLine; omega) few fun b' h' L' es' ep' t' hsb R' c1 c2 => ?_
    show wpAny _ _ (ret Value.none) _ _ _
    have he : ∃ u, h'.get? a = some u := by
      obtain ⟨o, ho, _⟩ := R'.ob
      exact ⟨o, ho⟩
    exact wpAny_pure ⟨_, rfl, .non, upd H a (SetTO X.prog X.w a L'), I.write (e := a) (t' := s.toks + (k.length + 1)) (by rw [h2]; trivial) (.inl rfl) (fun c u hc hu => (hsb.2 c hc).trans hu) he (setTO_new R'.t0), rfl, q L' c1 c2⟩
variable {o e : Expr} {es : List Expr} {to : TE} {t : TA} {apos cpos : Pos}
def tAddT (X : Cx) (to : TE) (t : TA) : TE := fun σ H Q => to σ H fun x H1 => (∃ a L, x = V.ref a ∧ H1 a = some (SetTO X.prog X.w a L)) ∧ t σ H1 fun xs H2 => rAddT X x xs H2 Q
theorem pe_addT (hu : X.A.units + 64 < cLine) (ho : PE X o to) (ha : PA X (e :: es) t)
    (hbase : attributeBase o "add" X.env (eval o X.env) = eval o X.env := by rfl)
    (hfew : ((backTo cpos (starEach (e :: es) X.env)).all (fun x => !x.1) && (backToKw cpos (keywordEach [] X.env)).all (fun x => x.1.isSome)
      && decide ((e :: es).length + ([] : List Keyword).length + (if ([] : List Keyword).isEmpty then 0 else 1) < 30)) = true := by rfl)
    (hline : (apos.endLine == cpos.line) = true := by rfl) (hs : starEach (e :: es) X.env = (false, eval e X.env) :: starEach es X.env := by rfl) (hplain : (backTo cpos (starEach es X.env)).any (·.1) = false := by rfl) :
    PE X (.Call (.Attribute o "add" apos) (e :: es) [] cpos) (tAddT X to t) := by
  refine ⟨fun pins s σ H Q I h => ?_⟩
  refine wpAny_Call_method_late hbase hfew hline rfl (thn (ho.run pins s σ H _ I h) fun v s1 hh => ?_)
  obtain ⟨x, H1, I1, r1, ⟨a, L, rfl, hL⟩, q1⟩ := hh
  cases r1
  have ot : ∃ ob, s1.heap.get? a = some ob ∧ ob.ExactSet := by
    obtain ⟨_, _, _, ⟨o, ho, y, _⟩, _⟩ := ((show ObjOk X.prog X.w H1 s1.heap a (SetTO X.prog X.w a L) from I1.hok a _ hL).1).ex
    exact ⟨o, ho, y⟩
  obtain ⟨ob, hob, hex⟩ := ot
  refine ⟨"set", "set.add", F.plainAttrs_set, F.slot_set_add, F.type_set_add, ⟨ob, hob, hex.1⟩, fun b e => ?_, ?_⟩
  · injection e with e
    subst e
    exact ⟨ob, hob, hex.2.1⟩
  · have hA := ha.run cpos pins s1 σ H1 _ I1 q1
    rw [hs] at hA ⊢
    refine Calls.callWith_builtin (by show (false || (backTo cpos (starEach es X.env)).any (·.1)) = false; rw [hplain] <;> rfl) ?_
    refine Calls.evalArgs_plain ?_
    exact thn hA fun us s2 ⟨vs, H2, I2, r2, q2⟩ => mt_addT hu pins s2 σ H2 (.ref a) vs (.ref a) us Q I2 rfl r2 q2
end
end DP
end
section
set_option Elab.async false
set_option linter.all false
set_option maxRecDepth 100000
namespace DP
open PySem PySem.Spec PyProof.Rows L2

/-! ### lists of ints, of tuples of ints -/
def intsT : List T → Option (List Int)
  | [] => some []
  | .int i :: ts => (intsT ts).map (i :: ·)
  | _ => none
def tupI : T → Option (List Int)
  | .tup ts => intsT ts
  | _ => none
def tupsT : List T → Option (List (List Int))
  | [] => some []
  | t :: ts => match tupI t, tupsT ts with
    | some k, some ks => some (k :: ks)
    | _, _ => none
def iT (k : List Int) : T := .tup (k.map .int)
theorem intsT_eq : ∀ {ts : List T} {k : List Int}, intsT ts = some k → ts = k.map .int
  | [], _, h => by cases h; rfl
  | t :: ts, k, h => by
    cases t with
    | int i =>
      have h : (intsT ts).map (i :: ·) = some k := h
      cases e : intsT ts with
      | none => rw [e] at h; cases h
      | some r => rw [e] at h; cases h; rw [intsT_eq e]; rfl
    | _ => cases h
theorem tupI_eq {t : T} {k : List Int} (h : tupI t = some k) : t = iT k := by
  cases t with
  | tup ts => exact congrArg T.tup (intsT_eq h)
  | _ => cases h
theorem tupsT_eq : ∀ {ts : List T} {ks : List (List Int)}, tupsT ts = some ks → ts = ks.map iT
  | [], _, h => by cases h; rfl
  | t :: ts, ks, h => by
    have h : (match tupI t, tupsT ts with | some k, some ks => some (k :: ks) | _, _ => none) = some ks := h
    cases e1 : tupI t with
    | none => rw [e1] at h; cases h
    | some k =>
      cases e2 : tupsT ts with
      | none => rw [e1, e2] at h; cases h
      | some r => rw [e1, e2] at h; cases h; rw [tupI_eq e1, tupsT_eq e2]; rfl
theorem reps_ints {K : KF} {F : Hp} : ∀ {k : List Int} {vs : List V}, Reps K F vs (k.map .int) → vs = k.map V.int
  | [], _, .nil => rfl
  | i :: k, _, .cons h r => by cases h; rw [reps_ints r]; rfl
theorem ints_reps {K : KF} {F : Hp} : ∀ k : List Int, Reps K F (k.map V.int) (k.map .int)
  | [] => .nil
  | i :: k => .cons (.int i) (ints_reps k)
theorem rep_iT {K : KF} {F : Hp} {v : V} {k : List Int} (h : Rep K F v (iT k)) : ∃ a, v = .ref a ∧ SqT K F a (k.map V.int) := by
  cases h with
  | tup h1 h2 =>
    rw [reps_ints h2] at h1
    exact ⟨_, rfl, h1⟩
theorem iT_rep {K : KF} {F : Hp} {a : Addr} {k : List Int} (h : SqT K F a (k.map V.int)) : Rep K F (.ref a) (iT k) := .tup h (ints_reps k)

/-! ### their order -/
theorem code_inj {B : Int} : ∀ {r q : List Int}, r.length = q.length → TS.Bd B r → TS.Bd B q → TS.code B r = TS.code B q → r = q
  | [], [], _, _, _, _ => rfl
  | d :: r, e :: q, hl, hr, hq, h => by
    have hl' : r.length = q.length := by simpa using hl
    rcases Int.lt_trichotomy d e with z | z | z
    · have := TS.code_lt (B := B) hl' hr.tail hq.tail z; omega
    · subst z
      have y : ∀ {x y : List Int}, x.length = y.length → TS.code B (d :: x) = TS.code B (d :: y) → ¬ TS.code B x < TS.code B y := fun w1 w2 w3 => by
        have := (TS.code_same (B := B) (d := d) w1).mpr w3
        omega
      have a := y hl' h
      have b := y hl'.symm h.symm
      rw [code_inj hl' hr.tail hq.tail (by omega)]
    · have := TS.code_lt (B := B) hl'.symm hq.tail hr.tail z; omega
  | [], _ :: _, h, _, _, _ => by simp at h
  | _ :: _, [], h, _, _, _ => by simp at h
def leC (B : Int) (a b : List Int) : Bool := decide (TS.code B a ≤ TS.code B b)
def okC (d : Nat) (B : Int) (ks : List (List Int)) : Bool := decide (1 ≤ d) && ks.all fun k => decide (k.length = d) && k.all fun m => decide (0 ≤ m) && decide (m < B)
def topI (ks : List (List Int)) : Int := 1 + ks.flatten.foldl max 0
def dimI (ks : List (List Int)) : Nat := (ks.head?.map List.length).getD 1
def sortK (ks : List (List Int)) : Option (List (List Int)) := if okC (dimI ks) (topI ks) ks = true then some (ks.mergeSort (leC (topI ks))) else none
theorem okC_of {d : Nat} {B : Int} {ks : List (List Int)} (h : okC d B ks = true) : 1 ≤ d ∧ ∀ k ∈ ks, k.length = d ∧ TS.Bd B k := by
  unfold okC at h
  rw [Bool.and_eq_true, List.all_eq_true] at h
  refine ⟨of_decide_eq_true h.1, fun k hk => ?_⟩
  have z := h.2 k hk
  rw [Bool.and_eq_true, List.all_eq_true] at z
  refine ⟨of_decide_eq_true z.1, fun m hm => ?_⟩
  have y := z.2 m hm
  rw [Bool.and_eq_true] at y
  exact ⟨of_decide_eq_true y.1, of_decide_eq_true y.2⟩
theorem sort_uniq {d : Nat} {B : Int} {ks ys : List (List Int)} (ok : okC d B ks = true) (pm : ys.Perm ks) (pw : ys.Pairwise fun a b => TS.code B a ≤ TS.code B b) : ys = ks.mergeSort (leC B) := by
  obtain ⟨_, hb⟩ := okC_of ok
  refine List.Perm.eq_of_pairwise (le := fun a b => TS.code B a ≤ TS.code B b) (fun a b ha hb' h1 h2 => ?_) pw ?_ (pm.trans (List.mergeSort_perm _ _).symm)
  · have a1 := hb a (pm.mem_iff.mp ha)
    have b1 := hb b ((List.mergeSort_perm ks (leC B)).mem_iff.mp hb')
    exact code_inj (a1.1.trans b1.1.symm) a1.2 b1.2 (by omega)
  · refine (List.pairwise_mergeSort (le := leC B) (fun a b c h1 h2 => ?_) (fun a b => ?_) ks).imp fun {a b} h => of_decide_eq_true h
    · have h1 := of_decide_eq_true h1
      have h2 := of_decide_eq_true h2
      exact decide_eq_true (by omega)
    · unfold leC
      rw [Bool.or_eq_true, decide_eq_true_eq, decide_eq_true_eq]
      omega
def sortI (ns : List Int) : List Int := ns.mergeSort fun a b => decide (a ≤ b)
theorem sortI_uniq {ns ys : List Int} (pm : ys.Perm ns) (pw : ys.Pairwise (· ≤ ·)) : ys = sortI ns := by
  refine List.Perm.eq_of_pairwise (le := fun a b : Int => a ≤ b) (fun a b _ _ h1 h2 => by omega) pw ?_ (pm.trans (List.mergeSort_perm _ _).symm)
  refine (List.pairwise_mergeSort (le := fun a b : Int => decide (a ≤ b)) (fun a b c h1 h2 => ?_) (fun a b => ?_) ns).imp fun {a b} h => of_decide_eq_true h
  · have h1 := of_decide_eq_true h1
    have h2 := of_decide_eq_true h2
    exact decide_eq_true (by omega)
  · rw [Bool.or_eq_true, decide_eq_true_eq, decide_eq_true_eq]
    omega
theorem Reps.perm {K : KF} {F : Hp} {ys xs : List V} (p : ys.Perm xs) : ∀ {ts : List T}, Reps K F xs ts → ∃ us, us.Perm ts ∧ Reps K F ys us := by
  induction p with
  | nil => exact fun r => ⟨_, .refl _, r⟩
  | cons x _ ih =>
    intro ts r
    cases r with
    | cons h r =>
      obtain ⟨us, p1, r1⟩ := ih r
      exact ⟨_, p1.cons _, .cons h r1⟩
  | swap x y l =>
    intro ts r
    cases r with
    | cons h r =>
      cases r with
      | cons h' r => exact ⟨_, .swap _ _ _, .cons h' (.cons h r)⟩
  | trans _ _ ih1 ih2 =>
    intro ts r
    obtain ⟨us, p1, r1⟩ := ih2 r
    obtain ⟨ws, p2, r2⟩ := ih1 r1
    exact ⟨ws, p2.trans p1, r2⟩
theorem reps_ks {K : KF} {F : Hp} {ks : List (List Int)} {us : List T} (p : us.Perm (ks.map iT)) : ∃ js : List (List Int), js.Perm ks ∧ us = js.map iT := by
  suffices h : ∀ {xs ys : List T}, xs.Perm ys → ∀ ks : List (List Int), ys = ks.map iT → ∃ js : List (List Int), js.Perm ks ∧ xs = js.map iT from h p ks rfl
  intro xs ys p
  induction p with
  | nil =>
    intro ks h
    cases ks with
    | nil => exact ⟨[], .nil, rfl⟩
    | cons _ _ => cases h
  | cons x _ ih =>
    intro ks h
    cases ks with
    | nil => cases h
    | cons k ks =>
      injection h with h1 h2
      obtain ⟨js, p1, e⟩ := ih ks h2
      exact ⟨k :: js, p1.cons _, by rw [e, h1]; rfl⟩
  | swap x y l =>
    intro ks h
    cases ks with
    | nil => cases h
    | cons k ks =>
      cases ks with
      | nil => cases h
      | cons k' ks =>
        injection h with h1 h2
        injection h2 with h2 h3
        exact ⟨k' :: k :: ks, .swap _ _ _, by rw [h1, h2, h3]; rfl⟩
  | trans _ _ ih1 ih2 =>
    intro ks h
    obtain ⟨js, p1, e⟩ := ih2 ks h
    obtain ⟨is, p2, e2⟩ := ih1 js e
    exact ⟨is, p2.trans p1, e2⟩
end DP
end
section
set_option Elab.async false
set_option linter.all false
set_option maxRecDepth 100000
namespace DP
open PySem PySem.Spec PyProof.Rows L2

/-! ### sorted of a list -/
def nSort (p : Bool × List T) : M (List T) := if p.1 = true then (match intsT p.2 with
    | some ns => .ret ((sortI ns).map .int)
    | none => match tupsT p.2 with
      | some ks => if decide (ks.length < 64) = true then (match sortK ks with
        | some js => .ret (js.map iT)
        | none => .stuck) else .stuck
      | none => .stuck)
  else .stuck
theorem callR_or {X : Cx} {f : Value} {r r' : List V → Hp → VK → Prop} (h : CallR X f r) (h' : CallR X f r') : CallR X f fun vs H Q => r vs H Q ∨ r' vs H Q := by
  intro pins s σ H xs us Q I rv q
  rcases q with q | q
  · exact h pins s σ H xs us Q I rv q
  · exact h' pins s σ H xs us Q I rv q
theorem cr_sortTs {X : Cx} : CallR X (.builtin "sorted") fun vs H Q => ∃ (d : Nat) (B : Int), 1 ≤ d ∧ rSortU X.K d B vs H Q := by
  intro pins s σ H xs us Q I rv ⟨d, B, hd, q⟩
  exact cr_sortT hd pins s σ H xs us Q I rv q
theorem pw_ks {K : KF} {F H : Hp} {B : Int} (e : Ext F H) : ∀ {ys : List V} {js : List (List Int)}, Reps K F ys (js.map iT) → ys.Pairwise (fun x y => ∀ n m, TupI K H x n → TupI K H y m → TS.code B n ≤ TS.code B m) → js.Pairwise fun a b => TS.code B a ≤ TS.code B b
  | _, [], _, _ => .nil
  | _, j :: js, .cons h r, pw => by
    cases pw with
    | cons p1 p2 =>
      refine .cons (fun k hk => ?_) (pw_ks e r p2)
      obtain ⟨a, rfl, ha⟩ := rep_iT h
      obtain ⟨i, hi, ei⟩ := List.getElem_of_mem hk
      obtain ⟨v, hv, rv⟩ := r.get' (i := i) (t := iT k) (by rw [List.getElem?_map, List.getElem?_eq_getElem hi, ei]; rfl)
      obtain ⟨b, rfl, hb⟩ := rep_iT rv
      exact p1 _ (List.mem_of_getElem? hv) j k ⟨a, rfl, sqT_ext' e ha⟩ ⟨b, rfl, sqT_ext' e hb⟩
section
variable {X : Cx} {g : Cn} {W : WX} {k i : Nat} {pos p apos : Pos} {a e : Expr} {fa : Env' → M T} {fl : Env' → M (Bool × List T)} {x : Str}
theorem dn_sorted (hm : X.mg "sorted" = none) (ha : DL X g W e fl) (hg : Gl X "sorted" := by rfl) (he : starEach (e :: []) X.env = (false, eval e X.env) :: starEach [] X.env := by rfl) (hpl : (backTo pos (starEach [] X.env)).any (·.1) = false := by rfl) (hK : X.K = g.K := by rfl) :
    DN X g W (.Call (.Name "sorted" p) [e] [] pos) (e1 nSort fl) :=
  pe_imp (pe_callB (callR_or cr_sortedI cr_sortTs) hg hm (by decide +kernel) (pa_cons ha pa_nil he) (by decide) (by decide) he hpl) fun σ H Q ⟨ρ, F, b, s, q⟩ => ⟨ρ, F, b, s, M.wp_mono (M.wp_bind.mp q) (fun b1 pp q1 d H1 F1 s1 h1 => by
    obtain ⟨ok, q2⟩ := if_of q1
    obtain ⟨vs, z1, r⟩ := h1 F1 H1 b1 (Step.refl s1.sr)
    rw [if_pos ok] at z1
    cases e1 : intsT pp.2 with
    | some ns =>
      rw [e1] at q2
      rw [intsT_eq e1] at r
      have ev := reps_ints r
      subst ev
      refine .inl ⟨d, ns, rfl, SqL.of z1, fun ns' pp' pm pw hp => ?_⟩
      rw [sortI_uniq pm pw]
      exact q2 pp' _ H1 _ F1 s1 hp rfl (ints_reps _)
    | none =>
      rw [e1] at q2
      cases e2 : tupsT pp.2 with
      | none => rw [e2] at q2; exact q2.elim
      | some ks =>
        rw [e2] at q2
        obtain ⟨few, q3⟩ := if_of q2
        have few := of_decide_eq_true few
        cases e3 : sortK ks with
        | none => rw [e3] at q3; exact q3.elim
        | some js =>
          rw [e3] at q3
          unfold sortK at e3
          by_cases ck : okC (dimI ks) (topI ks) ks = true
          · rw [if_pos ck] at e3
            cases e3
            rw [tupsT_eq e2] at r
            obtain ⟨hd, hb⟩ := okC_of ck
            refine .inr ⟨dimI ks, topI ks, hd, d, vs, rfl, SqL.of z1, by rw [r.length, List.length_map]; exact few, fun v hv => ?_, fun ys pp' pm pw hp => ?_⟩
            · obtain ⟨i, hi, ei⟩ := List.getElem_of_mem hv
              obtain ⟨t, ht, rt⟩ := r.get (i := i) (v := v) (by rw [List.getElem?_eq_getElem hi, ei])
              rw [List.getElem?_map] at ht
              cases e4 : ks[i]? with
              | none => rw [e4] at ht; cases ht
              | some k =>
                rw [e4] at ht
                cases ht
                obtain ⟨c, rfl, hc⟩ := rep_iT rt
                exact ⟨k, ⟨c, rfl, by rw [hK]; exact sqT_ext' s1.sr.sub hc⟩, hb k (List.mem_of_getElem? e4)⟩
            · obtain ⟨us, p1, r1⟩ := Reps.perm pm r
              obtain ⟨js, p2, rfl⟩ := reps_ks (K := g.K) (F := F1) p1
              rw [← sort_uniq ck p2 (pw_ks s1.sr.sub r1 (by rw [← hK]; exact pw))] at q3
              exact q3 pp' _ H1 _ F1 s1 hp rfl r1
          · rw [if_neg ck] at e3
            cases e3) fun _ _ _ z => z⟩
end
end DP
end
section
set_option Elab.async false
set_option linter.all false
set_option maxRecDepth 100000
namespace DP
open PySem PySem.Spec PyProof.Rows L2

section
variable {g : Cn} {F H : Hp} {σ : Sg} {ρ : Env'} {b i : Nat} {a : Addr} {x0 x' : Sl} {u : HO}
/-- a new object in a slot -/
theorem SR.setNew (s : SR g F H σ ρ b) (i : Nat) {p : Addr} (h : H p = none) (r : SlOk g F (upd H p u) (some (.ref p)) x') : SR g F (upd H p u) (σ.set i (some (.ref p))) (ρ.set i x') b := by
  obtain ⟨h0, ns, hf, no⟩ := s.h0 h
  have s1 := s.growU u h
  refine ⟨s1.sub, s1.f0, s1.keep, s1.new, Paired.set2 r i s1.slots, fun j k c y z jk hy hz oy oz e q => ?_, s1.strm, s1.tabs⟩
  rcases get_set hy with ⟨rfl, rfl, _⟩ | ⟨nj, hy'⟩
  · rcases get_set hz with ⟨rfl, rfl, _⟩ | ⟨nk, hz'⟩
    · exact jk rfl
    · rcases get_set e with ⟨_, e1, _⟩ | ⟨nn, _⟩
      · cases e1
        rcases get_set q with ⟨e2, _⟩ | ⟨_, q'⟩
        · exact nk e2
        · exact no ⟨k, z, hz', oz, q'⟩
      · exact nn rfl
  · rcases get_set e with ⟨e1, _⟩ | ⟨_, e'⟩
    · exact nj e1
    · rcases get_set hz with ⟨rfl, rfl, _⟩ | ⟨nk, hz'⟩
      · rcases get_set q with ⟨_, e1, _⟩ | ⟨nn, _⟩
        · cases e1
          exact no ⟨j, y, hy', oy, e'⟩
        · exact nn rfl
      · rcases get_set q with ⟨e1, _⟩ | ⟨_, q'⟩
        · exact nk e1
        · exact s.dis j k c y z jk hy' hz' oy oz e' q'
/-- an own object is changed -/
theorem SR.updAt (s : SR g F H σ ρ b) (hx : ρ[i]? = some x0) (ox : x0.isOwn = true) (hv : σ[i]? = some (some (.ref a))) (z2 : F a = none) (z3 : g.H0 a = none) (z4 : ¬ g.inS a) (r : SlOk g F (upd H a u) (some (.ref a)) x') (ox' : x'.isOwn = true) : SR g F (upd H a u) σ (ρ.set i x') b := by
  have ne : ∀ (j : Nat) (c : Addr) (z : Sl), j ≠ i → ρ[j]? = some z → z.isOwn = true → σ[j]? = some (some (.ref c)) → c ≠ a := fun j c z hj hz oz e q => by
    subst q
    exact s.dis i j c _ z (Ne.symm hj) hx hz ox oz hv e
  refine ⟨fun c o e => by rw [upd_ne (ne_of_none e z2)]; exact s.sub c o e, s.f0, fun c o e n => by rw [upd_ne (ne_of_none e z3)]; exact s.keep c o e n, s.new, ?_, ?_, fun p l e => ?_, s.tabK (Same.refl _) fun p q m => ⟨fun o e => by rw [upd_ne (Cn.tabNe z4 m)]; exact e, (s.tabs p q m).1⟩⟩
  · refine Paired.setImp s.slots hv r fun j v z hj h1 h2 q => ?_
    cases q with
    | any v => exact .any v
    | val r => exact .val r
    | own y1 y2 y3 y4 y5 => exact .own (by rw [upd_ne (ne j _ _ hj h2 rfl h1)]; exact y1) y2 y3 y4 y5
    | ownD y1 y2 y3 y4 y5 => exact .ownD (by rw [upd_ne (ne j _ _ hj h2 rfl h1)]; exact y1) y2 y3 y4 y5
    | ownS y1 y2 y3 y4 y5 => exact .ownS (by rw [upd_ne (ne j _ _ hj h2 rfl h1)]; exact y1) y2 y3 y4 y5
    | strm e => exact .strm e
    | pin h => exact .pin h
  · intro j k c y z jk hy hz oy oz e
    rcases get_set hy with ⟨rfl, rfl, _⟩ | ⟨nj, hy'⟩
    · rcases get_set hz with ⟨rfl, rfl, _⟩ | ⟨nk, hz'⟩
      · exact absurd rfl jk
      · exact s.dis _ _ _ _ _ jk hx hz' ox oz e
    · rcases get_set hz with ⟨rfl, rfl, _⟩ | ⟨nk, hz'⟩
      · exact s.dis _ _ _ _ _ jk hy' hx oy ox e
      · exact s.dis _ _ _ _ _ jk hy' hz' oy oz e
  · obtain ⟨h1, h2, h3, ns, c, n, m, q1, q2, q3⟩ := s.strm p l e
    exact ⟨h1, h2, h3, ns, c, n, m, by rw [upd_ne fun z => z4 (.inl ⟨p, l, e, .inl z.symm⟩)]; exact q1, by rw [upd_ne fun z => z4 (.inl ⟨p, l, e, .inr z.symm⟩)]; exact q2, q3⟩
end
/-! ### sets of tuples of ints -/
def ownS (i : Nat) (ρ : Env') : Option (List (List Int)) := match ρ[i]? with
  | some (.ownS ks) => some ks
  | _ => none
theorem ownS_of {i : Nat} {ρ : Env'} {ks : List (List Int)} (h : ownS i ρ = some ks) : ρ[i]? = some (.ownS ks) := by
  unfold ownS at h
  cases e : ρ[i]? with
  | none => rw [e] at h; cases h
  | some x =>
    rw [e] at h
    cases x <;> first
      | (cases h; rfl)
      | cases h
theorem SR.setAt {g : Cn} {F H : Hp} {σ : Sg} {ρ : Env'} {b i : Nat} {ks : List (List Int)} (s : SR g F H σ ρ b) (hx : ρ[i]? = some (.ownS ks)) : ∃ a L, σ[i]? = some (some (.ref a)) ∧ H a = some (g.so a L) ∧ F a = none ∧ g.H0 a = none ∧ ¬ g.inS a ∧ MemP g.K F L ks := by
  obtain ⟨v, hv, sl⟩ := Paired.get1 s.slots hx
  cases sl with
  | ownS z1 z2 z3 z4 z5 => exact ⟨_, _, hv, z1, z2, z3, z4, z5⟩
def sSet0 (i : Nat) : Env' → M Fl := fun ρ => .ret (.next (ρ.set i (.ownS [])))
def eInS (neg : Bool) (i : Nat) (fa : Env' → M T) : Env' → M T := fun ρ => (fa ρ).bind fun t => match tupI t, ownS i ρ with
  | some k, some ks => .ret (.bl (if neg = true then !decide (k ∈ ks) else decide (k ∈ ks)))
  | _, _ => .stuck
def sAddS (i : Nat) (fa : Env' → M T) : Env' → M Fl := fun ρ => match ownS i ρ with
  | some ks => (fa ρ).bind fun t => match tupI t with
    | some k => if decide (ks.length + 1 < 64) = true then .ret (.next (ρ.set i (.ownS (if k ∈ ks then ks else k :: ks)))) else .stuck
    | none => .stuck
  | none => .stuck
def retK : Option (List (List Int)) → M (List T)
  | some js => .ret (js.map iT)
  | none => .stuck
def nSortS (i : Nat) : Env' → M (List T) := fun ρ => match ownS i ρ with
  | some ks => retK (sortK ks)
  | none => .stuck
section
variable {X : Cx} {g : Cn} {W : WX} {k i : Nat} {pos p apos pos' : Pos} {a e : Expr} {fa : Env' → M T} {x y : Str}
theorem ds_set0 {hN : X.N.Nodup} (hi : X.N[i]? = some x) (hx : Loc X.env.scope x) (hm : X.mg "set" = none) (hg : Gl X "set" := by rfl) (hs : swapsWith (.Call (.Name "set" p) [] [] pos) (some (.Name x pos')) apos.line X.env = pure false := by rfl)
    (hf : X.fn x = true ∨ X.env.scope.names.lookup x = some .local := by first | exact .inl rfl | exact .inr rfl | assumption) (hso : g.so = SetTO X.prog X.w := by rfl) :
    DS X g W (.Assign [.Name x pos'] (.Call (.Name "set" p) [] [] pos) apos) (sSet0 i) :=
  ps_imp (ps_set hN hi hx (pe_callTy0 cr_set0T hg hm (by decide +kernel) (by decide) (by decide)) hs hf) fun D σ H ⟨ρ, F, b, s, q⟩ => ⟨rfl, fun p hp => by
    obtain ⟨h0, ns, hf, no⟩ := s.h0 hp
    have z : SlOk g F (upd H p (g.so p [])) (some (.ref p)) (.ownS []) := .ownS (L := []) upd_same hf h0 ns (MemP.mk (fun _ h => by cases h) (List.Perm.refl []))
    have q1 := q _ _ F (Same.refl _) (s.setNew (u := g.so p []) i hp z)
    rw [hso] at q1
    exact q1⟩
theorem inS_read {σ : Sg} {H : Hp} {Q : VK} (neg : Bool) (hK : X.K = g.K) (hso : g.so = SetTO X.prog X.w) (h : tD g W (eInS neg i fa) σ H Q) : tOp (rInT X neg) (tD g W fa) (tVar i) σ H Q := by
  obtain ⟨ρ, F, b, s, q⟩ := h
  refine ⟨ρ, F, b, s, M.wp_mono (M.wp_bind.mp q) (fun b1 t q1 v H1 F1 s1 r1 => ?_) fun _ _ _ z => z⟩
  cases e1 : tupI t with
  | none => rw [e1] at q1; exact q1.elim
  | some j =>
    cases e2 : ownS i ρ with
    | none => rw [e1, e2] at q1; exact q1.elim
    | some ks =>
      rw [e1, e2] at q1
      rw [tupI_eq e1] at r1
      obtain ⟨c, rfl, hc⟩ := rep_iT r1
      obtain ⟨d, L, y1, y2, _, _, _, y6⟩ := s1.sr.setAt (ownS_of e2)
      rw [hso] at y2
      refine ⟨_, y1, c, d, j, L, rfl, rfl, by rw [hK]; exact sqT_ext' s1.sr.sub hc, y2, fun p hp => by rw [hK]; exact sqT_ext' s1.sr.sub (y6.mem p hp), ?_⟩
      have e3 : decide (j ∈ L.map (·.2)) = decide (j ∈ ks) := decide_eq_decide.mpr y6.perm.mem_iff
      rw [e3]
      exact q1 _ H1 F1 s1 (.bl _)
theorem de_inS (hr : Room k X.A) (ha : DE X g W a fa) (hv : PE X e (tVar i)) (hm : behindInMarks .In e = false := by rfl) (hK : X.K = g.K := by rfl) (hso : g.so = SetTO X.prog X.w := by rfl) : DE X g W (.Compare a [.In] [e] pos) (eInS false i fa) :=
  pe_imp (pe_cmpR (or_inT hr.units) ha hv hm) fun σ H Q h => inS_read false hK hso h
theorem de_ninS (hr : Room k X.A) (ha : DE X g W a fa) (hv : PE X e (tVar i)) (hm : behindInMarks .NotIn e = false := by rfl) (hK : X.K = g.K := by rfl) (hso : g.so = SetTO X.prog X.w := by rfl) : DE X g W (.Compare a [.NotIn] [e] pos) (eInS true i fa) :=
  pe_imp (pe_cmpR (or_ninT hr.units) ha hv hm) fun σ H Q h => inS_read true hK hso h
theorem dt_inS (hr : Room k X.A) (ha : DE X g W a fa) (hv : PE X e (tVar i)) (hm : behindInMarks .In e = false := by rfl) (hK : X.K = g.K := by rfl) (hso : g.so = SetTO X.prog X.w := by rfl) : DT X g W (.Compare a [.In] [e] pos) (e1 boolT (eInS false i fa)) :=
  pt_imp (pt_cmpR (or_inT hr.units) ha hv hm) fun σ H Q h => inS_read false hK hso (test_read h)
theorem dt_ninS (hr : Room k X.A) (ha : DE X g W a fa) (hv : PE X e (tVar i)) (hm : behindInMarks .NotIn e = false := by rfl) (hK : X.K = g.K := by rfl) (hso : g.so = SetTO X.prog X.w := by rfl) : DT X g W (.Compare a [.NotIn] [e] pos) (e1 boolT (eInS true i fa)) :=
  pt_imp (pt_cmpR (or_ninT hr.units) ha hv hm) fun σ H Q h => inS_read true hK hso (test_read h)
theorem dn_sortedS (hc : X.calm = true) (hm : X.mg "sorted" = none) (hv : PE X e (tVar i)) (hg : Gl X "sorted" := by rfl) (he : starEach (e :: []) X.env = (false, eval e X.env) :: starEach [] X.env := by rfl) (hpl : (backTo pos (starEach [] X.env)).any (·.1) = false := by rfl) (hK : X.K = g.K := by rfl) (hso : g.so = SetTO X.prog X.w := by rfl) :
    DN X g W (.Call (.Name "sorted" p) [e] [] pos) (nSortS i) :=
  pe_imp (pe_callB (cr_sortedT hc) hg hm (by decide +kernel) (pa_cons hv pa_nil he) (by decide) (by decide) he hpl) fun σ H Q ⟨ρ, F, b, s, q⟩ => by
    unfold nSortS at q
    cases e2 : ownS i ρ with
    | none => rw [e2] at q; exact q.elim
    | some ks =>
      rw [e2] at q
      have q : (retK (sortK ks)).wp b _ _ := q
      cases e3 : sortK ks with
      | none => rw [e3] at q; exact q.elim
      | some js =>
        rw [e3] at q
        obtain ⟨d, L, y1, y2, _, _, _, y6⟩ := s.setAt (ownS_of e2)
        rw [hso] at y2
        unfold sortK at e3
        by_cases ck : okC (dimI ks) (topI ks) ks = true
        · rw [if_pos ck] at e3
          cases e3
          obtain ⟨hd, hb⟩ := okC_of ck
          refine ⟨_, y1, d, L, dimI ks, topI ks, rfl, y2, fun p hp => by rw [hK]; exact sqT_ext' s.sub (y6.mem p hp), hd, fun p hp => hb _ (y6.perm.mem_iff.mp (List.mem_map_of_mem hp)), fun L' pp pm nd few pw hp => ?_⟩
          have e4 := sort_uniq ck ((pm.map (·.2)).trans y6.perm) (List.pairwise_map.mpr pw)
          rw [← e4] at q
          refine q pp _ H _ F (Step.refl s) hp rfl ?_
          have z : ∀ M : List (Addr × List Int), (∀ p ∈ M, SqT g.K F p.1 (p.2.map V.int)) → Reps g.K F (M.map fun q => V.ref q.1) ((M.map (·.2)).map iT) := by
            intro M
            induction M with
            | nil => exact fun _ => .nil
            | cons m M ih => exact fun h => .cons (iT_rep (h m List.mem_cons_self)) (ih fun p hp => h p (List.mem_cons_of_mem _ hp))
          exact z L' fun p hp => y6.mem p (pm.mem_iff.mp hp)
        · rw [if_neg ck] at e3
          cases e3
theorem ds_addS (hr : Room k X.A) (hv : PE X a (tVar i)) (he : DE X g W e fa)
    (hbase : attributeBase a "add" X.env (eval a X.env) = eval a X.env := by rfl)
    (hfew : ((backTo pos (starEach (e :: []) X.env)).all (fun x => !x.1) && (backToKw pos (keywordEach [] X.env)).all (fun x => x.1.isSome)
      && decide ((e :: []).length + ([] : List Keyword).length + (if ([] : List Keyword).isEmpty then 0 else 1) < 30)) = true := by rfl)
    (hline : (apos.endLine == pos.line) = true := by rfl) (hs : starEach (e :: []) X.env = (false, eval e X.env) :: starEach [] X.env := by rfl) (hplain : (backTo pos (starEach [] X.env)).any (·.1) = false := by rfl)
    (hsw : swapsWith (.Call (.Attribute a "add" apos) [e] [] pos) none pos'.line X.env = pure false := by rfl) (hK : X.K = g.K := by rfl) (hso : g.so = SetTO X.prog X.w := by rfl) :
    DS X g W (.Expr (.Call (.Attribute a "add" apos) [e] [] pos) pos') (sAddS i fa) :=
  ps_imp (ps_expr (pe_addT hr.units hv (pa_cons he pa_nil hs) hbase hfew hline hs hplain) hsw) fun D σ H ⟨ρ, F, b, s, q⟩ => by
    unfold sAddS at q
    cases e2 : ownS i ρ with
    | none => rw [e2] at q; exact q.elim
    | some ks =>
      rw [e2] at q
      obtain ⟨d, L, y1, y2, y3, y4, y5, y6⟩ := s.setAt (ownS_of e2)
      have y2' := y2
      rw [hso] at y2'
      refine ⟨_, y1, ⟨d, L, rfl, y2'⟩, ρ, F, b, s, M.wp_mono (M.wp_bind.mp q) (fun b1 t q1 v H1 F1 s1 r1 => ?_) fun _ _ _ z => z.ex⟩
      cases e1 : tupI t with
      | none => rw [e1] at q1; exact q1.elim
      | some j =>
        rw [e1] at q1
        obtain ⟨few, q2⟩ := if_of q1
        have few := of_decide_eq_true few
        rw [tupI_eq e1] at r1
        obtain ⟨c, rfl, hc⟩ := rep_iT r1
        obtain ⟨d', L1, w1, w2, w3, w4, w5, w6⟩ := s1.sr.setAt (ownS_of e2)
        rw [y1] at w1
        cases w1
        have w2' := w2
        rw [hso] at w2'
        refine ⟨d, c, j, L1, rfl, rfl, by rw [hK]; exact sqT_ext' s1.sr.sub hc, w2', fun p hp => by rw [hK]; exact sqT_ext' s1.sr.sub (w6.mem p hp), ?_, fun L' g1 g2 => ?_⟩
        · have := w6.perm.length_eq
          rw [List.length_map] at this
          omega
        · have mp : MemP g.K F1 L' (if j ∈ ks then ks else j :: ks) := by
            by_cases hm : j ∈ ks
            · rw [if_pos hm, g1 (w6.perm.mem_iff.mpr hm)]
              exact w6
            · rw [if_neg hm]
              have pm := g2 fun z => hm (w6.perm.mem_iff.mp z)
              refine ⟨fun p hp => ?_, (pm.map fun p : Addr × List Int => p.2).trans (w6.perm.cons j)⟩
              rcases List.mem_cons.mp (pm.mem_iff.mp hp) with rfl | h
              · exact hc
              · exact w6.mem p h
          have z := q2 σ (upd H1 d (g.so d L')) F1 s1.ext (s1.sr.updAt (ownS_of e2) rfl y1 w3 w4 w5 (.ownS (L := L') upd_same w3 w4 w5 mp) rfl)
          rw [hso] at z
          exact z
end
end DP
end
section
set_option Elab.async false
set_option linter.all false
set_option maxRecDepth 100000
/-! enumerate of a tuple -/
namespace PySem
open Sem (wp)
open AutoSeq1 (wpAny_loadPart')
set_option maxHeartbeats 1000000 in
theorem enumT_new (t : Addr) (items : Array Value) : Meets (Builtin.«enumerate.__new__» ⟨[.type "enumerate", .ref t], []⟩) (fun _ R s => s.heap.IsTuple t items ∧
    R (.ok (.ret (.ref (s.heap.push { cls := .type "tuple_iterator", data := .fields #[.ref t, .int 0 0] }).objs.size)))
      { s with heap := (s.heap.push { cls := .type "tuple_iterator", data := .fields #[.ref t, .int 0 0] }).push { cls := .type "enumerate", data := .fields #[.none, .bool false, .ref s.heap.objs.size, rawInt 0, .none, .none] } }) :=
  .of_wp fun prog w A R s h => by
    obtain ⟨hp, g, d, tk, os⟩ := s
    obtain ⟨hl, h⟩ := h
    have hsub := sub_enumerate
    obtain ⟨⟨c, dct, dt, sl⟩, ho, hc, n, hd⟩ := id hl
    replace hc : c = .type "tuple" := hc
    replace hd : dt = .seq items n := hd
    subst hc hd
    have hL : Heap.IsTuple (Shared.heap ⟨hp, g, d, tk, os⟩) t items := hl
    wp_walk using wpAny_loadPart' ho
    refine wpAny_stack_any fun st => wpAny_pure ?_
    split
    · rename_i c _ _ _ _ _
      cases (c == Value.type "enumerate") <;>
      · wp_walk using wpAny_loadPart' ho, wpAny_pyIter_tuple hL
        exact ⟨_, rfl, h⟩
    · wp_walk using wpAny_loadPart' ho, wpAny_pyIter_tuple hL
      exact ⟨_, rfl, h⟩
theorem drawsT {prog : Program} {w : World} {A : Around} (hh : A.handled = none) (it t : Addr) (hne : t ≠ it) (items : Array Value) :
    Draws prog w A it [it, t] items.size (fun i v => items[i]? = some v) (fun i h => h.IsTupleIter it t i ∧ h.IsTuple t items) where
  live := fun _ _ st => let ⟨o, ho, _⟩ := st.1; ⟨o, ho⟩
  frame := fun _ _ _ st hk => ⟨st.1.at fun o e => hk it (by simp) o e, let ⟨o, ho, r⟩ := st.2; ⟨o, hk t (by simp) o ho, r⟩⟩
  item := fun i s Q E hi st hQ => by
    refine RZ.nextOf_tuple_item st.1 st.2 (x := items[i]) (by simp [hi]) fun h' hit' hs' => ?_
    exact hQ _ h' s.toks (by simp [hi]) ⟨hit', let ⟨o, ho, r⟩ := st.2; ⟨o, (hs'.2 t hne).trans ho, r⟩⟩ hs'
  done := fun s Q E st hE => RZ.nextOf_tuple_end hh st.1 st.2 (by simp) hE
section
variable {prog : Program} {w : World} {A : Around} {E : Value → Shared → Prop} {s : Shared}
theorem call_enumT {t : Addr} {items : Array Value} {Q : Value → Shared → Prop} (hL : s.heap.IsTuple t items)
    (h : ∀ h', IsEnum h' (s.heap.objs.size + 1) s.heap.objs.size 0 .none → h'.IsTupleIter s.heap.objs.size t 0 → h'.objs.size = s.heap.objs.size + 2 →
      (∀ b o, s.heap.get? b = some o → h'.get? b = some o) → Q (.ref (s.heap.objs.size + 1)) { s with heap := h' }) : wpAny (model prog w) A (call (.type "enumerate") [.ref t]) Q E s := by
  refine callType_new F.called_enumerate (by decide) (F.typeCall_enumerate_1 _) (F.newCall_enumerate_1 _) (fun obj => F.args_object_init_2 obj _) F.entry_enumerate_new (enumT_new t items) ⟨hL, ?_⟩
  have hz : (s.heap.push { cls := .type "tuple_iterator", data := .fields #[.ref t, .int 0 0] }).objs.size = s.heap.objs.size + 1 := Heap.size_push ..
  show _ ∧ _
  rw [hz]
  have he : IsEnum ((s.heap.push { cls := .type "tuple_iterator", data := .fields #[.ref t, .int 0 0] }).push
      { cls := .type "enumerate", data := .fields #[.none, .bool false, .ref s.heap.objs.size, rawInt 0, .none, .none] }) (s.heap.objs.size + 1) s.heap.objs.size 0 .none := by
    have y := Heap.get?_push_size (s.heap.push { cls := .type "tuple_iterator", data := .fields #[.ref t, .int 0 0] }) (o := { cls := .type "enumerate", data := .fields #[.none, .bool false, .ref s.heap.objs.size, rawInt 0, .none, .none] }) rfl
    rw [hz] at y
    exact y
  exact ⟨⟨_, he, rfl⟩, h _ he ⟨_, Heap.get?_push_of_some _ (Heap.get?_push_size _ rfl), rfl, rfl⟩ (by rw [Heap.size_push, hz]) fun b o x => Heap.get?_push_of_some _ (Heap.get?_push_of_some _ x)⟩
end
end PySem
end
section
set_option Elab.async false
set_option linter.all false
set_option maxRecDepth 100000
namespace DP
open PySem PySem.Spec PyProof.Rows L2
/-- the tuple at a, each item in a new pair with its place -/
def IteT (K : PySem.W.Frag) (a : Addr) (n : Nat) : It where
  go := fun i H => ∃ (xs : List V) (x : V), SqT K H a xs ∧ xs.length = n ∧ xs[i]? = some x
  yld := fun i H v H' => ∃ T x, v = .ref T ∧ H T = none ∧ H' = upd H T (.tup [.int (i : Nat), x]) ∧ ∀ xs, SqT K H a xs → xs[i]? = some x
  stop := fun i H => ∃ xs : List V, SqT K H a xs ∧ xs.length = n ∧ xs.length ≤ i
theorem turn_enumT {P : Program} {w : World} {K : PySem.W.Frag} {elts : List Expr} {kk : Nat} {tpos : Pos} (a e it : Addr) (n : Nat) :
    Turn P w K (.Tuple elts kk tpos) (IteT K a n) [e, it] e (fun i h => (∃ old, IsEnum h e it ((i : Nat) : Int) old) ∧ h.IsTupleIter it a i ∧ e ≠ it ∧ e ≠ a ∧ it ≠ a ∧ i ≤ n) where
  mem := by simp
  obj := fun i h st b hb => by
    obtain ⟨⟨old, he⟩, ⟨o, ho, hc, hd⟩, _⟩ := st
    rcases (by simpa using hb : b = e ∨ b = it) with rfl | rfl
    · exact ⟨_, he, fun v q => nomatch q⟩
    · exact ⟨o, ho, fun v q => by rw [hd] at q; cases q⟩
  keep := fun i h h' st k => by
    obtain ⟨⟨old, he⟩, hi, n1⟩ := st
    exact ⟨⟨old, k e (by simp) _ he⟩, hi.at fun o q => k it (by simp) o q, n1⟩
  item := by
    intro X hP hw hK hc i pins s σ H E I hf st hg
    subst hP hw hK
    obtain ⟨⟨old, he⟩, hit, hne, n2, n3, n4⟩ := st
    obtain ⟨xs, x, hq, hn, hx⟩ := hg
    obtain ⟨its, rv, p, hz⟩ := I.tuple hq
    obtain ⟨u, hu, ru⟩ := rv.get hx
    have hel : e < s.heap.objs.size := Heap.lt_size he
    have hil : it < s.heap.objs.size := by
      obtain ⟨_, q, _⟩ := hit
      exact Heap.lt_size q
    have hlt : i < its.toArray.size := by
      have := (List.getElem?_eq_some_iff.mp hu).1
      simpa using this
    refine wpAny_pyNext_enum_itemD (drawsT (by show X.A.handled = none; exact I.ok.hd hc) it a (Ne.symm n3) its.toArray) he ⟨hit, p⟩ hlt hne (by simp [hne, n2]) fun v h' tk hv ho hit' hT hsz hk => ?_
    have ev : v = u := by
      rw [List.getElem?_toArray, hu] at hv
      exact (Option.some.inj hv).symm
    subst ev
    refine ⟨_, rfl, wpAny_letOwnedTupleGo_enum (s := { s with heap := h', toks := tk + 1 }) ho fun h'' he' sb => ?_⟩
    have hT2 := (sb.2 _ (Nat.ne_of_gt hel)).trans hT
    have new : ObjOk X.prog X.w (upd H s.heap.objs.size (.tup [.int (i : Nat), x])) h'' s.heap.objs.size (.tup [.int (i : Nat), x]) :=
      ⟨by show 2 ≤ sizeLine; decide, [.int i tk, v], .cons ⟨_, rfl⟩ (.cons ru .nil), ⟨_, hT2, rfl, _, rfl⟩⟩
    have I1 : Inv X pins σ (upd H s.heap.objs.size (.tup [.int (i : Nat), x])) { s with heap := h'', toks := tk + 1 } :=
      I.turnedNew (ch := [e, it]) (fun b ob hb q => (sb.2 b (fun z => hb (by simp [z]))).trans (hk b ob (fun z => hb (by simp [z])) (fun z => hb (by simp [z])) q)) hf (Nat.le_refl _) new
    refine ⟨.ref s.heap.objs.size, _, I1, rfl, ⟨_, x, rfl, I.hok.fresh (Nat.le_refl _), rfl, fun ys hy => by rw [I.tuple_inj hy hq]; exact hx⟩, ⟨⟨v, ?_⟩, hit'.1.at fun o q => (sb.2 it (Ne.symm hne)).trans q, hne, n2, n3, by have := (List.getElem?_eq_some_iff.mp hx).1; omega⟩, fun b hb => ?_⟩
    · rw [show ((i + 1 : Nat) : Int) = (i : Int) + 1 by omega]
      exact he'
    · have hb' : b < s.heap.objs.size := by
        rcases (by simpa using hb : b = e ∨ b = it) with rfl | rfl
        · exact hel
        · exact hil
      rw [upd_ne (Nat.ne_of_lt hb')]
      exact (hf b hb).1
  done := by
    intro X hP hw hK hc i pins s σ H E I hf st hg
    subst hP hw hK
    obtain ⟨⟨old, he⟩, hit, hne, n2, n3, n4⟩ := st
    obtain ⟨xs, hq, hn, hx⟩ := hg
    obtain ⟨its, rv, p, hz⟩ := I.tuple hq
    obtain ⟨f0, f1, f2, f3, f4, f5⟩ := hf it (by simp)
    have hl := rv.length
    have ei : i = its.toArray.size := by
      show i = its.length
      omega
    subst ei
    exact wpAny_pyNext_enum_endD (drawsT (by show X.A.handled = none; exact I.ok.hd hc) it a (Ne.symm n3) its.toArray) he ⟨hit, p⟩ fun h' eb => ⟨rfl, I.turned (t' := s.toks) (fun b o hb q => eb b o hb q) f0 f1 f3 f4 f5⟩
  self := fun A i s Q E st h => by
    obtain ⟨⟨_, he⟩, _⟩ := st
    exact wpAny_pyIter_enum he h
/-- enumerate of a list or of a tuple -/
def iEnumB (K : PySem.W.Frag) (ta : TA) : TI := fun σ H R => ta σ H fun vs H1 => ∃ a xs, vs = [.ref a] ∧ ((SqL K H1 a xs ∧ R (Ite K a) H1) ∨ (SqT K H1 a xs ∧ R (IteT K a xs.length) H1))
theorem pi_enumB {X : Cx} {e : Expr} {ta : TA} {p pos tpos : Pos} {elts : List Expr} {kk : Nat} (hg : Gl X "enumerate") (hm : X.mg "enumerate" = none) (ha : PA X [e] ta)
    (hs : starEach [e] X.env = [(false, eval e X.env)] := by rfl) : PI X (.Tuple elts kk tpos) (.Call (.Name "enumerate" p) [e] [] pos) (iEnumB X.K ta) := by
  refine ⟨fun pins s σ H R I h => ?_⟩
  refine Call_ (ld_blt I hg hm boot_enumerate ?_)
  refine PyProof.Rows.callWith_type1 (thn (ha.run pos pins s σ H _ I h) fun us s1 hh => ?_) hs rfl
  obtain ⟨vs, H1, I1, r1, a, xs, rfl, hq⟩ := hh
  cases r1 with
  | cons r rr =>
    cases rr
    cases r
    have late : ∀ b, (b = s1.heap.objs.size + 1 ∨ b = s1.heap.objs.size) → s1.heap.objs.size ≤ b := fun b h => by
      rcases h with rfl | rfl
      · exact Nat.le_add_right _ _
      · exact Nat.le_refl _
    rcases hq with ⟨hq, q⟩ | ⟨hq, q⟩
    · obtain ⟨its, rv, p', hz⟩ := I1.list hq
      refine call_enumerate_list p'.isList fun h' he hit hsz hk => wpAny_pyIter_enum he ?_
      have I2 : Inv X pins σ H1 { s1 with heap := h' } := I1.kept (t' := s1.toks) hk
      refine ⟨s1.heap.objs.size + 1, [s1.heap.objs.size + 1, s1.heap.objs.size], _, _, H1, rfl, I2,
        turn_enum a (s1.heap.objs.size + 1) s1.heap.objs.size, ⟨⟨.none, he⟩, hit, Nat.succ_ne_self _⟩, fun b hb => ?_, q⟩
      have hle := late b (by simpa using hb)
      exact I1.fpOk hle (I1.hok.fresh hle)
    · obtain ⟨its, rv, p', hz⟩ := I1.tuple hq
      have hal : a < s1.heap.objs.size := by
        obtain ⟨o, ho, _⟩ := p'
        exact Heap.lt_size ho
      refine call_enumT p' fun h' he hit hsz hk => wpAny_pyIter_enum he ?_
      have I2 : Inv X pins σ H1 { s1 with heap := h' } := I1.kept (t' := s1.toks) hk
      refine ⟨s1.heap.objs.size + 1, [s1.heap.objs.size + 1, s1.heap.objs.size], _, _, H1, rfl, I2, turn_enumT a (s1.heap.objs.size + 1) s1.heap.objs.size xs.length,
        ⟨⟨.none, he⟩, hit, Nat.succ_ne_self _, Nat.ne_of_gt (Nat.lt_succ_of_lt hal), Nat.ne_of_gt hal, Nat.zero_le _⟩, fun b hb => ?_, q⟩
      have hle := late b (by simpa using hb)
      exact I1.fpOk hle (I1.hok.fresh hle)
end DP
end
section
set_option Elab.async false
set_option linter.all false
set_option maxRecDepth 100000
namespace DP
open PySem PySem.Spec PyProof.Rows L2
/-- enumerate of a list or of a tuple -/
def enumB : List T → M (List T)
  | [.lst ts] => .ret (enumL ts)
  | [.tup ts] => .ret (enumL ts)
  | [.pn _ ts] => .ret (enumL ts)
  | _ => .stuck
section
variable {X : Cx} {g : Cn} {W : WX} {k : Nat} {pos p tpos : Pos} {a c tg : Expr} {elts : List Expr} {kk : Nat} {fs : Env' → M (List T)}
theorem wk_enumT {b : Addr} {F : Hp} {vs : List V} {ts : List T} (hK : X.K = g.K) (h : SqT g.K F b vs) (r : Reps g.K F vs ts) : Wk g (IteT X.K b vs.length) F (enumL ts) where
  go := fun i F2 H e1 e2 hi => by
    have hi : i < ts.length := by simpa [enumL] using hi
    exact ⟨vs, vs[i]'(by rw [r.length]; exact hi), by rw [hK]; exact sqT_ext' (e1.trans e2) h, rfl, by simp [r.length, hi]⟩
  stop := fun F2 H e1 e2 => ⟨vs, by rw [hK]; exact sqT_ext' (e1.trans e2) h, rfl, by rw [r.length]; simp [enumL]⟩
  yld := fun i F2 H x H' t e1 e2 ht y => .inr (by
    obtain ⟨q, z, rfl, hq, rfl, hz⟩ := y
    have hv := hz vs (by rw [hK]; exact sqT_ext' (e1.trans e2) h)
    obtain ⟨u, hu, ru⟩ := r.get hv
    have et : (enumL ts)[i]? = some (.tup [.int (i : Nat), u]) := by unfold enumL; rw [List.getElem?_mapIdx, hu]; rfl
    rw [et] at ht
    cases ht
    exact ⟨q, _, _, hq, rfl, rfl, rfl, .cons (.int _) (.one (ru.ext e1))⟩)
theorem di_enumB (hm : X.mg "enumerate" = none) (ha : DA X g W [a] fs) (hg : Gl X "enumerate" := by rfl) (hs : starEach [a] X.env = [(false, eval a X.env)] := by rfl) (hK : X.K = g.K := by rfl) : DI X g W (.Tuple elts kk tpos) (.Call (.Name "enumerate" p) [a] [] pos) (e1 enumB fs) :=
  pi_imp (pi_enumB hg hm ha hs) fun σ H R ⟨ρ, F, b, s, q⟩ => ⟨ρ, F, b, s, M.wp_mono (M.wp_bind.mp q) (fun b1 ts q1 vs H1 F1 s1 r => by
    rcases r with _ | ⟨r1, _ | ⟨r2, r3⟩⟩
    · exact q1.elim
    · cases r1 with
      | lst h1 h2 => exact ⟨_, _, rfl, .inl ⟨SqL.of (s1.sr.sub _ _ h1), q1 _ F1 H1 s1 (wk_enum hK h1 h2)⟩⟩
      | pn h1 h2 => exact ⟨_, _, rfl, .inl ⟨SqL.of (s1.sr.sub _ _ h1), q1 _ F1 H1 s1 (wk_enum hK h1 h2)⟩⟩
      | tup h1 h2 => exact ⟨_, _, rfl, .inr ⟨by rw [hK]; exact sqT_ext' s1.sr.sub h1, q1 _ F1 H1 s1 (wk_enumT hK h1 h2)⟩⟩
      | _ => exact q1.elim
    · cases r1 <;> exact q1.elim) fun _ _ _ z => z⟩
end
end DP
end
section
set_option Elab.async false
set_option linter.all false
set_option maxRecDepth 100000
namespace DP
open PySem PySem.Spec PyProof.Rows L2

/-! ### a law's own call: the stream is made of the script, then the body runs -/
def spStream (K : KF) : Sp := fun vs H Q _ => ∃ (a : Addr) (ns : List Int), vs = [.ref a] ∧ SqL K H a (ns.map V.int) ∧ ∀ s l, H s = none → H l = none → s ≠ l → Q (.ref s) (upd (upd H l (.lst (ns.map V.int))) s (.lst [.ref l, .int 0, .int 0, .int 17]))
theorem stream_len {K : KF} {vs : List V} {H : Hp} {Q : VK} {E : XK} (h : spStream K vs H Q E) : vs.length = 1 := by
  obtain ⟨a, ns, rfl, _⟩ := h
  rfl
theorem stream_read {X : Cx} {K : KF} (hK : X.K = K) {vs : List V} {H : Hp} {Q : VK} {E : XK} (h : spStream K vs H Q E) : tRet (tLst (tCons (tCB (fun xs H Q => ∃ p ys, xs = [.ref p] ∧ (SqL X.K H p ys ∨ SqT X.K H p ys) ∧ ∀ l, H l = none → Q (.ref l) (upd H l (.lst ys))) (tCons (tVar 0) tNil))
    (tCons (tC (.int 0)) (tCons (tC (.int 0)) (tCons (tC (.int 17)) tNil))))) { nx := fun _ H' => Q .non H', rt := Q } (start ["script"] vs) H := by
  obtain ⟨a, ns, rfl, h1, h2⟩ := h
  refine ⟨_, rfl, a, _, rfl, .inl (by rw [hK]; exact h1), fun l hl => ⟨(by show 4 ≤ sizeLine; decide), fun s hs => ?_⟩⟩
  have ne : s ≠ l := fun e => by rw [e, upd_same] at hs; cases hs
  rw [upd_ne ne] at hs
  exact h2 s l hs hl ne
def spLaw (K : KF) : Sp := fun vs H Q _ => ∃ (a : Addr) (ns : List Int), vs = [.ref a] ∧ SqL K H a (ns.map V.int) ∧ ∀ H', Q (.bl true) H'
theorem any_all {g : Cn} {F H : Hp} : ∀ σ : Sg, Paired (SlOk g F H) σ (List.replicate σ.length Sl.any)
  | [] => .nil
  | v :: σ => .cons (.any v) (any_all σ)
def tLaw (K : KF) (Xc : Str → Addr × Str) (so : Addr → List (Addr × List Int) → HO) (TT : List (Addr × Str)) (W : WX) (G : Env' → M Fl) : TS := fun D σ H => ∃ s l, tDS ⟨K, H, fun _ => none, some (s, l), Xc, none, so, TT⟩ W G D σ H
section
variable {P : Program} {w : World} {K : KF} {mg : Str → Option Value} {base : Heap} {Xc : Str → Addr × Str} {x qual : Str} {sd st0 : Stmt} {rest : List Stmt} {fa : Addr} {fd : FuncData} {N : List Str} {k i : Nat} {G : Env' → M Fl}
theorem law_deep (F : Fun K x qual sd fa fd) (S : FnScope N ["script"] (defScope sd)) (hb : defBody sd = st0 :: rest)
    (h0 : ∀ (cdv : Value) (A : Around) (outer : List Env) (s : Shared) (H : Hp) (E : XK), Room k (A.deeper (envOfC qual (defScope sd) s.heap.objs.size fa cdv)) →
      PS (cxOf (L2.CX P w) P w K mg base N qual (defScope sd) fa cdv A outer s H E) st0 (tAsg (tCall (spStream K) [] E0 (tCons (tVar 0) tNil)) (gName i)))
    (body : ∀ (cdv : Value) (A : Around) (outer : List Env) (s : Shared) (H : Hp) (E : XK) (H0 : Hp) (S0 : Option (Addr × Addr)), Room k (A.deeper (envOfC qual (defScope sd) s.heap.objs.size fa cdv)) →
      DSs (cxOf (L2.CX P w) P w K mg base N qual (defScope sd) fa cdv A outer s H E) ⟨K, H0, fun _ => none, S0, Xc, none, SetTO P w, []⟩ (fun cls d _ H => E cls d H) rest G)
    (good : (G ((List.replicate N.length Sl.any).set i .strm)).wp (10 ^ 13) (fun _ fl => fl = .ret (.bl true)) fun _ _ _ => False) : FnOk P w K mg base (L2.CX P w) (k + 1) fa fd ["script"] (spLaw K) := by
  refine F.okX S (fun vs H Q E h => ?_) fun cdv A outer sh H vs Q E hr h => ?_
  · obtain ⟨a, ns, rfl, _⟩ := h
    rfl
  obtain ⟨a, ns, rfl, h1, h2⟩ := h
  have hN : 1 ≤ N.length := by
    have := congrArg List.length S.pre
    rw [List.length_take] at this
    simp at this
    omega
  have z0 : (L2.start N [V.ref a])[0]? = some (some (V.ref a)) := rfl
  have zl : (L2.start N [V.ref a]).length = N.length := by
    unfold L2.start
    simp
    omega
  generalize hσ : L2.start N [V.ref a] = σ at z0 zl
  rw [hb]
  refine ⟨_, pss_cons (h0 cdv A outer sh H E hr) (PSs.mk (t := tLaw K Xc (SetTO P w) [] (fun cls d _ H => E cls d H) G) fun pins s σ1 H1 D I q => ?_), ?_⟩
  · obtain ⟨s', l', q⟩ := q
    exact (body cdv A outer sh H E H1 (some (s', l')) hr).run pins s σ1 H1 D I q
  · refine ⟨_, z0, a, ns, rfl, h1, fun s l hs hl ne => ?_⟩
    refine ⟨s, l, (List.replicate N.length Sl.any).set i .strm, fun _ => none, 10 ^ 13, ⟨fun _ _ e => (nomatch e), Same.refl _, fun _ _ e _ => e, fun _ _ _ e => e, ?_, fun j j' c y z _ hy _ oy _ => ?_, fun p q e => ?_, fun p q m => absurd m List.not_mem_nil⟩, M.wp_mono good (fun b fl z => ?_) fun _ _ _ z => z.elim⟩
    · rw [← zl]
      exact Paired.set2 (.strm rfl) i (any_all σ)
    · have : y.isOwn = false := by
        rcases List.mem_or_eq_of_mem_set (List.mem_of_getElem? hy) with h | h
        · rw [(List.mem_replicate.mp h).2]; rfl
        · rw [h]; rfl
      rw [this] at oy
      cases oy
    · cases e
      exact ⟨rfl, rfl, ne, ns, 0, 0, 17, upd_same, by rw [upd_ne ne.symm]; exact upd_same, by decide, by decide, by decide, by decide, by decide⟩
    · subst z
      exact fun v σ' ρ' H' F' _ _ r => by
        cases r
        exact h2 H'
end
end DP
end
section
set_option Elab.async false
set_option linter.all false
set_option maxRecDepth 100000
namespace DP
open PySem PySem.Spec PyProof.Rows L2
/-- sum of a list of ints -/
def sumT : List T → M T
  | [.lst ts] => match intsT ts with
    | some ns => .ret (.int ns.sum)
    | none => .stuck
  | _ => .stuck
def min2T : List T → M T
  | [.int i, .int j] => .ret (.int (if j < i then j else i))
  | _ => .stuck
def max2T : List T → M T
  | [.int i, .int j] => .ret (.int (if j > i then j else i))
  | _ => .stuck
section
variable {X : Cx} {g : Cn} {W : WX} {k : Nat} {pos p p2 pos2 : Pos} {a e : Expr} {fa fe : Env' → M T}
theorem c_sum (hK : X.K = g.K) : Cal g W (rSum X.K) sumT := fun σ ρ F H b vs ts Q s r q => by
  rcases r with _ | ⟨r1, _ | ⟨r2, r3⟩⟩
  · exact q.elim
  · cases r1 with
    | @lst a vs ts h1 h2 =>
      have q : (match intsT ts with | some ns => M.ret (T.int ns.sum) | none => .stuck).wp b _ _ := q
      cases e1 : intsT ts with
      | none => rw [e1] at q; exact q.elim
      | some ns =>
        rw [e1] at q
        rw [intsT_eq e1] at h2
        rw [reps_ints h2] at h1
        exact ⟨a, ns, rfl, SqL.of (s.sub _ _ h1), q _ H F (Step.refl s) (.int _)⟩
    | _ => exact q.elim
  · cases r1 <;> exact q.elim
theorem c_min2 : Cal g W (fun xs H Q => ∃ i j, xs = [V.int i, V.int j] ∧ Q (.int (if j < i then j else i)) H) min2T := fun σ ρ F H b vs ts Q s r q => by
  rcases r with _ | ⟨r1, _ | ⟨r2, _ | ⟨r3, r4⟩⟩⟩
  · exact q.elim
  · cases r1 <;> exact q.elim
  · cases r1 <;> first
      | exact q.elim
      | (cases r2 <;> first
          | exact q.elim
          | exact ⟨_, _, rfl, q _ H F (Step.refl s) (.int _)⟩)
  · cases r1 <;> first
      | exact q.elim
      | (cases r2 <;> exact q.elim)
theorem c_max2 : Cal g W (fun xs H Q => ∃ i j, xs = [V.int i, V.int j] ∧ Q (.int (if j > i then j else i)) H) max2T := fun σ ρ F H b vs ts Q s r q => by
  rcases r with _ | ⟨r1, _ | ⟨r2, _ | ⟨r3, r4⟩⟩⟩
  · exact q.elim
  · cases r1 <;> exact q.elim
  · cases r1 <;> first
      | exact q.elim
      | (cases r2 <;> first
          | exact q.elim
          | exact ⟨_, _, rfl, q _ H F (Step.refl s) (.int _)⟩)
  · cases r1 <;> first
      | exact q.elim
      | (cases r2 <;> exact q.elim)
end
/-- list(range(a)), list(range(a, b)) -/
def rgT (a b : Int) : List T := (List.range (b - a).toNat).map fun i => T.int (a + (i : Nat))
def okRg (a b : Int) : Bool := decide (-(2 ^ 62) ≤ a) && (decide (a < 2 ^ 62) && (decide (-(2 ^ 62) ≤ b) && (decide (b < 2 ^ 62) && decide ((b - a).toNat ≤ 2 ^ 20))))
theorem okRg_of {a b : Int} (h : okRg a b = true) : RgOk a b := by
  unfold okRg at h
  rw [Bool.and_eq_true, Bool.and_eq_true, Bool.and_eq_true, Bool.and_eq_true] at h
  obtain ⟨h1, h2, h3, h4, h5⟩ := h
  exact ⟨of_decide_eq_true h1, of_decide_eq_true h2, of_decide_eq_true h3, of_decide_eq_true h4, Nat.le_trans (of_decide_eq_true h5) (by decide)⟩
theorem rg_reps {K : KF} {F : Hp} (a b : Int) : Reps K F (rgV a b) (rgT a b) := by
  unfold rgV rgT
  induction List.range (b - a).toNat with
  | nil => exact .nil
  | cons i l ih => exact .cons (.int _) ih
def nRg1 : T → M (List T)
  | .int j => if okRg 0 j = true then .ret (rgT 0 j) else .stuck
  | _ => .stuck
def nRg2 : T → T → M (List T)
  | .int i, .int j => if okRg i j = true then .ret (rgT i j) else .stuck
  | _, _ => .stuck
section
variable {X : Cx} {g : Cn} {W : WX} {k : Nat} {pos p p2 pos2 : Pos} {a c : Expr} {fa fc : Env' → M T}
theorem dn_listRg1 (hc : X.calm = true) (hm : X.mg "list" = none) (hm2 : X.mg "range" = none) (ha : DE X g W a fa) (hg : Gl X "list" := by rfl) (hg2 : Gl X "range" := by rfl)
    (na : starEach [.Call (.Name "range" p) [a] [] pos] X.env = (false, eval (.Call (.Name "range" p) [a] [] pos) X.env) :: starEach [] X.env := by rfl) (nb : starEach [a] X.env = (false, eval a X.env) :: starEach [] X.env := by rfl) :
    DN X g W (.Call (.Name "list" p2) [.Call (.Name "range" p) [a] [] pos] [] pos2) (e1 nRg1 fa) :=
  pe_imp (pe_listRg hc hg hm (prg_1 hg2 hm2 ha nb) na) fun σ H Q ⟨ρ, F, b, s, q⟩ => ⟨ρ, F, b, s, M.wp_mono (M.wp_bind.mp q) (fun b1 t q1 v H1 F1 s1 r1 => by
    cases t with
    | int j =>
      cases r1
      obtain ⟨ok, q2⟩ := if_of q1
      exact ⟨j, rfl, okRg_of ok, fun q hq => q2 q _ H1 _ F1 s1 hq rfl (rg_reps _ _)⟩
    | _ => exact q1.elim) fun _ _ _ z => z⟩
theorem dn_listRg2 (hc : X.calm = true) (hm : X.mg "list" = none) (hm2 : X.mg "range" = none) (ha : DE X g W a fa) (hc' : DE X g W c fc) (hg : Gl X "list" := by rfl) (hg2 : Gl X "range" := by rfl)
    (na : starEach [.Call (.Name "range" p) [a, c] [] pos] X.env = (false, eval (.Call (.Name "range" p) [a, c] [] pos) X.env) :: starEach [] X.env := by rfl) (n1 : starEach [a, c] X.env = (false, eval a X.env) :: starEach [c] X.env := by rfl) (n2 : starEach [c] X.env = (false, eval c X.env) :: starEach [] X.env := by rfl)
    (hp : (backTo pos (starEach [c] X.env)).any (·.1) = false := by rfl) : DN X g W (.Call (.Name "list" p2) [.Call (.Name "range" p) [a, c] [] pos] [] pos2) (e2 nRg2 fa fc) :=
  pe_imp (pe_listRg hc hg hm (prg_2 hg2 hm2 ha hc' n1 n2 hp) na) fun σ H Q ⟨ρ, F, b, s, q⟩ => ⟨ρ, F, b, s, M.wp_mono (wp2.mp q) (fun b1 t q1 v H1 F1 s1 r1 => ⟨ρ, F1, b1, s1.sr, M.wp_mono q1 (fun b2 u q2 w H2 F2 s2 r2 => by
    cases t with
    | int i =>
      cases r1
      cases u with
      | int j =>
        cases r2
        obtain ⟨ok, q3⟩ := if_of q2
        exact ⟨i, j, rfl, rfl, okRg_of ok, fun q hq => q3 q _ H2 _ F2 (s1.trans s2) hq rfl (rg_reps _ _)⟩
      | _ => exact q2.elim
    | _ => exact q2.elim) fun b' c' t' z => EX.step s1 b' c' t' z⟩) fun _ _ _ z => z⟩
end
end DP
end
section
set_option Elab.async false
set_option linter.all false
set_option maxRecDepth 100000
namespace DP
open PySem PySem.Spec PyProof.Rows L2
/-! ### a, b, .. = x, y, .. by a tuple that is unpacked at once -/
def setAll : Env' → List Nat → List Pd → Env'
  | ρ, i :: is, d :: ds => setAll (ρ.set i d.sl) is ds
  | ρ, _, _ => ρ
section
variable {X : Cx} {g : Cn} {W : WX} {k i : Nat} {pos p : Pos} {a c e : Expr} {es tgs : List Expr} {F H : Hp} {σ : Sg} {ρ : Env'} {b : Nat} {v : V} {d : Pd} {x : Str} {is : List Nat} {fp : Env' → M (List Pd)}
theorem Pds.set : ∀ {vs : List V} {ds : List Pd}, (∀ ts, d = .own ts → ∀ (j : Nat) ts', ds[j]? = some (.own ts') → vs[j]? ≠ some v) → Pds g σ ρ F H vs ds → Pds g (σ.set i (some v)) (ρ.set i d.sl) F H vs ds
  | _, _, _, .nil => .nil
  | _, _, h, .cons r1 r2 r3 => .cons (r1.set fun ts e ts' e' z => h ts e 0 ts' (by rw [e']; rfl) (by rw [z]; rfl)) (Pds.set (fun ts e j ts' q => h ts e (j + 1) ts' (by simpa using q)) r2) r3
theorem PdOk.grow {u : HO} {q : Addr} (s : SR g F H σ ρ b) (hq : H q = none) : ∀ {v : V} {d : Pd}, PdOk g σ ρ F H v d → PdOk g σ ρ F (upd H q u) v d
  | _, _, .val r => .val r
  | _, _, .own h1 h2 h3 h4 h5 h6 => .own (by rw [upd_ne (ne_of_none h1 hq)]; exact h1) h2 h3 h4 h5 h6
theorem Pds.grow {u : HO} {q : Addr} (s : SR g F H σ ρ b) (hq : H q = none) : ∀ {vs : List V} {ds : List Pd}, Pds g σ ρ F H vs ds → Pds g σ ρ F (upd H q u) vs ds
  | _, _, .nil => .nil
  | _, _, .cons r1 r2 r3 => .cons (r1.grow s hq) (Pds.grow s hq r2) r3
theorem Pds.length : ∀ {vs : List V} {ds : List Pd}, Pds g σ ρ F H vs ds → vs.length = ds.length
  | _, _, .nil => rfl
  | _, _, .cons _ r _ => by simp [Pds.length r]
def tDGP (g : Cn) (is : List Nat) : TGs := fun vs σ H Q => ∃ ρ F b ds, SR g F H σ ρ b ∧ Pds g σ ρ F H vs ds ∧ ds.length = is.length ∧ ∀ σ', SR g F H σ' (setAll ρ is ds) b → Q σ' H
abbrev DGP (X : Cx) (g : Cn) (es : List Expr) (is : List Nat) : Prop := PGs X es (tDGP g is)
theorem dgp_nil : DGP X g [] [] := pgs_imp pgs_nil fun vs σ H Q ⟨ρ, F, b, ds, s, r, hl, q⟩ => by
  cases r with
  | nil => exact ⟨rfl, q σ s⟩
  | cons _ _ _ => cases hl
theorem dgp_cons (hN : X.N.Nodup) (hi : X.N[i]? = some x) (hx : Loc X.env.scope x) (h : DGP X g tgs is) (hf : X.fn x = true ∨ X.env.scope.names.lookup x = some .local := by first | exact .inl rfl | exact .inr rfl | assumption)
    (hs : (assignEach (.Name x p :: tgs) X.env).map (·.2) = assign (.Name x p) X.env :: (assignEach tgs X.env).map (·.2) := by rfl) : DGP X g (.Name x p :: tgs) (i :: is) :=
  pgs_imp (pgs_cons (pg_name hN hi hx hf) h hs) fun vs σ H Q ⟨ρ, F, b, ds, s, r, hl, q⟩ => by
    cases r with
    | nil => cases hl
    | cons r1 r2 r3 => exact ⟨_, _, rfl, _, F, b, _, s.setP i r1, Pds.set r3 r2, by simpa using hl, q⟩
def sParN (is : List Nat) (fp : Env' → M (List Pd)) : Env' → M Fl := fun ρ => (fp ρ).bind fun ds => if decide (ds.length = is.length) = true then .ret (.next (setAll ρ is ds)) else .stuck
theorem ds_parN {n kt k2 : Nat} {pt pt2 : Pos} (hc : X.calm = true) (ha : PA X es (tDP g W fp)) (h : DGP X g tgs is) (hl : is.length = n ∧ n ≤ 1000 := by exact ⟨rfl, by decide⟩) (hn : (assignEach tgs X.env).length = n := by rfl) (hst : (assignEach tgs X.env).findIdx? (·.1) = none := by rfl)
    (hs : swapsWithSole [.Tuple tgs kt pt] (.Tuple es k2 pt2) pos.line X.env = pure false := by rfl) (hw : swappedStores [.Tuple tgs kt pt] (.Tuple es k2 pt2) X.env = pure none := by rfl)
    (h1 : (assignEach [.Tuple tgs kt pt] X.env).map (·.2) = [assign (.Tuple tgs kt pt) X.env] := by rfl) : DS X g W (.Assign [.Tuple tgs kt pt] (.Tuple es k2 pt2) pos) (sParN is fp) :=
  ps_imp (ps_asg (pe_tup ha) (pg_tup hc h hn hst) hs hw h1) fun D σ H ⟨ρ, F, b, s, q⟩ => ⟨ρ, F, b, s, M.wp_mono (M.wp_bind.mp q) (fun b1 ds q1 vs H1 F1 s1 r _ => by
    obtain ⟨ok, q2⟩ := if_of q1
    have ok := of_decide_eq_true ok
    have lv : vs.length = n := by rw [r.length, ok, hl.1]
    refine ⟨by rw [lv, sizeLine_eq]; have := hl.2; omega, fun t ht => ?_⟩
    have s2 := s1.sr.growU (.tup vs) ht
    exact ⟨t, vs, rfl, SqT.of upd_same, lv, ρ, F1, b1, ds, s2, r.grow s1.sr ht, ok, fun σ' s' => q2 σ' _ F1 s1.ext s'⟩) fun _ _ _ z => z.ex⟩
end
end DP
end
section
set_option Elab.async false
set_option linter.all false
set_option maxRecDepth 100000
namespace DP
open PySem PySem.Spec PyProof.Rows L2

/-! ### try: return .. except X as e: return .. -/
def M.tryC {α : Type} (c : Str) (L : List Str) (h : T → M α) : M α → M α
  | .ret a => .ret a
  | .draw n k => .draw n fun d => M.tryC c L h (k d)
  | .exc c' t => if c' = c then h t else if c' ∈ L then .exc c' t else .stuck
  | .stuck => .stuck
theorem M.wp_try {α : Type} {c : Str} {L : List Str} {h : T → M α} {Q : Nat → α → Prop} {E : Nat → Str → T → Prop} : ∀ {m : M α} {b : Nat}, (M.tryC c L h m).wp b Q E → m.wp b Q fun b' c' t => (c' = c ∧ (h t).wp b' Q E) ∨ (c' ≠ c ∧ c' ∈ L ∧ E b' c' t)
  | .ret _, _, z => z
  | .draw _ k, _, z => ⟨z.1, z.2.1, fun d h1 h2 => M.wp_try (m := k d) (z.2.2 d h1 h2)⟩
  | .exc c' t, b, z => by
    have z : (if c' = c then h t else if c' ∈ L then M.exc c' t else .stuck).wp b Q E := z
    by_cases e : c' = c
    · rw [if_pos e] at z; exact .inl ⟨e, z⟩
    · rw [if_neg e] at z
      by_cases e2 : c' ∈ L
      · rw [if_pos e2] at z; exact .inr ⟨e, e2, z⟩
      · rw [if_neg e2] at z; exact z.elim
  | .stuck, _, z => z.elim
def Sl.loose : Sl → Sl
  | .own _ => .any
  | .ownD _ => .any
  | .ownS _ => .any
  | .pin => .any
  | s => s
/-- behind a raise: own things are forgotten, slot i holds the error -/
def forget (i : Nat) (ρ : Env') : Env' := (ρ.map Sl.loose).set i .pin
theorem Paired.mapR {α β γ : Type} {R : α → β → Prop} {R' : α → γ → Prop} {f : β → γ} (h : ∀ x y, R x y → R' x (f y)) : ∀ {xs : List α} {ys : List β}, Paired R xs ys → Paired R' xs (ys.map f)
  | _, _, .nil => .nil
  | _, _, .cons r t => .cons (h _ _ r) (Paired.mapR h t)
theorem forget_noOwn {i : Nat} {ρ : Env'} {j : Nat} {x : Sl} (h : (forget i ρ)[j]? = some x) : x.isOwn = false := by
  rcases List.mem_or_eq_of_mem_set (List.mem_of_getElem? h) with h | rfl
  · obtain ⟨y, _, rfl⟩ := List.mem_map.mp h
    cases y <;> rfl
  · rfl
def eXf (i : Nat) (t : T) : Env' → M T := fun ρ => match ρ[i]? with
  | some .pin => .ret t
  | _ => .stuck
/-- the constants behind a raise -/
def Cn.caught (g : Cn) (H0 F0 : Hp) (a : Addr) : Cn := ⟨g.K, H0, F0, g.S, g.X, some a, g.so, g.T⟩
def sTryR (c : Str) (L : List Str) (i : Nat) (f : Env' → M T) (h : T → Env' → M T) : Env' → M Fl := fun ρ => (M.tryC c L (fun t => (h t (forget i ρ)).calm) (f ρ)).bind fun t => .ret (.ret t)
abbrev WN : WX := fun _ _ _ _ => False
section
variable {X : Cx} {g : Cn} {W : WX} {k i : Nat} {pos pos' p1 p2 np : Pos} {e e2 : Expr} {f : Env' → M T} {h : T → Env' → M T} {x n fl : Str} {C : Addr} {L : List Str}
theorem de_exf {a dd : Addr} {oe : Obj} {d : Option Addr} {pn : List (Addr × Obj)} {v : V} {t : T} (T' : XfC X.K C) (hno : PySem.W.findIn X.K (.ref C) fl = some none) (hz : Zc (.ref C) d oe) (hf : ∃ vs, oe.data = .fields vs) (he : PE (X.suite a ((a, oe) :: pn)) e (tVar i))
    (hd : d = some dd) (hme : g.me = some a) (hH : g.H0 dd = some (.xd [(fl, v)])) (hF : Rep g.K g.F0 v t) (nS : ¬ g.inS dd) (hb : attributeBase e fl X.env (eval e X.env) = eval e X.env := by rfl) :
    DE (X.suite a ((a, oe) :: pn)) g W (.Attribute e fl pos) (eXf i t) :=
  pe_imp (pe_xf T' hno hz hf he hb) fun σ H Q ⟨ρ, F, b, s, q⟩ => by
    unfold eXf at q
    cases e1 : ρ[i]? with
    | none => rw [e1] at q; exact q.elim
    | some sl =>
      rw [e1] at q
      obtain ⟨ov, hv, r⟩ := Paired.get1 s.slots e1
      cases r with
      | @pin a' hm =>
        rw [hme] at hm
        cases hm
        exact ⟨_, hv, rfl, rfl, dd, _, v, hd, s.keep _ _ hH nS, by simp [List.lookup], q v H F (Step.refl s) (hF.ext s.f0)⟩
      | any v => exact q.elim
      | val r => exact q.elim
      | own _ _ _ _ _ => exact q.elim
      | ownD _ _ _ _ _ => exact q.elim
      | ownS _ _ _ _ _ => exact q.elim
      | strm _ => exact q.elim
def tHE (g : Cn) (C : Addr) (fl : Str) (h : T → Env' → M T) (a : Addr) (cls : Value) (d : Option Addr) : TE := fun σ H Q => ∃ (H0 F0 : Hp) (t : T) (v : V) (dd : Addr), cls = .ref C ∧ d = some dd ∧ H0 dd = some (.xd [(fl, v)]) ∧ Rep g.K F0 v t ∧ ¬ g.inS dd ∧ tD (g.caught H0 F0 a) WN (h t) σ H Q
theorem ds_tryR {c : Value} (hs : X.stack = X.env :: X.outer) (hfr : X.env.frame = some X.env.locals) (hN : X.N.Nodup) (hi : X.N[i]? = some n) (hln : X.env.kindOf n = some .local) (hc : Names X x c) (tk : Takes X W)
    (hX : g.X x = (C, fl)) (hex : PySem.W.exmOne X.K (.ref C) c = some true) (hL : ∀ c' ∈ L, PySem.W.exmOne X.K (.ref (g.X c').1) c = some false)
    (hb : ∀ (W : WX) (pn : List (Addr × Obj)) (xe : Value → Shared → Prop), Takes (X.tr pn xe) W → DE (X.tr pn xe) g W e f)
    (hsu : ∀ (a : Addr) (oe : Obj) (d : Option Addr) (pn : List (Addr × Obj)) (H0 F0 : Hp) (t : T) (v : V) (dd : Addr), Zc (.ref C) d oe → (∃ vs, oe.data = .fields vs) → d = some dd → H0 dd = some (.xd [(fl, v)]) → Rep g.K F0 v t → ¬ (g.caught H0 F0 a).inS dd → DE (X.suite a ((a, oe) :: pn)) (g.caught H0 F0 a) WN e2 (h t)) :
    DS X g W (.Try [.Return (some e) p1] [.ExceptHandler (some (.Name x np)) (some n) [.Return (some e2) p2] pos'] [] [] pos) (sTryR x L i f h) := by
  refine ps_imp (ps_try_as (tb := fun W => tRet (tD g W f)) (ts := fun a cls d => tRet (tHE g C fl h a cls d)) (Wout := W) hs hfr hN hi hln hc tk (fun W pn xe tk _ => pss_one (ps_ret (hb W pn xe tk))) fun a oe cls d pn hz hf => pss_one (ps_ret ⟨fun pins s σ H Q I hh => ?_⟩)) fun D σ H ⟨ρ, F, b, s, q⟩ => ?_
  · obtain ⟨H0, F0, t, v, dd, rfl, h2, h3, h4, h5, h6⟩ := hh
    exact (hsu a oe d pn H0 F0 t v dd hz hf h2 h3 h4 h5).run pins s σ H Q I h6
  · refine ⟨ρ, F, b, s, M.wp_mono (M.wp_try (M.wp_bind.mp q)) (fun b1 t z v H1 F1 s1 r => z v σ ρ H1 F1 s1.ext s1.sr r) fun b1 c' t z d v H1 F1 s1 hd r => ?_⟩
    rcases z with ⟨rfl, z⟩ | ⟨hne, hm, z⟩
    · rw [hX] at hd ⊢
      refine ⟨true, hex, fun _ a ha => ?_, fun q => Bool.noConfusion q⟩
      have nS : ¬ g.inS d := fun w => by
        rcases w with ⟨p, l, e, w⟩ | ⟨q, m⟩
        · obtain ⟨_, _, _, ns, c1, n1, m1, q1, q2, _⟩ := s1.sr.strm p l e
          rcases w with rfl | rfl
          · rw [hd] at q1; cases q1
          · rw [hd] at q2; cases q2
        · obtain ⟨ps, hp⟩ := (s1.sr.tabs d q m).2.has
          rw [hd] at hp; cases hp
      refine ⟨H1, F1, t, v, d, rfl, rfl, hd, r, nS, forget i ρ, F1, b1, ?_, M.wp_mono (M.wp_calm z) (fun b2 w y v2 H2 F2 s2 r2 => ?_) fun _ _ _ z => z.elim⟩
      · refine ⟨s1.sr.sub, Same.refl _, fun _ _ e _ => e, fun _ _ _ e => e, Paired.set2 (.pin rfl) i (Paired.mapR (fun u y r => ?_) s1.sr.slots), fun j k c y z _ hy _ oy _ => ?_, s1.sr.strm, s1.sr.tabs⟩
        · cases r with
          | any _ => exact .any _
          | val r => exact .val r
          | own _ _ _ _ _ => exact .any _
          | ownD _ _ _ _ _ => exact .any _
          | ownS _ _ _ _ _ => exact .any _
          | strm h => exact .strm h
          | pin _ => exact .any _
        · rw [forget_noOwn hy] at oy
          cases oy
      · have no : ∀ c, ¬ OwnAt (σ.set i (some (.ref a))) (forget i ρ) c := fun c ⟨j, y, w1, w2, _⟩ => by
          rw [forget_noOwn w1] at w2
          cases w2
        refine y v2 [] [] H2 F2 (s1.ext.trans s2.ext) ⟨s2.sr.sub, s1.sr.f0.trans s2.ext, fun c o hc n => s2.kp c o (s1.sr.keep c o hc n) n (no c), fun c o hc n => ?_, .nil, fun _ _ _ _ _ _ h => by simp at h, s2.sr.strm, s2.sr.tabs⟩ r2
        obtain ⟨u, hu⟩ := s1.sr.there hc
        exact s2.new c u hu (s1.sr.new c o hc n)
    · refine ⟨false, hL c' hm, fun q => Bool.noConfusion q, fun _ => z d v σ ρ H1 F1 s1.ext s1.sr hd r⟩
end
end DP
end
section
set_option Elab.async false
set_option linter.all false
set_option maxRecDepth 100000
namespace DP
open PySem PySem.Spec PyProof.Rows L2
/-! ### x += e, ints -/
def sAug (i : Nat) (op : Int → Int → Int) (fe : Env' → M T) : Env' → M Fl := fun ρ => match ρ[i]? with
  | some (.val (.int a)) => (fe ρ).bind fun t => match t with
    | .int b => .ret (.next (ρ.set i (.val (.int (op a b)))))
    | _ => .stuck
  | _ => .stuck
section
variable {X : Cx} {g : Cn} {W : WX} {i : Nat} {pos pos' : Pos} {e : Expr} {fe : Env' → M T} {x : Str} {o : Operator} {op : Int → Int → Int}
theorem ds_aug (ho : PIp X o (ipI op)) (hN : X.N.Nodup) (hi : X.N[i]? = some x) (hx : Loc X.env.scope x) (he : DE X g W e fe) (hf : X.fn x = true ∨ X.env.scope.names.lookup x = some .local := by first | exact .inl rfl | exact .inr rfl | assumption) : DS X g W (.AugAssign (.Name x pos') o e pos) (sAug i op fe) :=
  ps_imp (ps_aug hN hi hx he ho hf) fun D σ H ⟨ρ, F, b, s, q⟩ => by
    unfold sAug at q
    cases e1 : ρ[i]? with
    | none => rw [e1] at q; exact q.elim
    | some sl =>
      rw [e1] at q
      obtain ⟨ov, hv, r⟩ := Paired.get1 s.slots e1
      cases sl with
      | val t =>
        cases t with
        | int a =>
          cases r with
          | val r =>
            cases r
            refine ⟨_, hv, ρ, F, b, s, M.wp_mono (M.wp_bind.mp q) (fun b1 t q1 v H1 F1 s1 r1 => ?_) fun _ _ _ z => z.ex⟩
            cases t with
            | int c =>
              cases r1
              exact ⟨a, c, rfl, rfl, q1 _ H1 F1 s1.ext (s1.sr.set i (.val (.int _)) rfl)⟩
            | _ => exact q1.elim
        | _ => exact q.elim
      | _ => exact q.elim
end
/-! ### a constant of the module: a tuple of ints -/
def tupB (x : Str) (ks : List Int) (K : KF) : Bool := (He.Fa.glo x).ok K && (match K.lookup (He.ga K x) with
  | some ⟨.type "tuple", _, .seq its _, _⟩ => He.relAll (ks.map V.int) its.toList
  | _ => false)
theorem tup_of {K : KF} {h : Heap} {mg : Str → Option Value} (X : K.In h) (G : h.Ns mainGlobals mg) {x : Str} {ks : List Int} (hz : ks.length ≤ 1000) (c : tupB x ks K = true) : mg x = some (.ref (He.ga K x)) ∧ ∀ F, Rep K F (.ref (He.ga K x)) (.tup (ks.map .int)) := by
  obtain ⟨c1, c2⟩ := He.ba c
  refine ⟨He.glo_ok X G c1, fun F => ?_⟩
  split at c2
  · rename_i dd its n sl ho
    have hv := He.relAll_ok c2
    have hl : its.size ≤ sizeLine := by
      have := hv.length
      rw [List.length_map] at this
      rw [← Array.length_toList, ← this, sizeLine_eq]
      omega
    exact .tup (.inr ⟨_, its, n, ho, rfl, rfl, hl, hv⟩) (ints_reps ks)
  · cases c2
end DP
end
section
set_option Elab.async false
set_option linter.all false
set_option maxRecDepth 100000
namespace DP
open PySem PySem.Spec PyProof.Rows L2
def isiT3 (n m l : String) (t : T) : M T := match tyName t with
  | some a => match kitB a n, kitB a m, kitB a l with
    | some b, some c, some d => .ret (.bl (b || (c || d)))
    | _, _, _ => .stuck
  | none => .stuck
section
variable {X : Cx} {g : Cn} {W : WX} {pos p : Pos} {e : Expr} {f : Env' → M T}
/-- isinstance(e, (T, U, V)) -/
theorem de_isi3 {y z w : Str} {n m l : String} {p2 p3 p4 p5 : Pos} {kk : Nat} (hm : X.mg "isinstance" = none) (hy : X.mg y = none) (hv : bootBuiltins y = some (.type n)) (hz : X.mg z = none) (hvz : bootBuiltins z = some (.type m)) (hw : X.mg w = none) (hvw : bootBuiltins w = some (.type l)) (ha : DE X g W e f)
    (hg : Gl X "isinstance" := by rfl) (hgy : Gl X y := by rfl) (hgz : Gl X z := by rfl) (hgw : Gl X w := by rfl)
    (hny : y ≠ "__name__" := by decide) (hdy : (y == ("__debug__" : Str)) = false := by decide) (hnz : z ≠ "__name__" := by decide) (hdz : (z == ("__debug__" : Str)) = false := by decide) (hnw : w ≠ "__name__" := by decide) (hdw : (w == ("__debug__" : Str)) = false := by decide)
    (he : starEach (e :: [.Tuple [.Name y p2, .Name z p3, .Name w p5] kk p4]) X.env = (false, eval e X.env) :: starEach [.Tuple [.Name y p2, .Name z p3, .Name w p5] kk p4] X.env := by rfl)
    (he2 : starEach (.Tuple [.Name y p2, .Name z p3, .Name w p5] kk p4 :: []) X.env = (false, eval (.Tuple [.Name y p2, .Name z p3, .Name w p5] kk p4) X.env) :: starEach [] X.env := by rfl)
    (he3 : starEach (.Name y p2 :: [.Name z p3, .Name w p5]) X.env = (false, eval (.Name y p2) X.env) :: starEach [.Name z p3, .Name w p5] X.env := by rfl) (he4 : starEach (.Name z p3 :: [.Name w p5]) X.env = (false, eval (.Name z p3) X.env) :: starEach [.Name w p5] X.env := by rfl)
    (he5 : starEach (.Name w p5 :: []) X.env = (false, eval (.Name w p5) X.env) :: starEach [] X.env := by rfl)
    (hpl : (backTo pos (starEach [.Tuple [.Name y p2, .Name z p3, .Name w p5] kk p4] X.env)).any (·.1) = false := by rfl) (hK : X.K = g.K := by rfl) :
    DE X g W (.Call (.Name "isinstance" p) [e, .Tuple [.Name y p2, .Name z p3, .Name w p5] kk p4] [] pos) (e1 (isiT3 n m l) f) :=
  pe_imp (pe_callB call_some hg hm (by decide +kernel) (pa_cons ha (pa_cons (pe_tup (pa_cons (pe_bltn (v := .ty n) hgy hy hv rfl hny hdy) (pa_cons (pe_bltn (v := .ty m) hgz hz hvz rfl hnz hdz) (pa_cons (pe_bltn (v := .ty l) hgw hw hvw rfl hnw hdw) pa_nil he5) he4) he3)) pa_nil he2) he) (by decide) (by decide) he hpl) fun σ H Q ⟨ρ, F, b, s, q⟩ => ⟨ρ, F, b, s, M.wp_mono (M.wp_bind.mp q) (fun b1 t q1 v H1 F1 s1 r1 => by
    have q1 : (match tyName t with | some a => (match kitB a n, kitB a m, kitB a l with | some b, some c, some d => M.ret (T.bl (b || (c || d))) | _, _, _ => .stuck) | none => .stuck).wp b1 _ _ := q1
    refine ⟨by show 3 ≤ sizeLine; decide, fun tp htp => ?_⟩
    cases e1 : tyName t with
    | none => rw [e1] at q1; exact q1.elim
    | some a =>
      rw [e1] at q1
      dsimp only at q1
      cases e2 : kitB a n with
      | none => rw [e2] at q1; exact q1.elim
      | some b' =>
        cases e3 : kitB a m with
        | none => rw [e2, e3] at q1; exact q1.elim
        | some c' =>
          cases e4 : kitB a l with
          | none => rw [e2, e3, e4] at q1; exact q1.elim
          | some d' =>
            rw [e2, e3, e4] at q1
            have st := s1.sr.stepU (.tup [.ty n, .ty m, .ty l]) htp
            refine ⟨v, tp, [.ty n, .ty m, .ty l], .type a, [.type n, .type m, .type l], b' || (c' || d'), rfl, upd_same, .cons (.ty n) (.cons (.ty m) (.cons (.ty l) .nil)), by rw [hK]; exact tyX_of st.sr.sub (r1.ext st.ext) e1, ?_, q1 _ _ _ (s1.trans st) (.bl _)⟩
            refine kitAny_cons (kit_ty e2) (fun hb => ?_) (fun hb => by rw [hb]; rfl)
            refine kitAny_cons (kit_ty e3) (fun hc => ?_) (fun hc => by rw [hc, hb]; rfl)
            refine kitAny_cons (kit_ty e4) (fun hd => ?_) (fun hd => by rw [hd, hc, hb]; rfl)
            rw [hb, hc, hd]
            exact kitAny_nil) fun _ _ _ z => z⟩
end
end DP
end
section
set_option Elab.async false
set_option linter.all false
set_option maxRecDepth 100000
namespace DP
open PySem PySem.Spec PyProof.Rows L2
/-! ### list(d.items()) -/
def kT : Key → T
  | .inl i => .int i
  | .inr x => .str x
def nItems : T → M (List T)
  | .dct kvs => .ret (kvs.map fun q => .tup [kT q.1, q.2])
  | _ => .stuck
theorem kT_rep {K : KF} {F : Hp} : ∀ k : Key, Rep K F (kV k) (kT k)
  | .inl i => .int i
  | .inr x => .str x
theorem upd_del {H : Hp} {p : Addr} {o : HO} (h : H p = some o) : H = upd (del H p) p o := by
  funext c
  by_cases e : c = p
  · subst e; rw [upd_same, h]
  · rw [upd_ne e, del_ne e]
theorem items_reps {K : KF} {F1 H' : Hp} {as : List Addr} : ∀ {ts : List Addr} {kvs : List (Key × V)} {us : List (Key × T)}, Paired (fun (t : Addr) (q : Key × V) => H' t = some (.tup [kV q.1, q.2])) ts kvs → RepK K F1 kvs us → (∀ t ∈ ts, F1 t = H' t) → Reps K F1 (ts.map V.ref) (us.map fun q => .tup [kT q.1, q.2])
  | _, _, _, .nil, .nil, _ => .nil
  | _, _, _, .cons h t, .cons r s, e => .cons (.tup (SqT.of (by rw [e _ List.mem_cons_self]; exact h)) (.cons (kT_rep _) (.one r))) (items_reps (as := as) t s fun t ht => e t (List.mem_cons_of_mem _ ht))
section
variable {X : Cx} {g : Cn} {W : WX} {pos p apos cpos : Pos} {e : Expr} {f : Env' → M T}
theorem dn_items (hc : X.calm = true) (hm : X.mg "list" = none) (he : DE X g W e f) (hg : Gl X "list" := by rfl) (hbase : attributeBase e "items" X.env (eval e X.env) = eval e X.env := by rfl) (hline : (apos.endLine == cpos.line) = true := by rfl)
    (hs : starEach [.Call (.Attribute e "items" apos) [] [] cpos] X.env = (false, eval (.Call (.Attribute e "items" apos) [] [] cpos) X.env) :: starEach [] X.env := by rfl) :
    DN X g W (.Call (.Name "list" p) [.Call (.Attribute e "items" apos) [] [] cpos] [] pos) (e1 nItems f) :=
  pe_imp (LiI.pe_listItems hc he hg hm (by decide +kernel) hbase hline hs) fun σ H Q ⟨ρ, F, b, s, q⟩ => ⟨ρ, F, b, s, M.wp_mono (M.wp_bind.mp q) (fun b1 t q1 v H1 F1 s1 r1 => by
    cases t with
    | dct us =>
      cases r1 with
      | @dct d kvs _ h1 h2 =>
        refine ⟨d, kvs, rfl, s1.sr.sub _ _ h1, fun H' q ts k1 k2 k3 k4 k5 k6 => ?_⟩
        have np : ∀ {c : Addr} {o : HO}, H1 c = some o → c ≠ q := fun h w => by rw [w, k2] at h; cases h
        have nt : ∀ {c : Addr} {o : HO}, H1 c = some o → c ∉ ts := fun h w => by rw [k3 _ w] at h; cases h
        have ft : ∀ c ∈ ts, (fun c => if c ∈ ts then H' c else F1 c) c = H' c := fun c hc => if_pos hc
        have fn : ∀ c, c ∉ ts → (fun c => if c ∈ ts then H' c else F1 c) c = F1 c := fun c hc => if_neg hc
        generalize (fun c => if c ∈ ts then H' c else F1 c) = F2 at ft fn
        have ex : Ext F1 F2 := fun c o h => by rw [fn c (nt (s1.sr.sub _ _ h))]; exact h
        have aft : After none F1 H1 F2 (del H' q) b1 := ⟨ex, fun c o h => by
          by_cases hc : c ∈ ts
          · rw [ft c hc] at h
            rw [del_ne fun w => k4 (by rw [← w]; exact hc)]
            exact h
          · rw [fn c hc] at h
            have := s1.sr.sub _ _ h
            rw [del_ne (np this)]
            exact k1 _ _ this, fun c o h _ => by rw [del_ne (np h)]; exact k1 _ _ h, fun c o h n => by rw [fn c (nt h)]; exact n, fun _ _ e => by cases e⟩
        exact q1 q _ (del H' q) H' F2 (s1.trans (Step.of_after s1.sr aft (.inr ⟨rfl, Nat.le_refl _⟩))) del_same (upd_del k5) (items_reps (as := ts) k6 (RepK.ext ex h2) ft)
    | _ => exact q1.elim) fun _ _ _ z => z⟩
end
end DP
end
section
set_option Elab.async false
set_option linter.all false
set_option maxRecDepth 100000
namespace DP
open PySem PySem.Spec PyProof.Rows L2
/-! ### {}, {k: v} -/
/-- an object that nobody knows is known from now on -/
theorem SR.know {g : Cn} {F H : Hp} {σ : Sg} {ρ : Env'} {b : Nat} (s : SR g F H σ ρ b) {p : Addr} {o : HO} (hp : H p = some o) (h1 : F p = none) (h2 : g.H0 p = none) (h3 : ¬ g.inS p) (h4 : ¬ OwnAt σ ρ p) : SR g (upd F p o) H σ ρ b where
  sub := fun a u e => by
    by_cases ha : a = p
    · subst ha; rw [upd_same] at e; rw [hp]; exact e
    · rw [upd_ne ha] at e; exact s.sub a u e
  f0 := fun a u e => Ext.upd h1 a u (s.f0 a u e)
  keep := s.keep
  new := fun a u e n => by rw [upd_ne (fun w => by rw [w, h2] at e; cases e)]; exact s.new a u e n
  slots := Paired.imp2 s.slots fun i v x e1 e2 r => by
    have e := Ext.upd (o := o) h1
    cases r with
    | any v => exact .any v
    | val r => exact .val (r.ext e)
    | own z1 z2 z3 z4 z5 => exact .own z1 (by rw [upd_ne (fun w => h4 ⟨i, _, e2, rfl, by rw [e1, w]⟩)]; exact z2) z3 z4 (z5.ext e)
    | ownD z1 z2 z3 z4 z5 => exact .ownD z1 (by rw [upd_ne (fun w => h4 ⟨i, _, e2, rfl, by rw [e1, w]⟩)]; exact z2) z3 z4 (z5.ext e)
    | ownS z1 z2 z3 z4 z5 => exact .ownS z1 (by rw [upd_ne (fun w => h4 ⟨i, _, e2, rfl, by rw [e1, w]⟩)]; exact z2) z3 z4 (z5.ext e)
    | strm h => exact .strm h
    | pin h => exact .pin h
  dis := s.dis
  strm := fun q l e => by
    obtain ⟨y1, y2, y3⟩ := s.strm q l e
    exact ⟨by rw [upd_ne fun w => h3 (.inl ⟨q, l, e, .inl w.symm⟩)]; exact y1, by rw [upd_ne fun w => h3 (.inl ⟨q, l, e, .inr w.symm⟩)]; exact y2, y3⟩
  tabs := s.tabK (Ext.upd h1) fun q l m => ⟨fun _ e => e, by rw [upd_ne (Cn.tabNe h3 m)]; exact (s.tabs q l m).1⟩
def keyT : T → Option Key
  | .int i => some (.inl i)
  | .str x => some (.inr x)
  | _ => none
def dct1 (k t : T) : M T := match keyT k with
  | some k => .ret (.dct [(k, t)])
  | none => .stuck
section
variable {X : Cx} {g : Cn} {W : WX} {pos : Pos} {k e : Expr} {fk fe : Env' → M T}
theorem de_dict0 : DE X g W (.Dict [] [] pos) (eC (.dct [])) := pe_imp pe_dnewK fun σ H Q ⟨ρ, F, b, s, q⟩ p hp => q _ _ _ (s.step (.dK []) hp) (.dct upd_same .nil)
theorem keyT_v {K : KF} {F : Hp} {v : V} {t : T} {k : Key} (r : Rep K F v t) (h : keyT t = some k) : v = kV k := by
  cases t with
  | int i => cases h; cases r; rfl
  | str x => cases h; cases r; rfl
  | _ => cases h
theorem de_dict1 (hk : DE X g W k fk) (he : DE X g W e fe) : DE X g W (.Dict [some k] [e] pos) (e2 dct1 fk fe) :=
  pe_imp (pe_disp (pps_cons hk he pps_nil) rfl rfl (by simp) (by show 1 ≤ 15; decide)) fun σ H Q ⟨ρ, F, b, s, q⟩ p hp => by
    obtain ⟨h0, nS, fD, nO⟩ := s.h0 hp
    have t0 := s.stepU (.dK []) hp
    refine ⟨ρ, F, b, t0.sr, M.wp_mono (wp2.mp q) (fun b1 t q1 v H1 F1 s1 r1 => ⟨ρ, F1, b1, s1.sr, M.wp_mono q1 (fun b2 u q2 w H2 F2 s2 r2 => ?_) fun b' c' t' z => EX.step (t0.trans s1) b' c' t' z⟩) fun b' c' t' z => EX.step t0 b' c' t' z⟩
    have q2 : (match keyT t with | some k => M.ret (T.dct [(k, u)]) | none => .stuck).wp b2 _ _ := q2
    cases ek : keyT t with
    | none => rw [ek] at q2; exact q2.elim
    | some kk =>
      rw [ek] at q2
      have s12 := s1.trans s2
      have hp2 : H2 p = some (.dK []) := s12.kp p _ upd_same nS nO
      have fp2 : F2 p = none := s12.new p _ upd_same fD
      refine ⟨hp2, [(kk, w)], by rw [keyT_v r1 ek]; rfl, (by show 1 ≤ 15; decide), ?_⟩
      have s3 := s12.sr.poke (.dK [(kk, w)]) fp2 h0 nS nO
      have s4 := s3.know (o := .dK [(kk, w)]) upd_same fp2 h0 nS nO
      refine q2 (.ref p) (upd H2 p (.dK [(kk, w)])) (upd F2 p (.dK [(kk, w)])) ⟨s12.ext.trans (Ext.upd fp2), s4, fun c o hc n1 n2 => ?_, fun c o hc n => ?_⟩ (.dct upd_same (.cons (r2.ext (Ext.upd fp2)) .nil))
      · have ne : c ≠ p := fun w => by rw [w, hp] at hc; cases hc
        rw [upd_ne ne]
        exact (t0.trans s12).kp c o hc n1 n2
      · have ne : c ≠ p := fun w => by rw [w, hp] at hc; cases hc
        rw [upd_ne ne]
        exact (t0.trans s12).new c o hc n
end
end DP
end
section
set_option Elab.async false
set_option linter.all false
set_option maxRecDepth 100000
namespace DP
open PySem PySem.Spec PyProof.Rows L2
/-! ### a dict that a name holds: k in d, d[k], d[k] = v -/
def dctAt (i : Nat) (ρ : Env') : Option (List (Key × T)) := match ρ[i]? with
  | some (.ownD kvs) => some kvs
  | some (.val (.dct kvs)) => some kvs
  | _ => none
theorem SR.dctAt {g : Cn} {F H : Hp} {σ : Sg} {ρ : Env'} {b i : Nat} {kvs : List (Key × T)} (s : SR g F H σ ρ b) (h : dctAt i ρ = some kvs) : ∃ a vs, σ[i]? = some (some (.ref a)) ∧ H a = some (.dK vs) ∧ RepK g.K F vs kvs := by
  unfold DP.dctAt at h
  cases e : ρ[i]? with
  | none => rw [e] at h; cases h
  | some sl =>
    rw [e] at h
    obtain ⟨ov, hv, r⟩ := Paired.get1 s.slots e
    cases sl with
    | ownD ks =>
      cases h
      cases r with
      | ownD z1 z2 z3 z4 z5 => exact ⟨_, _, hv, z1, z5⟩
    | val t =>
      cases t with
      | dct ks =>
        cases h
        cases r with
        | val r =>
          cases r with
          | dct h1 h2 => exact ⟨_, _, hv, s.sub _ _ h1, h2⟩
      | _ => cases h
    | _ => cases h
def getK (kvs : List (Key × T)) (k : Key) : Option T := (kvs.find? fun kv => decide (kv.1 = k)).map (·.2)
theorem RepK.get {K : KF} {F : Hp} {k : Key} : ∀ {vs : List (Key × V)} {kvs : List (Key × T)}, RepK K F vs kvs → match getK kvs k with
    | some t => ∃ v, valV vs k = some v ∧ Rep K F v t
    | none => valV vs k = none
  | _, _, .nil => rfl
  | _, _, .cons (k := j) (v := v) (t := t) h r => by
    by_cases e : j = k
    · subst e
      simp only [getK, valV, List.find?_cons, decide_true, Option.map_some]
      exact ⟨v, rfl, h⟩
    · have e' : decide (j = k) = false := decide_eq_false e
      simp only [getK, valV, List.find?_cons, e']
      exact RepK.get r
def putKT (kvs : List (Key × T)) (k : Key) (t : T) : List (Key × T) := if (kvs.any fun kv => decide (kv.1 = k)) = true then kvs.map (fun kv => if kv.1 = k then (kv.1, t) else kv) else kvs ++ [(k, t)]
theorem RepK.keys {K : KF} {F : Hp} {k : Key} : ∀ {vs : List (Key × V)} {kvs : List (Key × T)}, RepK K F vs kvs → (vs.any fun kv => decide (kv.1 = k)) = kvs.any fun kv => decide (kv.1 = k)
  | _, _, .nil => rfl
  | _, _, .cons _ r => by simp only [List.any_cons]; rw [RepK.keys r]
theorem RepK.len {K : KF} {F : Hp} : ∀ {vs : List (Key × V)} {kvs : List (Key × T)}, RepK K F vs kvs → vs.length = kvs.length
  | _, _, .nil => rfl
  | _, _, .cons _ r => by simp [RepK.len r]
theorem RepK.app {K : KF} {F : Hp} {k : Key} {v : V} {t : T} (h : Rep K F v t) : ∀ {vs : List (Key × V)} {kvs : List (Key × T)}, RepK K F vs kvs → RepK K F (vs ++ [(k, v)]) (kvs ++ [(k, t)])
  | _, _, .nil => .cons h .nil
  | _, _, .cons g r => .cons g (RepK.app h r)
theorem RepK.repl {K : KF} {F : Hp} {k : Key} {v : V} {t : T} (h : Rep K F v t) : ∀ {vs : List (Key × V)} {kvs : List (Key × T)}, RepK K F vs kvs → RepK K F (vs.map fun kv => if kv.1 = k then (kv.1, v) else kv) (kvs.map fun kv => if kv.1 = k then (kv.1, t) else kv)
  | _, _, .nil => .nil
  | _, _, .cons (k := j) g r => by
    rw [List.map_cons, List.map_cons]
    by_cases e : j = k
    · rw [if_pos e, if_pos e]; exact .cons h (RepK.repl h r)
    · rw [if_neg e, if_neg e]; exact .cons g (RepK.repl h r)
theorem RepK.put {K : KF} {F : Hp} {k : Key} {v : V} {t : T} (h : Rep K F v t) {vs : List (Key × V)} {kvs : List (Key × T)} (r : RepK K F vs kvs) : RepK K F (putK vs k v) (putKT kvs k t) := by
  unfold putK putKT
  rw [r.keys (k := k)]
  by_cases e : (kvs.any fun kv => decide (kv.1 = k)) = true
  · rw [if_pos e, if_pos e]; exact r.repl h
  · rw [if_neg e, if_neg e]; exact r.app h
def retO : Option T → M T
  | some t => .ret t
  | none => .stuck
def eGetD (i : Nat) (fk : Env' → M T) : Env' → M T := fun ρ => match dctAt i ρ with
  | some kvs => (fk ρ).bind fun t => match keyT t with
    | some k => retO (getK kvs k)
    | none => .stuck
  | none => .stuck
def eInD (neg : Bool) (i : Nat) (fk : Env' → M T) : Env' → M T := fun ρ => (fk ρ).bind fun t => match keyT t, dctAt i ρ with
  | some k, some kvs => .ret (.bl (if neg = true then !(getK kvs k).isSome else (getK kvs k).isSome))
  | _, _ => .stuck
/-- d[e] = v: v, then e -/
def sPutD (i : Nat) (fe fk : Env' → M T) : Env' → M Fl := fun ρ => match ρ[i]? with
  | some (.ownD kvs) => (fe ρ).bind fun v => (fk ρ).bind fun t => match keyT t with
    | some k => if okLen kvs.length = true then .ret (.next (ρ.set i (.ownD (putKT kvs k v)))) else .stuck
    | none => .stuck
  | _ => .stuck
section
variable {X : Cx} {g : Cn} {W : WX} {k i : Nat} {pos p tpos : Pos} {a e c : Expr} {fk fe : Env' → M T}
theorem room1 (hr : Room k X.A) : X.A.units + 1 < cLine := by have := hr.un; omega
theorem de_getD (hr : Room k X.A) (hv : PE X a (tVar i)) (he : DE X g W e fk) (hs : NoSl e := by intro _ _; rfl) : DE X g W (.Subscript a e pos) (eGetD i fk) :=
  pe_imp (pe_dget (room1 hr) hv he hs) fun σ H Q ⟨ρ, F, b, s, q⟩ => by
    unfold eGetD at q
    cases e2 : dctAt i ρ with
    | none => rw [e2] at q; exact q.elim
    | some kvs =>
      rw [e2] at q
      obtain ⟨d, vs, y1, y2, y3⟩ := s.dctAt e2
      refine ⟨_, y1, ρ, F, b, s, M.wp_mono (M.wp_bind.mp q) (fun b1 t q1 v H1 F1 s1 r1 => ?_) fun _ _ _ z => z⟩
      cases e1 : keyT t with
      | none => rw [e1] at q1; exact q1.elim
      | some j =>
        rw [e1] at q1
        have q1 : (retO (getK kvs j)).wp b1 _ _ := q1
        obtain ⟨d', vs', w1, w2, w3⟩ := s1.sr.dctAt e2
        rw [y1] at w1
        cases w1
        have y := RepK.get (k := j) w3
        cases e3 : getK kvs j with
        | none => rw [e3] at q1; exact q1.elim
        | some u =>
          rw [e3] at q1 y
          obtain ⟨w, hw, rw'⟩ := y
          refine ⟨d, w, rfl, ?_, q1 w H1 F1 s1 rw'⟩
          rw [keyT_v r1 e1, ← hw]
          exact DGet.k w2
theorem inD_read {σ : Sg} {H : Hp} {Q : VK} (neg : Bool) (h : tD g W (eInD neg i fk) σ H Q) : (fun σ H Q => tD g W fk σ H fun y H1 => tVar i σ H1 fun x H2 => ∃ a o, x = V.ref a ∧ DGet H2 a y o ∧ Q (.bl (if neg = true then !o.isSome else o.isSome)) H2) σ H Q := by
  obtain ⟨ρ, F, b, s, q⟩ := h
  refine ⟨ρ, F, b, s, M.wp_mono (M.wp_bind.mp q) (fun b1 t q1 v H1 F1 s1 r1 => ?_) fun _ _ _ z => z⟩
  cases e1 : keyT t with
  | none => rw [e1] at q1; exact q1.elim
  | some j =>
    cases e2 : dctAt i ρ with
    | none => rw [e1, e2] at q1; exact q1.elim
    | some kvs =>
      rw [e1, e2] at q1
      obtain ⟨d, vs, y1, y2, y3⟩ := s1.sr.dctAt e2
      have y := RepK.get (k := j) y3
      have ho : (getK kvs j).isSome = (valV vs j).isSome := by
        cases e3 : getK kvs j with
        | none => rw [e3] at y; rw [y]; rfl
        | some u => rw [e3] at y; obtain ⟨w, hw, _⟩ := y; rw [hw]; rfl
      refine ⟨_, y1, d, valV vs j, rfl, by rw [keyT_v r1 e1]; exact DGet.k y2, ?_⟩
      rw [← ho]
      exact q1 _ H1 F1 s1 (.bl _)
theorem de_inD (hr : Room k X.A) (he : DE X g W e fk) (hv : PE X a (tVar i)) (hm : behindInMarks .In a = false := by rfl) : DE X g W (.Compare e [.In] [a] pos) (eInD false i fk) := pe_imp (pe_cmp (pc_din (room1 hr) he hv) hm) fun σ H Q h => inD_read false h
theorem de_ninD (hr : Room k X.A) (he : DE X g W e fk) (hv : PE X a (tVar i)) (hm : behindInMarks .NotIn a = false := by rfl) : DE X g W (.Compare e [.NotIn] [a] pos) (eInD true i fk) := pe_imp (pe_cmp (pc_dnotin (room1 hr) he hv) hm) fun σ H Q h => inD_read true h
theorem ds_putD (hr : Room k X.A) (hv : PE X a (tVar i)) (he : DE X g W e fk) (hc : DE X g W c fe) (hs : swapsWithSole [.Subscript a e tpos] c pos.line X.env = pure false := by rfl) (hw : swappedStores [.Subscript a e tpos] c X.env = pure none := by rfl)
    (h1 : (assignEach [.Subscript a e tpos] X.env).map (·.2) = [assign (.Subscript a e tpos) X.env] := by rfl)
    (ha : ∀ v, assign (.Subscript a e tpos) X.env v = (do
      let ov ← holding [v] (eval a X.env)
      let iv ← holding [v, ov] (eval e X.env)
      standAt tpos
      holding [v, ov, iv] (setItem ov iv v)
      release [v, ov, iv] []) := by intro _; rfl) : DS X g W (.Assign [.Subscript a e tpos] c pos) (sPutD i fe fk) :=
  ps_imp (ps_asg hc (pg_sub hv he (set_dict (room1 hr)) ha) hs hw h1) fun D σ H ⟨ρ, F, b, s, q⟩ => by
    unfold sPutD at q
    cases e2 : ρ[i]? with
    | none => rw [e2] at q; exact q.elim
    | some sl =>
      rw [e2] at q
      cases sl with
      | ownD kvs =>
        refine ⟨ρ, F, b, s, M.wp_mono (M.wp_bind.mp q) (fun b1 u q1 v H1 F1 s1 r1 => ?_) fun _ _ _ z => z.ex⟩
        obtain ⟨ov, hv1, sl1⟩ := Paired.get1 s1.sr.slots e2
        cases sl1 with
        | @ownD d vs _ z1 z2 z3 z4 z5 =>
          refine ⟨_, hv1, ρ, F1, b1, s1.sr, M.wp_mono (M.wp_bind.mp q1) (fun b2 t q2 w H2 F2 s2 r2 => ?_) fun b' c' t' z => EX.step s1 b' c' t' z.ex⟩
          cases ek : keyT t with
          | none => rw [ek] at q2; exact q2.elim
          | some j =>
            rw [ek] at q2
            obtain ⟨ok, q3⟩ := if_of q2
            obtain ⟨ov2, hv2, sl2⟩ := Paired.get1 s2.sr.slots e2
            rw [hv1] at hv2
            cases hv2
            cases sl2 with
            | @ownD d' vs' _ y1 y2 y3 y4 y5 =>
              refine ⟨d, _, rfl, by rw [keyT_v r2 ek]; exact DPut.k y1 (by rw [y5.len]; exact okLen_line ok), ?_⟩
              exact q3 σ _ F2 (s1.ext.trans s2.ext) (s2.sr.updAt e2 rfl hv1 y2 y3 y4 (.ownD upd_same y2 y3 y4 (y5.put (r1.ext s2.ext))) rfl)
      | _ => exact q.elim
end
end DP
end
section
set_option Elab.async false
set_option linter.all false
set_option maxRecDepth 100000
namespace DP
open PySem PySem.Spec PyProof.Rows L2
/-- an object that nothing else holds, into a slot -/
theorem SR.setFree {g : Cn} {F H : Hp} {σ : Sg} {ρ : Env'} {b : Nat} {p : Addr} {x' : Sl} (s : SR g F H σ ρ b) (i : Nat) (no : ¬ OwnAt σ ρ p) (r : SlOk g F H (some (.ref p)) x') : SR g F H (σ.set i (some (.ref p))) (ρ.set i x') b := by
  refine ⟨s.sub, s.f0, s.keep, s.new, Paired.set2 r i s.slots, fun j k c y z jk hy hz oy oz e q => ?_, s.strm, s.tabs⟩
  rcases get_set hy with ⟨rfl, rfl, _⟩ | ⟨nj, hy'⟩
  · rcases get_set hz with ⟨rfl, rfl, _⟩ | ⟨nk, hz'⟩
    · exact jk rfl
    · rcases get_set e with ⟨_, e1, _⟩ | ⟨nn, _⟩
      · cases e1
        rcases get_set q with ⟨e2, _⟩ | ⟨_, q'⟩
        · exact nk e2
        · exact no ⟨k, z, hz', oz, q'⟩
      · exact nn rfl
  · rcases get_set e with ⟨e1, _⟩ | ⟨_, e'⟩
    · exact nj e1
    · rcases get_set hz with ⟨rfl, rfl, _⟩ | ⟨nk, hz'⟩
      · rcases get_set q with ⟨_, e1, _⟩ | ⟨nn, _⟩
        · cases e1
          exact no ⟨j, y, hy', oy, e'⟩
        · exact nn rfl
      · rcases get_set q with ⟨e1, _⟩ | ⟨_, q'⟩
        · exact nk e1
        · exact s.dis j k c y z jk hy' hz' oy oz e' q'
/-! ### d = {}, d = {k: v} -/
def sDict0 (i : Nat) : Env' → M Fl := fun ρ => .ret (.next (ρ.set i (.ownD [])))
def sDict1 (i : Nat) (fk fe : Env' → M T) : Env' → M Fl := fun ρ => (fk ρ).bind fun t => (fe ρ).bind fun v => match keyT t with
  | some k => .ret (.next (ρ.set i (.ownD [(k, v)])))
  | none => .stuck
section
variable {X : Cx} {g : Cn} {W : WX} {i : Nat} {pos p pos' : Pos} {k e : Expr} {fk fe : Env' → M T} {x : Str}
theorem ds_dict0 (hN : X.N.Nodup) (hi : X.N[i]? = some x) (hx : Loc X.env.scope x) (hs : swapsWith (.Dict [] [] p) (some (.Name x pos')) pos.line X.env = pure false := by rfl) (hf : X.fn x = true ∨ X.env.scope.names.lookup x = some .local := by first | exact .inl rfl | exact .inr rfl | assumption) :
    DS X g W (.Assign [.Name x pos'] (.Dict [] [] p) pos) (sDict0 i) :=
  ps_imp (ps_set hN hi hx pe_dnewK hs hf) fun D σ H ⟨ρ, F, b, s, q⟩ p hp => by
    obtain ⟨h0, nS, fD, nO⟩ := s.h0 hp
    exact q _ _ F (Same.refl _) (s.setNew i hp (.ownD upd_same fD h0 nS .nil))
theorem ds_dict1 (hN : X.N.Nodup) (hi : X.N[i]? = some x) (hx : Loc X.env.scope x) (hk : DE X g W k fk) (he : DE X g W e fe) (hs : swapsWith (.Dict [some k] [e] p) (some (.Name x pos')) pos.line X.env = pure false := by rfl)
    (hf : X.fn x = true ∨ X.env.scope.names.lookup x = some .local := by first | exact .inl rfl | exact .inr rfl | assumption) : DS X g W (.Assign [.Name x pos'] (.Dict [some k] [e] p) pos) (sDict1 i fk fe) :=
  ps_imp (ps_set hN hi hx (pe_disp (pps_cons hk he pps_nil) rfl rfl (by simp) (by show 1 ≤ 15; decide)) hs hf) fun D σ H ⟨ρ, F, b, s, q⟩ p hp => by
    obtain ⟨h0, nS, fD, nO⟩ := s.h0 hp
    have t0 := s.stepU (.dK []) hp
    refine ⟨ρ, F, b, t0.sr, M.wp_mono (M.wp_bind.mp q) (fun b1 t q1 v H1 F1 s1 r1 => ⟨ρ, F1, b1, s1.sr, M.wp_mono (M.wp_bind.mp q1) (fun b2 u q2 w H2 F2 s2 r2 => ?_) fun b' c' t' z => EX.step (t0.trans s1) b' c' t' z.ex⟩) fun b' c' t' z => EX.step t0 b' c' t' z.ex⟩
    cases ek : keyT t with
    | none => rw [ek] at q2; exact q2.elim
    | some kk =>
      rw [ek] at q2
      have s12 := s1.trans s2
      have fp2 : F2 p = none := s12.new p _ upd_same fD
      refine ⟨s12.kp p _ upd_same nS nO, [(kk, w)], by rw [keyT_v r1 ek]; rfl, (by show 1 ≤ 15; decide), ?_⟩
      have s3 := s12.sr.poke (.dK [(kk, w)]) fp2 h0 nS nO
      exact q2 _ _ F2 s12.ext (s3.setFree i nO (.ownD upd_same fp2 h0 nS (.cons r2 .nil)))
end
end DP
end
section
set_option Elab.async false
set_option linter.all false
set_option maxRecDepth 100000
namespace DP
open PySem PySem.Spec PyProof.Rows L2

/-! ### repr, where nothing else is being shown -/
def flatT : T → Option PyData
  | .non => some .none
  | .bl b => some (.bool b)
  | .int i => some (.int i)
  | .str x => some (.str x)
  | _ => none
def keyD : Key → PyData
  | .inl i => .int i
  | .inr x => .str x
def flatKv : List (Key × T) → Option (List (PyData × PyData))
  | [] => some []
  | (k, t) :: r => (flatT t).bind fun d => (flatKv r).map fun ds => (keyD k, d) :: ds
def dataR : T → Option PyData
  | .dct kvs => (flatKv kvs).map .dict
  | t => dataT t
def reprT : List T → M T
  | [t] => match dataR t with
    | some d => if (d.showable && decide (d.shown.length ≤ 1000000) && decide (d.depth ≤ 64)) = true then .ret (.str d.shown) else .stuck
    | none => .stuck
  | _ => .stuck
mutual
theorem noDict : ∀ {t : T} {d : PyData}, dataT t = some d → d.hasDict = false
  | .non, _, h => by cases h; simp only [PyData.hasDict]
  | .bl _, _, h => by cases h; simp only [PyData.hasDict]
  | .int _, _, h => by cases h; simp only [PyData.hasDict]
  | .str _, _, h => by cases h; simp only [PyData.hasDict]
  | .tup ts, d, h => by
    unfold dataT at h
    cases e : dataTs ts with
    | none => rw [e] at h; cases h
    | some ds => rw [e] at h; cases h; simp only [PyData.hasDict]; exact noDicts e
  | .lst ts, d, h => by
    unfold dataT at h
    cases e : dataTs ts with
    | none => rw [e] at h; cases h
    | some ds => rw [e] at h; cases h; simp only [PyData.hasDict]; exact noDicts e
  | .dct _, _, h => by cases h
  | .obj _ _, _, h => by cases h
  | .fn _, _, h => by cases h
  | .pn _ _, _, h => by cases h
theorem noDicts : ∀ {ts : List T} {ds : List PyData}, dataTs ts = some ds → PyData.hasDictAll ds = false
  | [], _, h => by cases h; simp only [PyData.hasDictAll]
  | t :: ts, ds, h => by
    unfold dataTs at h
    cases e : dataT t with
    | none => rw [e] at h; cases h
    | some d =>
      rw [e] at h
      cases e2 : dataTs ts with
      | none => rw [e2] at h; cases h
      | some ds' => rw [e2] at h; cases h; simp only [PyData.hasDictAll, noDict e, noDicts e2, Bool.or_self]
end
theorem flat_reads {K : KF} {F : Hp} {h : Heap} {t : T} {v : V} {u : Value} {d : PyData} (e : flatT t = some d) (r : Rep K F v t) (rv : RelV v u) : Reads h u d [] := by
  cases t <;> first
    | (cases e; done)
    | (cases e; cases r; first
        | (cases rv; exact .none)
        | (cases rv; exact .bool _)
        | (obtain ⟨t, rfl⟩ := rv; exact .int _ _)
        | (obtain ⟨t, rfl⟩ := rv; exact .str _ _))
theorem kv_reads {K : KF} {F : Hp} {h : Heap} {P : Program} {w : World} : ∀ {kvs : List (Key × T)} {vs : List (Key × V)} {us : List (Key × Value)} {es : List DictEntry} {ds : List (PyData × PyData)}, flatKv kvs = some ds → RepK K F vs kvs → KV vs us → Pairs (mixKind P w) es us →
    ReadsAll h (es.map (·.key)) (ds.map (·.1)) [] ∧ ReadsAll h (es.map (·.val)) (ds.map (·.2)) []
  | [], _, _, _, _, e, .nil, .nil, .nil => by cases e; exact ⟨.nil, .nil⟩
  | (k, t) :: r, _, _, _, _, e, .cons r1 r2, .cons ⟨k1, k2⟩ k3, .cons p1 p2 p3 => by
    have e : ((flatT t).bind fun d => (flatKv r).map fun ds => (keyD k, d) :: ds) = some _ := e
    cases e1 : flatT t with
    | none => rw [e1] at e; cases e
    | some d =>
      rw [e1] at e
      cases e2 : flatKv r with
      | none => rw [e2] at e; cases e
      | some ds =>
        rw [e2] at e
        cases e
        obtain ⟨q1, q2⟩ := kv_reads (h := h) (P := P) (w := w) e2 r2 k3 p3
        refine ⟨ReadsAll.cons (as := []) (bs := []) ?_ q1, ReadsAll.cons (as := []) (bs := []) ?_ q2⟩
        · rw [← k1] at p1
          rcases keyIs_shape p1 with ⟨i, t, e3, e4⟩ | ⟨x, t, e3, e4⟩
          · dsimp only at e3 ⊢; subst e3; rw [e4]; exact .int _ _
          · dsimp only at e3 ⊢; subst e3; rw [e4]; exact .str _ _
        · dsimp only; rw [p2]; exact flat_reads e1 r1 k2
theorem str_none : (PyData.none).shown = ("None" : Str) := by simp [PyData.shown]
section
variable {X : Cx} {g : Cn} {W : WX} {k : Nat} {pos p : Pos} {e : Expr} {es : List Expr} {f : Env' → M T} {fs : Env' → M (List T)}
def rRepr (X : Cx) (K : KF) : List V → Hp → VK → Prop := fun xs H Q => ∃ (F : Hp) (v : V) (t : T) (d : PyData), xs = [v] ∧ Ext F H ∧ Rep K F v t ∧ dataR t = some d ∧ d.showable = true ∧ d.shown.length ≤ 1000000 ∧ d.depth ≤ 64 ∧ Q (.str d.shown) H
theorem cr_repr (hg : X.A.guards = some []) (hr : Room k X.A) : CallR X (.builtin "repr") (rRepr X X.K) := by
  intro pins s σ H xs us Q I r h
  obtain ⟨F, v, t, d, rfl, hF, rt, ed, hs, hz, hd, q⟩ := h
  have hz : d.shown.length ≤ sizeLine := by have := sizeLine_eq; omega
  have hu := hr.un
  cases r with
  | cons rv rr =>
    cases rr
    have fin : ∀ (h' : Heap) (u : Tok) (tk : Nat), (∀ b o, s.heap.get? b = some o → h'.get? b = some o) → EP X pins σ Q (.str d.shown u) { s with heap := h', toks := tk } := fun h' u tk hk => ⟨.str d.shown, H, I.kept hk, ⟨u, rfl⟩, q⟩
    have deep : ∀ {a : Addr} {as : List Addr}, Reads s.heap (.ref a) d as → (d.hasDict = true → sysModules ∉ as) → wpAny (model X.prog X.w) X.A (PySem.call (.builtin "repr") [.ref a]) (EP X pins σ Q) X.xe s := fun {a as} rd hm => repr_of_reads' rd hs hm hg (by omega) (fun _ _ e => e) (fun h' u tk hk => fin h' u tk hk) hz
    cases t with
    | dct kvs =>
      cases rt with
      | @dct a vs _ h1 h2 =>
        cases rv
        have ed : (flatKv kvs).map PyData.dict = some d := ed
        cases e2 : flatKv kvs with
        | none => rw [e2] at ed; cases ed
        | some ds =>
          rw [e2] at ed
          cases ed
          obtain ⟨_, hsm, us, kv, o, es, ep, ho, hx, hdt, _, pr, _⟩ := (show ObjOk X.prog X.w H s.heap a (.dK vs) from I.hok a _ (hF _ _ h1))
          obtain ⟨q1, q2⟩ := kv_reads (h := s.heap) e2 h2 kv pr
          refine deep (Reads.dict ho hx.1 hdt q1 q2) fun _ hm => ?_
          have hm : sysModules ∈ [a] := hm
          rw [List.mem_singleton.mp hm] at hsm
          simp at hsm
    | non => cases rt; cases rv; cases ed; rw [show PyData.shown .none = ("None" : Str) by simp only [PyData.shown]] at fin; exact PySem.P.repr_of_none (fin _ _ _ fun _ _ e => e)
    | bl b => cases rt; cases rv; cases ed; rw [show PyData.shown (.bool b) = (if b then "True" else "False" : Str) by simp only [PyData.shown]] at fin; exact PySem.P.repr_of_bool (fin _ _ _ fun _ _ e => e)
    | int i => cases rt; obtain ⟨tk, rfl⟩ := rv; cases ed; rw [show PyData.shown (.int i) = (toString i : Str) by simp only [PyData.shown]] at fin; exact PySem.P.repr_of_int (of_decide_eq_true hs) (fin _ _ _ fun _ _ e => e)
    | str x => cases rt; obtain ⟨tk, rfl⟩ := rv; cases ed; rw [show PyData.shown (.str x) = reprText x by simp only [PyData.shown]] at fin hz; exact PySem.P.repr_of_str (fin _ _ _ fun _ _ e => e) hz
    | tup ts =>
      have dp := Rep.dp hF rt (show dataT (.tup ts) = some d from ed)
      cases rt with
      | tup h1 h2 =>
        cases rv
        obtain ⟨as, rd⟩ := Dp.reads I d _ _ dp rfl
        exact deep rd (PyData.noDict_hsm (noDict (show dataT (.tup ts) = some d from ed)))
    | lst ts =>
      have dp := Rep.dp hF rt (show dataT (.lst ts) = some d from ed)
      cases rt with
      | lst h1 h2 =>
        cases rv
        obtain ⟨as, rd⟩ := Dp.reads I d _ _ dp rfl
        exact deep rd (PyData.noDict_hsm (noDict (show dataT (.lst ts) = some d from ed)))
    | obj _ _ => cases ed
    | fn _ => cases ed
    | pn _ _ => cases ed
theorem de_repr (hg : X.A.guards = some []) (hr : Room k X.A) (hm : X.mg "repr" = none) (ha : DA X g W (e :: es) fs) (hgl : Gl X "repr" := by rfl)
    (he : starEach (e :: es) X.env = (false, eval e X.env) :: starEach es X.env := by rfl) (hpl : (backTo pos (starEach es X.env)).any (·.1) = false := by rfl) (hK : X.K = g.K := by rfl) : DE X g W (.Call (.Name "repr" p) (e :: es) [] pos) (e1 reprT fs) :=
  de_callB (cr_repr hg hr) (fun σ ρ F H b vs ts Q s r q => by
    rcases r with _ | ⟨r1, _ | ⟨r2, r3⟩⟩
    · exact q.elim
    · rename_i v t
      have q : (match dataR t with | some d => (if (d.showable && decide (d.shown.length ≤ 1000000) && decide (d.depth ≤ 64)) = true then M.ret (T.str d.shown) else .stuck) | none => .stuck).wp b _ _ := q
      cases ed : dataR t with
      | none => rw [ed] at q; exact q.elim
      | some d =>
        rw [ed] at q
        obtain ⟨ok, q2⟩ := if_of q
        rw [Bool.and_eq_true, Bool.and_eq_true] at ok
        exact ⟨F, v, t, d, rfl, s.sub, by rw [hK]; exact r1, ed, ok.1.1, of_decide_eq_true ok.1.2, of_decide_eq_true ok.2, q2 _ H F (Step.refl s) (.str _)⟩
    · exact q.elim) hm (by decide +kernel) ha hgl (by decide) (by decide) he hpl

/-! ### str(i), bool(x) -/
def strI : List T → M T
  | [.int i] => if (decide (i.natAbs.log2 < 1920)) = true then .ret (.str (toString i)) else .stuck
  | _ => .stuck
theorem c_str : Cal g W (fun xs H Q => ∃ i : Int, xs = [.int i] ∧ i.natAbs.log2 < 1920 ∧ Q (.str (toString i)) H) strI := fun σ ρ F H b vs ts Q s r q => by
  rcases r with _ | ⟨r1, _ | ⟨r2, r3⟩⟩
  · exact q.elim
  · cases r1 <;> first
      | exact q.elim
      | (obtain ⟨ok, q2⟩ := if_of q
         exact ⟨_, rfl, of_decide_eq_true ok, q2 _ H F (Step.refl s) (.str _)⟩)
  · cases r1 <;> exact q.elim
def boolI : List T → M T
  | [.int i] => .ret (.bl (i != 0))
  | [.bl b] => .ret (.bl b)
  | _ => .stuck
theorem c_bool : Cal g W (fun xs H Q => (∃ i, xs = [.int i] ∧ Q (.bl (i != 0)) H) ∨ ∃ k, xs = [.bl k] ∧ Q (.bl k) H) boolI := fun σ ρ F H b vs ts Q s r q => by
  rcases r with _ | ⟨r1, _ | ⟨r2, r3⟩⟩
  · exact q.elim
  · cases r1 <;> first
      | exact q.elim
      | exact .inl ⟨_, rfl, q _ H F (Step.refl s) (.bl _)⟩
      | exact .inr ⟨_, rfl, q _ H F (Step.refl s) (.bl _)⟩
  · cases r1 <;> exact q.elim

/-! ### f(k = v, ..), nothing by place -/
def eCallK (π : List T → List T) (m : List T → M T) (f : Env' → M (List T)) : Env' → M T := fun ρ => (f ρ).bind fun ts => m (π ts)
abbrev DK (X : Cx) (g : Cn) (W : WX) (ks : List Keyword) (f : Env' → M (List T)) : Prop := PK X ks (tDA g W f)
theorem pk_imp {ks : List Keyword} {t t' : TA} (h : PK X ks t) (i : ∀ σ H Q, t' σ H Q → t σ H Q) : PK X ks t' := ⟨fun pos pins s σ H Q I hw => h.run pos pins s σ H Q I (i σ H Q hw)⟩
theorem dk_nil : DK X g W [] aNil := pk_imp pk_nil fun σ H Q ⟨ρ, F, b, s, q⟩ => q [] H F (Step.refl s) .nil
theorem dk_cons {nm : Option Str} {kpos : Pos} {ks : List Keyword} (h : DE X g W e f) (hs : DK X g W ks fs) : DK X g W (⟨nm, e, kpos⟩ :: ks) (aCons f fs) :=
  pk_imp (pk_cons h hs) fun σ H Q ⟨ρ, F, b, s, q⟩ => ⟨ρ, F, b, s, M.wp_mono (wp2.mp q) (fun b1 t q1 x H1 F1 s1 r1 => ⟨ρ, F1, b1, s1.sr, M.wp_mono q1 (fun b2 ts q2 vs H2 F2 s2 r2 =>
    q2 (x :: vs) H2 F2 (s1.trans s2) (.cons (r1.ext s2.ext) r2)) fun b' c t' z => EX.step s1 b' c t' z⟩) fun _ _ _ z => z⟩
/-- the keywords' values in the parameters' order: π -/
structure KwB (K : KF) (fd : FuncData) (ps ks : List Str) (np : Nat) (π : {α : Type} → List α → List α) : Prop where
  to : ∀ (s : Shared) (ws : List Value), ws.length = np → BindsTo s fd ⟨[], ks.zip ws⟩ (ps.zip (π ws))
theorem de_callK {f : Addr} {fd : FuncData} {ps ks : List Str} {x : Str} {m : List T → M T} {np : Nat} {kws : List Keyword} {π : {α : Type} → List α → List α} (F : FnOk X.prog X.w X.K X.mg X.base (L2.CX X.prog X.w) k f fd ps (spD g.K g.X false np m)) (hr : Room k X.A) (tk : Takes X W) (hm : X.mg x = some (.ref f)) (hk : PySem.W.keepIn X.K (.ref f) = true) (hb : KwB X.K fd ps ks np π) (ha : DK X g W kws fs)
    (hn : ∀ (ρ : Env') (b : Nat) (Q : Nat → List T → Prop) (E : Nat → Str → T → Prop), (fs ρ).wp b Q E → (fs ρ).wp b (fun b ts => ts.length = np ∧ Q b ts) E)
    (hπV : ∀ (vs : List V) (us : List Value), Vals vs us → Vals (π vs) (π us)) (hπR : ∀ (K : KF) (F : Hp) (vs : List V) (ts : List T), Reps K F vs ts → Reps K F (π vs) (π ts)) (hπL : ∀ vs : List V, vs.length = np → (π vs).length = np)
    (hg : Gl X x := by rfl) (hall : (backToKw pos (keywordEach kws X.env)).all (·.1.isSome) = true := by rfl) (hks : (backToKw pos (keywordEach kws X.env)).filterMap (·.1) = ks := by rfl) (hdb : (x == ("__debug__" : Str)) = false := by decide)
    (hpl : ((backTo pos (starEach [] X.env)).any (·.1) || (backToKw pos (keywordEach kws X.env)).any (·.1.isNone)) = false := by rfl) : DE X g W (.Call (.Name x p) [] kws pos) (eCallK π m fs) := by
  refine ⟨fun pins s σ H Q I h => ?_⟩
  obtain ⟨ρ, Fk, b, sr, q⟩ := h
  refine wpAny_Call_Name_kw (ld_glob I hg hm ?_ hdb)
  refine PySem.W.callWith_KW0 (h₀ := X.base) I.ok.mod.kin hk hall (thn (ha.run pos pins s σ H (fun zs H2 => zs.length = np ∧ spD g.K g.X false np m (π zs) H2 Q (WE W σ)) I ⟨ρ, Fk, b, sr, M.wp_mono (hn ρ b _ _ (M.wp_bind.mp q)) (fun b1 ts z vs H1 F1 s1 r1 => ?_) fun _ _ _ z => z⟩) fun ws s2 ⟨zs, H2, I2, rz, lz, q2⟩ => ⟨I2.kIn, ?_⟩) hpl
  · have lv : vs.length = np := by rw [r1.length]; exact z.1
    exact ⟨lv, call_sp s1.sr (hπR _ _ _ _ r1) (hπL _ lv) (M.wp_mono z.2 (fun b2 t y v H2 F2 s2 r2 => y v H2 F2 (s1.trans s2) r2) fun b' c t y => EX.step s1 b' c t y)⟩
  · rw [hks]
    refine wpAny_call (codeAny_mono (F.run X.A X.stack s2 H2 ⟨[], ks.zip ws⟩ (π ws) (π zs) Q (WE W σ) hr I2.env0 (hb.to s2 ws (rz.length.symm.trans lz)) (hπV _ _ rz) q2) fun r s' hq => ?_)
    cases r with
    | error e => exact passAt tk σ pins H2 s2 e s' I2 hq
    | ok fl =>
      cases fl with
      | ret u => exact I2.after hq
      | next => exact False.elim hq
      | brk => exact False.elim hq
      | cont => exact False.elim hq
/-- two parameters, the other way about -/
def swp {α : Type} : List α → List α
  | [a, b] => [b, a]
  | xs => xs
theorem swp_vals : ∀ (vs : List V) (us : List Value), Vals vs us → Vals (swp vs) (swp us) := fun vs us r => by
  rcases r with _ | ⟨r1, _ | ⟨r2, _ | ⟨r3, r4⟩⟩⟩
  · exact .nil
  · exact .cons r1 .nil
  · exact .cons r2 (.cons r1 .nil)
  · exact .cons r1 (.cons r2 (.cons r3 r4))
theorem swp_reps : ∀ (K : KF) (F : Hp) (vs : List V) (ts : List T), Reps K F vs ts → Reps K F (swp vs) (swp ts) := fun K F vs ts r => by
  rcases r with _ | ⟨r1, _ | ⟨r2, _ | ⟨r3, r4⟩⟩⟩
  · exact .nil
  · exact .cons r1 .nil
  · exact .cons r2 (.cons r1 .nil)
  · exact .cons r1 (.cons r2 (.cons r3 r4))
theorem swp_len {n : Nat} : ∀ vs : List V, vs.length = n → (swp vs).length = n := fun vs h => by
  rcases vs with _ | ⟨a, _ | ⟨b, _ | ⟨c, r⟩⟩⟩ <;> exact h
end
end DP
end
section
set_option Elab.async false
set_option linter.all false
set_option maxRecDepth 100000
/-! set(xs) of a list of ints, as a set whose table is known. -/
namespace DP
open PySem PySem.Spec PyProof.Rows L2
section
variable {P : Program} {w : World} {A : Around} {E : Value → Shared → Prop} {s : Shared}
/-- the empty set, as `set` makes it -/
abbrev eTab (w : World) : SetTable := .fresh 0 0 (!w.params.followText "set-order")
abbrev eSet (w : World) : Obj := { dict := none, cls := .type "set", data := .set #[] 0 (eTab w) }
abbrev wS (w : World) (h : Heap) : Heap := h.push (eSet w)
set_option maxRecDepth 100000 in
set_option maxHeartbeats 6400000 in
theorem set_of_ints {l : Addr} {items : Array Value} (ns : List Int) {Q : Value → Shared → Prop}
    (hh : A.handled = none) (hl : s.heap.IsList l items) (hit : IntsAre items.toList ns) (hb : ns.length + 1 < scanBound)
    (fin : ∀ (h' : Heap) (tk c : Nat), SetR w h' s.heap.objs.size (fun j => decide (j ∈ ns)) c →
      c ≤ ns.length → (∀ b o, s.heap.get? b = some o → h'.get? b = some o) →
      Q (.ref s.heap.objs.size) { s with heap := h', toks := tk }) :
    wpAny (model P w) A (PySem.call (.type "set") [.ref l]) Q E s := by
  have size_ns : items.size = ns.length := by have q := hit.length; simpa using q
  have cs := F.called_set
  obtain ⟨c, tl, hmro⟩ := cs.mro
  have hmade := cs.made
  have hsub := cs.sub
  refine wpAny_call <| codeAny_of_tree ?_
  show wpAny _ _
    (callAny (.type "set") _) _ _ _
  refine wpAny_pure ⟨Code.quiet_builtin _
    (by decide +kernel), codeAny_builtin F.entry_type_call ?_⟩
  rw [Around.under_plain
    (weight_type_call_type "set" [.ref l] []) rfl]
  have h1 := cs.notType
  have h2 := cs.canCreate
  have hct := F.typeCall_set_1 (.ref l)
  repeat (any_goals
    (first | assumption | wp_step))
  refine codeAny_mono (code_set_led1 (.ref l) (E := E)
    (Q₁ := fun ob s₁ => ob = .ref s.heap.objs.size ∧ s₁ = { s with heap := wS w s.heap }) ⟨rfl, rfl⟩) fun r s₁ hr => ?_
  cases r with
  | error e => exact hr
  | ok fl =>
    cases fl with
    | ret ob =>
      obtain ⟨rfl, rfl⟩ := hr
      have got : (wS w s.heap).get? s.heap.objs.size = some (eSet w) := Heap.get?_push_size _ rfl
      have hT : Shared.TypeIs { s with heap := wS w s.heap } (.ref s.heap.objs.size) "set" := ⟨_, got, rfl⟩
      have hli := cs.init.lookup
      have hbi := cs.init.bind (.ref s.heap.objs.size)
      repeat (any_goals
        (first | assumption | wp_step))
      refine codeAny_mono (codeAny_call_builtin
        (R := wants (fun r s₂ => r = .none ∧ ∃ h' tk c, s₂ = { s with heap := h', toks := tk } ∧
          SetR w h' s.heap.objs.size (fun j => decide (j ∈ ns)) c ∧ c ≤ ns.length ∧
          ∀ b o, s.heap.get? b = some o → h'.get? b = some o) E)
        cs.init.plain F.entry_set_init (check_set_init_1 hT ?_)) fun r₂ s₂ hr₂ => ?_
      · obtain ⟨⟨ocls, odict, odata, oslots⟩, hol, hcl, nl, hdl⟩ := hl
        simp only at hcl hdl
        subst hcl hdl
        have hol' : (wS w s.heap).get? l = some { cls := .type "list", dict := odict, data := .seq items nl, slots := oslots } :=
          Heap.get?_push_of_some _ hol
        have z1 := F.sub_list_set
        have z2 := F.sub_list_frozenset
        have z3 : (Value.type "list" == Value.type "dict") = false := by decide
        have isl : (wS w s.heap).IsList l items := ⟨_, hol', rfl, nl, rfl⟩
        unfold Builtin.«set.__init__»
          noKeywords Builtin.Frozenset.updateFrom
        generalize hPI : pyIter = PI
        wp_walk
        subst hPI
        refine wpAny_pyIter_list isl <| wpAny_bind <| wpAny_runValue ?_
        have old : l < s.heap.objs.size := Heap.lt_size hol
        have hd3 : A.in1.in1.in1.handled = none := by simp [hh]
        have apart : l ≠ (wS w s.heap).objs.size := by
          rw [Heap.size_push]
          exact Nat.ne_of_lt (Nat.lt_succ_of_lt old)
        have out : s.heap.objs.size ∉ [(wS w s.heap).objs.size, l] := by
          rw [Heap.size_push, List.mem_cons, List.mem_singleton]
          exact fun z => z.elim (fun e => Nat.ne_of_lt (Nat.lt_succ_self _) e) fun e => Nat.ne_of_gt old e
        have val : ∀ (i : Nat) (v : Value), items[i]? = some v → ∃ k t, ns[i]? = some k ∧ v = .int k t := fun i v hv => by
          have lt : i < ns.length := by
            rw [← size_ns]
            exact (Array.getElem?_eq_some_iff.mp hv).1
          obtain ⟨t, e⟩ := IntsAre.int_at hit i v (by simpa using hv)
          exact ⟨ns[i], t, List.getElem?_eq_getElem lt, by rw [e]; simp [lt]⟩
        refine set_update_ints ((Walks.list hd3 _ l apart items).toS) s.heap.objs.size out ns size_ns hb val
          (items.size - 0) 0 _ rfl (Nat.zero_le _) ⟨⟨_, Heap.get?_push_size _ rfl, rfl, rfl⟩, isl.push _⟩ ?first ?last
        case first => exact ⟨0, Nat.le_refl 0, setR_new_at (Heap.get?_push_of_some _ got)⟩
        case last =>
          intro s' c' hm hc' hS'
          obtain ⟨h', g2, d', tk', os'⟩ := s'
          obtain rfl : g2 = s.gens := hm.gens
          obtain rfl : d' = s.drawn := hm.drawn
          obtain rfl : os' = s.os := hm.os
          show wpAny _ _ _ _ _ _
          refine wpAny_pure ?_
          show wpAny _ _ (ret Value.none) _ _ _
          refine wpAny_pure ⟨rfl, h', tk', c', rfl, hS', by omega, fun b o e => ?_⟩
          have lb : b < s.heap.objs.size := Heap.lt_size e
          refine hm.heap b o ?_ (Heap.get?_push_of_some _ (Heap.get?_push_of_some _ e))
          rw [Heap.size_push, List.mem_cons, List.mem_singleton]
          exact fun z => z.elim (fun e => Nat.ne_of_lt lb e) fun e => Nat.ne_of_lt (Nat.lt_succ_of_lt lb) e
      · cases r₂ with
        | error e => exact hr₂
        | ok fl₂ =>
          cases fl₂ with
          | ret r =>
            obtain ⟨rfl, h', tk, c', rfl, hS', hc', hk'⟩ := hr₂
            repeat (any_goals
              (first | assumption | wp_step))
            exact fin _ _ _ hS' hc' hk'
          | next => exact hr₂
          | brk => exact hr₂
          | cont => exact hr₂
    | next => exact hr
    | brk => exact hr
    | cont => exact hr
end
end DP
end
section
set_option Elab.async false
set_option linter.all false
set_option maxRecDepth 100000
namespace DP
open PySem PySem.Spec PyProof.Rows L2

/-! ### sorted(set(xs)) of ints -/
/-- put in where it belongs, once -/
def putA (i : Int) : List Int → List Int
  | [] => [i]
  | j :: r => if i < j then i :: j :: r else if i = j then j :: r else j :: putA i r
def sortD : List Int → List Int
  | [] => []
  | i :: r => putA i (sortD r)
theorem putA_mem {i k : Int} : ∀ {l : List Int}, k ∈ putA i l ↔ k = i ∨ k ∈ l
  | [] => by simp [putA]
  | j :: r => by
    unfold putA
    split
    · simp
    · split
      · rename_i h1 h2
        subst h2
        simp
      · rw [List.mem_cons, putA_mem, List.mem_cons]
        constructor
        · rintro (h | h | h)
          · exact .inr (.inl h)
          · exact .inl h
          · exact .inr (.inr h)
        · rintro (h | h | h)
          · exact .inr (.inl h)
          · exact .inl h
          · exact .inr (.inr h)
theorem putA_asc {i : Int} : ∀ {l : List Int}, l.Pairwise (· < ·) → (putA i l).Pairwise (· < ·)
  | [], _ => by simp [putA]
  | j :: r, h => by
    unfold putA
    have h1 := List.pairwise_cons.mp h
    split
    · rename_i z
      refine List.pairwise_cons.mpr ⟨fun k hk => ?_, h⟩
      rcases List.mem_cons.mp hk with rfl | hk
      · exact z
      · exact Int.lt_trans z (h1.1 k hk)
    · split
      · exact h
      · rename_i z1 z2
        refine List.pairwise_cons.mpr ⟨fun k hk => ?_, putA_asc h1.2⟩
        rcases putA_mem.mp hk with rfl | hk
        · omega
        · exact h1.1 k hk
theorem sortD_mem {k : Int} : ∀ {l : List Int}, k ∈ sortD l ↔ k ∈ l
  | [] => Iff.rfl
  | i :: r => by
    show k ∈ putA i (sortD r) ↔ _
    rw [putA_mem, sortD_mem, List.mem_cons]
theorem sortD_asc : ∀ l : List Int, (sortD l).Pairwise (· < ·)
  | [] => .nil
  | i :: r => putA_asc (sortD_asc r)
theorem asc_eq : ∀ {l m : List Int}, l.Pairwise (· < ·) → m.Pairwise (· < ·) → (∀ k, k ∈ l ↔ k ∈ m) → l = m
  | [], [], _, _, _ => rfl
  | [], b :: m, _, _, h => by have := (h b).mpr (by simp); simp at this
  | a :: l, [], _, _, h => by have := (h a).mp (by simp); simp at this
  | a :: l, b :: m, hl, hm, h => by
    have l1 := List.pairwise_cons.mp hl
    have m1 := List.pairwise_cons.mp hm
    have e : a = b := by
      rcases List.mem_cons.mp ((h a).mp (by simp)) with e | e
      · exact e
      · rcases List.mem_cons.mp ((h b).mpr (by simp)) with e2 | e2
        · exact e2.symm
        · have := m1.1 a e; have := l1.1 b e2; omega
    subst e
    rw [asc_eq l1.2 m1.2 fun k => ⟨fun hk => ?_, fun hk => ?_⟩]
    · rcases List.mem_cons.mp ((h k).mp (List.mem_cons_of_mem _ hk)) with e | e
      · have := l1.1 k hk; omega
      · exact e
    · rcases List.mem_cons.mp ((h k).mpr (List.mem_cons_of_mem _ hk)) with e | e
      · have := m1.1 k hk; omega
      · exact e
theorem sortD_len (l : List Int) : (sortD l).length ≤ l.length := by
  induction l with
  | nil => exact Nat.le_refl _
  | cons i r ih =>
    have h : ∀ m : List Int, (putA i m).length ≤ m.length + 1 := fun m => by
      induction m with
      | nil => simp [putA]
      | cons j m ihm =>
        unfold putA
        split
        · simp
        · split
          · simp
          · simp; omega
    exact Nat.le_trans (h _) (Nat.succ_le_succ ih)
section
variable {X : Cx} {g : Cn} {W : WX} {k : Nat} {pos p p2 pos2 : Pos} {e : Expr} {fl : Env' → M (Bool × List T)}
/-- the set of a list or a tuple of ints -/
def rSetI (K : KF) (w : World) : List V → Hp → VK → Prop := fun xs H Q => ∃ (l : Addr) (ns : List Int), xs = [V.ref l] ∧ (SqL K H l (ns.map V.int) ∨ SqT K H l (ns.map V.int)) ∧ ns.length < 64 ∧
  ∀ (a : Addr) (n : Nat), H a = none → n < 64 → Q (.ref a) (upd H a (SetO w a (fun j => decide (j ∈ ns)) n))
theorem cr_setI (hc : X.calm = true) : CallR X (.type "set") (rSetI X.K X.w) := by
  intro pins s σ H xs us Q I r h
  obtain ⟨l, ns, rfl, hq, h64, q⟩ := h
  rw [Vals.ref1 r]
  have fin : ∀ (h' : Heap) (tk c : Nat), SetR X.w h' s.heap.objs.size (fun j => decide (j ∈ ns)) c → c ≤ ns.length → (∀ b o, s.heap.get? b = some o → h'.get? b = some o) → EP X pins σ Q (.ref s.heap.objs.size) { s with heap := h', toks := tk } := fun h' tk c R hc' k =>
    ⟨.ref _, upd H s.heap.objs.size (SetO X.w s.heap.objs.size (fun j => decide (j ∈ ns)) c), I.laid k (Nat.le_refl _) (setO_new R), rfl, q _ c (I.hok.fresh (Nat.le_refl _)) (by omega)⟩
  have big : ns.length + 1 < scanBound := by unfold scanBound; omega
  rcases hq with hq | hq
  · obtain ⟨its, rv, pt, hz⟩ := I.list hq
    exact set_of_ints ns (I.ok.hd hc) pt.isList (by simpa using ints_of_vals rv) big fin
  · obtain ⟨its, rv, pt, hz⟩ := I.tuple hq
    exact call_set_tupI ns (I.ok.hd hc) (show s.heap.IsTuple l its.toArray from pt) (by simpa using ints_of_vals rv) big fin
def nSortD (p : Bool × List T) : M (List T) := match intsT p.2 with
  | some ns => if (decide (ns.length < 64)) = true then .ret ((sortD ns).map .int) else .stuck
  | none => .stuck
theorem dn_sortedSet (hc : X.calm = true) (hm : X.mg "sorted" = none) (hm2 : X.mg "set" = none) (ha : DL X g W e fl) (hg : Gl X "sorted" := by rfl) (hg2 : Gl X "set" := by rfl)
    (he : starEach (e :: []) X.env = (false, eval e X.env) :: starEach [] X.env := by rfl) (hpl : (backTo pos2 (starEach [] X.env)).any (·.1) = false := by rfl)
    (he2 : starEach (.Call (.Name "set" p2) [e] [] pos2 :: []) X.env = (false, eval (.Call (.Name "set" p2) [e] [] pos2) X.env) :: starEach [] X.env := by rfl) (hpl2 : (backTo pos (starEach [] X.env)).any (·.1) = false := by rfl) (hK : X.K = g.K := by rfl) :
    DN X g W (.Call (.Name "sorted" p) [.Call (.Name "set" p2) [e] [] pos2] [] pos) (e1 nSortD fl) :=
  pe_imp (pe_callB (cr_sortedSet hc) hg hm (by decide +kernel) (pa_cons (pe_callTy (cr_setI hc) hg2 hm2 (by decide +kernel) (pa_cons ha pa_nil he) (by decide) (by decide) he hpl) pa_nil he2) (by decide) (by decide) he2 hpl2) fun σ H Q ⟨ρ, F, b, s, q⟩ => ⟨ρ, F, b, s, M.wp_mono (M.wp_bind.mp q) (fun b1 pp q1 d H1 F1 s1 h1 => by
    obtain ⟨vs, h2, r3⟩ := h1.now s1.sr
    have q1 : (match intsT pp.2 with | some ns => (if (decide (ns.length < 64)) = true then M.ret ((sortD ns).map T.int) else .stuck) | none => .stuck).wp b1 _ _ := q1
    cases ei : intsT pp.2 with
    | none => rw [ei] at q1; exact q1.elim
    | some ns =>
      rw [ei] at q1
      obtain ⟨ok, q2⟩ := if_of q1
      rw [intsT_eq ei] at r3
      rw [reps_ints r3] at h2
      refine ⟨d, ns, rfl, by rw [hK]; exact h2, of_decide_eq_true ok, fun a n ha hn => ⟨a, _, n, rfl, upd_same, hn, fun ms p hs hmem hlen hp => ?_⟩⟩
      have em : ms = sortD ns := asc_eq hs (sortD_asc ns) fun k => by rw [hmem, sortD_mem]; simp
      subst em
      have st := s1.sr.stepU (SetO X.w a (fun j => decide (j ∈ ns)) n) ha
      exact q2 p _ _ _ F1 (s1.trans st) hp rfl (ints_reps _)) fun _ _ _ z => z⟩
end
end DP
end
section
set_option Elab.async false
set_option linter.all false
set_option maxRecDepth 100000
namespace DP
open PySem PySem.Spec PyProof.Rows L2

/-! ### a law's def where it is called from outside: nothing is being shown there -/
/-- a def's promise, for this one caller alone -/
def OutOk (P : Program) (w : World) (K : KF) (mg : Str → Option Value) (base : Heap) (f : Addr) (fd : FuncData) (ps : List Str) (sp : Sp) : Prop :=
  ∀ (s : Shared) (H : Hp) (args : Args) (us : List Value) (vs : List V) (Q : VK) (E : XK), Env0 P w K mg base callerA [] s H → BindsTo s fd args (ps.zip us) → Vals vs us → sp vs H Q E →
    codeAny (model P w) callerA (.call (.ref f) args) (CR (L2.CX P w) [] P w H s Q E) s
/-- the code object of the def at f -/
structure CodeAt (K : KF) (f : Addr) (qual : Str) (cdv : Value) : Prop where
  ex : ∃ (oc : Value) (od : Option Addr) (osl : Array (Option Value)) (fd : FuncData), K.lookup f = some ⟨oc, od, .func fd, osl⟩ ∧ fd.code = cdv ∧ PySem.W.codeIn K cdv qual = true
section
variable {P : Program} {w : World} {K : KF} {mg : Str → Option Value} {base : Heap}
theorem out_of {x qual : Str} {st : Stmt} {f : Addr} {fd : FuncData} {N ps : List Str} {k : Nat} {sp : Sp} (F : Fun K x qual st f fd) (S : FnScope N ps (defScope st)) (hr : Room (k + 1) callerA)
    (len : ∀ vs H Q E, sp vs H Q E → vs.length = ps.length)
    (body : ∀ (cdv : Value) (s : Shared) (H : Hp) (vs : List V) (Q : VK) (E : XK), CodeAt K f qual cdv → Room k (callerA.deeper (envOfC qual (defScope st) s.heap.objs.size f cdv)) → sp vs H Q E →
      ∃ t, PSs (cxOf (L2.CX P w) P w K mg base N qual (defScope st) f cdv callerA [] s H E) (defBody st) t ∧ t { nx := fun _ H' => Q .non H', rt := Q } (start N vs) H) : OutOk P w K mg base f fd ps sp := by
  obtain ⟨oc, od, kV, doc, pm, an, cdv, ct, osl, rfl, lk, hcd⟩ := F.ex
  intro s H args us vs Q E e0 hb rv hsp
  have hl := len _ _ _ _ hsp
  have up : ∀ b o, base.get? b = some o → s.heap.get? b = some o := fun b o e => (e0.bs b o e).1
  have KX := e0.mod.kin.keeps up
  have kinds : ∀ y ∈ ps.zip us, (defScope st).names.lookup y.1 = some .local ∨ ((defScope st).names.lookup y.1 = some .cell ∧
      ((cellsFrom (s.heap.objs.size + 1) (defScope st).names []).lookup y.1).isSome = true) := fun y hy =>
    (S.par y.1 (List.of_mem_zip hy).1).imp id fun q => ⟨q, PySem.W.cellsFrom_some _ _ _ (.inl q)⟩
  refine codeAny_call_function hr.depth (KX _ _ lk) rfl
    S.co S.gen rfl (PySem.W.codeRec_of KX hcd) (hb _ _ _ _ ?_)
  refine wpAny_newFunctionEnv_cells S.kind kinds fun env he s1 x => ?_
  cases he
  refine ⟨(e0.mod.nolimit.keeps up).keeps x.toInCall.keep,
    codeAny_func ?_⟩
  obtain ⟨t, ht, hq⟩ := body cdv s H vs Q E ⟨oc, od, osl, _, lk, rfl, hcd⟩ (hr.deeper _) hsp
  refine wpAny_mono (ht.run [] s1 (start N vs) H _
    (inv_start S hr.hd e0 hl rv x) hq) (fun fl s' hs => ?_) fun _ _ z => z
  cases fl with
  | ret u =>
    obtain ⟨v, σ', H', J, rv, q⟩ := hs
    exact ⟨v, H', J.os, J.bare, J.base, J.hok, rv, q⟩
  | next =>
    obtain ⟨σ', H', J, q⟩ := hs
    exact ⟨.non, H', J.os, J.bare, J.base, J.hok, rfl, q⟩
  | brk => obtain ⟨_, _, _, y⟩ := hs; exact False.elim y
  | cont => obtain ⟨_, _, _, y⟩ := hs; exact False.elim y
end

/-- the script alone is known of the heap -/
def onlyAt (a : Addr) (o : HO) : Hp := fun b => if b = a then some o else none
theorem onlyAt_self {a : Addr} {o : HO} : onlyAt a o a = some o := if_pos rfl
theorem onlyAt_some {a b : Addr} {o u : HO} (h : onlyAt a o b = some u) : b = a ∧ u = o := by
  unfold onlyAt at h
  split at h
  · rename_i e; cases h; exact ⟨e, rfl⟩
  · cases h
/-- the heap at the call: what is of the module, and what is known of the script -/
structure Entry (P : Program) (w : World) (K : KF) (mg : Str → Option Value) (s : Shared) (a : Addr) (ns : List Int) (H : Hp) : Prop where
  hok : HOk P w H s.heap
  only : ∀ b u, H b = some u → b = a ∧ K.lookup a = none ∧ ∃ o xs, u = .frz o (.lst xs)
  there : SqL K H a (ns.map V.int)
theorem entry {P : Program} {w : World} {K : KF} {mg : Str → Option Value} {s : Shared} {a : Addr} {vs : List Value} {ns : List Int} (KX : K.In s.heap)
    (ha : s.heap.get? a = some { cls := .type "list", data := .seq vs.toArray }) (hi : IntsAre vs ns) (hl : ns.length ≤ sizeLine) : ∃ H, Entry P w K mg s a ns H := by
  have rv := vals_ints hi
  have len : vs.length = ns.length := hi.length
  cases hk : K.lookup a with
  | some o =>
    have e := KX a o hk
    rw [ha] at e
    cases e
    have no : ∀ {u : HO}, (none : Option HO) = some u → False := fun z => nomatch z
    exact ⟨fun _ => none, ⟨fun _ _ z => (no z).elim, fun _ _ z => (no z).elim, .inr ⟨_, vs.toArray, _, hk, rfl, rfl, rfl, by simpa [len] using hl, by simpa using rv⟩⟩⟩
  | none =>
    refine ⟨onlyAt a (.frz { cls := .type "list", data := .seq vs.toArray } (.lst (ns.map V.int))), ⟨fun b u z => ?_, fun b u z => ?_, .inl (.inr ⟨_, onlyAt_self⟩)⟩⟩
    · obtain ⟨rfl, rfl⟩ := onlyAt_some z
      exact ⟨ha, by simpa using hl, vs, _, rv, ha⟩
    · obtain ⟨rfl, rfl⟩ := onlyAt_some z
      exact ⟨rfl, hk, _, _, rfl⟩
theorem top_call {P : Program} {w : World} {K : KF} {mg mb : Str → Option Value} {fa a : Addr} {fd : FuncData} {x : Str} {sp : Sp} {s : Shared} {vs : List Value} {ns : List Int}
    (KX : K.In s.heap) (hns : s.heap.Ns mainGlobals mg) (hb : s.heap.Ns builtinsNs mb) (hbb : ∀ x : Str, x ≠ "__name__" → mb x = bootBuiltins x) (hlim : s.heap.NoLimit) (hg : s.gens = #[])
    (ha : s.heap.get? a = some { cls := .type "list", data := .seq vs.toArray }) (hi : IntsAre vs ns) (hl : ns.length ≤ sizeLine)
    (F : ∀ base : Heap, OutOk P w K mg base fa fd [x] sp) (bind : ∀ (s : Shared) (u : Value), BindsTo s fd ⟨[u], []⟩ [(x, u)])
    (hsp : ∀ H : Hp, SqL K H a (ns.map V.int) → sp [.ref a] H (fun v _ => v = .bl true) fun _ _ _ => False) :
    codeAny (model P w) callerA (.call (.ref fa) ⟨[.ref a], []⟩) (fun r s' => r = .ok (.ret (.bool true)) ∧ OldK s.heap s'.heap ∧ s'.os = s.os ∧ AllBare s'.gens) s := by
  obtain ⟨H, N⟩ := entry (P := P) (w := w) (mg := mg) KX ha hi hl
  have free : ∀ {b : Addr}, b ≠ a → H b = none := fun {b} n => by
    cases e : H b with
    | none => rfl
    | some u => exact absurd (N.only b u e).1 n
  -- a namespace is no list
  have keepNs : ∀ {b : Addr} {m : Str → Option Value}, s.heap.Ns b m → (hidT s.heap H).Ns b m := fun {b m} ⟨o, es, ep, e, d, r⟩ => by
    refine ⟨o, es, ep, hidT_get e (free fun z => ?_), d, r⟩
    rw [z, ha] at e
    cases e
    cases d
  have KB : K.In (hidT s.heap H) := fun b o e => by
    refine hidT_get (KX b o e) ?_
    cases z : H b with
    | none => rfl
    | some u =>
      obtain ⟨rfl, z2, _⟩ := N.only b u z
      rw [z2] at e
      cases e
  obtain ⟨mc, l1, l2⟩ := hlim
  have E0 : Env0 P w K mg (hidT s.heap H) callerA [] s H := ⟨rfl, ⟨KB, keepNs hns, ⟨mb, keepNs hb, hbb⟩, ⟨mc, keepNs l1, l2⟩⟩, fun b o e => of_hidT e, Nat.le_of_eq (hidT_size _ _), trivial, fun b z => absurd (show b ∈ ([] : List Addr) from z) (by simp), N.hok, .of_eq hg⟩
  refine codeAny_mono (F _ s H ⟨[.ref a], []⟩ [.ref a] [.ref a] _ _ E0 (bind s (.ref a)) (.cons rfl .nil) (hsp H N.there)) fun r s' z => ?_
  cases r with
  | error e =>
    obtain ⟨_, _, _, _, _, _, _, _, _, _, _, _, y⟩ := z
    exact y.elim
  | ok fl =>
    cases fl with
    | ret u =>
      obtain ⟨v, H', os, bare, un, hok', rv, q⟩ := z
      cases (show v = .bl true from q)
      cases (show u = Value.bool true from rv)
      refine ⟨rfl, OldK.of_keep fun b o e => ?_, os, bare⟩
      cases y : H b with
      | none => exact un.keep b o e y (fun h => absurd (show b ∈ ([] : List Addr) from h) (by simp)) (by simp)
      | some u =>
        obtain ⟨_, _, ob, xs, rfl⟩ := N.only b u y
        obtain ⟨e1, _⟩ := N.hok b _ y
        obtain ⟨e2, _⟩ := hok' b _ (un.frzs b ob _ y)
        rw [e] at e1
        cases e1
        exact e2
    | next => exact z.elim
    | brk => exact z.elim
    | cont => exact z.elim
theorem walk_top {l : PySem.W.OpenLaw} {n : Nat} {q : Program} {loose : List Str} {XP : (Str → Option Value) → Heap → Prop} {YP : World → Heap → Prop} {d : DefRec} {x : Str}
    (hn : l.most = some n) (hn2 : n ≤ sizeLine) (hdf : d.params.defaults = [])
    (F : ∀ (w : World) (mg : Str → Option Value) (fa : Addr) (h : Heap), YP w h → h.Ns mainGlobals mg → mg d.name = some (.ref fa) →
      ∃ (K : KF) (fd : FuncData) (sp : Sp), K.In h ∧ (∀ (s : Shared) (u : Value), BindsTo s fd ⟨[u], []⟩ [(x, u)]) ∧
        (∀ (H : Hp) (a : Addr) (ns : List Int), ns.length ≤ n → SqL K H a (ns.map V.int) → sp [.ref a] H (fun v _ => v = .bl true) fun _ _ _ => False) ∧ ∀ base : Heap, OutOk l.prog w K mg base fa fd [x] sp) :
    PySem.W.WalkO q loose XP YP l.row.toRowW d [] (fun f vs => PySem.call f vs) :=
  Att.attach_call hn hdf fun w s₀ s₁ mg mb fa o pm cd doc a vs ns G Y ho hd hcd hmg hobj hints hlen hg => by
    obtain ⟨K, fd, sp, KX, hb, hsp, hF⟩ := F w mg fa _ Y G.T.g hmg
    exact top_call KX G.T.g G.T.b G.T.builtins G.T.nolimit hg hobj hints (Nat.le_trans hlen hn2) hF hb fun H hS => hsp H a ns hlen hS

section
variable {P : Program} {w : World} {K : KF} {mg : Str → Option Value} {base : Heap} {Xc : Str → Addr × Str} {x qual : Str} {sd st0 : Stmt} {rest : List Stmt} {fa : Addr} {fd : FuncData} {N : List Str} {k i : Nat} {G : Env' → M Fl} {xs : Str} {TT : List (Addr × Str)}
/-- the law's promise, the tables of its lambdas' code being empty -/
def spLawT (K : KF) (TT : List (Addr × Str)) : Sp := fun vs H Q E => (∀ p ∈ TT, H p.1 = some (.tbl #[])) ∧ spLaw K vs H Q E
/-- law_deep, for the caller outside -/
theorem law_out (F : Fun K x qual sd fa fd) (S : FnScope N [xs] (defScope sd)) (hb : defBody sd = st0 :: rest) (hr : Room (k + 1) callerA)
    (h0 : ∀ (cdv : Value) (s : Shared) (H : Hp) (E : XK), CodeAt K fa qual cdv → Room k (callerA.deeper (envOfC qual (defScope sd) s.heap.objs.size fa cdv)) →
      PS (cxOf (L2.CX P w) P w K mg base N qual (defScope sd) fa cdv callerA [] s H E) st0 (tAsg (tCall (spStream K) [] E0 (tCons (tVar 0) tNil)) (gName i)))
    (body : ∀ (cdv : Value) (s : Shared) (H : Hp) (E : XK) (H0 : Hp) (S0 : Option (Addr × Addr)), CodeAt K fa qual cdv → Room k (callerA.deeper (envOfC qual (defScope sd) s.heap.objs.size fa cdv)) →
      DSs (cxOf (L2.CX P w) P w K mg base N qual (defScope sd) fa cdv callerA [] s H E) ⟨K, H0, fun _ => none, S0, Xc, none, SetTO P w, TT⟩ (fun cls d _ H => E cls d H) rest G)
    (good : (G ((List.replicate N.length Sl.any).set i .strm)).wp (10 ^ 13) (fun _ fl => fl = .ret (.bl true)) fun _ _ _ => False) : OutOk P w K mg base fa fd [xs] (spLawT K TT) := by
  refine out_of F S hr (fun vs H Q E h => ?_) fun cdv sh H vs Q E hcd hr h => ?_
  · obtain ⟨_, a, ns, rfl, _⟩ := h
    rfl
  obtain ⟨hTT, a, ns, rfl, h1, h2⟩ := h
  have hN : 1 ≤ N.length := by
    have := congrArg List.length S.pre
    rw [List.length_take] at this
    simp at this
    omega
  have z0 : (L2.start N [V.ref a])[0]? = some (some (V.ref a)) := rfl
  have zl : (L2.start N [V.ref a]).length = N.length := by
    unfold L2.start
    simp
    omega
  generalize hσ : L2.start N [V.ref a] = σ at z0 zl
  rw [hb]
  refine ⟨_, pss_cons (h0 cdv sh H E hcd hr) (PSs.mk (t := tLaw K Xc (SetTO P w) TT (fun cls d _ H => E cls d H) G) fun pins s σ1 H1 D I q => ?_), ?_⟩
  · obtain ⟨s', l', q⟩ := q
    exact (body cdv sh H E H1 (some (s', l')) hcd hr).run pins s σ1 H1 D I q
  · refine ⟨_, z0, a, ns, rfl, h1, fun s l hs hl ne => ?_⟩
    refine ⟨s, l, (List.replicate N.length Sl.any).set i .strm, fun _ => none, 10 ^ 13, ⟨fun _ _ e => (nomatch e), Same.refl _, fun _ _ e _ => e, fun _ _ _ e => e, ?_, fun j j' c y z _ hy _ oy _ => ?_, fun p q e => ?_, fun p q m => ?_⟩, M.wp_mono good (fun b fl z => ?_) fun _ _ _ z => z.elim⟩
    · rw [← zl]
      exact Paired.set2 (.strm rfl) i (any_all σ)
    · have : y.isOwn = false := by
        rcases List.mem_or_eq_of_mem_set (List.mem_of_getElem? hy) with h | h
        · rw [(List.mem_replicate.mp h).2]; rfl
        · rw [h]; rfl
      rw [this] at oy
      cases oy
    · cases e
      exact ⟨rfl, rfl, ne, ns, 0, 0, 17, upd_same, by rw [upd_ne ne.symm]; exact upd_same, by decide, by decide, by decide, by decide, by decide⟩
    · have z := hTT _ m
      refine ⟨rfl, #[], ?_, True.intro, fun pos cv hc => ?_⟩
      · rw [upd_ne (ne_of_none z hs), upd_ne (ne_of_none z hl)]; exact z
      · have y : codeAmong pos [] = some cv := hc
        simp [codeAmong] at y
    · subst z
      exact fun v σ' ρ' H' F' _ _ r => by
        cases r
        exact h2 H'
end
end DP
end
section
set_option Elab.async false
set_option linter.all false
set_option maxRecDepth 100000
namespace DP
open PySem PySem.Spec PyProof.Rows L2

/-! ### isinstance(x, (T, U)), x perhaps an instance of C, a class of the program's own -/
structure IsC (K : KF) (C : Addr) (n m : String) : Prop where
  cl : Cls K C
  ha : PySem.W.findIn K (.ref C) "__class__" = some (some (.builtin "object.__class__"))
  hn : PySem.W.specialIn K (.builtin "object.__class__") "__get__" = some (some (.builtin "getset_descriptor.__get__"))
  htk : PySem.W.takesIn K (.builtin "object.__class__") = some true
  hm : PySem.W.mroIn K C (.type "object") = some true
  k1 : PySem.W.kitOne K (.ref C) (.type n) = some false
  k2 : PySem.W.kitOne K (.ref C) (.type m) = some false
def isCB (x : Str) (n m : String) (K : KF) : Bool := He.Fa.ok K (.cls x) && (He.eqO (PySem.W.findIn K (.ref (He.ga K x)) "__class__") (some (some (.builtin "object.__class__"))) && (He.eqO (PySem.W.specialIn K (.builtin "object.__class__") "__get__") (some (some (.builtin "getset_descriptor.__get__"))) &&
  (decide (PySem.W.takesIn K (.builtin "object.__class__") = some true) && (decide (PySem.W.mroIn K (He.ga K x) (.type "object") = some true) && (decide (PySem.W.kitOne K (.ref (He.ga K x)) (.type n) = some false) && decide (PySem.W.kitOne K (.ref (He.ga K x)) (.type m) = some false))))))
theorem isC_ok {K : KF} {x : Str} {n m : String} (h : isCB x n m K = true) : IsC K (He.ga K x) n m := by
  unfold isCB at h
  obtain ⟨c1, h⟩ := He.ba h
  obtain ⟨c2, h⟩ := He.ba h
  obtain ⟨c3, h⟩ := He.ba h
  obtain ⟨c4, h⟩ := He.ba h
  obtain ⟨c5, h⟩ := He.ba h
  obtain ⟨c6, c7⟩ := He.ba h
  exact ⟨He.cls_ok c1, He.eqO_ok c2, He.eqO_ok c3, of_decide_eq_true c4, of_decide_eq_true c5, of_decide_eq_true c6, of_decide_eq_true c7⟩
def isiO2 (C : Addr) (n m : String) : T → M T
  | .obj D _ => if D = C then .ret (.bl false) else .stuck
  | t => isiT2 n m t
section
variable {X : Cx} {g : Cn} {W : WX} {k i j : Nat} {pos p : Pos} {e o : Expr} {f : Env' → M T}
theorem de_isiO2 {y z : Str} {n m : String} {C : Addr} {p2 p3 p4 : Pos} {kk : Nat} (ic : IsC X.K C n m) (hm : X.mg "isinstance" = none) (hy : X.mg y = none) (hv : bootBuiltins y = some (.type n)) (hz : X.mg z = none) (hvz : bootBuiltins z = some (.type m)) (ha : DE X g W e f) (hg : Gl X "isinstance" := by rfl) (hgy : Gl X y := by rfl) (hgz : Gl X z := by rfl)
    (hny : y ≠ "__name__" := by decide) (hdy : (y == ("__debug__" : Str)) = false := by decide) (hnz : z ≠ "__name__" := by decide) (hdz : (z == ("__debug__" : Str)) = false := by decide)
    (he : starEach (e :: [.Tuple [.Name y p2, .Name z p3] kk p4]) X.env = (false, eval e X.env) :: starEach [.Tuple [.Name y p2, .Name z p3] kk p4] X.env := by rfl) (he2 : starEach (.Tuple [.Name y p2, .Name z p3] kk p4 :: []) X.env = (false, eval (.Tuple [.Name y p2, .Name z p3] kk p4) X.env) :: starEach [] X.env := by rfl)
    (he3 : starEach (.Name y p2 :: [.Name z p3]) X.env = (false, eval (.Name y p2) X.env) :: starEach [.Name z p3] X.env := by rfl) (he4 : starEach (.Name z p3 :: []) X.env = (false, eval (.Name z p3) X.env) :: starEach [] X.env := by rfl)
    (hpl : (backTo pos (starEach [.Tuple [.Name y p2, .Name z p3] kk p4] X.env)).any (·.1) = false := by rfl) (hK : X.K = g.K := by rfl) :
    DE X g W (.Call (.Name "isinstance" p) [e, .Tuple [.Name y p2, .Name z p3] kk p4] [] pos) (e1 (isiO2 C n m) f) := by
  have base := de_isi2 (g := g) (W := W) (p := p) (pos := pos) hm hy hv hz hvz ha hg hgy hgz hny hdy hnz hdz he he2 he3 he4 hpl hK
  refine pe_imp (pe_callB call_some hg hm (by decide +kernel) (pa_cons ha (pa_cons (pe_tup (pa_cons (pe_bltn (v := .ty n) hgy hy hv rfl hny hdy) (pa_cons (pe_bltn (v := .ty m) hgz hz hvz rfl hnz hdz) pa_nil he4) he3)) pa_nil he2) he) (by decide) (by decide) he hpl) fun σ H Q ⟨ρ, F, b, s, q⟩ => ⟨ρ, F, b, s, M.wp_mono (M.wp_bind.mp q) (fun b1 t q1 v H1 F1 s1 r1 => ?_) fun _ _ _ z => z⟩
  refine ⟨by show 2 ≤ sizeLine; decide, fun tp htp => ?_⟩
  have st := s1.sr.stepU (.tup [.ty n, .ty m]) htp
  have plain : ∀ {t : T}, (isiT2 n m t).wp b1 (fun b' t => ∀ v H' F', Step g σ ρ F H F' H' b' → Rep g.K F' v t → Q v H') (EX g W σ ρ F H) → Rep g.K F1 v t →
      ∃ (x : V) (tp' : Addr) (cs : List V) (ty : Value) (ws : List Value) (b : Bool), [v, .ref tp] = [x, .ref tp'] ∧ upd H1 tp (.tup [.ty n, .ty m]) tp' = some (.tup cs) ∧ Paired ClsV cs ws ∧ TyY X.K (upd H1 tp (.tup [.ty n, .ty m])) x ty ∧ PySem.W.kitAny X.K ty ws = some b ∧ Q (.bl b) (upd H1 tp (.tup [.ty n, .ty m])) := fun {t} q1 r1 => by
    have q1 : (match tyName t with | some a => (match kitB a n, kitB a m with | some b, some c => M.ret (T.bl (b || c)) | _, _ => .stuck) | none => .stuck).wp b1 _ _ := q1
    cases e1 : tyName t with
    | none => rw [e1] at q1; exact q1.elim
    | some a =>
      rw [e1] at q1
      dsimp only at q1
      cases e2 : kitB a n with
      | none => rw [e2] at q1; exact q1.elim
      | some b' =>
        cases e3 : kitB a m with
        | none => rw [e2, e3] at q1; exact q1.elim
        | some c' =>
          rw [e2, e3] at q1
          refine ⟨v, tp, [.ty n, .ty m], .type a, [.type n, .type m], b' || c', rfl, upd_same, .cons (.ty n) (.cons (.ty m) .nil), by rw [hK]; exact tyX_of st.sr.sub (r1.ext st.ext) e1, ?_, q1 _ _ _ (s1.trans st) (.bl _)⟩
          refine kitAny_cons (kit_ty e2) (fun hb => ?_) (fun hb => by rw [hb]; rfl)
          refine kitAny_cons (kit_ty e3) (fun hc => ?_) (fun hc => by rw [hc, hb]; rfl)
          rw [hb, hc]
          exact kitAny_nil
  cases t with
  | obj D us =>
    cases r1 with
    | @obj a dx _ vs _ h1 h2 =>
      have q1 : (if D = C then M.ret (T.bl false) else .stuck).wp b1 _ _ := q1
      by_cases z : D = C
      · subst z
        rw [if_pos rfl] at q1
        refine ⟨.ref a, tp, [.ty n, .ty m], .ref D, [.type n, .type m], false, rfl, upd_same, .cons (.ty n) (.cons (.ty m) .nil), .x (.base (.ins (st.sr.sub _ _ (st.ext _ _ h1)) ic.cl ic.ha ic.hn ic.htk ic.hm)), ?_, q1 _ _ _ (s1.trans st) (.bl _)⟩
        exact kitAny_cons ic.k1 (fun _ => kitAny_cons ic.k2 (fun _ => kitAny_nil) fun h => nomatch h) fun h => nomatch h
      · rw [if_neg z] at q1
        exact q1.elim
  | non => exact plain (t := .non) q1 r1
  | bl c => exact plain (t := .bl c) q1 r1
  | int c => exact plain (t := .int c) q1 r1
  | str c => exact plain (t := .str c) q1 r1
  | tup c => exact plain (t := .tup c) q1 r1
  | lst c => exact plain (t := .lst c) q1 r1
  | dct c => exact plain (t := .dct c) q1 r1
  | fn c => exact plain (t := .fn c) q1 r1
  | pn a c => exact plain (t := .pn a c) q1 r1

/-! ### a list that is passed, kept by what it was passed to, and changed later -/
theorem SR.pinAt {F H : Hp} {σ : Sg} {ρ : Env'} {b : Nat} {a : Addr} {vs : List V} {ts : List T} (s : SR g F H σ ρ b) (hx : ρ[i]? = some (.own ts)) (hv : σ[i]? = some (some (.ref a))) (ha : H a = some (.lst vs)) (r : Reps g.K F vs ts) (hf : F a = none) (h0 : g.H0 a = none) (ns : ¬ g.inS a) :
    SR g (upd F a (.lst vs)) H σ (ρ.set i (.val (.pn a ts))) b := by
  have e : Ext F (upd F a (.lst vs)) := Ext.upd hf
  refine ⟨fun c u q => ?_, s.f0.trans e, s.keep, fun c u q1 q2 => ?_, ?_, fun j k c z w jk hz hw oz ow e1 => ?_, fun p l q => ?_, s.tabK e fun p q m => ⟨fun _ h => h, by rw [upd_ne (Cn.tabNe ns m)]; exact (s.tabs p q m).1⟩⟩
  · by_cases hc : c = a
    · subst hc; rw [upd_same] at q; cases q; exact ha
    · rw [upd_ne hc] at q; exact s.sub c u q
  · rw [upd_ne (fun z => by subst z; rw [h0] at q1; cases q1)]; exact s.new c u q1 q2
  · refine Paired.setImp (i := i) s.slots hv (.val (.pn upd_same (r.ext e))) fun j v z hj h1 h2 q => ?_
    have ne : ∀ c : Addr, v = some (.ref c) → z.isOwn = true → c ≠ a := fun c e1 oz z1 => by
      subst z1
      exact s.dis i j c _ z (Ne.symm hj) hx h2 rfl oz hv (by rw [h1, e1])
    cases q with
    | any v => exact .any v
    | val r => exact .val (r.ext e)
    | own z1 z2 z3 z4 z5 => exact .own z1 (by rw [upd_ne (ne _ rfl rfl)]; exact z2) z3 z4 (z5.ext e)
    | ownD z1 z2 z3 z4 z5 => exact .ownD z1 (by rw [upd_ne (ne _ rfl rfl)]; exact z2) z3 z4 (z5.ext e)
    | ownS z1 z2 z3 z4 z5 => exact .ownS z1 (by rw [upd_ne (ne _ rfl rfl)]; exact z2) z3 z4 (z5.ext e)
    | strm h => exact .strm h
    | pin h => exact .pin h
  · rcases get_set hz with ⟨rfl, rfl, _⟩ | ⟨nj, hz⟩
    · cases oz
    · rcases get_set hw with ⟨rfl, rfl, _⟩ | ⟨nk, hw⟩
      · cases ow
      · exact s.dis j k c z w jk hz hw oz ow e1
  · obtain ⟨q1, q2, q3, q4⟩ := s.strm p l q
    exact ⟨by rw [upd_ne (fun z => ns (.inl ⟨p, l, q, .inl z.symm⟩))]; exact q1, by rw [upd_ne (fun z => ns (.inl ⟨p, l, q, .inr z.symm⟩))]; exact q2, q3, q4⟩
open Classical in
/-- y = f(.., x); x.append(z): f keeps the very x in a pair behind a word -/
noncomputable def sHeld (i j : Nat) (f : Env' → M T) (w z : Str) : Env' → M Fl := fun ρ => match ownL i ρ with
  | some ts => if (∀ a : Addr, f (ρ.set i (.val (.pn a ts))) = .ret (.tup [.str w, .pn a ts])) ∧ (okLen ts.length && (ρ.set i .any).all fun y => !y.isOwn) = true then .ret (.next ((ρ.set i .any).set j (.val (.tup [.str w, .lst (ts ++ [.str z])])))) else .stuck
  | none => .stuck
open Classical in
theorem dss_held {x : Str} {py p1 spos apos cpos : Pos} {kz : Nat} {w z : Str} {rest : List Stmt} {G2 : Env' → M Fl} (hij : i ≠ j) (hN : X.N.Nodup) (hj : X.N[j]? = some x) (hx : Loc X.env.scope x) (he : DE X g W e f) (h0 : PE X o (tVar i)) (hrest : DSs X g W rest G2)
    (hs : swapsWith e (some (.Name x py)) p1.line X.env = pure false := by rfl) (hf : X.fn x = true ∨ X.env.scope.names.lookup x = some .local := by first | exact .inl rfl | exact .inr rfl | assumption)
    (hs2 : swapsWith (.Call (.Attribute o "append" apos) [.Constant (.str z) kz cpos] [] pos) none spos.line X.env = pure false := by rfl)
    (hbase : attributeBase o "append" X.env (eval o X.env) = eval o X.env := by rfl)
    (hfew : ((backTo pos (starEach (Expr.Constant (.str z) kz cpos :: []) X.env)).all (fun x => !x.1) && (backToKw pos (keywordEach [] X.env)).all (fun x => x.1.isSome)
      && decide ((Expr.Constant (.str z) kz cpos :: []).length + ([] : List Keyword).length + (if ([] : List Keyword).isEmpty then 0 else 1) < 30)) = true := by rfl)
    (hline : (apos.endLine == pos.line) = true := by rfl) (hst : starEach (Expr.Constant (.str z) kz cpos :: []) X.env = (false, eval (.Constant (.str z) kz cpos) X.env) :: starEach [] X.env := by rfl) (hplain : (backTo pos (starEach [] X.env)).any (·.1) = false := by rfl) :
    DSs X g W (.Assign [.Name x py] e p1 :: .Expr (.Call (.Attribute o "append" apos) [.Constant (.str z) kz cpos] [] pos) spos :: rest) (sSeq (sHeld i j f w z) G2) := by
  refine pss_imp (pss_cons (ps_set hN hj hx he hs hf) (pss_cons (ps_expr (pe_bm PySem.F.plainAttrs_list PySem.F.slot_list_append PySem.F.type_list_append mt_append h0 (pa_cons pe_str pa_nil hst) hbase hfew hline hst hplain) hs2) hrest)) fun D σ H ⟨ρ, F, b, s, q⟩ => ?_
  have q := M.wp_bind.mp q
  unfold sHeld at q
  cases eo : ownL i ρ with
  | none => rw [eo] at q; exact q.elim
  | some ts =>
    rw [eo] at q
    obtain ⟨⟨hfe, ok⟩, q⟩ := if_of q
    obtain ⟨ok, alone⟩ := Bool.and_eq_true_iff.mp ok
    have alone : ∀ (k : Nat) (y : Sl), k ≠ i → ρ[k]? = some y → y.isOwn = false := fun k y hk hy => by
      have z := List.all_eq_true.mp alone y (List.mem_of_getElem? (i := k) (by rw [List.getElem?_set_ne (Ne.symm hk)]; exact hy))
      cases e : y.isOwn with
      | false => rfl
      | true => simp [e] at z
    have hx := ownL_of eo
    obtain ⟨u, hv, sl⟩ := Paired.get1 s.slots hx
    cases sl with
    | @own a vs _ ha hf0 hH0 nS r =>
      have s1 := s.pinAt hx hv ha r hf0 hH0 nS
      refine ⟨_, _, b, s1, ?_⟩
      rw [hfe a]
      intro v H' F' st rv
      have pa : F' a = some (.lst vs) := st.ext _ _ upd_same
      have pH : H' a = some (.lst vs) := st.sr.sub _ _ pa
      have il : i < σ.length := (List.getElem?_eq_some_iff.mp hv).1
      have e0 : Ext F F' := fun c u e => st.ext c u (by rw [upd_ne (ne_of_none e hf0)]; exact e)
      have e3 : Ext F (upd F' a (.lst (vs ++ [.str z]))) := fun c u e => by rw [upd_ne (ne_of_none e hf0)]; exact e0 c u e
      refine ⟨.ref a, by rw [List.getElem?_set_ne (Ne.symm hij)]; exact hv, .inl ⟨rfl, vs, SqL.of pH⟩, a, vs, .str z, rfl, rfl, pH, by rw [r.length]; exact okLen_line ok, ?_⟩
      refine ⟨_, upd F' a (.lst (vs ++ [.str z])), b, ?_, M.wp_mono q (fun _ _ y => y.step e3) fun _ _ _ y => y.step e3⟩
      refine ⟨fun c u e => ?_, s.f0.trans e3, fun c u e n => ?_, fun c u e n => ?_, ?_, fun j1 k1 c y1 y2 jk hy hz oy oz e1 => ?_, fun p l e => ?_, fun p q m => ?tb⟩
      case tb =>
        obtain ⟨h1, ps, h2, h3, h4⟩ := st.sr.tabs p q m
        have pa' : p ≠ a := Cn.tabNe nS m
        refine ⟨by rw [upd_ne pa']; exact h1, ps, by rw [upd_ne pa']; exact h2, h3, fun pos cv hc => ?_⟩
        obtain ⟨c, e1, e2⟩ := h4 pos cv hc
        exact ⟨c, e1, by rw [upd_ne (fun y => by rw [y, pa] at e2; nomatch e2)]; exact e2⟩
      · by_cases hc : c = a
        · subst hc; rw [upd_same] at e ⊢; exact e
        · rw [upd_ne hc] at e ⊢; exact st.sr.sub c u e
      · rw [upd_ne (ne_of_none e hH0)]; exact st.sr.keep c u e n
      · rw [upd_ne (ne_of_none e hH0)]; exact st.sr.new c u e n
      · have told : Rep g.K (upd F' a (.lst (vs ++ [.str z]))) v (.tup [.str w, .lst (ts ++ [.str z])]) := by
          cases rv with
          | @tup c us _ t1 t2 =>
            cases t2 with
            | cons w1 w2 =>
              cases w2 with
              | cons w3 w4 =>
                cases w4
                cases w1
                cases w3
                refine .tup (vs := [.str w, .ref a]) ?_ (.cons (.str w) (.one (.lst upd_same ((r.ext e3).append (.one (.str z))))))
                rcases t1 with (t1 | ⟨ob, t1⟩) | t1
                · exact .inl (.inl (by rw [upd_ne (fun y => by rw [y, pa] at t1; cases t1)]; exact t1))
                · exact .inl (.inr ⟨ob, by rw [upd_ne (fun y => by rw [y, pa] at t1; cases t1)]; exact t1⟩)
                · exact .inr t1
        refine Paired.set2 (.val told) j (Paired.setImp s.slots hv (.any _) fun j1 v1 z1 hj1 h1 h2 q1 => ?_)
        · have h2' : (ρ.set i (Sl.val (.pn a ts)))[j1]? = some z1 := by rw [List.getElem?_set_ne (Ne.symm hj1)]; exact h2
          obtain ⟨v2, hv2, q2⟩ := Paired.get1 st.sr.slots h2'
          rw [h1] at hv2
          cases hv2
          have ne : ∀ {c : Addr}, F' c = none → c ≠ a := fun {c} n y => by rw [y, pa] at n; cases n
          cases q2 with
          | any _ => exact .any _
          | val _ =>
            cases q1 with
            | val r => exact .val (r.ext e3)
          | own _ _ _ _ _ => exact nomatch alone _ _ hj1 h2
          | ownD _ _ _ _ _ => exact nomatch alone _ _ hj1 h2
          | ownS _ _ _ _ _ => exact nomatch alone _ _ hj1 h2
          | strm h => exact .strm h
          | pin h => exact .pin h
      · rcases get_set hy with ⟨rfl, rfl, _⟩ | ⟨nj, hy⟩
        · cases oy
        · rcases get_set hy with ⟨rfl, rfl, _⟩ | ⟨ni, hy⟩
          · cases oy
          · rcases get_set hz with ⟨rfl, rfl, _⟩ | ⟨nk, hz⟩
            · cases oz
            · rcases get_set hz with ⟨rfl, rfl, _⟩ | ⟨nk2, hz⟩
              · cases oz
              · rw [List.getElem?_set_ne (Ne.symm nj)] at e1
                rw [List.getElem?_set_ne (Ne.symm nk)]
                exact s.dis j1 k1 c y1 y2 jk hy hz oy oz e1
      · obtain ⟨q1, q2, q3, ns, c1, n1, m1, w1, w2, w3⟩ := st.sr.strm p l e
        have ne : ∀ {c : Addr}, F' c = none → c ≠ a := fun {c} n y => by rw [y, pa] at n; cases n
        exact ⟨by rw [upd_ne (ne q1)]; exact q1, by rw [upd_ne (ne q2)]; exact q2, q3, ns, c1, n1, m1, by rw [upd_ne (ne q1)]; exact w1, by rw [upd_ne (ne q2)]; exact w2, w3⟩
end
end DP
end
section
set_option Elab.async false
set_option linter.all false
set_option maxRecDepth 100000
namespace DP
open PySem PySem.Spec PyProof.Rows L2
theorem kw_of {K : KF} {x qual : Str} {st : Stmt} {f : Addr} {fd : FuncData} {ps ks : List Str} {np : Nat} {π : {α : Type} → List α → List α} (F : Fun K x qual st f fd)
    (h : ∀ (kV doc pm : Value) (an : Option Addr) (cdv ct : Value) (ws : List Value), ws.length = np → bindArgs (PySem.W.fnOf x qual (defArgs st) (defBody st) (defScope st) .none kV doc pm an cdv ct) ⟨[], ks.zip ws⟩ = pure (ps.zip (π ws))) : KwB K fd ps ks np @π := by
  obtain ⟨oc, od, kV, doc, pm, an, cdv, ct, osl, rfl, lk, hcd⟩ := F.ex
  exact ⟨fun s ws hl => BindsTo.of_eq (h kV doc pm an cdv ct ws hl)⟩
end DP
end
section
set_option Elab.async false
set_option linter.all false
set_option maxRecDepth 100000
namespace DP
open PySem PySem.Spec PyProof.Rows L2
theorem bt_of {K : KF} {x qual y : Str} {st : Stmt} {f : Addr} {fd : FuncData} (F : Fun K x qual st f fd)
    (h : ∀ (kV doc pm : Value) (an : Option Addr) (cdv ct : Value) (us : List Value), us.length = 1 → bindArgs (PySem.W.fnOf x qual (defArgs st) (defBody st) (defScope st) .none kV doc pm an cdv ct) ⟨us, []⟩ = pure ([y].zip us)) : ∀ (s : Shared) (u : Value), BindsTo s fd ⟨[u], []⟩ [(y, u)] := by
  obtain ⟨oc, od, kV, doc, pm, an, cdv, ct, osl, rfl, lk, hcd⟩ := F.ex
  exact fun s u => BindsTo.of_eq (h kV doc pm an cdv ct [u] rfl)
end DP
end
section
set_option Elab.async false
set_option linter.all false
set_option maxRecDepth 100000
/-! try with several clauses, each of which names the error -/
namespace DP
open PySem PySem.Spec PyProof.Rows L2
/-- a clause: its class, and what its suite asks -/
abbrev Cl := Value × (Addr → Value → Option Addr → TS)
def goneD (i : Nat) (D : Ends) : Ends where
  nx := fun τ G => D.nx (τ.set i none) G
  rt := D.rt
  bk := fun τ G => D.bk (τ.set i none) G
  ct := fun τ G => D.ct (τ.set i none) G
/-- what the clauses wish of an error; one of them must take it -/
def wCls (K : KF) (i : Nat) (D : Ends) : List Cl → WX
  | [] => fun _ _ _ _ => False
  | p :: r => fun cl d τ G => ∃ b, PySem.W.exmOne K cl p.1 = some b ∧ (b = true → ∀ e, G e = none → p.2 e cl d (goneD i D) (τ.set i (some (.ref e))) G) ∧ (b = false → wCls K i D r cl d τ G)
inductive ClsOk (X : Cx) (n : Str) : List ExceptHandler → List Cl → Prop
  | nil : ClsOk X n [] []
  | cons {x : Str} {c : Value} {ts : Addr → Value → Option Addr → TS} {st : Stmt} {sts : List Stmt} {q1 q2 : Pos} {hds : List ExceptHandler} {l : List Cl} (hx : Names X x c)
      (suite : ∀ (e : Addr) (o : Obj) (cl : Value) (d : Option Addr) (pn : List (Addr × Obj)), Zc cl d o → (∃ vs, o.data = .fields vs) → PSs (X.suite e ((e, o) :: pn)) (st :: sts) (ts e cl d)) (rest : ClsOk X n hds l) :
      ClsOk X n (.ExceptHandler (some (.Name x q1)) (some n) (st :: sts) q2 :: hds) ((c, ts) :: l)
section
variable {X : Cx} {n : Str} {i : Nat} {body : List Stmt} {hd : ExceptHandler} {hds : List ExceptHandler} {l : List Cl} {pos : Pos} {tb : WX → TS}
theorem ps_tryCls (stk : X.stack = X.env :: X.outer) (fr : X.env.frame = some X.env.locals) (nd : X.N.Nodup) (at_ : X.N[i]? = some n) (kd : X.env.kindOf n = some .local)
    (run : ∀ (W : WX) (pn : List (Addr × Obj)) (xe : Value → Shared → Prop), Takes (X.tr pn xe) W → PSs (X.tr pn xe) body (tb W)) (cls : ClsOk X n (hd :: hds) l) :
    PS X (.Try body (hd :: hds) [] [] pos) (fun D τ G => tb (fun cl d τ G => τ.length = X.N.length → wCls X.K i D l cl d τ G) D τ G) := by
  refine ⟨fun ps s τ G D I want => ?_⟩
  have ok := I.ok
  have frs_eq : X.A.frames = some (X.env :: X.outer) := by rw [ok.frames, stk]
  refine wpAny_Try_except ?_
  refine wpAny_mono ((run (fun cl d τ G => τ.length = X.N.length → wCls X.K i D l cl d τ G) (X.pn ++ ps) (fun u t1 => wpAny (model X.prog X.w) X.A (noteFrame u X.env) (fun _ t2 => wpAny (model X.prog X.w) X.A (setFlight u none) (fun _ t3 =>
    wpAny (model X.prog X.w) X.A (handleBy u X.env (hd :: hds)) (SP X ps D) X.xe t3) X.xe t2) X.xe t1) (fun u s1 caught => ?_)).run [] s τ G D (I.toTry _) want) (fun fl s1 fin => ?_) (fun _ _ z => z)
  · obtain ⟨e, B, sB, ps2, τ1, G1, cl, d, rfl, J0, nb, up, sky, free, os, ag, wish⟩ := caught
    have J : Inv X ps τ1 G1 sB := J0.ofTry ok
    have sky1 : Sky B (X.env :: X.outer) e (Zc cl d) X.env.locals s1.heap := by rw [← stk]; exact sky
    show wpAny (model X.prog X.w) X.A (noteFrame (.ref e) X.env) _ _ _
    refine Sky.land Zc.steady frs_eq fr sky1 fun hp fly up1 => ?_
    have JL : Inv X ps τ1 G1 { s1 with heap := hp } := J.landed nb fly.1 (up.trans up1) os ag
    obtain ⟨oe, vs, he, hz, hdt⟩ := fly.there
    have nfr : e ∉ frs (X.env :: X.outer) := fun hm => by
      obtain ⟨_, o2, e2, no⟩ := fly.2.2.1.mem hm
      rw [he] at e2
      cases e2
      exact no _ hdt
    have nLoc : e ≠ X.env.locals := fun z => nfr (List.mem_filterMap.mpr ⟨X.env, List.mem_cons_self, by rw [fr, z]⟩)
    have nFs : e ∉ X.fs := fun hm => by
      obtain ⟨v, hv, q⟩ := List.mem_filterMap.mp hm
      exact nfr (List.mem_filterMap.mpr ⟨v, List.mem_cons_of_mem _ hv, q⟩)
    have JS := JL.suite he hdt free nLoc nFs
    have go : ∀ {hs : List ExceptHandler} {ls : List Cl}, ClsOk X n hs ls → wCls X.K i D ls cl d τ1 G1 → wpAny (model X.prog X.w) X.A (handleBy (.ref e) X.env hs) (SP X ps D) X.xe { s1 with heap := hp } := by
      intro hs ls ck
      induction ck with
      | nil => exact fun z => z.elim
      | @cons x c ts st sts q1 q2 hs2 ls2 hx suite rest ih =>
        rintro ⟨b, ex, yes, no⟩
        refine wpAny_handleBy_cons (codeAny_handlers_test ?_) (by intro z; cases z)
        have look : PySem.W.Looks (model X.prog X.w) hp (typeOf (.ref e)) cl := fun A Q E t k q => wpAny_typeOf_ref (k _ _ he) (by rw [hz.1]; exact q)
        have one := PySem.W.exm_one (M := model X.prog X.w) JL.kIn look ex
        have named : ∀ {Q E : Value → Shared → Prop}, Q c { s1 with heap := hp } → wpAny (model X.prog X.w) (X.A.mark (some (.ref e))) (eval (.Name x q1) X.env) Q E { s1 with heap := hp } := fun {Q E} q => by
          obtain ⟨g1, g2, g3 | ⟨g3, g4, g5⟩⟩ := hx
          · exact ld_glob (X := X.suite e ((e, oe) :: (X.pn ++ ps))) JS g1 g3 q g2
          · exact ld_blt (X := X.suite e ((e, oe) :: (X.pn ++ ps))) JS g1 g3 g4 q g5 g2
        refine named (one.here ?_)
        cases b with
        | false => exact ih (no rfl)
        | true =>
          refine codeAny_handlers_suite_as ?_
          refine HandSPX.lands_againZ fly fun h4 fly4 up4 => ?_
          have J4 : Inv X ps τ1 G1 { s1 with heap := h4 } := J.landed nb fly4.1 ((up.trans up1).trans up4) os ag
          obtain ⟨o4, v4, he4, hz4, hd4⟩ := fly4.there
          refine store_ok (X := X.suite e ((e, o4) :: (X.pn ++ ps))) (v := .ref e) (J4.suite he4 hd4 free nLoc nFs) nd at_ (.inl kd) rfl (fun s5 S5 => ?_) (.inr kd)
          refine wpAny_mono ((suite e o4 cl d (X.pn ++ ps) hz4 ⟨_, hd4⟩).run [] s5 _ G1 _ S5 (yes rfl e free)) (fun fl s6 fin => ?_) (fun _ _ z => False.elim z)
          have out : ∀ {τ6 : L2.St} {G6 : Hp} {Q : Shared → Prop}, Inv (X.suite e ((e, o4) :: (X.pn ++ ps))) [] τ6 G6 s6 → (∀ s7, Inv X ps (τ6.set i none) G6 s7 → Q s7) →
              wpAny (model X.prog X.w) X.A (do bindName X.env n .none; unbindBehindTheSuite X.env n q2) (fun _ s7 => Q s7) X.xe s6 := fun {_ _ _} S6 q => gone_ok (S6.unsuite ok) nd at_ kd q
          cases fl with
          | ret u => obtain ⟨v6, τ6, G6, S6, r6, q6⟩ := fin; exact out S6 fun s7 J7 => ⟨_, _, _, J7, r6, q6⟩
          | next => obtain ⟨τ6, G6, S6, q6⟩ := fin; exact out S6 fun s7 J7 => ⟨_, _, J7, q6⟩
          | brk => obtain ⟨τ6, G6, S6, q6⟩ := fin; exact out S6 fun s7 J7 => ⟨_, _, J7, q6⟩
          | cont => obtain ⟨τ6, G6, S6, q6⟩ := fin; exact out S6 fun s7 J7 => ⟨_, _, J7, q6⟩
    exact go cls (wish JL.len)
  · cases fl with
    | ret u => obtain ⟨v, τ1, G1, J, r, q⟩ := fin; exact ⟨v, τ1, G1, J.ofTry ok, r, q⟩
    | next => obtain ⟨τ1, G1, J, q⟩ := fin; exact wpAny_execs_nil ⟨τ1, G1, J.ofTry ok, q⟩
    | brk => obtain ⟨τ1, G1, J, q⟩ := fin; exact ⟨τ1, G1, J.ofTry ok, q⟩
    | cont => obtain ⟨τ1, G1, J, q⟩ := fin; exact ⟨τ1, G1, J.ofTry ok, q⟩
end
end DP
end
section
set_option Elab.async false
set_option linter.all false
set_option maxRecDepth 100000
/-! a lambda is made: what is told of its code's table goes on -/
namespace DP
open PySem PySem.Spec PyProof.Rows L2
section
variable {X : Cx} {ps : List (Addr × Obj)} {τ : L2.St} {F G : Hp} {s : Shared} {c P : Addr}
/-- what stands behind the making of a lambda: f, the new function; c', its code object -/
structure Lam (X : Cx) (ps : List (Addr × Obj)) (τ : L2.St) (F G : Hp) (P : Addr) (q : Str) (params : Arguments) (body : Expr) (scope : Scope) (f c' : Addr) (F1 G1 : Hp) (t : Shared) : Prop where
  inv : Inv X ps τ G1 t
  ext : Ext F F1
  sub : Ext F1 G1
  keep : ∀ b o, b ≠ P → G b = some o → G1 b = some o
  new : ∀ b o, G b = some o → F b = none → F1 b = none
  tab : TabAt F1 G1 P q
  at_ : ∃ pm ctv, t.heap.get? f = some (PySem.W.kla_obj "<lambda>" q params body scope (cloFrom X.env.cells scope.names []) pm c' ctv)
  fnew : G1 f = none
  nfr : f ∉ frs X.stack
  code : G1 c' = some (LamX.CodeO c' q)
theorem lam_new {params : Arguments} {body : Expr} {scope : Scope} {pos : Pos} {E Q : Value → Shared → Prop} (I : Inv X ps τ G s) (TB : LamX.TabB X.base X.mg c P) (cd : X.env.code = .ref c) (sub : Ext F G) (fP : F P = none)
    (tb : TabAt F G P (X.env.qual ++ "<lambda>")) (df : defaultsOf params X.env = ([], [])) (fv : ∀ y ∈ scope.names, y.2 = .free → ∃ c, X.env.cells.lookup y.1 = some c)
    (go : ∀ f c' F1 G1 t, Lam X ps τ F G P (X.env.qual ++ "<lambda>") params body scope f c' F1 G1 t → Q (.ref f) t) : wpAny (model X.prog X.w) X.A (eval (.Lambda params body scope pos) X.env) Q E s := by
  obtain ⟨ts, gP, trip, told⟩ := tb
  refine PySem.W.kla_eval df ?_
  have bld : s.heap.BuiltinsAt X.mg P := TB.bm.keeps I.bk
  have hpP : s.heap.get? P = some { cls := .none, data := .fields ts } := I.hok P _ gP
  have nofr : ∀ f, s.heap.objs.size ≤ f → f ∉ frs X.stack := fun f le mem => by
    rcases List.mem_cons.mp (I.stkSub _ mem) with e | e
    · exact absurd (e ▸ I.lt) (Nat.not_lt.mpr le)
    · exact I.nofs le e
  cases hc : codeAmong pos ts.toList with
  | some cv =>
    obtain ⟨c', rfl, known⟩ := told pos cv hc
    refine PySem.W.kla_makeFunctionHit (mg := X.mg) (c := c) (P := P) (ps := ts) (closure_ok fv) I.ok.glob (I.mod.glob.keeps I.bk) cd (TB.code.keeps I.bk) hpP trip hc bld fun ctv h1 tk old big => ?_
    refine go h1.objs.size c' F G _ ⟨I.kept fun b o e => Heap.get?_push_of_some _ (old b o e), Same.refl _, sub, fun _ _ _ e => e, fun _ _ _ e => e, ⟨ts, gP, trip, told⟩, ⟨_, ctv, Heap.get?_push_size _ rfl⟩, I.hok.fresh big, nofr _ big, sub _ _ known⟩
  | none =>
    refine PySem.W.kla_makeFunction (mg := X.mg) (c := c) (P := P) (ps := ts) (closure_ok fv) I.ok.glob (I.mod.glob.keeps I.bk) cd (TB.code.keeps I.bk) hpP trip hc TB.gP bld fun c' ctv h1 tk old big less rec tbl => ?_
    obtain ⟨c2, oc, vs, t, e2, hoc, hd, hv⟩ := rec
    cases e2
    have sz : s.heap.objs.size ≤ h1.objs.size := Nat.le_trans big (Nat.le_of_lt less)
    have nC : G c' = none := I.hok.fresh big
    have fC : F c' = none := sub.free nC
    have PneC : P ≠ c' := fun z => by rw [z, nC] at gP; cases gP
    have J := LamX.inv_table (t' := tk) (more := #[rawInt pos.line, rawInt pos.col, .ref c']) (h' := h1.push (PySem.W.kla_obj "<lambda>" (X.env.qual ++ "<lambda>") params body scope (cloFrom X.env.cells scope.names []) ((X.mg "__name__").getD .none) c' ctv)) I gP
      (fun b o hb e => Heap.get?_push_of_some _ (old b o hb e)) (Heap.get?_push_of_some _ tbl) big ⟨oc, vs, t, Heap.get?_push_of_some _ hoc, hd, hv⟩
    have n1 : h1.objs.size ≠ c' := Nat.ne_of_gt less
    have n2 : h1.objs.size ≠ P := Nat.ne_of_gt (Nat.lt_of_lt_of_le (Heap.lt_size hpP) sz)
    have snoc : (ts ++ #[rawInt pos.line, rawInt pos.col, Value.ref c']).toList = ts.toList ++ [rawInt pos.line, rawInt pos.col, .ref c'] := by simp
    have grown : Ext F (upd F c' (LamX.CodeO c' (X.env.qual ++ "<lambda>"))) := Ext.upd fC
    refine go h1.objs.size c' (upd F c' (LamX.CodeO c' (X.env.qual ++ "<lambda>"))) _ _ ⟨J, grown, fun b o e => ?_, fun b o hb e => ?_, fun b o e n => ?_, ⟨_, by rw [upd_ne PneC, upd_same], by rw [snoc]; exact PySem.TriplesOk_snoc _ _ _ _ trip, fun p cv h => ?_⟩, ⟨_, ctv, Heap.get?_push_size _ rfl⟩, ?_, nofr _ sz, upd_same⟩
    · by_cases z : b = c'
      · subst z; rw [upd_same] at e ⊢; exact e
      · rw [upd_ne z] at e
        rw [upd_ne z, upd_ne (fun y => by rw [y, fP] at e; cases e)]
        exact sub _ _ e
    · rw [upd_ne (fun y => by rw [y, nC] at e; cases e), upd_ne hb]; exact e
    · rw [upd_ne (fun y => by rw [y, nC] at e; cases e)]; exact n
    · rw [snoc] at h
      rcases LamX.among_app _ trip h with z | z
      · obtain ⟨c0, e1, e2⟩ := told p cv z
        exact ⟨c0, e1, grown _ _ e2⟩
      · exact ⟨c', z, upd_same⟩
    · rw [upd_ne n1, upd_ne n2]; exact I.hok.fresh sz
end
end DP
end
section
set_option Elab.async false
set_option linter.all false
set_option maxRecDepth 100000
/-! tried(lambda: e): what e gives, behind a word; or what the error kept, behind another one -/
namespace DP
open PySem PySem.Spec PyProof.Rows L2
section
variable {X : Cx} {ps : List (Addr × Obj)} {τ : L2.St} {F G F1 G1 : Hp} {s t : Shared} {P : Addr} {q : Str} {params : Arguments} {body : Expr} {scope : Scope} {f c' : Addr}
theorem SR.lam {g : Cn} {σ : Sg} {ρ : Env'} {b : Nat} (sr : SR g F G σ ρ b) (m : (P, q) ∈ g.T) (u : ∀ q', (P, q') ∈ g.T → q' = q) (L : Lam X ps τ F G P q params body scope f c' F1 G1 t) : Step g σ ρ F G F1 G1 b := by
  have kp : ∀ a o, ¬ g.inS a → G a = some o → G1 a = some o := fun a o n h => L.keep a o (fun z => n (z ▸ Cn.tabIn m)) h
  refine ⟨L.ext, ⟨L.sub, sr.f0.trans L.ext, fun a o h n => kp a o n (sr.keep a o h n), fun a o h n => ?_, Paired.imp2 sr.slots fun i v x _ _ r => ?_, sr.dis, fun p l e => ?_, fun p q' e => ?_⟩, fun a o h n _ => kp a o n h, L.new⟩
  · obtain ⟨w, hw⟩ := sr.there h
    exact L.new a w hw (sr.new a o h n)
  · cases r with
    | any v => exact .any v
    | val r => exact .val (r.ext L.ext)
    | own h1 h2 h3 h4 h5 => exact .own (kp _ _ h4 h1) (L.new _ _ h1 h2) h3 h4 (h5.ext L.ext)
    | ownD h1 h2 h3 h4 h5 => exact .ownD (kp _ _ h4 h1) (L.new _ _ h1 h2) h3 h4 (h5.ext L.ext)
    | ownS h1 h2 h3 h4 h5 => exact .ownS (kp _ _ h4 h1) (L.new _ _ h1 h2) h3 h4 (h5.ext L.ext)
    | strm h => exact .strm h
    | pin h => exact .pin h
  · obtain ⟨h1, h2, h3, ns, c, n, mm, q1, q2, q3⟩ := sr.strm p l e
    obtain ⟨ts, hP⟩ := (sr.tabs P q m).2.has
    have k1 := L.keep p _ (fun z => by rw [z, hP] at q1; cases q1) q1
    have k2 := L.keep l _ (fun z => by rw [z, hP] at q2; cases q2) q2
    exact ⟨L.new _ _ q1 h1, L.new _ _ q2 h2, h3, ns, c, n, mm, k1, k2, q3⟩
  · obtain ⟨h1, h2⟩ := sr.tabs p q' e
    obtain ⟨ts, hp⟩ := h2.has
    refine ⟨L.new _ _ hp h1, ?_⟩
    by_cases z : p = P
    · subst z
      rw [u q' e]
      exact L.tab
    · exact h2.ext L.ext fun o e => L.keep p o z e
end
/-- the meaning: told, the word of what comes; ws, the words of the errors -/
def triedM (told : Str) (ws : List (Str × Str)) : M T → M T
  | .ret v => .ret (.tup [.str told, v])
  | .draw n k => .draw n fun d => triedM told ws (k d)
  | .exc c t => match ws.lookup c with
    | some w => .ret (.tup [.str w, t])
    | none => .stuck
  | .stuck => .stuck
theorem triedM_wp {told : Str} {ws : List (Str × Str)} {Q : Nat → T → Prop} {E : Nat → Str → T → Prop} : ∀ {m : M T} {b : Nat}, (triedM told ws m).wp b Q E → m.wp b (fun b' v => Q b' (.tup [.str told, v])) (fun b' c t => ∃ w, ws.lookup c = some w ∧ Q b' (.tup [.str w, t]))
  | .ret v, _, h => h
  | .draw n k, b, h => ⟨h.1, h.2.1, fun d h1 h2 => triedM_wp (m := k d) (h.2.2 d h1 h2)⟩
  | .exc c t, b, h => by
    have h : (match ws.lookup c with | some w => M.ret (T.tup [T.str w, t]) | none => M.stuck).wp b Q E := h
    cases e : ws.lookup c with
    | none => rw [e] at h; exact h.elim
    | some w => rw [e] at h; exact ⟨w, e, h⟩
  | .stuck, _, h => h.elim
def eTried (told : Str) (ws : List (Str × Str)) (f : Env' → M T) : Env' → M T := fun ρ => triedM told ws (f ρ)
/-- a clause's class by name and address, its field, its word -/
structure Ck where
  x : Str
  C : Addr
  fl : Str
  w : Str
def Ck.ts (p : Ck) : Addr → Value → Option Addr → TS := fun e cl d => tRet (tTup (tCons (tC (.str p.w)) (tCons (tXf e cl d p.C p.fl (tVar 1)) tNil)))
def Ck.cl (p : Ck) : Cl := (.ref p.C, p.ts)
/-- the clauses' classes, told apart -/
def CksOk (K : KF) (Xc : Str → Addr × Str) (cs : List Ck) : Prop := (∀ p ∈ cs, Xc p.x = (p.C, p.fl)) ∧ ∀ p ∈ cs, ∀ r ∈ cs, PySem.W.exmOne K (.ref p.C) (.ref r.C) = some (decide (p.x = r.x))
theorem cks_hit {K : KF} {Xc : Str → Addr × Str} {all : List Ck} (ok : CksOk K Xc all) {c w : Str} {D : Ends} {d : Option Addr} {v : V} {τ : L2.St} {G : Hp} {dd : Addr} (lt : 1 < τ.length) (hd : d = some dd) (hG : G dd = some (.xd [((Xc c).2, v)]))
    (hQ : ∀ p, G p = none → D.rt (.ref p) (upd G p (.tup [.str w, v]))) : ∀ cs : List Ck, (∀ p ∈ cs, p ∈ all) → (∃ p ∈ all, p.x = c) → (cs.map fun p => (p.x, p.w)).lookup c = some w → wCls K 1 D (cs.map Ck.cl) (.ref (Xc c).1) d τ G
  | [], _, _, h => by cases h
  | p :: cs, sub, ⟨r, hr, rx⟩, h => by
    have hp := sub p List.mem_cons_self
    have e1 := ok.1 r hr
    rw [rx] at e1
    have ex := ok.2 r hr p hp
    have e1' : (Xc c).1 = r.C := congrArg Prod.fst e1
    refine ⟨_, by rw [e1']; exact ex, fun z e he => ?_, fun z => ?_⟩
    · have z := of_decide_eq_true z
      have e2 := ok.1 p hp
      rw [← z, rx] at e2
      have hw : p.w = w := by
        rw [List.map_cons, List.lookup_cons] at h
        rw [show (c == p.x) = true from by rw [← z, rx]; simp] at h
        exact Option.some.inj h
      have eC : (Xc c).1 = p.C := congrArg Prod.fst e2
      have eF : (Xc c).2 = p.fl := congrArg Prod.snd e2
      refine ⟨.ref e, by rw [List.getElem?_set_self lt], rfl, by rw [eC], dd, _, v, hd, hG, by rw [eF]; simp [List.lookup], ?_⟩
      refine ⟨show 2 ≤ sizeLine by decide, fun pp hpp => ?_⟩
      rw [hw]
      exact hQ pp hpp
    · have z := of_decide_eq_false z
      refine cks_hit ok lt hd hG hQ cs (fun y hy => sub y (List.mem_cons_of_mem _ hy)) ⟨r, hr, rx⟩ ?_
      rw [List.map_cons, List.lookup_cons] at h
      rw [show (c == p.x) = false from by
        rw [beq_eq_false_iff_ne, ← rx]
        exact z] at h
      exact h
end DP
end
section
set_option Elab.async false
set_option linter.all false
set_option maxRecDepth 100000
namespace DP
open PySem PySem.Spec PyProof.Rows L2
theorem lookup_mem' {ws : List (Str × Str)} {c w : Str} (h : ws.lookup c = some w) : (c, w) ∈ ws := PySem.mem_of_lookup h
/-- the pair that comes of it -/
theorem pair_step {g : Cn} {σ : Sg} {ρ : Env'} {F G F1 G1 : Hp} {b b1 : Nat} {v : V} {t : T} {w : Str} {p : Addr} (st : Step g σ ρ F G F1 G1 b1) (r : Rep g.K F1 v t) (hp : G1 p = none) :
    ∃ F2, Step g σ ρ F G F2 (upd G1 p (.tup [.str w, v])) b1 ∧ Rep g.K F2 (.ref p) (.tup [.str w, t]) := by
  have s2 := st.sr.step (.tup [.str w, v]) hp
  exact ⟨_, st.trans s2, .tup (.inl (.inl upd_same)) (.cons (.str w) (.one (r.ext s2.ext)))⟩
section
variable {X : Cx} {g : Cn} {W : WX} {told a en x : Str} {cs : List Ck} {sd : Stmt} {gA c P : Addr} {fd : FuncData} {k : Nat} {hd : ExceptHandler} {hds : List ExceptHandler} {params : Arguments} {body : Expr} {scope : Scope} {fb : Env' → M T}
/-- a clause's suite -/
theorem ck_suite {Z : Cx} {p : Ck} {e : Addr} {o : Obj} {cl : Value} {d : Option Addr} {pn : List (Addr × Obj)} {ex : Expr} {j : Nat} {p1 p2 p3 p4 : Pos} {ct : _} (T' : XfC Z.K p.C) (no : PySem.W.findIn Z.K (.ref p.C) p.fl = some none) (hz : Zc cl d o) (hf : ∃ vs, o.data = .fields vs)
    (h1 : PE (Z.suite e ((e, o) :: pn)) ex (tVar 1)) (hb : attributeBase ex p.fl Z.env (eval ex Z.env) = eval ex Z.env := by rfl)
    (hst : starEach (Expr.Constant (.str p.w) j p1 :: [.Attribute ex p.fl p2]) (Z.suite e ((e, o) :: pn)).env = (false, eval (.Constant (.str p.w) j p1) (Z.suite e ((e, o) :: pn)).env) :: starEach [.Attribute ex p.fl p2] (Z.suite e ((e, o) :: pn)).env := by rfl)
    (hst2 : starEach (Expr.Attribute ex p.fl p2 :: []) (Z.suite e ((e, o) :: pn)).env = (false, eval (.Attribute ex p.fl p2) (Z.suite e ((e, o) :: pn)).env) :: starEach [] (Z.suite e ((e, o) :: pn)).env := by rfl) :
    PSs (Z.suite e ((e, o) :: pn)) [.Return (some (.Tuple [.Constant (.str p.w) j p1, .Attribute ex p.fl p2] ct p3)) p4] (p.ts e cl d) :=
  pss_one (ps_ret (pe_tup (pa_cons pe_str (pa_cons (pe_xf T' no hz hf h1 hb) pa_nil hst2) hst)))
theorem de_tried {p lpos pos p1 p2 p3 p4 p5 p6 : Pos} {j : Nat} {ct : _} (Fn : L2.Fun X.K x x sd gA fd) (hb : Binds X.K fd [a] []) (S : FnScope [a, en] [a] (defScope sd))
    (hsd : defBody sd = [.Try [.Return (some (.Tuple [.Constant (.str told) j p3, .Call (.Name a p1) [] [] p2] ct p4)) p5] (hd :: hds) [] [] p6])
    (hva : Vis (defScope sd) a) (hen : (defScope sd).names.lookup en = some .local)
    (hcls : ∀ (cdv : Value) (s : Shared) (H : Hp), ClsOk (cxOf C8.CX0 X.prog X.w X.K X.mg X.base [a, en] x (defScope sd) gA cdv X.A X.stack s H C8.E0) en (hd :: hds) (cs.map Ck.cl)) (ok : CksOk X.K g.X cs)
    (hg : Gl X x) (hm : X.mg x = some (.ref gA)) (TB : LamX.TabB X.base X.mg c P) (hcode : X.env.code = .ref c) (hT : (P, X.env.qual ++ "<lambda>") ∈ g.T) (hu : ∀ q', (P, q') ∈ g.T → q' = X.env.qual ++ "<lambda>")
    (hr : Room (k + 2) X.A) (L : LamX.LamS X.env.scope scope) (hdef : defaultsOf params X.env = ([], []))
    (hbind : ∀ (q : Str) (cl : List (Str × Addr)) (pm cv ctv : Value), bindArgs (PySem.W.kla_fn "<lambda>" q params body scope cl pm cv ctv) ⟨[], []⟩ = pure [])
    (hbody : ∀ (A : Around) (outer : List Env) (s : Shared) (H : Hp) (E : XK) (f c' : Addr), Room k (A.deeper (LamX.lamEnv X scope s.heap.objs.size f c')) → DE (LamX.lamCx X A outer s H E scope f c') g (fun cl d _ H => E cl d H) body fb)
    (hdb : (x == ("__debug__" : Str)) = false := by decide) (had : (a == ("__debug__" : Str)) = false := by decide) (hac : (a == ("__classdict__" : Str)) = false := by decide) (hK : X.K = g.K := by rfl) :
    DE X g W (.Call (.Name x p) [.Lambda params body scope lpos] [] pos) (eTried told (cs.map fun p => (p.x, p.w)) fb) := by
  obtain ⟨oc, od, kV, doc, pm, an, cdv, ctv, osl, rfl, lk, hcd⟩ := Fn.ex
  refine ⟨fun pins s σ H Q I h => ?_⟩
  obtain ⟨ρ, F, b, sr, q⟩ := h
  have q := triedM_wp (m := fb ρ) q
  refine wpAny_Call_Name_kw (ld_glob I hg hm ?_ hdb)
  refine PySem.W.callWith_K (h₀ := X.base) I.ok.mod.kin Fn.kp ?_ (by rfl) (by rfl)
  show wpAny _ _ (spliced ((false, eval (.Lambda params body scope lpos) X.env) :: backTo pos (starEach [] X.env))) _ _ s
  refine Calls.spliced_cons (lam_new I TB hcode sr.sub (sr.tabs _ _ hT).1 (sr.tabs _ _ hT).2 hdef (L.has I.ok) fun f c' F1 H1 s' M1 => ?_)
  refine Calls.spliced_nil ⟨M1.inv.kIn, ?_⟩
  have st := sr.lam hT hu M1
  obtain ⟨pm', ctv', hf⟩ := M1.at_
  have rc : codeAny (model X.prog X.w) X.A (.call (.ref gA) ⟨[.ref f], []⟩) (CR C8.CX0 X.stack X.prog X.w H1 s' Q C8.E0) s' := by
    refine LamX.run_ofS (N := [a, en]) (ps := [a]) (us := [.ref f]) (vs := [.ref f]) lk hcd S hr M1.inv.env0 (hb s' [.ref f] M1.inv.kIn rfl) (.cons rfl .nil) rfl fun hr' => ?_
    have z1 : (L2.start [a, en] [V.ref f])[0]? = some (some (V.ref f)) := rfl
    have body' : PSs (cxOf C8.CX0 X.prog X.w X.K X.mg X.base [a, en] x (defScope sd) gA cdv X.A X.stack s' H1 C8.E0) (defBody sd)
        (fun D τ G => ∃ Ech : XK, (∀ cl d τ' G', Ech cl d G' → τ'.length = 2 → wCls X.K 1 D (cs.map Ck.cl) cl d τ' G') ∧ τ[0]? = some (some (.ref f)) ∧ G c' = some (LamX.CodeO c' (X.env.qual ++ "<lambda>")) ∧
          tD g (fun cl d _ H => Ech cl d H) fb σ G (fun v G' => ∀ p, G' p = none → D.rt (.ref p) (upd G' p (.tup [.str told, v])))) := by
      rw [hsd]
      refine pss_one (ps_tryCls (i := 1) (l := cs.map Ck.cl) (tb := fun W D τ G => ∃ Ech : XK, (∀ cl d τ' G', Ech cl d G' → W cl d τ' G') ∧ τ[0]? = some (some (.ref f)) ∧ G c' = some (LamX.CodeO c' (X.env.qual ++ "<lambda>")) ∧
          tD g (fun cl d _ H => Ech cl d H) fb σ G (fun v G' => ∀ p, G' p = none → D.rt (.ref p) (upd G' p (.tup [.str told, v])))) rfl rfl S.nd rfl ?kd (fun W pn xe tk => ⟨fun pins2 s2 τ G D I2 hh => ?_⟩) (hcls cdv s' H1))
      case kd => exact hen
      obtain ⟨Ech, hW, e1, e2, e3⟩ := hh
      have act := LamX.pe_act (i := 0) (p1 := p1) (p2 := p2) M1.inv L hf M1.fnew M1.nfr (hbind _ _ _ _ _) tk hW hr' (fun A outer s H hr2 => hbody A outer s H Ech f c' hr2) rfl hva had hac
      have whole := pss_one (ps_ret (pos := p5) (pe_tup (pos := p4) (x1 := ct) (pa_cons (pe_str (x := told) (j := j) (pos := p3)) (pa_cons act pa_nil))))
      refine whole.run pins2 s2 τ G D I2 ?_
      show τ[0]? = _ ∧ _ ∧ _
      refine ⟨e1, e2, ?_⟩
      obtain ⟨ρ', F', b', sr', q'⟩ := e3
      exact ⟨ρ', F', b', sr', M.wp_mono q' (fun b'' t y v G' F'' s'' r => ⟨show 2 ≤ sizeLine by decide, fun p hp => y v G' F'' s'' r p hp⟩) fun _ _ _ y => y⟩
    refine ⟨_, body', fun cl d G' => ∀ τ', τ'.length = 2 → wCls X.K 1 { nx := fun _ H' => Q .non H', rt := Q } (cs.map Ck.cl) cl d τ' G', fun cl d τ' G' h => h τ', z1, M1.code, ρ, F1, b, st.sr, M.wp_mono q (fun b' t y v G' F' s2 r p hp => ?_) fun b' cc t y d v G' F' s2 hd r τ' hl => ?_⟩
    · obtain ⟨F2, s3, r3⟩ := pair_step (b := b) (w := told) (st.trans s2) r hp
      exact y _ _ _ s3 r3
    · obtain ⟨w, lw, y⟩ := y
      obtain ⟨pp, hp1, hp2⟩ := List.mem_map.mp (lookup_mem' lw)
      refine cks_hit ok (by omega) rfl hd (fun p hp => ?_) cs (fun _ h => h) ⟨pp, hp1, congrArg Prod.fst hp2⟩ lw
      obtain ⟨F2, s3, r3⟩ := pair_step (b := b) (w := w) (st.trans s2) r hp
      exact y _ _ _ s3 r3
  refine wpAny_call (codeAny_mono rc fun r s2 hq => ?_)
  cases r with
  | error e => exact (show False from hq).elim
  | ok fl =>
    cases fl with
    | ret u => exact M1.inv.after hq
    | next => exact False.elim hq
    | brk => exact False.elim hq
    | cont => exact False.elim hq
end
end DP
end
section
set_option Elab.async false
set_option linter.all false
set_option maxRecDepth 100000
/-! What the top leaves, read by a Hook that takes any test of the written part. -/
namespace DP
open PySem PySem.Spec PyProof.Rows L2
def obsF (fb : List (KF → Bool)) (fa : List He.Fa) (fn : List He.DefD) (K : KF) : He.AlD := ((fb.all fun f => f K) && (He.obsD fa fn K).1, (He.obsD fa fn K).2)
def SaysF (fb : List (KF → Bool)) (fa : List He.Fa) (fn : List He.DefD) (K : KF) : Prop := obsF fb fa fn K = He.valD fn
def obsFG (n : Nat) (fb : List (KF → Bool)) (fa : List He.Fa) (fn : List He.DefD) (g : Addr → Option Obj) : He.AlD := obsF fb fa fn (He.frG g (He.asD g n))
def hookF (n : Nat) (fb : List (KF → Bool)) (fa : List He.Fa) (fn : List He.DefD) : PySem.W.Hook where
  α := He.AlD
  obs := fun s => obsFG n fb fa fn s.heap.get?
  val := fun _ => He.valD fn
  says := fun _ h => ∃ K : KF, K.In h ∧ SaysF fb fa fn K
  of := fun _ _ e => ⟨_, He.frG_in, e⟩
  keeps := fun _ _ _ ⟨K, hK, c⟩ k => ⟨K, PySem.W.Frag.In.keeps hK k, c⟩
theorem obsFG_eq {n : Nat} {fb : List (KF → Bool)} {fa : List He.Fa} {fn : List He.DefD} {g : Addr → Option Obj} {s : Shared} (h : ∀ a, g a = s.heap.get? a) : obsFG n fb fa fn g = (hookF n fb fa fn).obs s := by
  have e : g = s.heap.get? := funext h
  rw [e] <;> rfl
section
variable {fb : List (KF → Bool)} {fa : List He.Fa} {fn : List He.DefD} {K : KF}
theorem SaysF.d (c : SaysF fb fa fn K) : He.SaysD fa fn K := by
  have c1 : ((fb.all fun f => f K) && (He.obsD fa fn K).1) = true := congrArg (fun z : He.AlD => z.1) c
  have c2 : (He.obsD fa fn K).2 = fn.map He.DefD.val := congrArg (fun z : He.AlD => z.2) c
  have c3 := (He.ba c1).2
  show He.obsD fa fn K = (true, fn.map He.DefD.val)
  rw [← c2, ← c3]
theorem SaysF.b (c : SaysF fb fa fn K) (i : Nat) {f : KF → Bool} (h : fb[i]? = some f := by rfl) : f K = true := by
  have c1 : ((fb.all fun f => f K) && (He.obsD fa fn K).1) = true := congrArg (fun z : He.AlD => z.1) c
  exact List.all_eq_true.mp (He.ba c1).1 f (List.mem_of_getElem? h)
end
theorem fun_of {K : KF} {x q : Str} {st : Stmt} {f : Addr} {fd : FuncData} (F : FunD K x q (defArgs st) (defBody st) (defScope st) [] [] f fd) : Fun K x q st f fd := by
  obtain ⟨oc, od, dV, kV, doc, pm, an, cdv, ct, osl, e, h1, h2, h3, h4⟩ := F.ex
  rcases h3 with ⟨_, rfl⟩ | ⟨h, _⟩
  · exact ⟨⟨oc, od, kV, doc, pm, an, cdv, ct, osl, e, h1, h2⟩, F.kp⟩
  · exact absurd rfl h
/-- an own error's class with its own __init__ -/
def oexB (K : KF) (C : Addr) : Bool := (match K.lookup C with
  | some ⟨.type "type", _, .cls cd, sl⟩ => (match cd.mro, sl.toList with
    | .ref C' :: bm, [_, _, _, _, some (.builtin n), _] => C' == C && n == "ValueError.__new__" && !cd.hasDel && cd.hasDict && PySem.HandSPX.refsVE bm
    | _, _ => false)
  | _ => false) && (He.eqO (PySem.W.findIn K (.ref C) "__setattr__") (some (some (.builtin "object.__setattr__"))) && (decide (PySem.W.subIn K (.ref C) (.type "BaseException") = some true) &&
    (decide (PySem.W.typeIn K (.ref C) = some (.type "type")) && PySem.W.keepIn K (.ref C))))
theorem oex_of {K : KF} {C : Addr} (h : oexB K C = true) : OexC K C := by
  unfold oexB at h
  obtain ⟨h1, h⟩ := He.ba h
  obtain ⟨h2, h⟩ := He.ba h
  obtain ⟨h3, h⟩ := He.ba h
  obtain ⟨h4, h5⟩ := He.ba h
  refine ⟨?_, He.eqO_ok h2, of_decide_eq_true h3, of_decide_eq_true h4, h5⟩
  split at h1
  · rename_i dd cd sl ho
    split at h1
    · rename_i C' bm k0 k1 k2 k3 n k5 hm hs
      simp only [Bool.and_eq_true, beq_iff_eq, Bool.not_eq_true'] at h1
      obtain ⟨⟨⟨⟨rfl, rfl⟩, hdel⟩, hdict⟩, ht⟩ := h1
      obtain ⟨nm, bs, mro, ns, qn, hd, sn, sub, ab, col, del⟩ := cd
      dsimp only at hm hdel hdict
      subst hm hdel hdict
      have hsl : sl = #[k0, k1, k2, k3, some (.builtin "ValueError.__new__"), k5] := by
        obtain ⟨l⟩ := sl
        simp only at hs
        rw [hs]
      subst hsl
      exact ⟨nm, qn, ns, bs, bm, sn, sub, ab, col, dd, k0, k1, k2, k3, k5, ho, ht⟩
    · cases h1
  · cases h1
def excB (x f : Str) (K : KF) : Bool := oexB K (He.ga K x) && (He.eqO (PySem.W.findIn K (.ref (He.ga K x)) "__init__") (some (some (.ref (He.ma K (He.ga K x) "__init__")))) && (decide (PySem.W.typeIn K (.ref (He.ma K (He.ga K x) "__init__")) = some (.type "function")) &&
  (He.eqO (PySem.W.findIn K (.ref (He.ga K x)) f) (some none) && (He.Fa.glo x).ok K)))
theorem exc_of {K : KF} {h : Heap} {mg : Str → Option Value} (X : K.In h) (G : h.Ns mainGlobals mg) {x f : Str} (c : excB x f K = true) : ExcD K mg x f (He.ga K x) (He.ma K (He.ga K x) "__init__") := by
  unfold excB at c
  obtain ⟨c1, c⟩ := He.ba c
  obtain ⟨c2, c⟩ := He.ba c
  obtain ⟨c3, c⟩ := He.ba c
  obtain ⟨c4, c5⟩ := He.ba c
  exact ⟨oex_of c1, He.eqO_ok c2, of_decide_eq_true c3, He.eqO_ok c4, He.glo_ok X G c5⟩
end DP
end
section
set_option Elab.async false
set_option linter.all false
set_option maxRecDepth 100000
/-! a law with lambdas, called from outside: its code's table is empty then -/
namespace DP
open PySem PySem.Spec PyProof.Rows L2
abbrev tab0 : Obj := { cls := .none, data := .fields #[] }
/-- what the call finds: the script, and the tables -/
structure EntryT (P : Program) (w : World) (K : KF) (s : Shared) (a : Addr) (ns : List Int) (ts : List Addr) (H : Hp) : Prop where
  hok : HOk P w H s.heap
  tab : ∀ p ∈ ts, H p = some (.tbl #[])
  only : ∀ b u, H b = some u → b ∈ ts ∨ b = a ∧ K.lookup a = none ∧ ∃ o xs, u = .frz o (.lst xs)
  there : SqL K H a (ns.map V.int)
theorem entryT {P : Program} {w : World} {K : KF} {mg : Str → Option Value} {s : Shared} {a : Addr} {vs : List Value} {ns : List Int} {ts : List Addr} (KX : K.In s.heap)
    (ha : s.heap.get? a = some { cls := .type "list", data := .seq vs.toArray }) (hi : IntsAre vs ns) (hl : ns.length ≤ sizeLine) (hT : ∀ p ∈ ts, s.heap.get? p = some tab0) : ∃ H, EntryT P w K s a ns ts H := by
  obtain ⟨H0, N⟩ := entry (P := P) (w := w) (mg := mg) KX ha hi hl
  have aT : a ∉ ts := fun z => by
    have e := (hT a z).symm.trans ha
    cases e
  refine ⟨fun b => if b ∈ ts then some (.tbl #[]) else H0 b, fun b u z => ?_, fun p hp => if_pos hp, fun b u z => ?_, ?_⟩
  · by_cases hb : b ∈ ts
    · have z : (if b ∈ ts then some (HO.tbl #[]) else H0 b) = some u := z
      rw [if_pos hb] at z
      cases z
      exact hT b hb
    · have z : (if b ∈ ts then some (HO.tbl #[]) else H0 b) = some u := z
      rw [if_neg hb] at z
      obtain ⟨rfl, h2, ob, xs, rfl⟩ := N.only b u z
      exact N.hok b _ z
  · by_cases hb : b ∈ ts
    · exact .inl hb
    · have z : (if b ∈ ts then some (HO.tbl #[]) else H0 b) = some u := z
      rw [if_neg hb] at z
      exact .inr (N.only b u z)
  · rcases N.there with (h | ⟨o, h⟩) | h
    · exact .inl (.inl (by show (if a ∈ ts then some (HO.tbl #[]) else H0 a) = _; rw [if_neg aT]; exact h))
    · exact .inl (.inr ⟨o, by show (if a ∈ ts then some (HO.tbl #[]) else H0 a) = _; rw [if_neg aT]; exact h⟩)
    · exact .inr h
theorem top_callT {P : Program} {w : World} {K : KF} {mg mb : Str → Option Value} {fa a : Addr} {fd : FuncData} {x : Str} {sp : Sp} {s : Shared} {vs : List Value} {ns : List Int} {cs : List (Addr × Addr)}
    (KX : K.In s.heap) (hns : s.heap.Ns mainGlobals mg) (hb : s.heap.Ns builtinsNs mb) (hbb : ∀ x : Str, x ≠ "__name__" → mb x = bootBuiltins x) (hlim : s.heap.NoLimit) (hg : s.gens = #[])
    (hT : ∀ p ∈ cs, s.heap.get? p.2 = some tab0) (nT : ∀ p ∈ cs, K.lookup p.2 = none) (C : ∀ p ∈ cs, PySem.W.CodeHd s.heap p.1 p.2)
    (hbm : ∃ (m : Addr) (o : Obj), mg "__builtins__" = some (.ref m) ∧ m ≠ builtinsNs ∧ s.heap.get? m = some o ∧ o.cls = .type "module" ∧ o.dict = some builtinsNs ∧ o.data = .plain)
    (ha : s.heap.get? a = some { cls := .type "list", data := .seq vs.toArray }) (hi : IntsAre vs ns) (hl : ns.length ≤ sizeLine)
    (F : ∀ base : Heap, (∀ p ∈ cs, LamX.TabB base mg p.1 p.2) → OutOk P w K mg base fa fd [x] sp) (bind : ∀ (s : Shared) (u : Value), BindsTo s fd ⟨[u], []⟩ [(x, u)])
    (hsp : ∀ H : Hp, (∀ p ∈ cs, H p.2 = some (.tbl #[])) → SqL K H a (ns.map V.int) → sp [.ref a] H (fun v _ => v = .bl true) fun _ _ _ => False) :
    codeAny (model P w) callerA (.call (.ref fa) ⟨[.ref a], []⟩) (fun r s' => r = .ok (.ret (.bool true)) ∧ OldK s.heap s'.heap ∧ s'.os = s.os ∧ AllBare s'.gens) s := by
  have tabAt : ∀ b ∈ cs.map (·.2), s.heap.get? b = some tab0 := fun b h => by
    obtain ⟨p, hp, rfl⟩ := List.mem_map.mp h
    exact hT p hp
  obtain ⟨H, N⟩ := entryT (P := P) (w := w) (mg := mg) (ts := cs.map (·.2)) KX ha hi hl tabAt
  have inT : ∀ {p : Addr × Addr}, p ∈ cs → p.2 ∈ cs.map (·.2) := fun h => List.mem_map.mpr ⟨_, h, rfl⟩
  -- an object that is neither the script nor a table is not known
  have free : ∀ {b : Addr} {o : Obj}, s.heap.get? b = some o → (∀ xs n, o.data ≠ .seq xs n) → o.data ≠ .fields #[] → H b = none := fun {b o} e n1 n2 => by
    cases z : H b with
    | none => rfl
    | some u =>
      rcases N.only b u z with h | ⟨rfl, _⟩
      · rw [tabAt b h] at e; cases e; exact absurd rfl n2
      · rw [ha] at e; cases e; exact absurd rfl (n1 _ _)
  have freeD : ∀ {b : Addr} {o : Obj} {es : Array DictEntry} {n : Nat}, s.heap.get? b = some o → o.data = .dict es n → H b = none := fun {b o es n} e d =>
    free e (fun _ _ z => by rw [d] at z; cases z) fun z => by rw [d] at z; cases z
  have keepNs : ∀ {b : Addr} {m : Str → Option Value}, s.heap.Ns b m → (hidT s.heap H).Ns b m := fun {b m} ⟨o, es, ep, e, d, r⟩ => ⟨o, es, ep, hidT_get e (freeD e d), d, r⟩
  have KB : K.In (hidT s.heap H) := fun b o e => by
    refine hidT_get (KX b o e) ?_
    cases z : H b with
    | none => rfl
    | some u =>
      rcases N.only b u z with h | ⟨rfl, h2, _⟩
      · obtain ⟨p, hp, rfl⟩ := List.mem_map.mp h
        rw [nT p hp] at e; cases e
      · rw [h2] at e; cases e
  have TB : ∀ p ∈ cs, LamX.TabB (hidT s.heap H) mg p.1 p.2 := fun p hp => by
    refine ⟨?_, ?_, fun z => ?_⟩
    · obtain ⟨o, us, f1, f2, f3, f4, f5, f6, f7, e1, r1, r2, r3, rest⟩ := C p hp
      exact ⟨o, us, f1, f2, f3, f4, f5, f6, f7, hidT_get e1 (free e1 (fun _ _ z => by rw [r2] at z; cases z) fun z => by rw [r2] at z; cases z; simp at r3), r1, r2, r3, rest⟩
    · obtain ⟨m, o, b1, b2, b3, b4, b5, b6⟩ := hbm
      refine ⟨m, o, b1, b2, fun z => ?_, fun z => ?_, hidT_get b3 (free b3 (fun _ _ z => by rw [b6] at z; cases z) fun z => by rw [b6] at z; cases z), b4, b5, b6⟩
      · obtain ⟨o2, es, ep, e, d, _⟩ := hns
        rw [z, e] at b3; cases b3; rw [d] at b6; cases b6
      · rw [z, hT p hp] at b3; cases b3; cases b6
    · obtain ⟨o2, es, ep, e, d, _⟩ := hns
      rw [z, hT p hp] at e; cases e; cases d
  obtain ⟨mc, l1, l2⟩ := hlim
  have E0 : Env0 P w K mg (hidT s.heap H) callerA [] s H := ⟨rfl, ⟨KB, keepNs hns, ⟨mb, keepNs hb, hbb⟩, ⟨mc, keepNs l1, l2⟩⟩, fun b o e => of_hidT e, Nat.le_of_eq (hidT_size _ _), trivial, fun b z => absurd (show b ∈ ([] : List Addr) from z) (by simp), N.hok, .of_eq hg⟩
  refine codeAny_mono (F _ TB s H ⟨[.ref a], []⟩ [.ref a] [.ref a] _ _ E0 (bind s (.ref a)) (.cons rfl .nil) (hsp H (fun p hp => N.tab _ (inT hp)) N.there)) fun r s' z => ?_
  cases r with
  | error e => obtain ⟨_, _, _, _, _, _, _, _, _, _, _, _, y⟩ := z; exact y.elim
  | ok fl =>
    cases fl with
    | next => exact z.elim
    | brk => exact z.elim
    | cont => exact z.elim
    | ret u =>
      obtain ⟨v, H', os, bare, un, hok', rv, q⟩ := z
      cases (show v = .bl true from q)
      cases (show u = Value.bool true from rv)
      have keep : ∀ b o, b ∉ cs.map (·.2) → s.heap.get? b = some o → s'.heap.get? b = some o := fun b o nb e => by
        cases y : H b with
        | none => exact un.keep b o e y (fun h => absurd (show b ∈ ([] : List Addr) from h) (by simp)) (by simp)
        | some u =>
          rcases N.only b u y with h | ⟨_, _, ob, xs, rfl⟩
          · exact absurd h nb
          · obtain ⟨e1, _⟩ := N.hok b _ y
            obtain ⟨e2, _⟩ := hok' b _ (un.frzs b ob _ y)
            rw [e] at e1; cases e1; exact e2
      have more : ∀ p ∈ cs, ∃ xs : Array Value, s'.heap.get? p.2 = some { cls := .none, data := .fields xs } := fun p hp => by
        obtain ⟨xs, y⟩ := un.tbls p.2 #[] (N.tab _ (inT hp))
        exact ⟨_, hok' p.2 _ y⟩
      refine ⟨rfl, ⟨fun b o e => ?_, fun b o e => ?_⟩, os, bare⟩
      · by_cases hb : b ∈ cs.map (·.2)
        · obtain ⟨p, hp, rfl⟩ := List.mem_map.mp hb
          obtain ⟨xs, hx⟩ := more p hp
          rw [hT p hp] at e; cases e
          exact .inr (.inl ⟨((C p hp).tab (hT p hp)).isCodeTable, rfl, #[], xs, rfl, by rw [Array.empty_append]; exact hx⟩)
        · exact .inl (keep b o hb e)
      · by_cases hb : b ∈ cs.map (·.2)
        · obtain ⟨p, hp, rfl⟩ := List.mem_map.mp hb
          obtain ⟨xs, hx⟩ := more p hp
          exact ⟨_, hx⟩
        · exact ⟨o, keep b o hb e⟩
theorem walk_topT {l : PySem.W.OpenLaw} {n : Nat} {q : Program} {loose : List Str} {XP : (Str → Option Value) → Heap → Prop} {YP : World → Heap → Prop} {d : DefRec} {x : Str}
    (hn : l.most = some n) (hn2 : n ≤ sizeLine) (hdf : d.params.defaults = [])
    (F : ∀ (w : World) (mg : Str → Option Value) (fa : Addr) (h : Heap), YP w h → h.Ns mainGlobals mg → mg d.name = some (.ref fa) →
      ∃ (K : KF) (fd : FuncData) (sp : Sp) (cs : List (Addr × Addr)), K.In h ∧ (∀ p ∈ cs, h.get? p.2 = some tab0) ∧ (∀ p ∈ cs, K.lookup p.2 = none) ∧ (∀ p ∈ cs, PySem.W.CodeHd h p.1 p.2) ∧ (∀ (s : Shared) (u : Value), BindsTo s fd ⟨[u], []⟩ [(x, u)]) ∧
        (∀ (H : Hp) (a : Addr) (ns : List Int), ns.length ≤ n → (∀ p ∈ cs, H p.2 = some (.tbl #[])) → SqL K H a (ns.map V.int) → sp [.ref a] H (fun v _ => v = .bl true) fun _ _ _ => False) ∧
        ∀ base : Heap, (∀ p ∈ cs, LamX.TabB base mg p.1 p.2) → OutOk l.prog w K mg base fa fd [x] sp) :
    PySem.W.WalkO q loose XP YP l.row.toRowW d [] (fun f vs => PySem.call f vs) :=
  Att.attach_call hn hdf fun w s₀ s₁ mg mb fa o pm cd doc a vs ns G Y ho hd hcd hmg hobj hints hlen hg => by
    obtain ⟨K, fd, sp, cs, KX, h1, h2, h3, hb, hsp, hF⟩ := F w mg fa _ Y G.T.g hmg
    exact top_callT KX G.T.g G.T.b G.T.builtins G.T.nolimit hg h1 h2 h3 G.T.bmain hobj hints (Nat.le_trans hlen hn2) hF hb fun H hH hS => hsp H a ns hlen hH hS
/-- the facts, from the Hook that tells the tables too -/
theorem saysF_of {fb : List (KF → Bool)} {fa : List He.Fa} {fn : List He.DefD} {tf : List He.Defn} {w : World} {h : Heap} {K : KF} (c : He.SaysX fa fn [] tf (fun K => fb.all fun f => f K) w h K) : SaysF fb fa fn K := by
  have e : He.obsD fa fn K = He.valD fn := congrArg (fun z : He.AlT => z.1) c.t
  have m : (fb.all fun f => f K) = true := c.more
  show ((fb.all fun f => f K) && (He.obsD fa fn K).1, (He.obsD fa fn K).2) = He.valD fn
  rw [m, e]
  rfl
end DP
end
section
set_option Elab.async false
set_option linter.all false
set_option maxRecDepth 100000
/-! a call of the function that a name holds: one of two -/
namespace DP
open PySem PySem.Spec PyProof.Rows L2
section
variable {X : Cx} {CX : CXT} {k i : Nat} {f : Addr} {fd : FuncData} {ps : List Str} {sp : Sp} {E : L2.St → XK} {x : Str} {p pos : Pos} {e : Expr} {es : List Expr} {t : TA}
theorem pe_callSV (Fn : FnOk X.prog X.w X.K X.mg X.base CX k f fd ps sp) (room : Room k X.A) (at_ : X.N[i]? = some x) (vis : Vis X.env.scope x) (kp : PySem.W.keepIn X.K (.ref f) = true) (bd : Binds X.K fd ps []) (pass : ∀ σ, PassesAt CX X σ (E σ)) (args : PA X (e :: es) t)
    (n1 : (x == ("__debug__" : Str)) = false) (n2 : (x == ("__classdict__" : Str)) = false) (st : starEach (e :: es) X.env = (false, eval e X.env) :: starEach es X.env) (pl : (backTo pos (starEach es X.env)).any (·.1) = false) :
    PE X (.Call (.Name x p) (e :: es) [] pos) (fun σ H Q => σ[i]? = some (some (.ref f)) ∧ tCallS sp E t σ H Q) := by
  refine ⟨fun pins s σ H Q I ⟨at1, want⟩ => ?_⟩
  refine wpAny_Call_Name_kw (thn ((pe_var (pos := p) at_ vis n1 n2).run pins s σ H (fun v G => v = .ref f ∧ G = H) I ⟨.ref f, at1, rfl, rfl⟩) fun u s1 ⟨v, G, I1, r1, q1⟩ => ?_)
  obtain ⟨rfl, rfl⟩ := q1
  obtain rfl : u = Value.ref f := r1
  refine PySem.W.callWith_K (h₀ := X.base) I.ok.mod.kin kp (thn (args.run pos pins s1 σ _ _ I1 want) fun us s2 ⟨vs, G2, I2, r, q⟩ => ⟨I2.kIn, ?_⟩) st pl
  exact run_fnS Fn room bd (pass σ) I2 r q
end
def eCallV (i : Nat) (f1 : Addr) (m1 : List T → M T) (f2 : Addr) (m2 : List T → M T) (fs : Env' → M (List T)) : Env' → M T := fun ρ => match ρ[i]? with
  | some (.val (.fn a)) => if a = f1 then (fs ρ).bind m1 else if a = f2 then (fs ρ).bind m2 else .stuck
  | _ => .stuck
section
variable {X : Cx} {g : Cn} {W : WX} {k i np : Nat} {f1 f2 : Addr} {fd1 fd2 : FuncData} {ps1 ps2 : List Str} {x : Str} {p pos : Pos} {e : Expr} {es : List Expr} {fs : Env' → M (List T)} {m1 m2 : List T → M T}
theorem de_callV (Fn1 : FnOk X.prog X.w X.K X.mg X.base (L2.CX X.prog X.w) k f1 fd1 ps1 (spD g.K g.X false np m1)) (Fn2 : FnOk X.prog X.w X.K X.mg X.base (L2.CX X.prog X.w) k f2 fd2 ps2 (spD g.K g.X false np m2)) (hr : Room k X.A) (tk : Takes X W)
    (k1 : PySem.W.keepIn X.K (.ref f1) = true) (k2 : PySem.W.keepIn X.K (.ref f2) = true) (b1 : Binds X.K fd1 ps1 []) (b2 : Binds X.K fd2 ps2 []) (ha : DA X g W (e :: es) fs)
    (hn : ∀ (ρ : Env') (b : Nat) (Q : Nat → List T → Prop) (E : Nat → Str → T → Prop), (fs ρ).wp b Q E → (fs ρ).wp b (fun b ts => ts.length = np ∧ Q b ts) E)
    (at_ : X.N[i]? = some x := by rfl) (vis : Vis X.env.scope x := by first | exact Or.inl rfl | exact Or.inr (Or.inl rfl) | exact Or.inr (Or.inr rfl)) (n1 : (x == ("__debug__" : Str)) = false := by decide) (n2 : (x == ("__classdict__" : Str)) = false := by decide)
    (st : starEach (e :: es) X.env = (false, eval e X.env) :: starEach es X.env := by rfl) (pl : (backTo pos (starEach es X.env)).any (·.1) = false := by rfl) :
    DE X g W (.Call (.Name x p) (e :: es) [] pos) (eCallV i f1 m1 f2 m2 fs) := by
  have one := pe_callSV (p := p) (pos := pos) Fn1 hr at_ vis k1 b1 (fun σ => passAt tk σ) ha n1 n2 st pl
  have two := pe_callSV (p := p) (pos := pos) Fn2 hr at_ vis k2 b2 (fun σ => passAt tk σ) ha n1 n2 st pl
  refine ⟨fun pins s σ H Q I ⟨ρ, F, b, sr, q⟩ => ?_⟩
  unfold eCallV at q
  cases e0 : ρ[i]? with
  | none => rw [e0] at q; exact q.elim
  | some sl =>
    rw [e0] at q
    obtain ⟨ov, hv, r⟩ := Paired.get1 sr.slots e0
    have side : ∀ {m : List T → M T}, ((fs ρ).bind m).wp b (fun b' t => ∀ v H' F', Step g σ ρ F H F' H' b' → Rep g.K F' v t → Q v H') (EX g W σ ρ F H) → tCallS (spD g.K g.X false np m) (fun σ => WE W σ) (tDA g W fs) σ H Q := fun {m} q =>
      ⟨ρ, F, b, sr, M.wp_mono (hn ρ b _ _ (M.wp_bind.mp q)) (fun b1 ts z vs H1 F1 s1 r1 =>
        call_sp s1.sr r1 (by rw [r1.length]; exact z.1) (M.wp_mono z.2 (fun b2 t y v H2 F2 s2 r2 => y v H2 F2 (s1.trans s2) r2) fun b' c t y => EX.step s1 b' c t y)) fun _ _ _ z => z⟩
    cases r with
    | @val v t r =>
      cases t with
      | fn a =>
        cases r with
        | fn ty =>
          have q : (if a = f1 then (fs ρ).bind m1 else if a = f2 then (fs ρ).bind m2 else .stuck).wp b _ _ := q
          by_cases z1 : a = f1
          · rw [if_pos z1] at q
            exact one.run pins s σ H Q I ⟨by rw [hv, z1], side q⟩
          · rw [if_neg z1] at q
            by_cases z2 : a = f2
            · rw [if_pos z2] at q
              exact two.run pins s σ H Q I ⟨by rw [hv, z2], side q⟩
            · rw [if_neg z2] at q
              exact q.elim
      | _ => exact q.elim
    | _ => exact q.elim
end
end DP
end
section
set_option Elab.async false
set_option linter.all false
set_option maxRecDepth 100000
/-! small things for the printed texts -/
namespace DP
open PySem PySem.Spec PyProof.Rows L2
theorem cks_nil {K : KF} {Xc : Str → Addr × Str} : CksOk K Xc [] := ⟨fun _ h => (nomatch h), fun _ h => nomatch h⟩
theorem cks_cons {K : KF} {Xc : Str → Addr × Str} {x fl w : Str} {C : Addr} {cs : List Ck} (hx : Xc x = (C, fl)) (self : PySem.W.exmOne K (.ref C) (.ref C) = some true)
    (o : ∀ r ∈ cs, PySem.W.exmOne K (.ref C) (.ref r.C) = some false ∧ PySem.W.exmOne K (.ref r.C) (.ref C) = some false ∧ x ≠ r.x) (t : CksOk K Xc cs) : CksOk K Xc (⟨x, C, fl, w⟩ :: cs) := by
  refine ⟨fun p hp => ?_, fun p hp r hr => ?_⟩
  · rcases List.mem_cons.mp hp with rfl | hp
    · exact hx
    · exact t.1 p hp
  · rcases List.mem_cons.mp hp with rfl | hp
    · rcases List.mem_cons.mp hr with rfl | hr
      · rw [self, decide_eq_true rfl]
      · obtain ⟨e1, _, e3⟩ := o r hr
        rw [e1, decide_eq_false e3]
    · rcases List.mem_cons.mp hr with rfl | hr
      · obtain ⟨_, e2, e3⟩ := o p hp
        rw [e2, decide_eq_false fun z => e3 z.symm]
      · exact t.2 p hp r hr
theorem cks_o_nil {K : KF} {x : Str} {C : Addr} : ∀ r ∈ ([] : List Ck), PySem.W.exmOne K (.ref C) (.ref r.C) = some false ∧ PySem.W.exmOne K (.ref r.C) (.ref C) = some false ∧ x ≠ r.x := fun _ h => nomatch h
theorem cks_o_cons {K : KF} {x : Str} {C : Addr} {r : Ck} {cs : List Ck} (h1 : PySem.W.exmOne K (.ref C) (.ref r.C) = some false) (h2 : PySem.W.exmOne K (.ref r.C) (.ref C) = some false) (h3 : x ≠ r.x)
    (t : ∀ y ∈ cs, PySem.W.exmOne K (.ref C) (.ref y.C) = some false ∧ PySem.W.exmOne K (.ref y.C) (.ref C) = some false ∧ x ≠ y.x) : ∀ y ∈ r :: cs, PySem.W.exmOne K (.ref C) (.ref y.C) = some false ∧ PySem.W.exmOne K (.ref y.C) (.ref C) = some false ∧ x ≠ y.x :=
  List.forall_mem_cons.mpr ⟨⟨h1, h2, h3⟩, t⟩
theorem clk_nil {X : Cx} {n : Str} : ClsOk X n [] (([] : List Ck).map Ck.cl) := .nil
theorem clk_cons {X : Cx} {n : Str} {p : Ck} {cs : List Ck} {st : Stmt} {sts : List Stmt} {q1 q2 : Pos} {hds : List ExceptHandler} (hx : Names X p.x (.ref p.C))
    (suite : ∀ (e : Addr) (o : Obj) (cl : Value) (d : Option Addr) (pn : List (Addr × Obj)), Zc cl d o → (∃ vs, o.data = .fields vs) → PSs (X.suite e ((e, o) :: pn)) (st :: sts) (p.ts e cl d)) (rest : ClsOk X n hds (cs.map Ck.cl)) :
    ClsOk X n (.ExceptHandler (some (.Name p.x q1)) (some n) (st :: sts) q2 :: hds) ((p :: cs).map Ck.cl) := .cons hx suite rest
/-- the code object of the law's def -/
theorem code_eq {K : KF} {p : He.Defn} {f : Addr} {q : Str} {cdv : Value} (hf : He.fAd K p = f) (h : CodeAt K f q cdv) : cdv = .ref (He.cT K p).1 := by
  obtain ⟨oc, od, osl, fd, lk, rfl, hc⟩ := h.ex
  obtain ⟨c, e⟩ := He.codeIn_ref hc
  rw [e]
  exact congrArg Value.ref (He.codeOf_eq (by rw [hf]; exact lk) e).symm
/-- a built-in function by its name -/
def bltB (x : Str) (id : String) (K : KF) : Bool := He.eqO (PySem.W.nsIn K mainGlobals x) (some (some (.builtin id)))
theorem blt_of {K : KF} {h : Heap} {mg : Str → Option Value} (X : K.In h) (G : h.Ns mainGlobals mg) {x : Str} {id : String} (c : bltB x id K = true) : mg x = some (.builtin id) := PySem.W.mg_of X G (He.eqO_ok c)
theorem one_tab {P : Addr} {q q' : Str} (m : (P, q') ∈ [(P, q)]) : q' = q := congrArg Prod.snd (List.mem_singleton.mp m)
section
variable {X : Cx} {g : Cn} {W : WX} {k i np : Nat} {f1 f2 c1 c2 : Addr} {fd1 fd2 : FuncData} {ps1 ps2 : List Str} {x : Str} {p pos : Pos} {e : Expr} {es : List Expr} {fs : Env' → M (List T)} {m1 m2 : List T → M T}
theorem de_callV2 (e1 : f1 = c1) (e2 : f2 = c2) (Fn1 : FnOk X.prog X.w X.K X.mg X.base (L2.CX X.prog X.w) k f1 fd1 ps1 (spD g.K g.X false np m1)) (Fn2 : FnOk X.prog X.w X.K X.mg X.base (L2.CX X.prog X.w) k f2 fd2 ps2 (spD g.K g.X false np m2)) (hr : Room k X.A) (tk : Takes X W)
    (k1 : PySem.W.keepIn X.K (.ref f1) = true) (k2 : PySem.W.keepIn X.K (.ref f2) = true) (b1 : Binds X.K fd1 ps1 []) (b2 : Binds X.K fd2 ps2 []) (ha : DA X g W (e :: es) fs)
    (hn : ∀ (ρ : Env') (b : Nat) (Q : Nat → List T → Prop) (E : Nat → Str → T → Prop), (fs ρ).wp b Q E → (fs ρ).wp b (fun b ts => ts.length = np ∧ Q b ts) E)
    (at_ : X.N[i]? = some x := by rfl) (vis : Vis X.env.scope x := by first | exact Or.inl rfl | exact Or.inr (Or.inl rfl) | exact Or.inr (Or.inr rfl)) (n1 : (x == ("__debug__" : Str)) = false := by decide) (n2 : (x == ("__classdict__" : Str)) = false := by decide)
    (st : starEach (e :: es) X.env = (false, eval e X.env) :: starEach es X.env := by rfl) (pl : (backTo pos (starEach es X.env)).any (·.1) = false := by rfl) :
    DE X g W (.Call (.Name x p) (e :: es) [] pos) (eCallV i c1 m1 c2 m2 fs) := by
  subst e1 e2
  exact de_callV Fn1 Fn2 hr tk k1 k2 b1 b2 ha hn at_ vis n1 n2 st pl
end
end DP
end
section
set_option Elab.async false
set_option linter.all false
set_option maxRecDepth 100000
namespace Tw
open PySem PySem.Spec PyProof.Rows L2 DP
def top (i : Nat) : Stmt := PySem.Challenge.pw_quickbythen_k42_cuts.main.body.getD i (.Pass ⟨0, 0, 0, 0⟩)
abbrev s_draw : Stmt := top 24
theorem sc_draw : FnScope ["stream", "many", "cell", "digit", "mixed"] ["stream", "many"] (defScope s_draw) := ⟨rfl, rfl, rfl, by decide +kernel, rfl, by decide +kernel, by decide +kernel⟩
section
variable {P : Program} {w : World} {K : KF} {mg : Str → Option Value} {base : Heap} {Xc : Str → Addr × Str} {fa : Addr} {fd : FuncData}
theorem ok_draw (F : Fun K "_law_draw" "_law_draw" s_draw fa fd) (nabs : mg "abs" = none) (nint : mg "int" = none) : FnOk P w K mg base (L2.CX P w) 1 fa fd ["stream", "many"] (spD K Xc true 1 drawM) := by
  refine F.okX sc_draw (fun vs H Q E h => ?_) (fun cdv A outer sh H vs Q E hr h => ?_)
  · obtain ⟨s, l, ns, c, n, m, many, rfl, _⟩ := draw_read h
    rfl
  · obtain ⟨s, l, ns0, c0, n, m0, many, rfl, S0, hc, hn, hb, hm, hm', h0, hfit, k⟩ := draw_read h
    have hu := hr.units
    refine ⟨_, pss_cons (ps_asg (pe_op op_add (pe_ix ix_list (pv 0) pe_int (fun _ _ => rfl)) pe_int) (pg_sub (pv 0) pe_int set_list))
      (pss_cons (ps_while (passes_of rfl) (PW.pt (pw_and (pt_cmpR op_eq (pe_ix ix_list (pv 0) pe_int (fun _ _ => rfl)) pe_int (nomark _)) (pw_and1 (pt_cmpR (op_neD hu) (pe_ix ix_list (pv 0) pe_int (fun _ _ => rfl)) (pe_lst pa_nil) (nomark _)))))
        (pss_cons (ps_set (i := 2) sc_draw.nd rfl (Or.inl rfl) (pe_callB call_abs rfl nabs (by decide +kernel) (pa_cons (pe_bm PySem.F.plainAttrs_list PySem.F.slot_list_pop PySem.F.type_list_pop mt_popAt (pe_ix ix_list (pv 0) pe_int (fun _ _ => rfl)) (pa_cons pe_int pa_nil)) pa_nil)))
        (pss_cons (ps_asg (pe_op op_mod (pe_callTy call_int1 rfl nint (by decide +kernel) (pa_cons (pe_op op_add (pe_op op_add (pe_op op_mul (pe_ix ix_list (pv 0) pe_int (fun _ _ => rfl)) pe_int) (pv 2)) pe_int) pa_nil)) pe_int) (pg_sub (pv 0) pe_int set_list))
        (pss_one (ps_asg (pe_ifExp (pt_cmpR op_ge (pv 2) (pe_op op_pow pe_int pe_int) (nomark _)) (pv 2) pe_int) (pg_sub (pv 0) pe_int set_list))))))
      (pss_cons (ps_if (pt_cmpR op_gt (pe_ix ix_list (pv 0) pe_int (fun _ _ => rfl)) pe_int (nomark _))
        (pss_cons (ps_set (i := 3) sc_draw.nd rfl (Or.inl rfl) (pe_op op_mod (pe_callTy call_int1 rfl nint (by decide +kernel) (pa_cons (pe_ix ix_list (pv 0) pe_int (fun _ _ => rfl)) pa_nil)) (pv 1)))
        (pss_cons (ps_asg (pe_op op_fdivW (pe_ix ix_list (pv 0) pe_int (fun _ _ => rfl)) (pv 1)) (pg_sub (pv 0) pe_int set_list))
        (pss_one (ps_ret (pv 3))))) pss_nil)
      (pss_cons (ps_set (i := 4) sc_draw.nd rfl (Or.inl rfl) (pe_op op_mod (pe_callTy call_int1 rfl nint (by decide +kernel) (pa_cons (pe_op op_pow (pe_op op_add (pe_op op_add (pe_ix ix_list (pv 0) pe_int (fun _ _ => rfl)) (pe_op op_mul pe_int (pe_ix ix_list (pv 0) pe_int (fun _ _ => rfl)))) pe_int) pe_int) pa_nil)) pe_int))
      (pss_one (ps_ret (pe_op op_mod (pe_op op_mod (pe_callTy call_int1 rfl nint (by decide +kernel) (pa_cons (pe_op op_pow (pe_op op_add (pe_op op_add (pe_op op_mul (pv 4) pe_int) (pe_op op_mul pe_int (pe_ix ix_list (pv 0) pe_int (fun _ _ => rfl)))) pe_int) pe_int) pa_nil)) pe_int) (pv 1))))))), ?_⟩
    -- stream[2] = stream[2] + 1
    refine ⟨_, rfl, s, _, 2, _, rfl, rfl, SqL.of S0.at_s, rfl, _, _, rfl, rfl, _, rfl, s, _, 2, 2, rfl, rfl, S0.at_s, rfl, ?_⟩
    have S1 := S0.setS c0 (n + 1) m0
    -- the cells
    refine ⟨fun z σ H' => ∃ (ns : List Int) (c m : Int) (v : Option V), z = ns.length ∧ σ = [some (.ref s), some (.int many), v, none, none] ∧ St4 H H' s l ns c (n + 1) m ∧ 0 ≤ c ∧ 0 ≤ m ∧ m < 2147483647, ⟨_, ns0, c0, m0, none, rfl, rfl, S1, hc, hm, hm'⟩, ?_⟩
    rintro z σ H' ⟨ns, c, m, v, rfl, rfl, S, hc, hm, hm'⟩
    refine ⟨_, rfl, s, _, 1, _, rfl, rfl, SqL.of S.at_s, rfl, rfl, _, rfl, ?_⟩
    by_cases e : c = 0
    · subst e
      refine iteT ?_
      refine ⟨_, rfl, s, _, 0, _, rfl, rfl, SqL.of S.at_s, rfl, by decide, fun p hp => ⟨_, _, .lst (SqL.of (S.new hp).at_l) (dpInts ns), .lst (SqL.of upd_same) .nil, shapedInts ns, shapedNil, _, rfl, ?_⟩⟩
      rw [eqvNil]
      cases ns with
      | nil =>
        have S9 := S.new (o := .lst []) hp
        refine iteF ?_
        refine ⟨_, rfl, s, _, 1, _, rfl, rfl, SqL.of S9.at_s, rfl, _, _, rfl, rfl, _, rfl, ?_⟩
        by_cases hd : (0 : Int) < 0
        · rw [decide_eq_true hd]
          refine iteT ⟨_, rfl, s, _, 1, _, rfl, rfl, SqL.of S9.at_s, rfl, .inl ⟨_, rfl, _, rfl, _, _, rfl, rfl, h0, ?_⟩⟩
          refine ⟨_, rfl, s, _, 1, _, rfl, rfl, SqL.of S9.at_s, rfl, _, rfl, _, _, rfl, rfl, ⟨h0, by have := of_decide_eq_true hfit; omega⟩, _, rfl, s, _, 1, 1, rfl, rfl, S9.at_s, rfl, ?_⟩
          exact ⟨_, rfl, k _ _ _ _ _ (S9.setS (0 / many) (n + 1) m) (Int.emod_nonneg 0 (by omega)) (Int.emod_lt_of_pos 0 h0) (Int.ediv_nonneg hc (by omega)) hm hm'⟩
        · rw [decide_eq_false hd]
          refine iteF ⟨_, rfl, s, _, 3, _, rfl, rfl, SqL.of S9.at_s, rfl, _, rfl, s, _, 2, _, rfl, rfl, SqL.of S9.at_s, rfl, _, _, rfl, rfl, .inl ⟨by decide, by decide⟩, _, _, rfl, rfl, _, _, rfl, rfl, _, _, rfl, rfl, ⟨by decide, by decide, pow_lt (by omega) (by omega)⟩, .inl ⟨_, rfl, _, _, rfl, rfl, (by show (0 : Int) < 2147483629; decide), ?_⟩⟩
          generalize hz : ((m + 7919 * (n + 1) + 104729) ^ (5 : Int).toNat % 2147483629 : Int) = z
          have z0 : 0 ≤ z := by rw [← hz]; exact Int.emod_nonneg _ (by decide)
          have z1 : z < 2147483629 := by rw [← hz]; exact Int.emod_lt_of_pos _ (by decide)
          refine ⟨_, rfl, _, _, rfl, rfl, .inl ⟨by omega, by omega⟩, _, rfl, s, _, 2, _, rfl, rfl, SqL.of S9.at_s, rfl, _, _, rfl, rfl, .inl ⟨by decide, by decide⟩, _, _, rfl, rfl, _, _, rfl, rfl, _, _, rfl, rfl, ⟨by decide, by decide, pow_lt (by omega) (by omega)⟩, .inl ⟨_, rfl, _, _, rfl, rfl, (by show (0 : Int) < 1000000007; decide), _, rfl, _, _, rfl, rfl, h0, ?_⟩⟩
          exact k _ _ _ _ _ S9 (Int.emod_nonneg _ (by omega)) (Int.emod_lt_of_pos _ h0) hc hm hm'
      | cons x ns =>
        have S2 := S.new (o := .lst []) hp
        refine iteT ⟨_, fun _ _ h => ⟨_, Nat.lt_succ_self _, h⟩, ?_⟩
        -- cell = abs(stream[0].pop(0))
        refine ⟨_, rfl, s, _, 0, _, rfl, rfl, SqL.of S2.at_s, rfl, .inl ⟨rfl, _, SqL.of S2.at_l⟩, l, _, 0, 0, _, rfl, rfl, S2.at_l, by decide, by decide, (ixN_seq (by simp [ixN])).1, rfl, _, rfl, ?_⟩
        have S3 := S2.setL ns
        generalize hcell : (if x < 0 then -x else x) = cell
        have hcl : 0 ≤ cell := by rw [← hcell]; split <;> omega
        -- stream[3]
        refine ⟨_, rfl, s, _, 3, _, rfl, rfl, SqL.of S3.at_s, rfl, _, _, rfl, rfl, .inr ⟨by decide, by decide⟩, _, rfl, _, _, rfl, rfl, _, _, rfl, rfl, .inl ⟨_, rfl, _, _, rfl, rfl, (by show (0 : Int) < 2147483647; decide), _, rfl, s, _, 3, 3, rfl, rfl, S3.at_s, rfl, ?_⟩⟩
        have S4 := S3.setS 0 (n + 1) ((m * 8191 + cell + 3) % 2147483647)
        have m0 : 0 ≤ (m * 8191 + cell + 3) % 2147483647 := Int.emod_nonneg _ (by decide)
        have m1 : (m * 8191 + cell + 3) % 2147483647 < 2147483647 := Int.emod_lt_of_pos _ (by decide)
        -- stream[1]
        refine ⟨_, rfl, _, _, rfl, rfl, ⟨by decide, by decide, by decide⟩, _, _, rfl, rfl, _, rfl, ?_⟩
        by_cases hd : (10 : Int) ^ (18 : Int).toNat ≤ cell
        · rw [decide_eq_true hd]
          refine iteT ⟨_, rfl, _, rfl, s, _, 1, 1, rfl, rfl, S4.at_s, rfl, ?_⟩
          exact ⟨ns, cell, _, _, rfl, rfl, S4.setS cell (n + 1) _, hcl, m0, m1⟩
        · rw [decide_eq_false hd]
          refine iteF ⟨_, rfl, s, _, 1, 1, rfl, rfl, S4.at_s, rfl, ?_⟩
          exact ⟨ns, 0, _, _, rfl, rfl, S4.setS 0 (n + 1) _, by omega, m0, m1⟩
    · have S9 := S
      have e' : decide (V.int c = V.int 0) = false := decide_eq_false fun z => e (V.int.inj z)
      rw [e']
      refine iteF ?_
      refine iteF ?_
      refine ⟨_, rfl, s, _, 1, _, rfl, rfl, SqL.of S9.at_s, rfl, _, _, rfl, rfl, _, rfl, ?_⟩
      by_cases hd : 0 < c
      · rw [decide_eq_true hd]
        refine iteT ⟨_, rfl, s, _, 1, _, rfl, rfl, SqL.of S9.at_s, rfl, .inl ⟨_, rfl, _, rfl, _, _, rfl, rfl, h0, ?_⟩⟩
        refine ⟨_, rfl, s, _, 1, _, rfl, rfl, SqL.of S9.at_s, rfl, _, rfl, _, _, rfl, rfl, ⟨h0, by have := of_decide_eq_true hfit; omega⟩, _, rfl, s, _, 1, 1, rfl, rfl, S9.at_s, rfl, ?_⟩
        exact ⟨_, rfl, k _ _ _ _ _ (S9.setS (c / many) (n + 1) m) (Int.emod_nonneg c (by omega)) (Int.emod_lt_of_pos c h0) (Int.ediv_nonneg hc (by omega)) hm hm'⟩
      · rw [decide_eq_false hd]
        refine iteF ⟨_, rfl, s, _, 3, _, rfl, rfl, SqL.of S9.at_s, rfl, _, rfl, s, _, 2, _, rfl, rfl, SqL.of S9.at_s, rfl, _, _, rfl, rfl, .inl ⟨by decide, by decide⟩, _, _, rfl, rfl, _, _, rfl, rfl, _, _, rfl, rfl, ⟨by decide, by decide, pow_lt (by omega) (by omega)⟩, .inl ⟨_, rfl, _, _, rfl, rfl, (by show (0 : Int) < 2147483629; decide), ?_⟩⟩
        generalize hz : ((m + 7919 * (n + 1) + 104729) ^ (5 : Int).toNat % 2147483629 : Int) = z
        have z0 : 0 ≤ z := by rw [← hz]; exact Int.emod_nonneg _ (by decide)
        have z1 : z < 2147483629 := by rw [← hz]; exact Int.emod_lt_of_pos _ (by decide)
        refine ⟨_, rfl, _, _, rfl, rfl, .inl ⟨by omega, by omega⟩, _, rfl, s, _, 2, _, rfl, rfl, SqL.of S9.at_s, rfl, _, _, rfl, rfl, .inl ⟨by decide, by decide⟩, _, _, rfl, rfl, _, _, rfl, rfl, _, _, rfl, rfl, ⟨by decide, by decide, pow_lt (by omega) (by omega)⟩, .inl ⟨_, rfl, _, _, rfl, rfl, (by show (0 : Int) < 1000000007; decide), _, rfl, _, _, rfl, rfl, h0, ?_⟩⟩
        exact k _ _ _ _ _ S9 (Int.emod_nonneg _ (by omega)) (Int.emod_lt_of_pos _ h0) hc hm hm'
end
end Tw
end
section
set_option Elab.async false
set_option linter.all false
set_option maxRecDepth 100000
set_option maxHeartbeats 0
namespace Tw
open PySem PySem.Spec PyProof.Rows L2 DP

/-- what the top has written -/
structure Tx (K : KF) (mg : Str → Option Value) where
  Xc : Str → Addr × Str
  cA : Str → Addr
  a_BadPlaces____init__ : Addr
  d_BadPlaces____init__ : FuncData
  F_BadPlaces____init__ : Fun K "__init__" "BadPlaces.__init__" (inClass (top 2) 0) a_BadPlaces____init__ d_BadPlaces____init__
  b_BadPlaces____init__ : Binds K d_BadPlaces____init__ ["self", "places"] []
  a_BadRoads____init__ : Addr
  d_BadRoads____init__ : FuncData
  F_BadRoads____init__ : Fun K "__init__" "BadRoads.__init__" (inClass (top 3) 0) a_BadRoads____init__ d_BadRoads____init__
  b_BadRoads____init__ : Binds K d_BadRoads____init__ ["self", "index"] []
  a_BadStart____init__ : Addr
  d_BadStart____init__ : FuncData
  F_BadStart____init__ : Fun K "__init__" "BadStart.__init__" (inClass (top 4) 0) a_BadStart____init__ d_BadStart____init__
  b_BadStart____init__ : Binds K d_BadStart____init__ ["self", "place"] []
  a_BadEnd____init__ : Addr
  d_BadEnd____init__ : FuncData
  F_BadEnd____init__ : Fun K "__init__" "BadEnd.__init__" (inClass (top 5) 0) a_BadEnd____init__ d_BadEnd____init__
  b_BadEnd____init__ : Binds K d_BadEnd____init__ ["self", "place"] []
  a_is_integer : Addr
  d_is_integer : FuncData
  mg_is_integer : mg "is_integer" = some (.ref a_is_integer)
  F_is_integer : Fun K "is_integer" "is_integer" (top 7) a_is_integer d_is_integer
  b_is_integer : Binds K d_is_integer ["thing"] []
  a_is_number : Addr
  d_is_number : FuncData
  mg_is_number : mg "is_number" = some (.ref a_is_number)
  F_is_number : Fun K "is_number" "is_number" (top 8) a_is_number d_is_number
  b_is_number : Binds K d_is_number ["thing"] []
  a_is_count : Addr
  d_is_count : FuncData
  mg_is_count : mg "is_count" = some (.ref a_is_count)
  F_is_count : Fun K "is_count" "is_count" (top 9) a_is_count d_is_count
  b_is_count : Binds K d_is_count ["thing"] []
  a_is_index : Addr
  d_is_index : FuncData
  mg_is_index : mg "is_index" = some (.ref a_is_index)
  F_is_index : Fun K "is_index" "is_index" (top 10) a_is_index d_is_index
  b_is_index : Binds K d_is_index ["thing", "many"] []
  a_is_list : Addr
  d_is_list : FuncData
  mg_is_list : mg "is_list" = some (.ref a_is_list)
  F_is_list : Fun K "is_list" "is_list" (top 11) a_is_list d_is_list
  b_is_list : Binds K d_is_list ["thing"] []
  a_BadCut____init__ : Addr
  d_BadCut____init__ : FuncData
  F_BadCut____init__ : Fun K "__init__" "BadCut.__init__" (inClass (top 13) 0) a_BadCut____init__ d_BadCut____init__
  b_BadCut____init__ : Binds K d_BadCut____init__ ["self", "thing"] []
  a_Net__places : Addr
  d_Net__places : FuncData
  F_Net__places : Fun K "places" "Net.places" (inClass (top 21) 1) a_Net__places d_Net__places
  b_Net__places : Binds K d_Net__places ["self"] []
  a_Net__end : Addr
  d_Net__end : FuncData
  F_Net__end : Fun K "end" "Net.end" (inClass (top 21) 4) a_Net__end d_Net__end
  b_Net__end : Binds K d_Net__end ["self"] []
  a_Net__start : Addr
  d_Net__start : FuncData
  F_Net__start : Fun K "start" "Net.start" (inClass (top 21) 3) a_Net__start d_Net__start
  b_Net__start : Binds K d_Net__start ["self"] []
  a_is_cut : Addr
  d_is_cut : FuncData
  mg_is_cut : mg "is_cut" = some (.ref a_is_cut)
  F_is_cut : Fun K "is_cut" "is_cut" (top 15) a_is_cut d_is_cut
  b_is_cut : Binds K d_is_cut ["net", "thing"] []
  a_Net__roads : Addr
  d_Net__roads : FuncData
  F_Net__roads : Fun K "roads" "Net.roads" (inClass (top 21) 2) a_Net__roads d_Net__roads
  b_Net__roads : Binds K d_Net__roads ["self"] []
  a_room_across : Addr
  d_room_across : FuncData
  mg_room_across : mg "room_across" = some (.ref a_room_across)
  F_room_across : Fun K "room_across" "room_across" (top 16) a_room_across d_room_across
  b_room_across : Binds K d_room_across ["net", "cut"] []
  a_room_of : Addr
  d_room_of : FuncData
  mg_room_of : mg "room_of" = some (.ref a_room_of)
  F_room_of : Fun K "room_of" "room_of" (top 17) a_room_of d_room_of
  b_room_of : Binds K d_room_of ["net", "cut"] []
  a_is_road : Addr
  d_is_road : FuncData
  mg_is_road : mg "is_road" = some (.ref a_is_road)
  F_is_road : Fun K "is_road" "is_road" (top 19) a_is_road d_is_road
  b_is_road : Binds K d_is_road ["places", "thing"] []
  a_told_roads : Addr
  d_told_roads : FuncData
  mg_told_roads : mg "told_roads" = some (.ref a_told_roads)
  F_told_roads : Fun K "told_roads" "told_roads" (top 20) a_told_roads d_told_roads
  b_told_roads : Binds K d_told_roads ["places", "roads"] []
  a_Net____init__ : Addr
  d_Net____init__ : FuncData
  F_Net____init__ : Fun K "__init__" "Net.__init__" (inClass (top 21) 0) a_Net____init__ d_Net____init__
  b_Net____init__ : Binds K d_Net____init__ ["self", "places", "roads", "start", "end"] []
  a__law_stream : Addr
  d__law_stream : FuncData
  mg__law_stream : mg "_law_stream" = some (.ref a__law_stream)
  F__law_stream : Fun K "_law_stream" "_law_stream" (top 23) a__law_stream d__law_stream
  b__law_stream : Binds K d__law_stream ["script"] []
  a__law_draw : Addr
  d__law_draw : FuncData
  mg__law_draw : mg "_law_draw" = some (.ref a__law_draw)
  F__law_draw : Fun K "_law_draw" "_law_draw" (top 24) a__law_draw d__law_draw
  b__law_draw : Binds K d__law_draw ["stream", "many"] []
  a__law_pick : Addr
  d__law_pick : FuncData
  mg__law_pick : mg "_law_pick" = some (.ref a__law_pick)
  F__law_pick : Fun K "_law_pick" "_law_pick" (top 25) a__law_pick d__law_pick
  b__law_pick : Binds K d__law_pick ["stream", "things"] []
  a__law_mixed : Addr
  d__law_mixed : FuncData
  mg__law_mixed : mg "_law_mixed" = some (.ref a__law_mixed)
  F__law_mixed : Fun K "_law_mixed" "_law_mixed" (top 26) a__law_mixed d__law_mixed
  b__law_mixed : Binds K d__law_mixed ["stream", "things"] []
  a__law_same : Addr
  d__law_same : FuncData
  mg__law_same : mg "_law_same" = some (.ref a__law_same)
  F__law_same : Fun K "_law_same" "_law_same" (top 27) a__law_same d__law_same
  b__law_same : Binds K d__law_same ["found", "due"] []
  a__law_loose : Addr
  d__law_loose : FuncData
  mg__law_loose : mg "_law_loose" = some (.ref a__law_loose)
  F__law_loose : Fun K "_law_loose" "_law_loose" (top 28) a__law_loose d__law_loose
  b__law_loose : Binds K d__law_loose ["stream", "thing"] []
  a__law_net : Addr
  d__law_net : FuncData
  mg__law_net : mg "_law_net" = some (.ref a__law_net)
  F__law_net : Fun K "_law_net" "_law_net" (top 29) a__law_net d__law_net
  b__law_net : Binds K d__law_net ["stream", "most", "many"] []
  a__law_made : Addr
  d__law_made : FuncData
  mg__law_made : mg "_law_made" = some (.ref a__law_made)
  F__law_made : Fun K "_law_made" "_law_made" (top 30) a__law_made d__law_made
  b__law_made : Binds K d__law_made ["stream", "net"] []
  a__law_is_whole : Addr
  d__law_is_whole : FuncData
  mg__law_is_whole : mg "_law_is_whole" = some (.ref a__law_is_whole)
  F__law_is_whole : Fun K "_law_is_whole" "_law_is_whole" (top 31) a__law_is_whole d__law_is_whole
  b__law_is_whole : Binds K d__law_is_whole ["thing"] []
  a__law_cuts : Addr
  d__law_cuts : FuncData
  mg__law_cuts : mg "_law_cuts" = some (.ref a__law_cuts)
  F__law_cuts : Fun K "_law_cuts" "_law_cuts" (top 32) a__law_cuts d__law_cuts
  b__law_cuts : Binds K d__law_cuts ["net"] []
  a__law_room : Addr
  d__law_room : FuncData
  mg__law_room : mg "_law_room" = some (.ref a__law_room)
  F__law_room : Fun K "_law_room" "_law_room" (top 33) a__law_room d__law_room
  b__law_room : Binds K d__law_room ["roads", "some"] []
  a__law_is_cut : Addr
  d__law_is_cut : FuncData
  mg__law_is_cut : mg "_law_is_cut" = some (.ref a__law_is_cut)
  F__law_is_cut : Fun K "_law_is_cut" "_law_is_cut" (top 34) a__law_is_cut d__law_is_cut
  b__law_is_cut : Binds K d__law_is_cut ["net", "thing"] []
  a__law_bent : Addr
  d__law_bent : FuncData
  mg__law_bent : mg "_law_bent" = some (.ref a__law_bent)
  F__law_bent : Fun K "_law_bent" "_law_bent" (top 35) a__law_bent d__law_bent
  b__law_bent : Binds K d__law_bent ["stream", "net", "cut"] []
  a__law_met : Addr
  d__law_met : FuncData
  mg__law_met : mg "_law_met" = some (.ref a__law_met)
  F__law_met : Fun K "_law_met" "_law_met" (top 36) a__law_met d__law_met
  b__law_met : Binds K d__law_met ["made", "thing"] []
  a_law : Addr
  d_law : FuncData
  mg_law : mg "law" = some (.ref a_law)
  F_law : Fun K "law" "law" (top 37) a_law d_law
  b_law : Binds K d_law ["script"] []
  xf_BadCut : XfC K (cA "BadCut")
  exm_BadCut : PySem.W.exmOne K (.ref (cA "BadCut")) (.ref (cA "BadCut")) = some true
  E_BadPlaces : ExcD K mg "BadPlaces" "places" (cA "BadPlaces") a_BadPlaces____init__
  X_BadPlaces : Xc "BadPlaces" = (cA "BadPlaces", ("places" : Str))
  E_BadRoads : ExcD K mg "BadRoads" "index" (cA "BadRoads") a_BadRoads____init__
  X_BadRoads : Xc "BadRoads" = (cA "BadRoads", ("index" : Str))
  E_BadStart : ExcD K mg "BadStart" "place" (cA "BadStart") a_BadStart____init__
  X_BadStart : Xc "BadStart" = (cA "BadStart", ("place" : Str))
  E_BadEnd : ExcD K mg "BadEnd" "place" (cA "BadEnd") a_BadEnd____init__
  X_BadEnd : Xc "BadEnd" = (cA "BadEnd", ("place" : Str))
  E_BadCut : ExcD K mg "BadCut" "thing" (cA "BadCut") a_BadCut____init__
  X_BadCut : Xc "BadCut" = (cA "BadCut", ("thing" : Str))
  cls_Net : Cls K (cA "Net")
  na_Net__places : NoAttr K (cA "Net") "_places"
  na_Net__end : NoAttr K (cA "Net") "_end"
  na_Net__start : NoAttr K (cA "Net") "_start"
  na_Net__roads : NoAttr K (cA "Net") "_roads"
  me_Net__places : Meth K (cA "Net") "places" a_Net__places
  me_Net__end : Meth K (cA "Net") "end" a_Net__end
  me_Net__start : Meth K (cA "Net") "start" a_Net__start
  me_Net__roads : Meth K (cA "Net") "roads" a_Net__roads
  mk_Net : Mk K (cA "Net") a_Net____init__
  mgC_Net : mg "Net" = some (.ref (cA "Net"))
  kw_is_cut : KwB K d_is_cut ["net", "thing"] ["thing", "net"] 2 @swp
  ic_Net_list_tuple : IsC K (cA "Net") "list" "tuple"
  n_abs : mg "abs" = none
  n_all : mg "all" = none
  n_any : mg "any" = none
  n_bool : mg "bool" = none
  n_dict : mg "dict" = none
  n_enumerate : mg "enumerate" = none
  n_int : mg "int" = none
  n_isinstance : mg "isinstance" = none
  n_len : mg "len" = none
  n_list : mg "list" = none
  n_max : mg "max" = none
  n_min : mg "min" = none
  n_range : mg "range" = none
  n_repr : mg "repr" = none
  n_reversed : mg "reversed" = none
  n_set : mg "set" = none
  n_sorted : mg "sorted" = none
  n_str : mg "str" = none
  n_sum : mg "sum" = none
  n_tuple : mg "tuple" = none
  n_zip : mg "zip" = none
section
variable {P : Program} {w : World} {K : KF} {mg : Str → Option Value} {base : Heap} (Y : Tx K mg)
/-! BadPlaces____init__ -/
abbrev s_BadPlaces____init__ : Stmt := inClass (top 2) 0
theorem sc_BadPlaces____init__ : FnScope ["self", "places"] ["self", "places"] (defScope s_BadPlaces____init__) := ⟨rfl, rfl, rfl, by decide +kernel, rfl, by decide +kernel, by decide +kernel⟩
theorem ok_BadPlaces____init__ : FnOk P w K mg base (L2.CX P w) 1 Y.a_BadPlaces____init__ Y.d_BadPlaces____init__ ["self", "places"] (spExc (Y.cA "BadPlaces") "places") :=
  Y.F_BadPlaces____init__.okX sc_BadPlaces____init__ (fun _ _ _ _ h => exc_len rfl h) fun cdv A outer s H vs Q E hr h => ⟨_, pss_one (ps_ost (pv 0) (pv 1)), exc_read Y.E_BadPlaces.cls Y.E_BadPlaces.no h⟩
/-! BadRoads____init__ -/
abbrev s_BadRoads____init__ : Stmt := inClass (top 3) 0
theorem sc_BadRoads____init__ : FnScope ["self", "index"] ["self", "index"] (defScope s_BadRoads____init__) := ⟨rfl, rfl, rfl, by decide +kernel, rfl, by decide +kernel, by decide +kernel⟩
theorem ok_BadRoads____init__ : FnOk P w K mg base (L2.CX P w) 1 Y.a_BadRoads____init__ Y.d_BadRoads____init__ ["self", "index"] (spExc (Y.cA "BadRoads") "index") :=
  Y.F_BadRoads____init__.okX sc_BadRoads____init__ (fun _ _ _ _ h => exc_len rfl h) fun cdv A outer s H vs Q E hr h => ⟨_, pss_one (ps_ost (pv 0) (pv 1)), exc_read Y.E_BadRoads.cls Y.E_BadRoads.no h⟩
/-! BadStart____init__ -/
abbrev s_BadStart____init__ : Stmt := inClass (top 4) 0
theorem sc_BadStart____init__ : FnScope ["self", "place"] ["self", "place"] (defScope s_BadStart____init__) := ⟨rfl, rfl, rfl, by decide +kernel, rfl, by decide +kernel, by decide +kernel⟩
theorem ok_BadStart____init__ : FnOk P w K mg base (L2.CX P w) 1 Y.a_BadStart____init__ Y.d_BadStart____init__ ["self", "place"] (spExc (Y.cA "BadStart") "place") :=
  Y.F_BadStart____init__.okX sc_BadStart____init__ (fun _ _ _ _ h => exc_len rfl h) fun cdv A outer s H vs Q E hr h => ⟨_, pss_one (ps_ost (pv 0) (pv 1)), exc_read Y.E_BadStart.cls Y.E_BadStart.no h⟩
/-! BadEnd____init__ -/
abbrev s_BadEnd____init__ : Stmt := inClass (top 5) 0
theorem sc_BadEnd____init__ : FnScope ["self", "place"] ["self", "place"] (defScope s_BadEnd____init__) := ⟨rfl, rfl, rfl, by decide +kernel, rfl, by decide +kernel, by decide +kernel⟩
theorem ok_BadEnd____init__ : FnOk P w K mg base (L2.CX P w) 1 Y.a_BadEnd____init__ Y.d_BadEnd____init__ ["self", "place"] (spExc (Y.cA "BadEnd") "place") :=
  Y.F_BadEnd____init__.okX sc_BadEnd____init__ (fun _ _ _ _ h => exc_len rfl h) fun cdv A outer s H vs Q E hr h => ⟨_, pss_one (ps_ost (pv 0) (pv 1)), exc_read Y.E_BadEnd.cls Y.E_BadEnd.no h⟩
/-! is_integer -/
abbrev s_is_integer : Stmt := top 7
def G_is_integer (cA : Str → Addr) : Env' → M Fl :=
  (sRet (eAndV (e1 (isiT "int") (eV 0)) (eAndV (e2 isntT (eV 0) (eC (.bl true))) (e2 isntT (eV 0) (eC (.bl false))))))
def m_is_integer (cA : Str → Addr) : List T → M T := fnM false 1 (G_is_integer cA)
theorem sc_is_integer : FnScope ["thing"] ["thing"] (defScope s_is_integer) := ⟨rfl, rfl, rfl, by decide +kernel, rfl, by decide +kernel, by decide +kernel⟩
theorem ok_is_integer : FnOk P w K mg base (L2.CX P w) 1 Y.a_is_integer Y.d_is_integer ["thing"] (spD K Y.Xc false 1 (m_is_integer Y.cA)) := by
  have h := (fn_deep (P := P) (w := w) (mg := mg) (base := base) (Xc := Y.Xc) (st := false) (np := 1) (k := 0) Y.F_is_integer sc_is_integer rfl fun cdv A outer s H E F0 S0 hr =>
  (dss_one (ds_ret (de_and (de_isi (n := "int") Y.n_isinstance Y.n_int (by decide +kernel) (de_var 0 (pv 0))) (de_and (de_isnt (de_var 0 (pv 0)) de_bl) (de_one (de_isnt (de_var 0 (pv 0)) de_bl)))))))
  exact h
/-! is_number -/
abbrev s_is_number : Stmt := top 8
def G_is_number (cA : Str → Addr) : Env' → M Fl :=
  (sRet (eAndV (eCall (m_is_integer cA) (aCons (eV 0) aNil)) (e2 geT (eV 0) (eC (.int 0)))))
def m_is_number (cA : Str → Addr) : List T → M T := fnM false 1 (G_is_number cA)
theorem sc_is_number : FnScope ["thing"] ["thing"] (defScope s_is_number) := ⟨rfl, rfl, rfl, by decide +kernel, rfl, by decide +kernel, by decide +kernel⟩
theorem ok_is_number : FnOk P w K mg base (L2.CX P w) 2 Y.a_is_number Y.d_is_number ["thing"] (spD K Y.Xc false 1 (m_is_number Y.cA)) := by
  have h := (fn_deep (P := P) (w := w) (mg := mg) (base := base) (Xc := Y.Xc) (st := false) (np := 1) (k := 1) Y.F_is_number sc_is_number rfl fun cdv A outer s H E F0 S0 hr =>
  (dss_one (ds_ret (de_and (de_call (ok_is_integer Y) (hr.mono (by omega)) (takes_of rfl rfl rfl rfl) Y.mg_is_integer Y.F_is_integer.kp Y.b_is_integer (da_cons (de_var 0 (pv 0)) da_nil) (aCons_len aNil_len)) (de_one (de_ge (de_var 0 (pv 0)) de_int))))))
  exact h
/-! is_count -/
abbrev s_is_count : Stmt := top 9
def G_is_count (cA : Str → Addr) : Env' → M Fl :=
  (sRet (eAndV (eCall (m_is_integer cA) (aCons (eV 0) aNil)) (e2 geT (eV 0) (eC (.int 1)))))
def m_is_count (cA : Str → Addr) : List T → M T := fnM false 1 (G_is_count cA)
theorem sc_is_count : FnScope ["thing"] ["thing"] (defScope s_is_count) := ⟨rfl, rfl, rfl, by decide +kernel, rfl, by decide +kernel, by decide +kernel⟩
theorem ok_is_count : FnOk P w K mg base (L2.CX P w) 2 Y.a_is_count Y.d_is_count ["thing"] (spD K Y.Xc false 1 (m_is_count Y.cA)) := by
  have h := (fn_deep (P := P) (w := w) (mg := mg) (base := base) (Xc := Y.Xc) (st := false) (np := 1) (k := 1) Y.F_is_count sc_is_count rfl fun cdv A outer s H E F0 S0 hr =>
  (dss_one (ds_ret (de_and (de_call (ok_is_integer Y) (hr.mono (by omega)) (takes_of rfl rfl rfl rfl) Y.mg_is_integer Y.F_is_integer.kp Y.b_is_integer (da_cons (de_var 0 (pv 0)) da_nil) (aCons_len aNil_len)) (de_one (de_ge (de_var 0 (pv 0)) de_int))))))
  exact h
/-! is_index -/
abbrev s_is_index : Stmt := top 10
def G_is_index (cA : Str → Addr) : Env' → M Fl :=
  (sRet (eAndV (eCall (m_is_number cA) (aCons (eV 0) aNil)) (e2 ltT (eV 0) (eV 1))))
def m_is_index (cA : Str → Addr) : List T → M T := fnM false 2 (G_is_index cA)
theorem sc_is_index : FnScope ["thing", "many"] ["thing", "many"] (defScope s_is_index) := ⟨rfl, rfl, rfl, by decide +kernel, rfl, by decide +kernel, by decide +kernel⟩
theorem ok_is_index : FnOk P w K mg base (L2.CX P w) 3 Y.a_is_index Y.d_is_index ["thing", "many"] (spD K Y.Xc false 2 (m_is_index Y.cA)) := by
  have h := (fn_deep (P := P) (w := w) (mg := mg) (base := base) (Xc := Y.Xc) (st := false) (np := 2) (k := 2) Y.F_is_index sc_is_index rfl fun cdv A outer s H E F0 S0 hr =>
  (dss_one (ds_ret (de_and (de_call (ok_is_number Y) (hr.mono (by omega)) (takes_of rfl rfl rfl rfl) Y.mg_is_number Y.F_is_number.kp Y.b_is_number (da_cons (de_var 0 (pv 0)) da_nil) (aCons_len aNil_len)) (de_one (de_lt (de_var 0 (pv 0)) (de_var 1 (pv 1))))))))
  exact h
/-! is_list -/
abbrev s_is_list : Stmt := top 11
def G_is_list (cA : Str → Addr) : Env' → M Fl :=
  (sRet (e1 (isiO2 (cA "Net") "list" "tuple") (eV 0)))
def m_is_list (cA : Str → Addr) : List T → M T := fnM false 1 (G_is_list cA)
theorem sc_is_list : FnScope ["thing"] ["thing"] (defScope s_is_list) := ⟨rfl, rfl, rfl, by decide +kernel, rfl, by decide +kernel, by decide +kernel⟩
theorem ok_is_list : FnOk P w K mg base (L2.CX P w) 1 Y.a_is_list Y.d_is_list ["thing"] (spD K Y.Xc false 1 (m_is_list Y.cA)) := by
  have h := (fn_deep (P := P) (w := w) (mg := mg) (base := base) (Xc := Y.Xc) (st := false) (np := 1) (k := 0) Y.F_is_list sc_is_list rfl fun cdv A outer s H E F0 S0 hr =>
  (dss_one (ds_ret (de_isiO2 (n := "list") (m := "tuple") Y.ic_Net_list_tuple Y.n_isinstance Y.n_list (by decide +kernel) Y.n_tuple (by decide +kernel) (de_var 0 (pv 0))))))
  exact h
/-! BadCut____init__ -/
abbrev s_BadCut____init__ : Stmt := inClass (top 13) 0
theorem sc_BadCut____init__ : FnScope ["self", "thing"] ["self", "thing"] (defScope s_BadCut____init__) := ⟨rfl, rfl, rfl, by decide +kernel, rfl, by decide +kernel, by decide +kernel⟩
theorem ok_BadCut____init__ : FnOk P w K mg base (L2.CX P w) 1 Y.a_BadCut____init__ Y.d_BadCut____init__ ["self", "thing"] (spExc (Y.cA "BadCut") "thing") :=
  Y.F_BadCut____init__.okX sc_BadCut____init__ (fun _ _ _ _ h => exc_len rfl h) fun cdv A outer s H vs Q E hr h => ⟨_, pss_one (ps_ost (pv 0) (pv 1)), exc_read Y.E_BadCut.cls Y.E_BadCut.no h⟩
/-! Net.places -/
abbrev s_Net__places : Stmt := inClass (top 21) 1
def G_Net__places (cA : Str → Addr) : Env' → M Fl :=
  (sRet (e1 (attrT (cA "Net") "_places") (eV 0)))
def m_Net__places (cA : Str → Addr) : List T → M T := fnM false 1 (G_Net__places cA)
theorem sc_Net__places : FnScope ["self"] ["self"] (defScope s_Net__places) := ⟨rfl, rfl, rfl, by decide +kernel, rfl, by decide +kernel, by decide +kernel⟩
theorem ok_Net__places : FnOk P w K mg base (L2.CX P w) 1 Y.a_Net__places Y.d_Net__places ["self"] (spD K Y.Xc false 1 (m_Net__places Y.cA)) := by
  have h := (fn_deep (P := P) (w := w) (mg := mg) (base := base) (Xc := Y.Xc) (st := false) (np := 1) (k := 0) Y.F_Net__places sc_Net__places rfl fun cdv A outer s H E F0 S0 hr =>
  (dss_one (ds_ret (de_attr Y.cls_Net Y.na_Net__places (de_var 0 (pv 0))))))
  exact h
/-! Net.end -/
abbrev s_Net__end : Stmt := inClass (top 21) 4
def G_Net__end (cA : Str → Addr) : Env' → M Fl :=
  (sRet (e1 (attrT (cA "Net") "_end") (eV 0)))
def m_Net__end (cA : Str → Addr) : List T → M T := fnM false 1 (G_Net__end cA)
theorem sc_Net__end : FnScope ["self"] ["self"] (defScope s_Net__end) := ⟨rfl, rfl, rfl, by decide +kernel, rfl, by decide +kernel, by decide +kernel⟩
theorem ok_Net__end : FnOk P w K mg base (L2.CX P w) 1 Y.a_Net__end Y.d_Net__end ["self"] (spD K Y.Xc false 1 (m_Net__end Y.cA)) := by
  have h := (fn_deep (P := P) (w := w) (mg := mg) (base := base) (Xc := Y.Xc) (st := false) (np := 1) (k := 0) Y.F_Net__end sc_Net__end rfl fun cdv A outer s H E F0 S0 hr =>
  (dss_one (ds_ret (de_attr Y.cls_Net Y.na_Net__end (de_var 0 (pv 0))))))
  exact h
/-! Net.start -/
abbrev s_Net__start : Stmt := inClass (top 21) 3
def G_Net__start (cA : Str → Addr) : Env' → M Fl :=
  (sRet (e1 (attrT (cA "Net") "_start") (eV 0)))
def m_Net__start (cA : Str → Addr) : List T → M T := fnM false 1 (G_Net__start cA)
theorem sc_Net__start : FnScope ["self"] ["self"] (defScope s_Net__start) := ⟨rfl, rfl, rfl, by decide +kernel, rfl, by decide +kernel, by decide +kernel⟩
theorem ok_Net__start : FnOk P w K mg base (L2.CX P w) 1 Y.a_Net__start Y.d_Net__start ["self"] (spD K Y.Xc false 1 (m_Net__start Y.cA)) := by
  have h := (fn_deep (P := P) (w := w) (mg := mg) (base := base) (Xc := Y.Xc) (st := false) (np := 1) (k := 0) Y.F_Net__start sc_Net__start rfl fun cdv A outer s H E F0 S0 hr =>
  (dss_one (ds_ret (de_attr Y.cls_Net Y.na_Net__start (de_var 0 (pv 0))))))
  exact h
/-! is_cut -/
abbrev s_is_cut : Stmt := top 15
def G_is_cut (cA : Str → Addr) : Env' → M Fl :=
  (sSeq (sIf (eNot (e1 boolT (eCall (m_is_list cA) (aCons (eV 1) aNil)))) (sRet (eC (.bl false))) sNext)
  (sSeq (sFor (e1 enumB (aCons (eV 1) aNil)) (bTup (bCons (bName 2) (bCons (bName 3) bNil))) (sIf (eOr (eNot (e1 boolT (eCall (m_is_index cA) (aCons (eV 3) (aCons (e1 (methT (cA "Net") "places" (m_Net__places cA) []) (eV 0)) aNil))))) (eAnd (e1 boolT (e2 gtT (eV 2) (eC (.int 0)))) (e1 boolT (e2 leT (eV 3) (e2 ixT (eVS 1) (e2 subT (eV 2) (eC (.int 1)))))))) (sRet (eC (.bl false))) sNext))
  (sRet (eAndV (e2 (inT false) (e1 (methT (cA "Net") "start" (m_Net__start cA) []) (eV 0)) (eVS 1)) (e2 (inT true) (e1 (methT (cA "Net") "end" (m_Net__end cA) []) (eV 0)) (eVS 1))))))
def m_is_cut (cA : Str → Addr) : List T → M T := fnM false 4 (G_is_cut cA)
theorem sc_is_cut : FnScope ["net", "thing", "index", "place"] ["net", "thing"] (defScope s_is_cut) := ⟨rfl, rfl, rfl, by decide +kernel, rfl, by decide +kernel, by decide +kernel⟩
theorem ok_is_cut : FnOk P w K mg base (L2.CX P w) 4 Y.a_is_cut Y.d_is_cut ["net", "thing"] (spD K Y.Xc false 2 (m_is_cut Y.cA)) := by
  have h := (fn_deep (P := P) (w := w) (mg := mg) (base := base) (Xc := Y.Xc) (st := false) (np := 2) (k := 3) Y.F_is_cut sc_is_cut rfl fun cdv A outer s H E F0 S0 hr =>
  (dss_cons (ds_if (dt_not (dt_val (de_call (ok_is_list Y) (hr.mono (by omega)) (takes_of rfl rfl rfl rfl) Y.mg_is_list Y.F_is_list.kp Y.b_is_list (da_cons (de_var 1 (pv 1)) da_nil) (aCons_len aNil_len)))) (dss_one (ds_ret de_bl)) dss_nil)
  (dss_cons (ds_for (passes_of rfl) rfl (di_enumB Y.n_enumerate (da_cons (de_var 1 (pv 1)) da_nil)) (dg_tup rfl (dgs_cons (dg_name (i := 2) sc_is_cut.nd rfl (Or.inl rfl)) (dgs_cons (dg_name (i := 3) sc_is_cut.nd rfl (Or.inl rfl)) dgs_nil)) (bCons_len (bCons_len bNil_len))) (dss_one (ds_if (dt_w (dw_or (dt_not (dt_val (de_call (ok_is_index Y) (hr.mono (by omega)) (takes_of rfl rfl rfl rfl) Y.mg_is_index Y.F_is_index.kp Y.b_is_index (da_cons (de_var 3 (pv 3)) (da_cons (de_meth0 Y.cls_Net Y.me_Net__places (ok_Net__places Y) (hr.mono (by omega)) Y.b_Net__places (de_var 0 (pv 0)) (pl := _)) da_nil)) (aCons_len (aCons_len aNil_len))))) (dw_or1 (dt_w (dw_and (dt_gt (de_var 2 (pv 2)) de_int) (dw_and1 (dt_le (de_var 3 (pv 3)) (de_ix (dl_var 1 (pv 1)) (de_sub (de_var 2 (pv 2)) de_int))))))))) (dss_one (ds_ret de_bl)) dss_nil)))
  (dss_one (ds_ret (de_and (de_in hr (de_meth0 Y.cls_Net Y.me_Net__start (ok_Net__start Y) (hr.mono (by omega)) Y.b_Net__start (de_var 0 (pv 0)) (pl := _)) (dl_var 1 (pv 1))) (de_one (de_nin hr (de_meth0 Y.cls_Net Y.me_Net__end (ok_Net__end Y) (hr.mono (by omega)) Y.b_Net__end (de_var 0 (pv 0)) (pl := _)) (dl_var 1 (pv 1))))))))))
  exact h
/-! Net.roads -/
abbrev s_Net__roads : Stmt := inClass (top 21) 2
def G_Net__roads (cA : Str → Addr) : Env' → M Fl :=
  (sRet (e1 lstT (e1 nList (e1 seqT (e1 (attrT (cA "Net") "_roads") (eV 0))))))
def m_Net__roads (cA : Str → Addr) : List T → M T := fnM false 1 (G_Net__roads cA)
theorem sc_Net__roads : FnScope ["self"] ["self"] (defScope s_Net__roads) := ⟨rfl, rfl, rfl, by decide +kernel, rfl, by decide +kernel, by decide +kernel⟩
theorem ok_Net__roads : FnOk P w K mg base (L2.CX P w) 1 Y.a_Net__roads Y.d_Net__roads ["self"] (spD K Y.Xc false 1 (m_Net__roads Y.cA)) := by
  have h := (fn_deep (P := P) (w := w) (mg := mg) (base := base) (Xc := Y.Xc) (st := false) (np := 1) (k := 0) Y.F_Net__roads sc_Net__roads rfl fun cdv A outer s H E F0 S0 hr =>
  (dss_one (ds_ret (de_dn (dn_list Y.n_list (dl_de (de_attr Y.cls_Net Y.na_Net__roads (de_var 0 (pv 0)))))))))
  exact h
/-! room_across -/
abbrev s_room_across : Stmt := top 16
def G_room_across (cA : Str → Addr) : Env' → M Fl :=
  (sRet (e1 sumT (aCons (e1 lstT (nLc [2, 3, 4, 5] (e1 itemsT (e1 (methT (cA "Net") "roads" (m_Net__roads cA) []) (eV 0))) (bTup (bCons (bName 2) (bCons (bName 3) (bCons (bName 4) (bCons (bName 5) bNil))))) (eAnd (e1 boolT (e2 (inT false) (eV 2) (eVS 1))) (e1 boolT (e2 (inT true) (eV 3) (eVS 1)))) (eV 5))) aNil)))
def m_room_across (cA : Str → Addr) : List T → M T := fnM false 6 (G_room_across cA)
theorem sc_room_across : FnScope ["net", "cut", "one", "other", "_", "room"] ["net", "cut"] (defScope s_room_across) := ⟨rfl, rfl, rfl, by decide +kernel, rfl, by decide +kernel, by decide +kernel⟩
theorem ok_room_across : FnOk P w K mg base (L2.CX P w) 2 Y.a_room_across Y.d_room_across ["net", "cut"] (spD K Y.Xc false 2 (m_room_across Y.cA)) := by
  have h := (fn_deep (P := P) (w := w) (mg := mg) (base := base) (Xc := Y.Xc) (st := false) (np := 2) (k := 1) Y.F_room_across sc_room_across rfl fun cdv A outer s H E F0 S0 hr =>
  (dss_one (ds_ret (de_callB (cr_sum rfl) (c_sum rfl) Y.n_sum (by decide +kernel) (da_cons (de_dn (dn_lc (own := [("one", 2), ("other", 3), ("_", 4), ("room", 5)]) rfl sc_room_across.nd (di_seq (de_meth0 Y.cls_Net Y.me_Net__roads (ok_Net__roads Y) (hr.mono (by omega)) Y.b_Net__roads (de_var 0 (pv 0)) (pl := _))) (blkOk_by (own := [("one", 2), ("other", 3), ("_", 4), ("room", 5)]) (N := ["net", "cut", "one", "other", "_", "room"]) (sc := defScope s_room_across) (by decide +kernel)) (fun _ _ _ _ _ => (dg_tup rfl (dgs_cons (dg_name (i := 2) sc_room_across.nd rfl (Or.inl rfl)) (dgs_cons (dg_name (i := 3) sc_room_across.nd rfl (Or.inl rfl)) (dgs_cons (dg_name (i := 4) sc_room_across.nd rfl (Or.inl rfl)) (dgs_cons (dg_name (i := 5) sc_room_across.nd rfl (Or.inl rfl)) dgs_nil)))) (bCons_len (bCons_len (bCons_len (bCons_len bNil_len)))))) (fun _ _ _ _ _ => (dts_one (dt_w (dw_and (dt_in hr (de_var 2 (pv 2)) (dl_var 1 (pv 1))) (dw_and1 (dt_nin hr (de_var 3 (pv 3)) (dl_var 1 (pv 1)))))))) (fun _ _ _ _ _ => (de_var 5 (pv 5))))) da_nil)))))
  exact h
/-! room_of -/
abbrev s_room_of : Stmt := top 17
def G_room_of (cA : Str → Addr) : Env' → M Fl :=
  (sSeq (sIf (eNot (e1 boolT (eCall (m_is_cut cA) (aCons (eV 0) (aCons (eV 1) aNil))))) (sRaise "BadCut" (eV 1)) sNext)
  (sRet (eCall (m_room_across cA) (aCons (eV 0) (aCons (eV 1) aNil)))))
def m_room_of (cA : Str → Addr) : List T → M T := fnM false 2 (G_room_of cA)
theorem sc_room_of : FnScope ["net", "cut"] ["net", "cut"] (defScope s_room_of) := ⟨rfl, rfl, rfl, by decide +kernel, rfl, by decide +kernel, by decide +kernel⟩
theorem ok_room_of : FnOk P w K mg base (L2.CX P w) 5 Y.a_room_of Y.d_room_of ["net", "cut"] (spD K Y.Xc false 2 (m_room_of Y.cA)) := by
  have h := (fn_deep (P := P) (w := w) (mg := mg) (base := base) (Xc := Y.Xc) (st := false) (np := 2) (k := 4) Y.F_room_of sc_room_of rfl fun cdv A outer s H E F0 S0 hr =>
  (dss_cons (ds_if (dt_not (dt_val (de_call (ok_is_cut Y) (hr.mono (by omega)) (takes_of rfl rfl rfl rfl) Y.mg_is_cut Y.F_is_cut.kp Y.b_is_cut (da_cons (de_var 0 (pv 0)) (da_cons (de_var 1 (pv 1)) da_nil)) (aCons_len (aCons_len aNil_len))))) (dss_one (ds_raise rfl (takes_of rfl rfl rfl rfl) Y.E_BadCut (ok_BadCut____init__ Y) (hr.mono (by omega)) Y.b_BadCut____init__ Y.X_BadCut (de_var 1 (pv 1)))) dss_nil)
  (dss_one (ds_ret (de_call (ok_room_across Y) (hr.mono (by omega)) (takes_of rfl rfl rfl rfl) Y.mg_room_across Y.F_room_across.kp Y.b_room_across (da_cons (de_var 0 (pv 0)) (da_cons (de_var 1 (pv 1)) da_nil)) (aCons_len (aCons_len aNil_len)))))))
  exact h
/-! is_road -/
abbrev s_is_road : Stmt := top 19
def G_is_road (cA : Str → Addr) : Env' → M Fl :=
  (sSeq (sIf (eOr (eNot (e1 boolT (eCall (m_is_list cA) (aCons (eV 1) aNil)))) (e1 boolT (e2 neT (e1 lenT (eVS 1)) (eC (.int 4))))) (sRet (eC (.bl false))) sNext)
  (sSeq (sIf (eOr (eNot (e1 boolT (eCall (m_is_index cA) (aCons (e2 ixT (eVS 1) (eC (.int 0))) (aCons (eV 0) aNil))))) (eNot (e1 boolT (eCall (m_is_index cA) (aCons (e2 ixT (eVS 1) (eC (.int 1))) (aCons (eV 0) aNil)))))) (sRet (eC (.bl false))) sNext)
  (sRet (eAndV (e2 neT (e2 ixT (eVS 1) (eC (.int 0))) (e2 ixT (eVS 1) (eC (.int 1)))) (eAndV (eCall (m_is_count cA) (aCons (e2 ixT (eVS 1) (eC (.int 2))) aNil)) (eCall (m_is_count cA) (aCons (e2 ixT (eVS 1) (eC (.int 3))) aNil)))))))
def m_is_road (cA : Str → Addr) : List T → M T := fnM false 2 (G_is_road cA)
theorem sc_is_road : FnScope ["places", "thing"] ["places", "thing"] (defScope s_is_road) := ⟨rfl, rfl, rfl, by decide +kernel, rfl, by decide +kernel, by decide +kernel⟩
theorem ok_is_road : FnOk P w K mg base (L2.CX P w) 4 Y.a_is_road Y.d_is_road ["places", "thing"] (spD K Y.Xc false 2 (m_is_road Y.cA)) := by
  have h := (fn_deep (P := P) (w := w) (mg := mg) (base := base) (Xc := Y.Xc) (st := false) (np := 2) (k := 3) Y.F_is_road sc_is_road rfl fun cdv A outer s H E F0 S0 hr =>
  (dss_cons (ds_if (dt_w (dw_or (dt_not (dt_val (de_call (ok_is_list Y) (hr.mono (by omega)) (takes_of rfl rfl rfl rfl) Y.mg_is_list Y.F_is_list.kp Y.b_is_list (da_cons (de_var 1 (pv 1)) da_nil) (aCons_len aNil_len)))) (dw_or1 (dt_ne hr (de_len rfl Y.n_len (by decide +kernel) (dl_var 1 (pv 1))) de_int)))) (dss_one (ds_ret de_bl)) dss_nil)
  (dss_cons (ds_if (dt_w (dw_or (dt_not (dt_val (de_call (ok_is_index Y) (hr.mono (by omega)) (takes_of rfl rfl rfl rfl) Y.mg_is_index Y.F_is_index.kp Y.b_is_index (da_cons (de_ix (dl_var 1 (pv 1)) de_int) (da_cons (de_var 0 (pv 0)) da_nil)) (aCons_len (aCons_len aNil_len))))) (dw_or1 (dt_not (dt_val (de_call (ok_is_index Y) (hr.mono (by omega)) (takes_of rfl rfl rfl rfl) Y.mg_is_index Y.F_is_index.kp Y.b_is_index (da_cons (de_ix (dl_var 1 (pv 1)) de_int) (da_cons (de_var 0 (pv 0)) da_nil)) (aCons_len (aCons_len aNil_len)))))))) (dss_one (ds_ret de_bl)) dss_nil)
  (dss_one (ds_ret (de_and (de_ne hr (de_ix (dl_var 1 (pv 1)) de_int) (de_ix (dl_var 1 (pv 1)) de_int)) (de_and (de_call (ok_is_count Y) (hr.mono (by omega)) (takes_of rfl rfl rfl rfl) Y.mg_is_count Y.F_is_count.kp Y.b_is_count (da_cons (de_ix (dl_var 1 (pv 1)) de_int) da_nil) (aCons_len aNil_len)) (de_one (de_call (ok_is_count Y) (hr.mono (by omega)) (takes_of rfl rfl rfl rfl) Y.mg_is_count Y.F_is_count.kp Y.b_is_count (da_cons (de_ix (dl_var 1 (pv 1)) de_int) da_nil) (aCons_len aNil_len))))))))))
  exact h
/-! told_roads -/
abbrev s_told_roads : Stmt := top 20
def G_told_roads (cA : Str → Addr) : Env' → M Fl :=
  (sSeq (sIf (eNot (e1 boolT (eCall (m_is_list cA) (aCons (eV 1) aNil)))) (sRaise "BadRoads" (eC (.int 0))) sNext)
  (sSeq (sSet0 2)
  (sSeq (sFor (e1 enumB (aCons (eV 1) aNil)) (bTup (bCons (bName 3) (bCons (bName 4) bNil))) (sSeq (sIf (eOr (eNot (e1 boolT (eCall (m_is_road cA) (aCons (eV 0) (aCons (eV 4) aNil))))) (e1 boolT (eInS false 2 (e1 tupT (eVS 4))))) (sRaise "BadRoads" (eV 3)) sNext)
  (sAddS 2 (e1 tupT (eVS 4)))))
  (sRet (e1 lstT (nSortS 2))))))
def m_told_roads (cA : Str → Addr) : List T → M T := fnM false 5 (G_told_roads cA)
theorem sc_told_roads : FnScope ["places", "roads", "seen", "index", "road"] ["places", "roads"] (defScope s_told_roads) := ⟨rfl, rfl, rfl, by decide +kernel, rfl, by decide +kernel, by decide +kernel⟩
theorem ok_told_roads : FnOk P w K mg base (L2.CX P w) 5 Y.a_told_roads Y.d_told_roads ["places", "roads"] (spD K Y.Xc false 2 (m_told_roads Y.cA)) := by
  have h := (fn_deep (P := P) (w := w) (mg := mg) (base := base) (Xc := Y.Xc) (st := false) (np := 2) (k := 4) Y.F_told_roads sc_told_roads rfl fun cdv A outer s H E F0 S0 hr =>
  (dss_cons (ds_if (dt_not (dt_val (de_call (ok_is_list Y) (hr.mono (by omega)) (takes_of rfl rfl rfl rfl) Y.mg_is_list Y.F_is_list.kp Y.b_is_list (da_cons (de_var 1 (pv 1)) da_nil) (aCons_len aNil_len)))) (dss_one (ds_raise rfl (takes_of rfl rfl rfl rfl) Y.E_BadRoads (ok_BadRoads____init__ Y) (hr.mono (by omega)) Y.b_BadRoads____init__ Y.X_BadRoads de_int)) dss_nil)
  (dss_cons (ds_set0 (i := 2) (hN := sc_told_roads.nd) rfl (Or.inl rfl) Y.n_set)
  (dss_cons (ds_for (passes_of rfl) rfl (di_enumB Y.n_enumerate (da_cons (de_var 1 (pv 1)) da_nil)) (dg_tup rfl (dgs_cons (dg_name (i := 3) sc_told_roads.nd rfl (Or.inl rfl)) (dgs_cons (dg_name (i := 4) sc_told_roads.nd rfl (Or.inl rfl)) dgs_nil)) (bCons_len (bCons_len bNil_len))) (dss_cons (ds_if (dt_w (dw_or (dt_not (dt_val (de_call (ok_is_road Y) (hr.mono (by omega)) (takes_of rfl rfl rfl rfl) Y.mg_is_road Y.F_is_road.kp Y.b_is_road (da_cons (de_var 0 (pv 0)) (da_cons (de_var 4 (pv 4)) da_nil)) (aCons_len (aCons_len aNil_len))))) (dw_or1 (dt_inS hr (de_tuple Y.n_tuple (dl_var 4 (pv 4))) (pv 2))))) (dss_one (ds_raise rfl (takes_of rfl rfl rfl rfl) Y.E_BadRoads (ok_BadRoads____init__ Y) (hr.mono (by omega)) Y.b_BadRoads____init__ Y.X_BadRoads (de_var 3 (pv 3)))) dss_nil)
  (dss_one (ds_addS hr (pv 2) (de_tuple Y.n_tuple (dl_var 4 (pv 4)))))))
  (dss_one (ds_ret (de_dn (dn_sortedS rfl Y.n_sorted (pv 2)))))))))
  exact h
/-! Net.__init__ -/
abbrev s_Net____init__ : Stmt := inClass (top 21) 0
def G_Net____init__ (cA : Str → Addr) : Env' → M (List (Str × T)) :=
  (qSeq (sIf (eOr (eNot (e1 boolT (eCall (m_is_integer cA) (aCons (eV 1) aNil)))) (e1 boolT (e2 ltT (eV 1) (eC (.int 2))))) (sRaise "BadPlaces" (eV 1)) sNext)
  (qSeq (sSet 5 (eCall (m_told_roads cA) (aCons (eV 1) (aCons (eV 2) aNil))))
  (qSeq (sIf (eNot (e1 boolT (eCall (m_is_index cA) (aCons (eV 3) (aCons (eV 1) aNil))))) (sRaise "BadStart" (eV 3)) sNext)
  (qSeq (sIf (eOr (eNot (e1 boolT (eCall (m_is_index cA) (aCons (eV 4) (aCons (eV 1) aNil))))) (e1 boolT (e2 eqT (eV 4) (eV 3)))) (sRaise "BadEnd" (eV 4)) sNext)
  (qTail (fCons "_places" (eV 1) (fCons "_roads" (eV 5) (fCons "_start" (eV 3) (fCons "_end" (eV 4) fNil)))))))))
def m_Net____init__ (cA : Str → Addr) : List T → M (List (Str × T)) := initM 6 (G_Net____init__ cA)
theorem sc_Net____init__ : FnScope ["self", "places", "roads", "start", "end", "kept"] ["self", "places", "roads", "start", "end"] (defScope s_Net____init__) := ⟨rfl, rfl, rfl, by decide +kernel, rfl, by decide +kernel, by decide +kernel⟩
theorem ok_Net____init__ : FnOk P w K mg base (L2.CX P w) 6 Y.a_Net____init__ Y.d_Net____init__ ["self", "places", "roads", "start", "end"] (spInit K Y.Xc (Y.cA "Net") 4 (m_Net____init__ Y.cA)) :=
  init_deep Y.F_Net____init__ sc_Net____init__ rfl fun cdv A outer s H E F0 a hr =>
  (dq_cons (ds_if (dt_w (dw_or (dt_not (dt_val (de_call (ok_is_integer Y) (hr.mono (by omega)) (takes_of rfl rfl rfl rfl) Y.mg_is_integer Y.F_is_integer.kp Y.b_is_integer (da_cons (de_var 1 (pv 1)) da_nil) (aCons_len aNil_len)))) (dw_or1 (dt_lt (de_var 1 (pv 1)) de_int)))) (dss_one (ds_raise rfl (takes_of rfl rfl rfl rfl) Y.E_BadPlaces (ok_BadPlaces____init__ Y) (hr.mono (by omega)) Y.b_BadPlaces____init__ Y.X_BadPlaces (de_var 1 (pv 1)))) dss_nil)
  (dq_cons (ds_set (i := 5) sc_Net____init__.nd rfl (Or.inl rfl) (de_call (ok_told_roads Y) (hr.mono (by omega)) (takes_of rfl rfl rfl rfl) Y.mg_told_roads Y.F_told_roads.kp Y.b_told_roads (da_cons (de_var 1 (pv 1)) (da_cons (de_var 2 (pv 2)) da_nil)) (aCons_len (aCons_len aNil_len))))
  (dq_cons (ds_if (dt_not (dt_val (de_call (ok_is_index Y) (hr.mono (by omega)) (takes_of rfl rfl rfl rfl) Y.mg_is_index Y.F_is_index.kp Y.b_is_index (da_cons (de_var 3 (pv 3)) (da_cons (de_var 1 (pv 1)) da_nil)) (aCons_len (aCons_len aNil_len))))) (dss_one (ds_raise rfl (takes_of rfl rfl rfl rfl) Y.E_BadStart (ok_BadStart____init__ Y) (hr.mono (by omega)) Y.b_BadStart____init__ Y.X_BadStart (de_var 3 (pv 3)))) dss_nil)
  (dq_cons (ds_if (dt_w (dw_or (dt_not (dt_val (de_call (ok_is_index Y) (hr.mono (by omega)) (takes_of rfl rfl rfl rfl) Y.mg_is_index Y.F_is_index.kp Y.b_is_index (da_cons (de_var 4 (pv 4)) (da_cons (de_var 1 (pv 1)) da_nil)) (aCons_len (aCons_len aNil_len))))) (dw_or1 (dt_eq hr (de_var 4 (pv 4)) (de_var 3 (pv 3)))))) (dss_one (ds_raise rfl (takes_of rfl rfl rfl rfl) Y.E_BadEnd (ok_BadEnd____init__ Y) (hr.mono (by omega)) Y.b_BadEnd____init__ Y.X_BadEnd (de_var 4 (pv 4)))) dss_nil)
  (dq_tail (df_cons Y.cls_Net Y.na_Net__places (de_var 1 (pv 1)) (pv 0) (df_cons Y.cls_Net Y.na_Net__roads (de_var 5 (pv 5)) (pv 0) (df_cons Y.cls_Net Y.na_Net__start (de_var 3 (pv 3)) (pv 0) (df_cons Y.cls_Net Y.na_Net__end (de_var 4 (pv 4)) (pv 0) df_nil)))))))))
/-! _law_stream -/
abbrev s__law_stream : Stmt := top 23
theorem sc__law_stream : FnScope ["script"] ["script"] (defScope s__law_stream) := ⟨rfl, rfl, rfl, by decide +kernel, rfl, by decide +kernel, by decide +kernel⟩
theorem ok__law_stream : FnOk P w K mg base (L2.CX P w) 1 Y.a__law_stream Y.d__law_stream ["script"] (spStream K) :=
  Y.F__law_stream.okX sc__law_stream (fun _ _ _ _ h => stream_len h) fun cdv A outer s H vs Q E hr h => ⟨_, pss_one (ps_ret (pe_lst (pa_cons (pe_callTy call_list_of rfl Y.n_list (by decide +kernel) (pa_cons (pv 0) pa_nil)) (pa_cons pe_int (pa_cons pe_int (pa_cons pe_int pa_nil)))))), stream_read rfl h⟩
/-! _law_draw -/
abbrev s__law_draw : Stmt := s_draw
abbrev m__law_draw (_ : Str → Addr) : List T → M T := drawM
theorem ok__law_draw : FnOk P w K mg base (L2.CX P w) 1 Y.a__law_draw Y.d__law_draw ["stream", "many"] (spD K Y.Xc true 1 (m__law_draw Y.cA)) := ok_draw Y.F__law_draw Y.n_abs Y.n_int
/-! _law_pick -/
abbrev s__law_pick : Stmt := top 25
def G__law_pick (cA : Str → Addr) : Env' → M Fl :=
  (sRet (e2 ixT (eVS 1) (eCallS 0 (m__law_draw cA) (aCons (e1 lenT (eVS 1)) aNil))))
def m__law_pick (cA : Str → Addr) : List T → M T := fnM true 2 (G__law_pick cA)
theorem sc__law_pick : FnScope ["stream", "things"] ["stream", "things"] (defScope s__law_pick) := ⟨rfl, rfl, rfl, by decide +kernel, rfl, by decide +kernel, by decide +kernel⟩
theorem ok__law_pick : FnOk P w K mg base (L2.CX P w) 2 Y.a__law_pick Y.d__law_pick ["stream", "things"] (spD K Y.Xc true 1 (m__law_pick Y.cA)) := by
  have h := (fn_deep (P := P) (w := w) (mg := mg) (base := base) (Xc := Y.Xc) (st := true) (np := 1) (k := 1) Y.F__law_pick sc__law_pick rfl fun cdv A outer s H E F0 S0 hr =>
  (dss_one (ds_ret (de_ix (dl_var 1 (pv 1)) (de_callS (i := 0) (ok__law_draw Y) (hr.mono (by omega)) (takes_of rfl rfl rfl rfl) Y.mg__law_draw Y.F__law_draw.kp Y.b__law_draw (pv 0) (da_cons (de_len rfl Y.n_len (by decide +kernel) (dl_var 1 (pv 1))) da_nil) (aCons_len aNil_len))))))
  exact h
/-! _law_mixed -/
abbrev s__law_mixed : Stmt := top 26
def G__law_mixed (cA : Str → Addr) : Env' → M Fl :=
  (sSeq (sPar 2 3 (pConsN (e1 nList (eVS 1)) (pConsN (nLst aNil) pNil)))
  (sSeq (sFor (e1 rng1 (aCons (e1 lenT (eVS 2)) aNil)) (bName 4) (sAppX 3 (xPopAt 2 (eCallS 0 (m__law_draw cA) (aCons (e1 lenT (eVS 2)) aNil)))))
  (sFz 3 (sRet (eV 3)))))
def m__law_mixed (cA : Str → Addr) : List T → M T := fnM true 5 (G__law_mixed cA)
theorem sc__law_mixed : FnScope ["stream", "things", "left", "found", "k"] ["stream", "things"] (defScope s__law_mixed) := ⟨rfl, rfl, rfl, by decide +kernel, rfl, by decide +kernel, by decide +kernel⟩
theorem ok__law_mixed : FnOk P w K mg base (L2.CX P w) 2 Y.a__law_mixed Y.d__law_mixed ["stream", "things"] (spD K Y.Xc true 1 (m__law_mixed Y.cA)) := by
  have h := (fn_deep (P := P) (w := w) (mg := mg) (base := base) (Xc := Y.Xc) (st := true) (np := 1) (k := 1) Y.F__law_mixed sc__law_mixed rfl fun cdv A outer s H E F0 S0 hr =>
  (dss_cons (ds_par (i := 2) (j := 3) rfl sc__law_mixed.nd rfl rfl (by decide) rfl rfl (dp_consN (dn_list Y.n_list (dl_var 1 (pv 1))) (dp_consN (dn_lst da_nil) dp_nil)))
  (dss_cons (ds_for (passes_of rfl) rfl (di_range1 Y.n_range (da_cons (de_len rfl Y.n_len (by decide +kernel) (dl_var 2 (pv 2))) da_nil)) (dg_name (i := 4) sc__law_mixed.nd rfl (Or.inl rfl)) (dss_one (ds_appendX (pv 3) (dx_popAt (pv 2) (de_callS (i := 0) (ok__law_draw Y) (hr.mono (by omega)) (takes_of rfl rfl rfl rfl) Y.mg__law_draw Y.F__law_draw.kp Y.b__law_draw (pv 0) (da_cons (de_len rfl Y.n_len (by decide +kernel) (dl_var 2 (pv 2))) da_nil) (aCons_len aNil_len))))))
  (dss_fz 3 (dss_one (ds_ret (de_var 3 (pv 3))))))))
  exact h
/-! _law_same -/
abbrev s__law_same : Stmt := top 27
def G__law_same (cA : Str → Addr) (rec : List T → M T) : Env' → M Fl :=
  (sSeq (sIf (e1 boolT (e1 (isiT2 "list" "tuple") (eV 1))) (sSeq (sIf (eOr (e1 boolT (e2 neT (e1 (isiT "list") (eV 0)) (e1 (isiT "list") (eV 1)))) (e1 boolT (e2 neT (e1 (isiT "tuple") (eV 0)) (e1 (isiT "tuple") (eV 1))))) (sRet (eC (.bl false))) sNext)
  (sRet (eAndV (e2 eqT (e1 lenT (eVS 0)) (e1 lenT (eVS 1))) (e1 allT (e1 seqN (nLc [2, 3] (e1 zipA (aCons (eV 0) (aCons (eV 1) aNil))) (bTup (bCons (bName 2) (bCons (bName 3) bNil))) cYes (eCall rec (aCons (eV 2) (aCons (eV 3) aNil))))))))) sNext)
  (sSeq (sIf (e1 boolT (e1 (isiT "dict") (eV 1))) (sRet (eAndV (e1 (isiT "dict") (eV 0)) (eCall rec (aCons (e1 lstT (e1 nItems (eV 0))) (aCons (e1 lstT (e1 nItems (eV 1))) aNil))))) sNext)
  (sSeq (sIf (eOr (e1 boolT (e1 (isiT "bool") (eV 1))) (e1 boolT (e1 (isiT "bool") (eV 0)))) (sRet (eAndV (e1 (isiT "bool") (eV 1)) (eAndV (e1 (isiT "bool") (eV 0)) (e2 eqT (eV 0) (eV 1))))) sNext)
  (sRet (eAndV (eNotV (e1 (isiT3 "list" "tuple" "dict") (eV 0))) (e2 eqT (eV 0) (eV 1)))))))
def m__law_same (cA : Str → Addr) : Nat → List T → M T := recM false 4 (G__law_same cA)
theorem sc__law_same : FnScope ["found", "due", "mine", "theirs"] ["found", "due"] (defScope s__law_same) := ⟨rfl, rfl, rfl, by decide +kernel, rfl, by decide +kernel, by decide +kernel⟩
theorem ok__law_same : ∀ n : Nat, FnOk P w K mg base (L2.CX P w) (1 + n) Y.a__law_same Y.d__law_same ["found", "due"] (spD K Y.Xc false 2 (m__law_same Y.cA n))
  | 0 => fn_never fun _ => rfl
  | n + 1 => by
    have ih := ok__law_same n
    have h := (fn_deep (P := P) (w := w) (mg := mg) (base := base) (Xc := Y.Xc) (st := false) (np := 2) (k := 1 + n) Y.F__law_same sc__law_same rfl fun cdv A outer s H E F0 S0 hr =>
  (dss_cons (ds_if (dt_val (de_isi2 (n := "list") (m := "tuple") Y.n_isinstance Y.n_list (by decide +kernel) Y.n_tuple (by decide +kernel) (de_var 1 (pv 1)))) (dss_cons (ds_if (dt_w (dw_or (dt_ne hr (de_isi (n := "list") Y.n_isinstance Y.n_list (by decide +kernel) (de_var 0 (pv 0))) (de_isi (n := "list") Y.n_isinstance Y.n_list (by decide +kernel) (de_var 1 (pv 1)))) (dw_or1 (dt_ne hr (de_isi (n := "tuple") Y.n_isinstance Y.n_tuple (by decide +kernel) (de_var 0 (pv 0))) (de_isi (n := "tuple") Y.n_isinstance Y.n_tuple (by decide +kernel) (de_var 1 (pv 1))))))) (dss_one (ds_ret de_bl)) dss_nil)
  (dss_one (ds_ret (de_and (de_eq hr (de_len rfl Y.n_len (by decide +kernel) (dl_var 0 (pv 0))) (de_len rfl Y.n_len (by decide +kernel) (dl_var 1 (pv 1)))) (de_one (de_all rfl Y.n_all (dl_dn (dn_lc (own := [("mine", 2), ("theirs", 3)]) rfl sc__law_same.nd (di_zip Y.n_zip (da_cons (de_var 0 (pv 0)) (da_cons (de_var 1 (pv 1)) da_nil))) (blkOk_by (own := [("mine", 2), ("theirs", 3)]) (N := ["found", "due", "mine", "theirs"]) (sc := defScope s__law_same) (by decide +kernel)) (fun _ _ _ _ _ => (dg_tup rfl (dgs_cons (dg_name (i := 2) sc__law_same.nd rfl (Or.inl rfl)) (dgs_cons (dg_name (i := 3) sc__law_same.nd rfl (Or.inl rfl)) dgs_nil)) (bCons_len (bCons_len bNil_len)))) (fun _ _ _ _ _ => dts_nil) (fun _ _ _ _ _ => (de_call ih hr takes0 Y.mg__law_same Y.F__law_same.kp Y.b__law_same (da_cons (de_var 2 (pv 2)) (da_cons (de_var 3 (pv 3)) da_nil)) (aCons_len (aCons_len aNil_len)))))))))))) dss_nil)
  (dss_cons (ds_if (dt_val (de_isi (n := "dict") Y.n_isinstance Y.n_dict (by decide +kernel) (de_var 1 (pv 1)))) (dss_one (ds_ret (de_and (de_isi (n := "dict") Y.n_isinstance Y.n_dict (by decide +kernel) (de_var 0 (pv 0))) (de_one (de_call ih hr (takes_of rfl rfl rfl rfl) Y.mg__law_same Y.F__law_same.kp Y.b__law_same (da_cons (de_dn (dn_items rfl Y.n_list (de_var 0 (pv 0)))) (da_cons (de_dn (dn_items rfl Y.n_list (de_var 1 (pv 1)))) da_nil)) (aCons_len (aCons_len aNil_len))))))) dss_nil)
  (dss_cons (ds_if (dt_w (dw_or (dt_val (de_isi (n := "bool") Y.n_isinstance Y.n_bool (by decide +kernel) (de_var 1 (pv 1)))) (dw_or1 (dt_val (de_isi (n := "bool") Y.n_isinstance Y.n_bool (by decide +kernel) (de_var 0 (pv 0))))))) (dss_one (ds_ret (de_and (de_isi (n := "bool") Y.n_isinstance Y.n_bool (by decide +kernel) (de_var 1 (pv 1))) (de_and (de_isi (n := "bool") Y.n_isinstance Y.n_bool (by decide +kernel) (de_var 0 (pv 0))) (de_one (de_eq hr (de_var 0 (pv 0)) (de_var 1 (pv 1)))))))) dss_nil)
  (dss_one (ds_ret (de_and (de_not (de_isi3 (n := "list") (m := "tuple") (l := "dict") Y.n_isinstance Y.n_list (by decide +kernel) Y.n_tuple (by decide +kernel) Y.n_dict (by decide +kernel) (de_var 0 (pv 0)))) (de_one (de_eq hr (de_var 0 (pv 0)) (de_var 1 (pv 1)))))))))))
    exact h
/-! _law_loose -/
abbrev s__law_loose : Stmt := top 28
def G__law_loose (cA : Str → Addr) (rec : List T → M T) : Env' → M Fl :=
  (sSeq (sIf (e1 boolT (e1 (isiT2 "list" "tuple") (eV 1))) (sSeq (sSet 2 (e1 lstT (nLc [3] (e1 itemsT (eV 1)) (bName 3) cYes (eCallS 0 rec (aCons (eV 3) aNil)))))
  (sRet (eIf (e1 boolT (e2 eqT (eCallS 0 (m__law_draw cA) (aCons (eC (.int 2)) aNil)) (eC (.int 0)))) (eV 2) (e1 tupT (eVS 2))))) sNext)
  (sRet (eV 1)))
def m__law_loose (cA : Str → Addr) : Nat → List T → M T := recM true 4 (G__law_loose cA)
theorem sc__law_loose : FnScope ["stream", "thing", "some", "one"] ["stream", "thing"] (defScope s__law_loose) := ⟨rfl, rfl, rfl, by decide +kernel, rfl, by decide +kernel, by decide +kernel⟩
theorem ok__law_loose : ∀ n : Nat, FnOk P w K mg base (L2.CX P w) (2 + n) Y.a__law_loose Y.d__law_loose ["stream", "thing"] (spD K Y.Xc true 1 (m__law_loose Y.cA n))
  | 0 => fn_never fun _ => rfl
  | n + 1 => by
    have ih := ok__law_loose n
    have h := (fn_deep (P := P) (w := w) (mg := mg) (base := base) (Xc := Y.Xc) (st := true) (np := 1) (k := 2 + n) Y.F__law_loose sc__law_loose rfl fun cdv A outer s H E F0 S0 hr =>
  (dss_cons (ds_if (dt_val (de_isi2 (n := "list") (m := "tuple") Y.n_isinstance Y.n_list (by decide +kernel) Y.n_tuple (by decide +kernel) (de_var 1 (pv 1)))) (dss_cons (ds_setLc (lc_set (i := 2) (own := [("one", 3)]) rfl sc__law_loose.nd rfl rfl (sw_true rfl rfl rfl (by decide +kernel)) (di_seq (de_var 1 (pv 1))) (blkOk_by (own := [("one", 3)]) (N := ["stream", "thing", "some", "one"]) (sc := defScope s__law_loose) (by decide +kernel)) (fun _ _ _ _ _ => (dg_name (i := 3) sc__law_loose.nd rfl (Or.inl rfl))) (fun _ _ _ _ _ => dts_nil) (fun _ _ _ _ _ => (de_callS (i := 0) ih hr takes0 Y.mg__law_loose Y.F__law_loose.kp Y.b__law_loose (pv 0) (da_cons (de_var 3 (pv 3)) da_nil) (aCons_len aNil_len)))))
  (dss_one (ds_ret (de_if (dt_eq hr (de_callS (i := 0) (ok__law_draw Y) (hr.mono (by omega)) (takes_of rfl rfl rfl rfl) Y.mg__law_draw Y.F__law_draw.kp Y.b__law_draw (pv 0) (da_cons de_int da_nil) (aCons_len aNil_len)) de_int) (de_var 2 (pv 2)) (de_tuple Y.n_tuple (dl_var 2 (pv 2))))))) dss_nil)
  (dss_one (ds_ret (de_var 1 (pv 1))))))
    exact h
/-! _law_net -/
abbrev s__law_net : Stmt := top 29
def G__law_net (cA : Str → Addr) : Env' → M Fl :=
  (sSeq (sPar 3 4 (pCons (e2 addT (eC (.int 2)) (eCallS 0 (m__law_draw cA) (aCons (e2 subT (eV 1) (eC (.int 1))) aNil))) (pConsN (nLst aNil) pNil)))
  (sSeq (sSet 5 (eCallS 0 (m__law_mixed cA) (aCons (e1 lstT (e1 nRg1 (eV 3))) aNil)))
  (sSeq (sPar 6 7 (pCons (eCallS 0 (m__law_pick cA) (aCons (e1 lstT (nLst (aCons (eC (.int 1)) (aCons (eC (.int 3)) (aCons (eC (.int 3)) (aCons (eC (.int 6)) aNil)))))) aNil)) (pCons (eCallS 0 (m__law_pick cA) (aCons (e1 lstT (nLst (aCons (eC (.int 1)) (aCons (eC (.int 3)) (aCons (eC (.int 3)) (aCons (eC (.int 8)) aNil)))))) aNil)) pNil)))
  (sSeq (sFor (e1 rng1 (aCons (e2 addT (eC (.int 1)) (eCallS 0 (m__law_draw cA) (aCons (eC (.int 3)) aNil))) aNil)) (bName 8) (sSeq (sSet 9 (e1 lstT (e2 nCat (e1 seqN (e2 nCat (e1 seqN (nSl (eVS 5) oNone (oSome (eC (.int 1))))) (e1 seqN (nSl (e1 seqT (eCallS 0 (m__law_mixed cA) (aCons (e1 lstT (nSl (eVS 5) (oSome (eC (.int 2))) oNone)) aNil))) oNone (oSome (eCallS 0 (m__law_draw cA) (aCons (eC (.int 4)) aNil))))))) (e1 seqN (nSl (eVS 5) (oSome (eC (.int 1))) (oSome (eC (.int 2))))))))
  (sFor (e1 zipA (aCons (eV 9) (aCons (e1 lstT (nSl (eVS 9) (oSome (eC (.int 1))) oNone)) aNil))) (bTup (bCons (bName 10) (bCons (bName 11) bNil))) (sApp 4 (eTup (aCons (eV 10) (aCons (eV 11) (aCons (e2 addT (eC (.int 1)) (eCallS 0 (m__law_draw cA) (aCons (eV 6) aNil))) (aCons (e2 addT (eC (.int 1)) (eCallS 0 (m__law_draw cA) (aCons (eV 7) aNil))) aNil)))))))))
  (sSeq (sFor (e1 rng1 (aCons (eCallS 0 (m__law_draw cA) (aCons (eC (.int 4)) aNil)) aNil)) (bName 8) (sSeq (sPar 10 11 (pCons (eCallS 0 (m__law_draw cA) (aCons (eV 3) aNil)) (pCons (eCallS 0 (m__law_draw cA) (aCons (eV 3) aNil)) pNil)))
  (sExt 4 (e1 seqT (eIf (e1 boolT (e2 neT (eV 10) (eV 11))) (e1 lstT (nLst (aCons (eTup (aCons (eV 10) (aCons (eV 11) (aCons (e2 addT (eC (.int 1)) (eCallS 0 (m__law_draw cA) (aCons (eV 6) aNil))) (aCons (e2 addT (eC (.int 1)) (eCallS 0 (m__law_draw cA) (aCons (eV 7) aNil))) aNil))))) aNil))) (e1 lstT (nLst aNil)))))))
  (sSeq (sOwn 12 (nLst aNil))
  (sFz 4 (sSeq (sFor (e1 itemsT (eV 4)) (bName 13) (sExt 12 (e1 seqT (eIf (e1 boolT (e2 (inT true) (eV 13) (eVS 12))) (e1 lstT (nLst (aCons (eV 13) aNil))) (e1 lstT (nLst aNil))))))
  (sRet (eTup (aCons (eV 3) (aCons (e1 lstT (e1 nSort (e1 seqN (nSl (eVS 12) oNone (oSome (eV 2)))))) (aCons (e2 ixT (eVS 5) (eC (.int 0))) (aCons (e2 ixT (eVS 5) (eC (.int 1))) aNil))))))))))))))
def m__law_net (cA : Str → Addr) : List T → M T := fnM true 14 (G__law_net cA)
theorem sc__law_net : FnScope ["stream", "most", "many", "places", "found", "order", "long", "wide", "k", "line", "one", "other", "unlike", "road"] ["stream", "most", "many"] (defScope s__law_net) := ⟨rfl, rfl, rfl, by decide +kernel, rfl, by decide +kernel, by decide +kernel⟩
theorem ok__law_net : FnOk P w K mg base (L2.CX P w) 3 Y.a__law_net Y.d__law_net ["stream", "most", "many"] (spD K Y.Xc true 2 (m__law_net Y.cA)) := by
  have h := (fn_deep (P := P) (w := w) (mg := mg) (base := base) (Xc := Y.Xc) (st := true) (np := 2) (k := 2) Y.F__law_net sc__law_net rfl fun cdv A outer s H E F0 S0 hr =>
  (dss_cons (ds_par (i := 3) (j := 4) rfl sc__law_net.nd rfl rfl (by decide) rfl rfl (dp_cons (de_add de_int (de_callS (i := 0) (ok__law_draw Y) (hr.mono (by omega)) (takes_of rfl rfl rfl rfl) Y.mg__law_draw Y.F__law_draw.kp Y.b__law_draw (pv 0) (da_cons (de_sub (de_var 1 (pv 1)) de_int) da_nil) (aCons_len aNil_len))) (dp_consN (dn_lst da_nil) dp_nil)))
  (dss_cons (ds_set (i := 5) sc__law_net.nd rfl (Or.inl rfl) (de_callS (i := 0) (ok__law_mixed Y) (hr.mono (by omega)) (takes_of rfl rfl rfl rfl) Y.mg__law_mixed Y.F__law_mixed.kp Y.b__law_mixed (pv 0) (da_cons (de_dn (dn_listRg1 rfl Y.n_list Y.n_range (de_var 3 (pv 3)))) da_nil) (aCons_len aNil_len)))
  (dss_cons (ds_par (i := 6) (j := 7) rfl sc__law_net.nd rfl rfl (by decide) rfl rfl (dp_cons (de_callS (i := 0) (ok__law_pick Y) (hr.mono (by omega)) (takes_of rfl rfl rfl rfl) Y.mg__law_pick Y.F__law_pick.kp Y.b__law_pick (pv 0) (da_cons (de_dn (dn_lst (da_cons de_int (da_cons de_int (da_cons de_int (da_cons de_int da_nil)))))) da_nil) (aCons_len aNil_len)) (dp_cons (de_callS (i := 0) (ok__law_pick Y) (hr.mono (by omega)) (takes_of rfl rfl rfl rfl) Y.mg__law_pick Y.F__law_pick.kp Y.b__law_pick (pv 0) (da_cons (de_dn (dn_lst (da_cons de_int (da_cons de_int (da_cons de_int (da_cons de_int da_nil)))))) da_nil) (aCons_len aNil_len)) dp_nil)))
  (dss_cons (ds_for (passes_of rfl) rfl (di_range1 Y.n_range (da_cons (de_add de_int (de_callS (i := 0) (ok__law_draw Y) (hr.mono (by omega)) (takes_of rfl rfl rfl rfl) Y.mg__law_draw Y.F__law_draw.kp Y.b__law_draw (pv 0) (da_cons de_int da_nil) (aCons_len aNil_len))) da_nil)) (dg_name (i := 8) sc__law_net.nd rfl (Or.inl rfl)) (dss_cons (ds_set (i := 9) sc__law_net.nd rfl (Or.inl rfl) (de_dn (dn_cat (dl_dn (dn_cat (dl_dn (dn_slice (dl_var 5 (pv 5)) do_none (do_some de_int))) (dl_dn (dn_slice (dl_de (de_callS (i := 0) (ok__law_mixed Y) (hr.mono (by omega)) (takes_of rfl rfl rfl rfl) Y.mg__law_mixed Y.F__law_mixed.kp Y.b__law_mixed (pv 0) (da_cons (de_dn (dn_slice (dl_var 5 (pv 5)) (do_some de_int) do_none)) da_nil) (aCons_len aNil_len))) do_none (do_some (de_callS (i := 0) (ok__law_draw Y) (hr.mono (by omega)) (takes_of rfl rfl rfl rfl) Y.mg__law_draw Y.F__law_draw.kp Y.b__law_draw (pv 0) (da_cons de_int da_nil) (aCons_len aNil_len))))))) (dl_dn (dn_slice (dl_var 5 (pv 5)) (do_some de_int) (do_some de_int))))))
  (dss_one (ds_for (passes_of rfl) rfl (di_zip Y.n_zip (da_cons (de_var 9 (pv 9)) (da_cons (de_dn (dn_slice (dl_var 9 (pv 9)) (do_some de_int) do_none)) da_nil))) (dg_tup rfl (dgs_cons (dg_name (i := 10) sc__law_net.nd rfl (Or.inl rfl)) (dgs_cons (dg_name (i := 11) sc__law_net.nd rfl (Or.inl rfl)) dgs_nil)) (bCons_len (bCons_len bNil_len))) (dss_one (ds_append (pv 4) (de_tup (da_cons (de_var 10 (pv 10)) (da_cons (de_var 11 (pv 11)) (da_cons (de_add de_int (de_callS (i := 0) (ok__law_draw Y) (hr.mono (by omega)) (takes_of rfl rfl rfl rfl) Y.mg__law_draw Y.F__law_draw.kp Y.b__law_draw (pv 0) (da_cons (de_var 6 (pv 6)) da_nil) (aCons_len aNil_len))) (da_cons (de_add de_int (de_callS (i := 0) (ok__law_draw Y) (hr.mono (by omega)) (takes_of rfl rfl rfl rfl) Y.mg__law_draw Y.F__law_draw.kp Y.b__law_draw (pv 0) (da_cons (de_var 7 (pv 7)) da_nil) (aCons_len aNil_len))) da_nil)))))))))))
  (dss_cons (ds_for (passes_of rfl) rfl (di_range1 Y.n_range (da_cons (de_callS (i := 0) (ok__law_draw Y) (hr.mono (by omega)) (takes_of rfl rfl rfl rfl) Y.mg__law_draw Y.F__law_draw.kp Y.b__law_draw (pv 0) (da_cons de_int da_nil) (aCons_len aNil_len)) da_nil)) (dg_name (i := 8) sc__law_net.nd rfl (Or.inl rfl)) (dss_cons (ds_par (i := 10) (j := 11) rfl sc__law_net.nd rfl rfl (by decide) rfl rfl (dp_cons (de_callS (i := 0) (ok__law_draw Y) (hr.mono (by omega)) (takes_of rfl rfl rfl rfl) Y.mg__law_draw Y.F__law_draw.kp Y.b__law_draw (pv 0) (da_cons (de_var 3 (pv 3)) da_nil) (aCons_len aNil_len)) (dp_cons (de_callS (i := 0) (ok__law_draw Y) (hr.mono (by omega)) (takes_of rfl rfl rfl rfl) Y.mg__law_draw Y.F__law_draw.kp Y.b__law_draw (pv 0) (da_cons (de_var 3 (pv 3)) da_nil) (aCons_len aNil_len)) dp_nil)))
  (dss_one (ds_extend (pv 4) (dl_de (de_if (dt_ne hr (de_var 10 (pv 10)) (de_var 11 (pv 11))) (de_dn (dn_lst (da_cons (de_tup (da_cons (de_var 10 (pv 10)) (da_cons (de_var 11 (pv 11)) (da_cons (de_add de_int (de_callS (i := 0) (ok__law_draw Y) (hr.mono (by omega)) (takes_of rfl rfl rfl rfl) Y.mg__law_draw Y.F__law_draw.kp Y.b__law_draw (pv 0) (da_cons (de_var 6 (pv 6)) da_nil) (aCons_len aNil_len))) (da_cons (de_add de_int (de_callS (i := 0) (ok__law_draw Y) (hr.mono (by omega)) (takes_of rfl rfl rfl rfl) Y.mg__law_draw Y.F__law_draw.kp Y.b__law_draw (pv 0) (da_cons (de_var 7 (pv 7)) da_nil) (aCons_len aNil_len))) da_nil))))) da_nil))) (de_dn (dn_lst da_nil))))))))
  (dss_cons (ds_own (i := 12) sc__law_net.nd rfl (Or.inl rfl) (dn_lst da_nil))
  (dss_fz 4 (dss_cons (ds_for (passes_of rfl) rfl (di_seq (de_var 4 (pv 4))) (dg_name (i := 13) sc__law_net.nd rfl (Or.inl rfl)) (dss_one (ds_extend (pv 12) (dl_de (de_if (dt_nin hr (de_var 13 (pv 13)) (dl_var 12 (pv 12))) (de_dn (dn_lst (da_cons (de_var 13 (pv 13)) da_nil))) (de_dn (dn_lst da_nil)))))))
  (dss_one (ds_ret (de_tup (da_cons (de_var 3 (pv 3)) (da_cons (de_dn (dn_sorted Y.n_sorted (dl_dn (dn_slice (dl_var 12 (pv 12)) do_none (do_some (de_var 2 (pv 2))))))) (da_cons (de_ix (dl_var 5 (pv 5)) de_int) (da_cons (de_ix (dl_var 5 (pv 5)) de_int) da_nil))))))))))))))))
  exact h
/-! _law_made -/
abbrev s__law_made : Stmt := top 30
def G__law_made (cA : Str → Addr) : Env' → M Fl :=
  (sSeq (sAsg (eV 1) (bTup (bCons (bName 2) (bCons (bName 3) (bCons (bName 4) (bCons (bName 5) bNil))))))
  (sRet (eMake (cA "Net") (m_Net____init__ cA) (aCons (eV 2) (aCons (eCallS 0 (m__law_loose cA 40) (aCons (eCallS 0 (m__law_mixed cA) (aCons (eV 3) aNil)) aNil)) (aCons (eV 4) (aCons (eV 5) aNil)))))))
def m__law_made (cA : Str → Addr) : List T → M T := fnM true 6 (G__law_made cA)
theorem sc__law_made : FnScope ["stream", "net", "places", "roads", "start", "end"] ["stream", "net"] (defScope s__law_made) := ⟨rfl, rfl, rfl, by decide +kernel, rfl, by decide +kernel, by decide +kernel⟩
theorem ok__law_made : FnOk P w K mg base (L2.CX P w) 43 Y.a__law_made Y.d__law_made ["stream", "net"] (spD K Y.Xc true 1 (m__law_made Y.cA)) := by
  have h := (fn_deep (P := P) (w := w) (mg := mg) (base := base) (Xc := Y.Xc) (st := true) (np := 1) (k := 42) Y.F__law_made sc__law_made rfl fun cdv A outer s H E F0 S0 hr =>
  (dss_cons (ds_asg (de_var 1 (pv 1)) (dg_tup rfl (dgs_cons (dg_name (i := 2) sc__law_made.nd rfl (Or.inl rfl)) (dgs_cons (dg_name (i := 3) sc__law_made.nd rfl (Or.inl rfl)) (dgs_cons (dg_name (i := 4) sc__law_made.nd rfl (Or.inl rfl)) (dgs_cons (dg_name (i := 5) sc__law_made.nd rfl (Or.inl rfl)) dgs_nil)))) (bCons_len (bCons_len (bCons_len (bCons_len bNil_len))))))
  (dss_one (ds_ret (de_make Y.mk_Net (ok_Net____init__ Y) (hr.mono (by omega)) Y.mgC_Net Y.b_Net____init__ (da_cons (de_var 2 (pv 2)) (da_cons (de_callS (i := 0) (ok__law_loose Y 40) (hr.mono (by omega)) (takes_of rfl rfl rfl rfl) Y.mg__law_loose Y.F__law_loose.kp Y.b__law_loose (pv 0) (da_cons (de_callS (i := 0) (ok__law_mixed Y) (hr.mono (by omega)) (takes_of rfl rfl rfl rfl) Y.mg__law_mixed Y.F__law_mixed.kp Y.b__law_mixed (pv 0) (da_cons (de_var 3 (pv 3)) da_nil) (aCons_len aNil_len)) da_nil) (aCons_len aNil_len)) (da_cons (de_var 4 (pv 4)) (da_cons (de_var 5 (pv 5)) da_nil)))) (aCons_len (aCons_len (aCons_len (aCons_len aNil_len)))))))))
  exact h
/-! _law_is_whole -/
abbrev s__law_is_whole : Stmt := top 31
def G__law_is_whole (cA : Str → Addr) : Env' → M Fl :=
  (sRet (eAndV (e1 (isiT "int") (eV 0)) (eNotV (e1 (isiT "bool") (eV 0)))))
def m__law_is_whole (cA : Str → Addr) : List T → M T := fnM false 1 (G__law_is_whole cA)
theorem sc__law_is_whole : FnScope ["thing"] ["thing"] (defScope s__law_is_whole) := ⟨rfl, rfl, rfl, by decide +kernel, rfl, by decide +kernel, by decide +kernel⟩
theorem ok__law_is_whole : FnOk P w K mg base (L2.CX P w) 1 Y.a__law_is_whole Y.d__law_is_whole ["thing"] (spD K Y.Xc false 1 (m__law_is_whole Y.cA)) := by
  have h := (fn_deep (P := P) (w := w) (mg := mg) (base := base) (Xc := Y.Xc) (st := false) (np := 1) (k := 0) Y.F__law_is_whole sc__law_is_whole rfl fun cdv A outer s H E F0 S0 hr =>
  (dss_one (ds_ret (de_and (de_isi (n := "int") Y.n_isinstance Y.n_int (by decide +kernel) (de_var 0 (pv 0))) (de_one (de_not (de_isi (n := "bool") Y.n_isinstance Y.n_bool (by decide +kernel) (de_var 0 (pv 0)))))))))
  exact h
/-! _law_cuts -/
abbrev s__law_cuts : Stmt := top 32
def G__law_cuts (cA : Str → Addr) : Env' → M Fl :=
  (sSeq (sSet 1 (e1 lstT (nLst (aCons (e1 lstT (nLst aNil)) aNil))))
  (sSeq (sFor (e1 rng1 (aCons (e2 ixT (eVS 0) (eC (.int 0))) aNil)) (bName 2) (sSeq (sSet 3 (eIf (e1 boolT (e2 eqT (eV 2) (e2 ixT (eVS 0) (eC (.int 2))))) (e1 lstT (nLst aNil)) (eV 1)))
  (sSet 1 (e2 addT (eV 3) (eIf (e1 boolT (e2 eqT (eV 2) (e2 ixT (eVS 0) (eC (.int 3))))) (e1 lstT (nLst aNil)) (e1 lstT (nLc [4] (e1 itemsT (eV 1)) (bName 4) cYes (e1 lstT (e2 nCat (eVS 4) (e1 seqN (nLst (aCons (eV 2) aNil))))))))))))
  (sRet (eV 1))))
def m__law_cuts (cA : Str → Addr) : List T → M T := fnM false 5 (G__law_cuts cA)
theorem sc__law_cuts : FnScope ["net", "found", "place", "without", "some"] ["net"] (defScope s__law_cuts) := ⟨rfl, rfl, rfl, by decide +kernel, rfl, by decide +kernel, by decide +kernel⟩
theorem ok__law_cuts : FnOk P w K mg base (L2.CX P w) 1 Y.a__law_cuts Y.d__law_cuts ["net"] (spD K Y.Xc false 1 (m__law_cuts Y.cA)) := by
  have h := (fn_deep (P := P) (w := w) (mg := mg) (base := base) (Xc := Y.Xc) (st := false) (np := 1) (k := 0) Y.F__law_cuts sc__law_cuts rfl fun cdv A outer s H E F0 S0 hr =>
  (dss_cons (ds_set (i := 1) sc__law_cuts.nd rfl (Or.inl rfl) (de_dn (dn_lst (da_cons (de_dn (dn_lst da_nil)) da_nil))))
  (dss_cons (ds_for (passes_of rfl) rfl (di_range1 Y.n_range (da_cons (de_ix (dl_var 0 (pv 0)) de_int) da_nil)) (dg_name (i := 2) sc__law_cuts.nd rfl (Or.inr rfl)) (dss_cons (ds_set (i := 3) sc__law_cuts.nd rfl (Or.inl rfl) (de_if (dt_eq hr (de_var 2 (pv 2)) (de_ix (dl_var 0 (pv 0)) de_int)) (de_dn (dn_lst da_nil)) (de_var 1 (pv 1))))
  (dss_one (ds_set (i := 1) sc__law_cuts.nd rfl (Or.inl rfl) (de_add (de_var 3 (pv 3)) (de_if (dt_eq hr (de_var 2 (pv 2)) (de_ix (dl_var 0 (pv 0)) de_int)) (de_dn (dn_lst da_nil)) (de_dn (dn_lc (own := [("some", 4)]) rfl sc__law_cuts.nd (di_seq (de_var 1 (pv 1))) (blkOk_by (own := [("some", 4)]) (N := ["net", "found", "place", "without", "some"]) (sc := defScope s__law_cuts) (by decide +kernel)) (fun _ _ _ _ _ => (dg_name (i := 4) sc__law_cuts.nd rfl (Or.inl rfl))) (fun _ _ _ _ _ => dts_nil) (fun _ _ _ _ _ => (de_dn (dn_cat (dl_var 4 (pv 4)) (dl_dn (dn_lst (da_cons (de_var 2 (pv 2)) da_nil))))))))))))))
  (dss_one (ds_ret (de_var 1 (pv 1)))))))
  exact h
/-! _law_room -/
abbrev s__law_room : Stmt := top 33
def G__law_room (cA : Str → Addr) : Env' → M Fl :=
  (sRet (e1 sumT (aCons (e1 lstT (nLc [2] (e1 itemsT (eV 0)) (bName 2) (eAnd (e1 boolT (e2 (inT false) (e2 ixT (eVS 2) (eC (.int 0))) (eVS 1))) (e1 boolT (e2 (inT true) (e2 ixT (eVS 2) (eC (.int 1))) (eVS 1)))) (e2 ixT (eVS 2) (eC (.int 3))))) aNil)))
def m__law_room (cA : Str → Addr) : List T → M T := fnM false 3 (G__law_room cA)
theorem sc__law_room : FnScope ["roads", "some", "road"] ["roads", "some"] (defScope s__law_room) := ⟨rfl, rfl, rfl, by decide +kernel, rfl, by decide +kernel, by decide +kernel⟩
theorem ok__law_room : FnOk P w K mg base (L2.CX P w) 1 Y.a__law_room Y.d__law_room ["roads", "some"] (spD K Y.Xc false 2 (m__law_room Y.cA)) := by
  have h := (fn_deep (P := P) (w := w) (mg := mg) (base := base) (Xc := Y.Xc) (st := false) (np := 2) (k := 0) Y.F__law_room sc__law_room rfl fun cdv A outer s H E F0 S0 hr =>
  (dss_one (ds_ret (de_callB (cr_sum rfl) (c_sum rfl) Y.n_sum (by decide +kernel) (da_cons (de_dn (dn_lc (own := [("road", 2)]) rfl sc__law_room.nd (di_seq (de_var 0 (pv 0))) (blkOk_by (own := [("road", 2)]) (N := ["roads", "some", "road"]) (sc := defScope s__law_room) (by decide +kernel)) (fun _ _ _ _ _ => (dg_name (i := 2) sc__law_room.nd rfl (Or.inl rfl))) (fun _ _ _ _ _ => (dts_one (dt_w (dw_and (dt_in hr (de_ix (dl_var 2 (pv 2)) de_int) (dl_var 1 (pv 1))) (dw_and1 (dt_nin hr (de_ix (dl_var 2 (pv 2)) de_int) (dl_var 1 (pv 1)))))))) (fun _ _ _ _ _ => (de_ix (dl_var 2 (pv 2)) de_int)))) da_nil)))))
  exact h
/-! _law_is_cut -/
abbrev s__law_is_cut : Stmt := top 34
def G__law_is_cut (cA : Str → Addr) : Env' → M Fl :=
  (sSeq (sIf (eOr (eNot (e1 boolT (e1 (isiT2 "list" "tuple") (eV 1)))) (eNot (e1 boolT (e1 allT (e1 seqN (nLc [2] (e1 itemsT (eV 1)) (bName 2) cYes (eAndV (eCall (m__law_is_whole cA) (aCons (eV 2) aNil)) (eChain leT ltT (eC (.int 0)) (eV 2) (e2 ixT (eVS 0) (eC (.int 0))))))))))) (sRet (eC (.bl false))) sNext)
  (sRet (eAndV (e2 eqT (e1 lstT (e1 nList (eVS 1))) (e1 lstT (e1 nSortD (eVS 1)))) (eAndV (e2 (inT false) (e2 ixT (eVS 0) (eC (.int 2))) (eVS 1)) (e2 (inT true) (e2 ixT (eVS 0) (eC (.int 3))) (eVS 1))))))
def m__law_is_cut (cA : Str → Addr) : List T → M T := fnM false 3 (G__law_is_cut cA)
theorem sc__law_is_cut : FnScope ["net", "thing", "one"] ["net", "thing"] (defScope s__law_is_cut) := ⟨rfl, rfl, rfl, by decide +kernel, rfl, by decide +kernel, by decide +kernel⟩
theorem ok__law_is_cut : FnOk P w K mg base (L2.CX P w) 2 Y.a__law_is_cut Y.d__law_is_cut ["net", "thing"] (spD K Y.Xc false 2 (m__law_is_cut Y.cA)) := by
  have h := (fn_deep (P := P) (w := w) (mg := mg) (base := base) (Xc := Y.Xc) (st := false) (np := 2) (k := 1) Y.F__law_is_cut sc__law_is_cut rfl fun cdv A outer s H E F0 S0 hr =>
  (dss_cons (ds_if (dt_w (dw_or (dt_not (dt_val (de_isi2 (n := "list") (m := "tuple") Y.n_isinstance Y.n_list (by decide +kernel) Y.n_tuple (by decide +kernel) (de_var 1 (pv 1))))) (dw_or1 (dt_not (dt_val (de_all rfl Y.n_all (dl_dn (dn_lc (own := [("one", 2)]) rfl sc__law_is_cut.nd (di_seq (de_var 1 (pv 1))) (blkOk_by (own := [("one", 2)]) (N := ["net", "thing", "one"]) (sc := defScope s__law_is_cut) (by decide +kernel)) (fun _ _ _ _ _ => (dg_name (i := 2) sc__law_is_cut.nd rfl (Or.inl rfl))) (fun _ _ _ _ _ => dts_nil) (fun _ _ _ _ _ => (de_and (de_call (ok__law_is_whole Y) (hr.mono (by omega)) takes0 Y.mg__law_is_whole Y.F__law_is_whole.kp Y.b__law_is_whole (da_cons (de_var 2 (pv 2)) da_nil) (aCons_len aNil_len)) (de_one (de_chain op_le op_lt b_le b_lt de_int (de_var 2 (pv 2)) (de_ix (dl_var 0 (pv 0)) de_int))))))))))))) (dss_one (ds_ret de_bl)) dss_nil)
  (dss_one (ds_ret (de_and (de_eq hr (de_dn (dn_list Y.n_list (dl_var 1 (pv 1)))) (de_dn (dn_sortedSet rfl Y.n_sorted Y.n_set (dl_var 1 (pv 1))))) (de_and (de_in hr (de_ix (dl_var 0 (pv 0)) de_int) (dl_var 1 (pv 1))) (de_one (de_nin hr (de_ix (dl_var 0 (pv 0)) de_int) (dl_var 1 (pv 1))))))))))
  exact h
/-! _law_bent -/
abbrev s__law_bent : Stmt := top 35
def G__law_bent (cA : Str → Addr) : Env' → M Fl :=
  (sSeq (sOwn 3 (nLst (aCons (eC .non) (aCons (eC (.int 5)) (aCons (eC (.str "")) (aCons (eC (.str "01")) (aCons (eC (.dct [])) (aCons (eTup aNil) (aCons (e1 lstT (nLst aNil)) (aCons (eC (.bl true)) (aCons (e2 dct1 (e2 ixT (eVS 1) (eC (.int 2))) (eC (.int 1))) (aCons (e1 lstT (nLst (aCons (eV 2) aNil))) (aCons (e1 lstT (e1 nRev (eVS 2))) (aCons (e1 lstT (e2 nCat (eVS 2) (e1 seqN (nSl (eVS 2) (oSome (e1 negT (eC (.int 1)))) oNone)))) (aCons (e1 lstT (e2 nCat (eVS 2) (e1 seqN (nLst (aCons (e2 ixT (eVS 1) (eC (.int 3))) aNil))))) aNil)))))))))))))))
  (sSeq (sExt 3 (e1 seqN (nLst (aCons (e1 lstT (nLc [4] (e1 itemsT (eV 2)) (bName 4) (e1 boolT (e2 neT (eV 4) (e2 ixT (eVS 1) (eC (.int 2))))) (eV 4))) (aCons (e1 lstT (e1 nSort (e1 seqN (e2 nCat (eVS 2) (e1 seqN (nLst (aCons (e2 ixT (eVS 1) (eC (.int 3))) aNil))))))) (aCons (e1 lstT (e2 nCat (eVS 2) (e1 seqN (nLst (aCons (e2 ixT (eVS 1) (eC (.int 0))) aNil))))) (aCons (e1 lstT (e2 nCat (e1 seqN (nLst (aCons (e1 negT (eC (.int 1))) aNil))) (eVS 2))) aNil)))))))
  (sSeq (sApp 3 (e1 lstT (e2 nCat (eVS 2) (e1 seqN (nLst (aCons (eC .non) aNil))))))
  (sSeq (sExt 3 (e1 seqN (nLst (aCons (e1 lstT (nLc [4] (e1 itemsT (eV 2)) (bName 4) cYes (eIf (e1 boolT (e2 ltT (eV 4) (eC (.int 2)))) (e1 boolI (aCons (eV 4) aNil)) (eV 4)))) (aCons (e1 lstT (nLc [4] (e1 itemsT (eV 2)) (bName 4) cYes (e1 strI (aCons (eV 4) aNil)))) (aCons (e1 lstT (e1 nRg1 (e2 ixT (eVS 1) (eC (.int 0))))) aNil))))))
  (sSeq (sApp 3 (e1 lstT (nSl (e1 seqT (eCallS 0 (m__law_mixed cA) (aCons (e1 lstT (e1 nRg1 (e2 ixT (eVS 1) (eC (.int 0))))) aNil))) oNone (oSome (eCallS 0 (m__law_draw cA) (aCons (e2 addT (e2 ixT (eVS 1) (eC (.int 0))) (eC (.int 1))) aNil))))))
  (sFz 3 (sRet (eV 3))))))))
def m__law_bent (cA : Str → Addr) : List T → M T := fnM true 5 (G__law_bent cA)
theorem sc__law_bent : FnScope ["stream", "net", "cut", "some", "one"] ["stream", "net", "cut"] (defScope s__law_bent) := ⟨rfl, rfl, rfl, by decide +kernel, rfl, by decide +kernel, by decide +kernel⟩
theorem ok__law_bent : FnOk P w K mg base (L2.CX P w) 3 Y.a__law_bent Y.d__law_bent ["stream", "net", "cut"] (spD K Y.Xc true 2 (m__law_bent Y.cA)) := by
  have h := (fn_deep (P := P) (w := w) (mg := mg) (base := base) (Xc := Y.Xc) (st := true) (np := 2) (k := 2) Y.F__law_bent sc__law_bent rfl fun cdv A outer s H E F0 S0 hr =>
  (dss_cons (ds_own (i := 3) sc__law_bent.nd rfl (Or.inl rfl) (dn_lst (da_cons de_non (da_cons de_int (da_cons de_str (da_cons de_str (da_cons de_dict0 (da_cons (de_tup da_nil) (da_cons (de_dn (dn_lst da_nil)) (da_cons de_bl (da_cons (de_dict1 (de_ix (dl_var 1 (pv 1)) de_int) de_int) (da_cons (de_dn (dn_lst (da_cons (de_var 2 (pv 2)) da_nil))) (da_cons (de_dn (dn_rev (dl_var 2 (pv 2)))) (da_cons (de_dn (dn_cat (dl_var 2 (pv 2)) (dl_dn (dn_slice (dl_var 2 (pv 2)) (do_some (de_neg de_int)) do_none)))) (da_cons (de_dn (dn_cat (dl_var 2 (pv 2)) (dl_dn (dn_lst (da_cons (de_ix (dl_var 1 (pv 1)) de_int) da_nil))))) da_nil)))))))))))))))
  (dss_cons (ds_extend (pv 3) (dl_dn (dn_lst (da_cons (de_dn (dn_lc (own := [("one", 4)]) rfl sc__law_bent.nd (di_seq (de_var 2 (pv 2))) (blkOk_by (own := [("one", 4)]) (N := ["stream", "net", "cut", "some", "one"]) (sc := defScope s__law_bent) (by decide +kernel)) (fun _ _ _ _ _ => (dg_name (i := 4) sc__law_bent.nd rfl (Or.inl rfl))) (fun _ _ _ _ _ => (dts_one (dt_ne hr (de_var 4 (pv 4)) (de_ix (dl_var 1 (pv 1)) de_int)))) (fun _ _ _ _ _ => (de_var 4 (pv 4))))) (da_cons (de_dn (dn_sorted Y.n_sorted (dl_dn (dn_cat (dl_var 2 (pv 2)) (dl_dn (dn_lst (da_cons (de_ix (dl_var 1 (pv 1)) de_int) da_nil))))))) (da_cons (de_dn (dn_cat (dl_var 2 (pv 2)) (dl_dn (dn_lst (da_cons (de_ix (dl_var 1 (pv 1)) de_int) da_nil))))) (da_cons (de_dn (dn_cat (dl_dn (dn_lst (da_cons (de_neg de_int) da_nil))) (dl_var 2 (pv 2)))) da_nil)))))))
  (dss_cons (ds_append (pv 3) (de_dn (dn_cat (dl_var 2 (pv 2)) (dl_dn (dn_lst (da_cons de_non da_nil))))))
  (dss_cons (ds_extend (pv 3) (dl_dn (dn_lst (da_cons (de_dn (dn_lc (own := [("one", 4)]) rfl sc__law_bent.nd (di_seq (de_var 2 (pv 2))) (blkOk_by (own := [("one", 4)]) (N := ["stream", "net", "cut", "some", "one"]) (sc := defScope s__law_bent) (by decide +kernel)) (fun _ _ _ _ _ => (dg_name (i := 4) sc__law_bent.nd rfl (Or.inl rfl))) (fun _ _ _ _ _ => dts_nil) (fun _ _ _ _ _ => (de_if (dt_lt (de_var 4 (pv 4)) de_int) (de_callTy call_bool1 c_bool Y.n_bool (by decide +kernel) (da_cons (de_var 4 (pv 4)) da_nil)) (de_var 4 (pv 4)))))) (da_cons (de_dn (dn_lc (own := [("one", 4)]) rfl sc__law_bent.nd (di_seq (de_var 2 (pv 2))) (blkOk_by (own := [("one", 4)]) (N := ["stream", "net", "cut", "some", "one"]) (sc := defScope s__law_bent) (by decide +kernel)) (fun _ _ _ _ _ => (dg_name (i := 4) sc__law_bent.nd rfl (Or.inl rfl))) (fun _ _ _ _ _ => dts_nil) (fun _ _ _ _ _ => (de_callTy call_str_int c_str Y.n_str (by decide +kernel) (da_cons (de_var 4 (pv 4)) da_nil))))) (da_cons (de_dn (dn_listRg1 rfl Y.n_list Y.n_range (de_ix (dl_var 1 (pv 1)) de_int))) da_nil))))))
  (dss_cons (ds_append (pv 3) (de_dn (dn_slice (dl_de (de_callS (i := 0) (ok__law_mixed Y) (hr.mono (by omega)) (takes_of rfl rfl rfl rfl) Y.mg__law_mixed Y.F__law_mixed.kp Y.b__law_mixed (pv 0) (da_cons (de_dn (dn_listRg1 rfl Y.n_list Y.n_range (de_ix (dl_var 1 (pv 1)) de_int))) da_nil) (aCons_len aNil_len))) do_none (do_some (de_callS (i := 0) (ok__law_draw Y) (hr.mono (by omega)) (takes_of rfl rfl rfl rfl) Y.mg__law_draw Y.F__law_draw.kp Y.b__law_draw (pv 0) (da_cons (de_add (de_ix (dl_var 1 (pv 1)) de_int) de_int) da_nil) (aCons_len aNil_len))))))
  (dss_fz 3 (dss_one (ds_ret (de_var 3 (pv 3)))))))))))
  exact h
/-! _law_met -/
abbrev s__law_met : Stmt := top 36
def G__law_met (cA : Str → Addr) : Env' → M Fl :=
  (sTryR "BadCut" [] 2 (eTup (aCons (eC (.str "told")) (aCons (eCall (m_room_of cA) (aCons (eV 0) (aCons (eV 1) aNil))) aNil))) (fun t => (eTup (aCons (eC (.str "cut")) (aCons (eXf 2 t) aNil)))))
def m__law_met (cA : Str → Addr) : List T → M T := fnM false 3 (G__law_met cA)
theorem sc__law_met : FnScope ["made", "thing", "e"] ["made", "thing"] (defScope s__law_met) := ⟨rfl, rfl, rfl, by decide +kernel, rfl, by decide +kernel, by decide +kernel⟩
theorem ok__law_met : FnOk P w K mg base (L2.CX P w) 6 Y.a__law_met Y.d__law_met ["made", "thing"] (spD K Y.Xc false 2 (m__law_met Y.cA)) := by
  have h := (fn_deep (P := P) (w := w) (mg := mg) (base := base) (Xc := Y.Xc) (st := false) (np := 2) (k := 5) Y.F__law_met sc__law_met rfl fun cdv A outer s H E F0 S0 hr =>
  (dss_one (ds_tryR (i := 2) (L := []) (c := .ref (Y.cA "BadCut")) rfl rfl sc__law_met.nd rfl rfl ⟨rfl, by decide, .inl Y.E_BadCut.at_⟩ (takes_of rfl rfl rfl rfl) Y.X_BadCut Y.exm_BadCut (by intro c h; cases h) (fun W pn xe tk => (de_tup (da_cons de_str (da_cons (de_call (ok_room_of Y) (hr.mono (by omega)) tk Y.mg_room_of Y.F_room_of.kp Y.b_room_of (da_cons (de_var 0 (pv 0)) (da_cons (de_var 1 (pv 1)) da_nil)) (aCons_len (aCons_len aNil_len))) da_nil)))) (fun a oe d pn H0 F0 t v dd hz hf hd hH hF nS => (de_tup (da_cons de_str (da_cons (de_exf Y.xf_BadCut Y.E_BadCut.no hz hf (pv 2) hd rfl hH hF nS) da_nil)))))))
  exact h
/-! law -/
abbrev s_law : Stmt := top 37
noncomputable def G_law (cA : Str → Addr) : Env' → M Fl :=
  (sSeq (sFor (e1 rng1 (aCons (eC (.int 4)) aNil)) (bName 2) (sSeq (sSet 3 (eCallS 1 (m__law_net cA) (aCons (eC (.int 6)) (aCons (eC (.int 9)) aNil))))
  (sSeq (sPar 4 5 (pCons (eCallS 1 (m__law_made cA) (aCons (eV 3) aNil)) (pCons (eCall (m__law_cuts cA) (aCons (eV 3) aNil)) pNil)))
  (sSeq (sFor (e1 itemsT (e1 lstT (nSl (e1 seqT (eCallS 1 (m__law_mixed cA) (aCons (eV 5) aNil))) oNone (oSome (eC (.int 8)))))) (bName 6) (sSeq (sSet 7 (eCallS 1 (m__law_loose cA 40) (aCons (e1 lstT (e1 nList (eVS 6))) aNil)))
  (sSeq (sIf (eNot (e1 boolT (eCall (m__law_same cA 40) (aCons (e1 lstT (nLst (aCons (eCall (m_is_cut cA) (aCons (eV 4) (aCons (eV 7) aNil))) (aCons (eCall (m_room_of cA) (aCons (eV 4) (aCons (eV 7) aNil))) aNil)))) (aCons (e1 lstT (nLst (aCons (eC (.bl true)) (aCons (eCall (m__law_room cA) (aCons (e2 ixT (eVS 3) (eC (.int 1))) (aCons (eV 6) aNil))) aNil)))) aNil))))) (sRet (eC (.bl false))) sNext)
  (sIf (e1 boolT (e2 neT (e1 lstT (e1 nList (eVS 7))) (eV 6))) (sRet (eC (.bl false))) sNext))))
  (sSeq (sFor (e1 itemsT (eCallS 1 (m__law_bent cA) (aCons (eV 3) (aCons (eCallS 1 (m__law_pick cA) (aCons (eV 5) aNil)) aNil)))) (bName 8) (sSeq (sPar 9 10 (pCons (eCall (m__law_is_cut cA) (aCons (eV 3) (aCons (eV 8) aNil))) (pCons (e1 reprT (aCons (eV 8) aNil)) pNil)))
  (sSeq (sIf (eOr (eNot (e1 boolT (eCall (m__law_same cA 40) (aCons (eCallK swp (m_is_cut cA) (aCons (eV 8) (aCons (eV 4) aNil))) (aCons (eV 9) aNil))))) (e1 boolT (e2 neT (e1 reprT (aCons (eV 8) aNil)) (eV 10)))) (sRet (eC (.bl false))) sNext)
  (sIf (eAnd (eNot (e1 boolT (eV 9))) (eNot (e1 boolT (eCall (m__law_same cA 40) (aCons (eCall (m__law_met cA) (aCons (eV 4) (aCons (eV 8) aNil))) (aCons (eTup (aCons (eC (.str "cut")) (aCons (eV 8) aNil))) aNil)))))) (sRet (eC (.bl false))) sNext))))
  (sSeq (sOwn 11 (nLst (aCons (eC (.str "a")) aNil)))
  (sSeq (sHeld 11 12 (eCall (m__law_met cA) (aCons (eV 4) (aCons (eV 11) aNil))) "cut" "late")
  (sIf (eNot (e1 boolT (eCall (m__law_same cA 40) (aCons (e1 lstT (nLst (aCons (eV 12) (aCons (eCall (m_is_cut cA) (aCons (eV 4) (aCons (eV 4) aNil))) aNil)))) (aCons (e1 lstT (nLst (aCons (eTup (aCons (eC (.str "cut")) (aCons (e1 lstT (nLst (aCons (eC (.str "a")) (aCons (eC (.str "late")) aNil)))) aNil))) (aCons (eC (.bl false)) aNil)))) aNil))))) (sRet (eC (.bl false))) sNext))))))))
  (sRet (eC (.bl true))))
theorem sc_law : FnScope ["script", "stream", "turn", "net", "made", "cuts", "cut", "handed", "thing", "due", "kept", "held", "found"] ["script"] (defScope s_law) := ⟨rfl, rfl, rfl, by decide +kernel, rfl, by decide +kernel, by decide +kernel⟩
theorem ps_law (cdv : Value) (s : Shared) (H : Hp) (E : XK) (hr : Room 43 (callerA.deeper (envOfC "law" (defScope s_law) s.heap.objs.size Y.a_law cdv))) : PS (cxOf (L2.CX P w) P w K mg base ["script", "stream", "turn", "net", "made", "cuts", "cut", "handed", "thing", "due", "kept", "held", "found"] "law" (defScope s_law) Y.a_law cdv callerA [] s H E) ((defBody s_law).headD (.Pass ⟨0, 0, 0, 0⟩)) (tAsg (tCall (spStream K) [] E0 (tCons (tVar 0) tNil)) (gName 1)) :=
  ps_set (i := 1) sc_law.nd rfl (Or.inl rfl) (pe_call (ok__law_stream Y) (hr.mono (by omega)) rfl Y.mg__law_stream Y.F__law_stream.kp Y.b__law_stream .nil passL (pa_cons (pv 0) pa_nil))
theorem ds_law (cdv : Value) (s : Shared) (H : Hp) (E : XK) (H0 : Hp) (S0 : Option (Addr × Addr)) (hr : Room 43 (callerA.deeper (envOfC "law" (defScope s_law) s.heap.objs.size Y.a_law cdv))) : DSs (cxOf (L2.CX P w) P w K mg base ["script", "stream", "turn", "net", "made", "cuts", "cut", "handed", "thing", "due", "kept", "held", "found"] "law" (defScope s_law) Y.a_law cdv callerA [] s H E) ⟨K, H0, fun _ => none, S0, Y.Xc, none, SetTO P w, []⟩ (fun cls d _ H => E cls d H) (defBody s_law).tail (G_law Y.cA) :=
  have hG : (cxOf (L2.CX P w) P w K mg base ["script", "stream", "turn", "net", "made", "cuts", "cut", "handed", "thing", "due", "kept", "held", "found"] "law" (defScope s_law) Y.a_law cdv callerA [] s H E).A.guards = some [] := rfl
  (dss_cons (ds_for (passes_of rfl) rfl (di_range1 Y.n_range (da_cons de_int da_nil)) (dg_name (i := 2) sc_law.nd rfl (Or.inl rfl)) (dss_cons (ds_set (i := 3) sc_law.nd rfl (Or.inl rfl) (de_callS (i := 1) (ok__law_net Y) (hr.mono (by omega)) (takes_of rfl rfl rfl rfl) Y.mg__law_net Y.F__law_net.kp Y.b__law_net (pv 1) (da_cons de_int (da_cons de_int da_nil)) (aCons_len (aCons_len aNil_len))))
  (dss_cons (ds_par (i := 4) (j := 5) rfl sc_law.nd rfl rfl (by decide) rfl rfl (dp_cons (de_callS (i := 1) (ok__law_made Y) (hr.mono (by omega)) (takes_of rfl rfl rfl rfl) Y.mg__law_made Y.F__law_made.kp Y.b__law_made (pv 1) (da_cons (de_var 3 (pv 3)) da_nil) (aCons_len aNil_len)) (dp_cons (de_call (ok__law_cuts Y) (hr.mono (by omega)) (takes_of rfl rfl rfl rfl) Y.mg__law_cuts Y.F__law_cuts.kp Y.b__law_cuts (da_cons (de_var 3 (pv 3)) da_nil) (aCons_len aNil_len)) dp_nil)))
  (dss_cons (ds_for (passes_of rfl) rfl (di_seq (de_dn (dn_slice (dl_de (de_callS (i := 1) (ok__law_mixed Y) (hr.mono (by omega)) (takes_of rfl rfl rfl rfl) Y.mg__law_mixed Y.F__law_mixed.kp Y.b__law_mixed (pv 1) (da_cons (de_var 5 (pv 5)) da_nil) (aCons_len aNil_len))) do_none (do_some de_int)))) (dg_name (i := 6) sc_law.nd rfl (Or.inl rfl)) (dss_cons (ds_set (i := 7) sc_law.nd rfl (Or.inl rfl) (de_callS (i := 1) (ok__law_loose Y 40) (hr.mono (by omega)) (takes_of rfl rfl rfl rfl) Y.mg__law_loose Y.F__law_loose.kp Y.b__law_loose (pv 1) (da_cons (de_dn (dn_list Y.n_list (dl_var 6 (pv 6)))) da_nil) (aCons_len aNil_len)))
  (dss_cons (ds_if (dt_not (dt_val (de_call (ok__law_same Y 40) (hr.mono (by omega)) (takes_of rfl rfl rfl rfl) Y.mg__law_same Y.F__law_same.kp Y.b__law_same (da_cons (de_dn (dn_lst (da_cons (de_call (ok_is_cut Y) (hr.mono (by omega)) (takes_of rfl rfl rfl rfl) Y.mg_is_cut Y.F_is_cut.kp Y.b_is_cut (da_cons (de_var 4 (pv 4)) (da_cons (de_var 7 (pv 7)) da_nil)) (aCons_len (aCons_len aNil_len))) (da_cons (de_call (ok_room_of Y) (hr.mono (by omega)) (takes_of rfl rfl rfl rfl) Y.mg_room_of Y.F_room_of.kp Y.b_room_of (da_cons (de_var 4 (pv 4)) (da_cons (de_var 7 (pv 7)) da_nil)) (aCons_len (aCons_len aNil_len))) da_nil)))) (da_cons (de_dn (dn_lst (da_cons de_bl (da_cons (de_call (ok__law_room Y) (hr.mono (by omega)) (takes_of rfl rfl rfl rfl) Y.mg__law_room Y.F__law_room.kp Y.b__law_room (da_cons (de_ix (dl_var 3 (pv 3)) de_int) (da_cons (de_var 6 (pv 6)) da_nil)) (aCons_len (aCons_len aNil_len))) da_nil)))) da_nil)) (aCons_len (aCons_len aNil_len))))) (dss_one (ds_ret de_bl)) dss_nil)
  (dss_one (ds_if (dt_ne hr (de_dn (dn_list Y.n_list (dl_var 7 (pv 7)))) (de_var 6 (pv 6))) (dss_one (ds_ret de_bl)) dss_nil)))))
  (dss_cons (ds_for (passes_of rfl) rfl (di_seq (de_callS (i := 1) (ok__law_bent Y) (hr.mono (by omega)) (takes_of rfl rfl rfl rfl) Y.mg__law_bent Y.F__law_bent.kp Y.b__law_bent (pv 1) (da_cons (de_var 3 (pv 3)) (da_cons (de_callS (i := 1) (ok__law_pick Y) (hr.mono (by omega)) (takes_of rfl rfl rfl rfl) Y.mg__law_pick Y.F__law_pick.kp Y.b__law_pick (pv 1) (da_cons (de_var 5 (pv 5)) da_nil) (aCons_len aNil_len)) da_nil)) (aCons_len (aCons_len aNil_len)))) (dg_name (i := 8) sc_law.nd rfl (Or.inl rfl)) (dss_cons (ds_par (i := 9) (j := 10) rfl sc_law.nd rfl rfl (by decide) rfl rfl (dp_cons (de_call (ok__law_is_cut Y) (hr.mono (by omega)) (takes_of rfl rfl rfl rfl) Y.mg__law_is_cut Y.F__law_is_cut.kp Y.b__law_is_cut (da_cons (de_var 3 (pv 3)) (da_cons (de_var 8 (pv 8)) da_nil)) (aCons_len (aCons_len aNil_len))) (dp_cons (de_repr hG hr Y.n_repr (da_cons (de_var 8 (pv 8)) da_nil)) dp_nil)))
  (dss_cons (ds_if (dt_w (dw_or (dt_not (dt_val (de_call (ok__law_same Y 40) (hr.mono (by omega)) (takes_of rfl rfl rfl rfl) Y.mg__law_same Y.F__law_same.kp Y.b__law_same (da_cons (de_callK (np := 2) (π := @swp) (ok_is_cut Y) (hr.mono (by omega)) (takes_of rfl rfl rfl rfl) Y.mg_is_cut Y.F_is_cut.kp Y.kw_is_cut (dk_cons (de_var 8 (pv 8)) (dk_cons (de_var 4 (pv 4)) dk_nil)) (aCons_len (aCons_len aNil_len)) swp_vals swp_reps fun _ h => swp_len _ h) (da_cons (de_var 9 (pv 9)) da_nil)) (aCons_len (aCons_len aNil_len))))) (dw_or1 (dt_ne hr (de_repr hG hr Y.n_repr (da_cons (de_var 8 (pv 8)) da_nil)) (de_var 10 (pv 10)))))) (dss_one (ds_ret de_bl)) dss_nil)
  (dss_one (ds_if (dt_w (dw_and (dt_not (dt_val (de_var 9 (pv 9)))) (dw_and1 (dt_not (dt_val (de_call (ok__law_same Y 40) (hr.mono (by omega)) (takes_of rfl rfl rfl rfl) Y.mg__law_same Y.F__law_same.kp Y.b__law_same (da_cons (de_call (ok__law_met Y) (hr.mono (by omega)) (takes_of rfl rfl rfl rfl) Y.mg__law_met Y.F__law_met.kp Y.b__law_met (da_cons (de_var 4 (pv 4)) (da_cons (de_var 8 (pv 8)) da_nil)) (aCons_len (aCons_len aNil_len))) (da_cons (de_tup (da_cons de_str (da_cons (de_var 8 (pv 8)) da_nil))) da_nil)) (aCons_len (aCons_len aNil_len)))))))) (dss_one (ds_ret de_bl)) dss_nil)))))
  (dss_cons (ds_own (i := 11) sc_law.nd rfl (Or.inl rfl) (dn_lst (da_cons de_str da_nil)))
  (dss_held (i := 11) (j := 12) (w := "cut") (by decide) sc_law.nd rfl (Or.inl rfl) (de_call (ok__law_met Y) (hr.mono (by omega)) (takes_of rfl rfl rfl rfl) Y.mg__law_met Y.F__law_met.kp Y.b__law_met (da_cons (de_var 4 (pv 4)) (da_cons (de_var 11 (pv 11)) da_nil)) (aCons_len (aCons_len aNil_len))) (pv 11)
  (dss_one (ds_if (dt_not (dt_val (de_call (ok__law_same Y 40) (hr.mono (by omega)) (takes_of rfl rfl rfl rfl) Y.mg__law_same Y.F__law_same.kp Y.b__law_same (da_cons (de_dn (dn_lst (da_cons (de_var 12 (pv 12)) (da_cons (de_call (ok_is_cut Y) (hr.mono (by omega)) (takes_of rfl rfl rfl rfl) Y.mg_is_cut Y.F_is_cut.kp Y.b_is_cut (da_cons (de_var 4 (pv 4)) (da_cons (de_var 4 (pv 4)) da_nil)) (aCons_len (aCons_len aNil_len))) da_nil)))) (da_cons (de_dn (dn_lst (da_cons (de_tup (da_cons de_str (da_cons (de_dn (dn_lst (da_cons de_str (da_cons de_str da_nil)))) da_nil))) (da_cons de_bl da_nil)))) da_nil)) (aCons_len (aCons_len aNil_len))))) (dss_one (ds_ret de_bl)) dss_nil)))))))))
  (dss_one (ds_ret de_bl)))
theorem ok_law (good : (G_law Y.cA ((List.replicate 13 Sl.any).set 1 .strm)).wp (10 ^ 13) (fun _ fl => fl = .ret (.bl true)) fun _ _ _ => False) : OutOk P w K mg base Y.a_law Y.d_law ["script"] (spLawT K []) :=
  law_out (k := 43) (i := 1) Y.F_law sc_law rfl ⟨by decide +kernel, by decide +kernel, by decide +kernel⟩ (fun cdv s H E _ hr => ps_law Y cdv s H E hr) (fun cdv s H E H0 S0 _ hr => ds_law Y cdv s H E H0 S0 hr) good
end
end Tw
end
section
set_option Elab.async false
set_option linter.all false
set_option maxRecDepth 100000
set_option maxHeartbeats 0
namespace Tw
open PySem PySem.Spec PyProof.Rows L2 DP

def fb0 : List (KF → Bool) := [excB "BadPlaces" "places", excB "BadRoads" "index", excB "BadStart" "place", excB "BadEnd" "place", excB "BadCut" "thing", (fun K => xfB K (He.ga K "BadCut")), isCB "Net" "list" "tuple"]
def fb : List (KF → Bool) := fb0
def fa0 : List He.Fa := [.glo "is_integer", .glo "is_number", .glo "is_count", .glo "is_index", .glo "is_list", .glo "is_cut", .glo "room_across", .glo "room_of", .glo "is_road", .glo "told_roads", .glo "_law_stream", .glo "_law_draw", .glo "_law_pick", .glo "_law_mixed", .glo "_law_same", .glo "_law_loose", .glo "_law_net", .glo "_law_made", .glo "_law_is_whole", .glo "_law_cuts", .glo "_law_room", .glo "_law_is_cut", .glo "_law_bent", .glo "_law_met", .glo "law", .exm "BadCut" "BadCut" true, .cls "Net", .noat "Net" "_places", .noat "Net" "_end", .noat "Net" "_start", .noat "Net" "_roads", .meth "Net" "places", .meth "Net" "end", .meth "Net" "start", .meth "Net" "roads", .mkr "Net", .glo "Net", .free "abs", .free "all", .free "any"]
def fa1 : List He.Fa := [.free "bool", .free "dict", .free "enumerate", .free "int", .free "isinstance", .free "len", .free "list", .free "max", .free "min", .free "range", .free "repr", .free "reversed", .free "set", .free "sorted", .free "str", .free "sum", .free "tuple", .free "zip"]
def fa : List He.Fa := fa0 ++ fa1
def fn0 : List He.DefD := [⟨("BadPlaces", some "__init__"), "__init__", "BadPlaces.__init__", defArgs s_BadPlaces____init__, defBody s_BadPlaces____init__, defScope s_BadPlaces____init__, [], []⟩, ⟨("BadRoads", some "__init__"), "__init__", "BadRoads.__init__", defArgs s_BadRoads____init__, defBody s_BadRoads____init__, defScope s_BadRoads____init__, [], []⟩, ⟨("BadStart", some "__init__"), "__init__", "BadStart.__init__", defArgs s_BadStart____init__, defBody s_BadStart____init__, defScope s_BadStart____init__, [], []⟩, ⟨("BadEnd", some "__init__"), "__init__", "BadEnd.__init__", defArgs s_BadEnd____init__, defBody s_BadEnd____init__, defScope s_BadEnd____init__, [], []⟩, ⟨("is_integer", none), "is_integer", "is_integer", defArgs s_is_integer, defBody s_is_integer, defScope s_is_integer, [], []⟩, ⟨("is_number", none), "is_number", "is_number", defArgs s_is_number, defBody s_is_number, defScope s_is_number, [], []⟩, ⟨("is_count", none), "is_count", "is_count", defArgs s_is_count, defBody s_is_count, defScope s_is_count, [], []⟩, ⟨("is_index", none), "is_index", "is_index", defArgs s_is_index, defBody s_is_index, defScope s_is_index, [], []⟩, ⟨("is_list", none), "is_list", "is_list", defArgs s_is_list, defBody s_is_list, defScope s_is_list, [], []⟩, ⟨("BadCut", some "__init__"), "__init__", "BadCut.__init__", defArgs s_BadCut____init__, defBody s_BadCut____init__, defScope s_BadCut____init__, [], []⟩, ⟨("Net", some "places"), "places", "Net.places", defArgs s_Net__places, defBody s_Net__places, defScope s_Net__places, [], []⟩, ⟨("Net", some "end"), "end", "Net.end", defArgs s_Net__end, defBody s_Net__end, defScope s_Net__end, [], []⟩, ⟨("Net", some "start"), "start", "Net.start", defArgs s_Net__start, defBody s_Net__start, defScope s_Net__start, [], []⟩, ⟨("is_cut", none), "is_cut", "is_cut", defArgs s_is_cut, defBody s_is_cut, defScope s_is_cut, [], []⟩, ⟨("Net", some "roads"), "roads", "Net.roads", defArgs s_Net__roads, defBody s_Net__roads, defScope s_Net__roads, [], []⟩, ⟨("room_across", none), "room_across", "room_across", defArgs s_room_across, defBody s_room_across, defScope s_room_across, [], []⟩, ⟨("room_of", none), "room_of", "room_of", defArgs s_room_of, defBody s_room_of, defScope s_room_of, [], []⟩, ⟨("is_road", none), "is_road", "is_road", defArgs s_is_road, defBody s_is_road, defScope s_is_road, [], []⟩, ⟨("told_roads", none), "told_roads", "told_roads", defArgs s_told_roads, defBody s_told_roads, defScope s_told_roads, [], []⟩, ⟨("Net", some "__init__"), "__init__", "Net.__init__", defArgs s_Net____init__, defBody s_Net____init__, defScope s_Net____init__, [], []⟩, ⟨("_law_stream", none), "_law_stream", "_law_stream", defArgs s__law_stream, defBody s__law_stream, defScope s__law_stream, [], []⟩, ⟨("_law_draw", none), "_law_draw", "_law_draw", defArgs s__law_draw, defBody s__law_draw, defScope s__law_draw, [], []⟩, ⟨("_law_pick", none), "_law_pick", "_law_pick", defArgs s__law_pick, defBody s__law_pick, defScope s__law_pick, [], []⟩, ⟨("_law_mixed", none), "_law_mixed", "_law_mixed", defArgs s__law_mixed, defBody s__law_mixed, defScope s__law_mixed, [], []⟩, ⟨("_law_same", none), "_law_same", "_law_same", defArgs s__law_same, defBody s__law_same, defScope s__law_same, [], []⟩, ⟨("_law_loose", none), "_law_loose", "_law_loose", defArgs s__law_loose, defBody s__law_loose, defScope s__law_loose, [], []⟩, ⟨("_law_net", none), "_law_net", "_law_net", defArgs s__law_net, defBody s__law_net, defScope s__law_net, [], []⟩, ⟨("_law_made", none), "_law_made", "_law_made", defArgs s__law_made, defBody s__law_made, defScope s__law_made, [], []⟩, ⟨("_law_is_whole", none), "_law_is_whole", "_law_is_whole", defArgs s__law_is_whole, defBody s__law_is_whole, defScope s__law_is_whole, [], []⟩, ⟨("_law_cuts", none), "_law_cuts", "_law_cuts", defArgs s__law_cuts, defBody s__law_cuts, defScope s__law_cuts, [], []⟩, ⟨("_law_room", none), "_law_room", "_law_room", defArgs s__law_room, defBody s__law_room, defScope s__law_room, [], []⟩, ⟨("_law_is_cut", none), "_law_is_cut", "_law_is_cut", defArgs s__law_is_cut, defBody s__law_is_cut, defScope s__law_is_cut, [], []⟩, ⟨("_law_bent", none), "_law_bent", "_law_bent", defArgs s__law_bent, defBody s__law_bent, defScope s__law_bent, [], []⟩, ⟨("_law_met", none), "_law_met", "_law_met", defArgs s__law_met, defBody s__law_met, defScope s__law_met, [], []⟩, ⟨("law", none), "law", "law", defArgs s_law, defBody s_law, defScope s_law, [], []⟩]
def fn : List He.DefD := fn0
def xc (K : KF) : Str → Addr × Str := fun s => match [(("BadPlaces" : Str), ("places" : Str)), (("BadRoads" : Str), ("index" : Str)), (("BadStart" : Str), ("place" : Str)), (("BadEnd" : Str), ("place" : Str)), (("BadCut" : Str), ("thing" : Str))].lookup s with
  | some f => (He.ga K s, f)
  | none => (0, s)
theorem txa {K : KF} {h : Heap} {mg : Str → Option Value} (X : K.In h) (G : h.Ns mainGlobals mg) (c : SaysF fb fa fn K) : ∃ Y : Tx K mg, Y.a_law = He.ga K "law" := by
  obtain ⟨d0, F0⟩ := c.d.def_ 0 rfl
  obtain ⟨d1, F1⟩ := c.d.def_ 1 rfl
  obtain ⟨d2, F2⟩ := c.d.def_ 2 rfl
  obtain ⟨d3, F3⟩ := c.d.def_ 3 rfl
  obtain ⟨d4, F4⟩ := c.d.def_ 4 rfl
  obtain ⟨d5, F5⟩ := c.d.def_ 5 rfl
  obtain ⟨d6, F6⟩ := c.d.def_ 6 rfl
  obtain ⟨d7, F7⟩ := c.d.def_ 7 rfl
  obtain ⟨d8, F8⟩ := c.d.def_ 8 rfl
  obtain ⟨d9, F9⟩ := c.d.def_ 9 rfl
  obtain ⟨d10, F10⟩ := c.d.def_ 10 rfl
  obtain ⟨d11, F11⟩ := c.d.def_ 11 rfl
  obtain ⟨d12, F12⟩ := c.d.def_ 12 rfl
  obtain ⟨d13, F13⟩ := c.d.def_ 13 rfl
  obtain ⟨d14, F14⟩ := c.d.def_ 14 rfl
  obtain ⟨d15, F15⟩ := c.d.def_ 15 rfl
  obtain ⟨d16, F16⟩ := c.d.def_ 16 rfl
  obtain ⟨d17, F17⟩ := c.d.def_ 17 rfl
  obtain ⟨d18, F18⟩ := c.d.def_ 18 rfl
  obtain ⟨d19, F19⟩ := c.d.def_ 19 rfl
  obtain ⟨d20, F20⟩ := c.d.def_ 20 rfl
  obtain ⟨d21, F21⟩ := c.d.def_ 21 rfl
  obtain ⟨d22, F22⟩ := c.d.def_ 22 rfl
  obtain ⟨d23, F23⟩ := c.d.def_ 23 rfl
  obtain ⟨d24, F24⟩ := c.d.def_ 24 rfl
  obtain ⟨d25, F25⟩ := c.d.def_ 25 rfl
  obtain ⟨d26, F26⟩ := c.d.def_ 26 rfl
  obtain ⟨d27, F27⟩ := c.d.def_ 27 rfl
  obtain ⟨d28, F28⟩ := c.d.def_ 28 rfl
  obtain ⟨d29, F29⟩ := c.d.def_ 29 rfl
  obtain ⟨d30, F30⟩ := c.d.def_ 30 rfl
  obtain ⟨d31, F31⟩ := c.d.def_ 31 rfl
  obtain ⟨d32, F32⟩ := c.d.def_ 32 rfl
  obtain ⟨d33, F33⟩ := c.d.def_ 33 rfl
  obtain ⟨d34, F34⟩ := c.d.def_ 34 rfl
  exact ⟨{
    Xc := xc K
    cA := He.ga K
    a_BadPlaces____init__ := He.ma K (He.ga K "BadPlaces") "__init__"
    d_BadPlaces____init__ := d0
    F_BadPlaces____init__ := fun_of F0
    b_BadPlaces____init__ := (fun_of (st := s_BadPlaces____init__) F0).binds (ps := ["self", "places"]) fun _ _ _ _ _ _ us hl => match us, hl with | [_, _], _ => rfl
    a_BadRoads____init__ := He.ma K (He.ga K "BadRoads") "__init__"
    d_BadRoads____init__ := d1
    F_BadRoads____init__ := fun_of F1
    b_BadRoads____init__ := (fun_of (st := s_BadRoads____init__) F1).binds (ps := ["self", "index"]) fun _ _ _ _ _ _ us hl => match us, hl with | [_, _], _ => rfl
    a_BadStart____init__ := He.ma K (He.ga K "BadStart") "__init__"
    d_BadStart____init__ := d2
    F_BadStart____init__ := fun_of F2
    b_BadStart____init__ := (fun_of (st := s_BadStart____init__) F2).binds (ps := ["self", "place"]) fun _ _ _ _ _ _ us hl => match us, hl with | [_, _], _ => rfl
    a_BadEnd____init__ := He.ma K (He.ga K "BadEnd") "__init__"
    d_BadEnd____init__ := d3
    F_BadEnd____init__ := fun_of F3
    b_BadEnd____init__ := (fun_of (st := s_BadEnd____init__) F3).binds (ps := ["self", "place"]) fun _ _ _ _ _ _ us hl => match us, hl with | [_, _], _ => rfl
    a_is_integer := He.ga K "is_integer"
    d_is_integer := d4
    mg_is_integer := He.glo_ok X G (c.d.fact 0)
    F_is_integer := fun_of F4
    b_is_integer := (fun_of (st := s_is_integer) F4).binds (ps := ["thing"]) fun _ _ _ _ _ _ us hl => match us, hl with | [_], _ => rfl
    a_is_number := He.ga K "is_number"
    d_is_number := d5
    mg_is_number := He.glo_ok X G (c.d.fact 1)
    F_is_number := fun_of F5
    b_is_number := (fun_of (st := s_is_number) F5).binds (ps := ["thing"]) fun _ _ _ _ _ _ us hl => match us, hl with | [_], _ => rfl
    a_is_count := He.ga K "is_count"
    d_is_count := d6
    mg_is_count := He.glo_ok X G (c.d.fact 2)
    F_is_count := fun_of F6
    b_is_count := (fun_of (st := s_is_count) F6).binds (ps := ["thing"]) fun _ _ _ _ _ _ us hl => match us, hl with | [_], _ => rfl
    a_is_index := He.ga K "is_index"
    d_is_index := d7
    mg_is_index := He.glo_ok X G (c.d.fact 3)
    F_is_index := fun_of F7
    b_is_index := (fun_of (st := s_is_index) F7).binds (ps := ["thing", "many"]) fun _ _ _ _ _ _ us hl => match us, hl with | [_, _], _ => rfl
    a_is_list := He.ga K "is_list"
    d_is_list := d8
    mg_is_list := He.glo_ok X G (c.d.fact 4)
    F_is_list := fun_of F8
    b_is_list := (fun_of (st := s_is_list) F8).binds (ps := ["thing"]) fun _ _ _ _ _ _ us hl => match us, hl with | [_], _ => rfl
    a_BadCut____init__ := He.ma K (He.ga K "BadCut") "__init__"
    d_BadCut____init__ := d9
    F_BadCut____init__ := fun_of F9
    b_BadCut____init__ := (fun_of (st := s_BadCut____init__) F9).binds (ps := ["self", "thing"]) fun _ _ _ _ _ _ us hl => match us, hl with | [_, _], _ => rfl
    a_Net__places := He.ma K (He.ga K "Net") "places"
    d_Net__places := d10
    F_Net__places := fun_of F10
    b_Net__places := (fun_of (st := s_Net__places) F10).binds (ps := ["self"]) fun _ _ _ _ _ _ us hl => match us, hl with | [_], _ => rfl
    a_Net__end := He.ma K (He.ga K "Net") "end"
    d_Net__end := d11
    F_Net__end := fun_of F11
    b_Net__end := (fun_of (st := s_Net__end) F11).binds (ps := ["self"]) fun _ _ _ _ _ _ us hl => match us, hl with | [_], _ => rfl
    a_Net__start := He.ma K (He.ga K "Net") "start"
    d_Net__start := d12
    F_Net__start := fun_of F12
    b_Net__start := (fun_of (st := s_Net__start) F12).binds (ps := ["self"]) fun _ _ _ _ _ _ us hl => match us, hl with | [_], _ => rfl
    a_is_cut := He.ga K "is_cut"
    d_is_cut := d13
    mg_is_cut := He.glo_ok X G (c.d.fact 5)
    F_is_cut := fun_of F13
    kw_is_cut := kw_of (st := s_is_cut) (fun_of F13) fun _ _ _ _ _ _ ws hl => match ws, hl with | [_, _], _ => rfl
    b_is_cut := (fun_of (st := s_is_cut) F13).binds (ps := ["net", "thing"]) fun _ _ _ _ _ _ us hl => match us, hl with | [_, _], _ => rfl
    a_Net__roads := He.ma K (He.ga K "Net") "roads"
    d_Net__roads := d14
    F_Net__roads := fun_of F14
    b_Net__roads := (fun_of (st := s_Net__roads) F14).binds (ps := ["self"]) fun _ _ _ _ _ _ us hl => match us, hl with | [_], _ => rfl
    a_room_across := He.ga K "room_across"
    d_room_across := d15
    mg_room_across := He.glo_ok X G (c.d.fact 6)
    F_room_across := fun_of F15
    b_room_across := (fun_of (st := s_room_across) F15).binds (ps := ["net", "cut"]) fun _ _ _ _ _ _ us hl => match us, hl with | [_, _], _ => rfl
    a_room_of := He.ga K "room_of"
    d_room_of := d16
    mg_room_of := He.glo_ok X G (c.d.fact 7)
    F_room_of := fun_of F16
    b_room_of := (fun_of (st := s_room_of) F16).binds (ps := ["net", "cut"]) fun _ _ _ _ _ _ us hl => match us, hl with | [_, _], _ => rfl
    a_is_road := He.ga K "is_road"
    d_is_road := d17
    mg_is_road := He.glo_ok X G (c.d.fact 8)
    F_is_road := fun_of F17
    b_is_road := (fun_of (st := s_is_road) F17).binds (ps := ["places", "thing"]) fun _ _ _ _ _ _ us hl => match us, hl with | [_, _], _ => rfl
    a_told_roads := He.ga K "told_roads"
    d_told_roads := d18
    mg_told_roads := He.glo_ok X G (c.d.fact 9)
    F_told_roads := fun_of F18
    b_told_roads := (fun_of (st := s_told_roads) F18).binds (ps := ["places", "roads"]) fun _ _ _ _ _ _ us hl => match us, hl with | [_, _], _ => rfl
    a_Net____init__ := He.ma K (He.ga K "Net") "__init__"
    d_Net____init__ := d19
    F_Net____init__ := fun_of F19
    b_Net____init__ := (fun_of (st := s_Net____init__) F19).binds (ps := ["self", "places", "roads", "start", "end"]) fun _ _ _ _ _ _ us hl => match us, hl with | [_, _, _, _, _], _ => rfl
    a__law_stream := He.ga K "_law_stream"
    d__law_stream := d20
    mg__law_stream := He.glo_ok X G (c.d.fact 10)
    F__law_stream := fun_of F20
    b__law_stream := (fun_of (st := s__law_stream) F20).binds (ps := ["script"]) fun _ _ _ _ _ _ us hl => match us, hl with | [_], _ => rfl
    a__law_draw := He.ga K "_law_draw"
    d__law_draw := d21
    mg__law_draw := He.glo_ok X G (c.d.fact 11)
    F__law_draw := fun_of F21
    b__law_draw := (fun_of (st := s__law_draw) F21).binds (ps := ["stream", "many"]) fun _ _ _ _ _ _ us hl => match us, hl with | [_, _], _ => rfl
    a__law_pick := He.ga K "_law_pick"
    d__law_pick := d22
    mg__law_pick := He.glo_ok X G (c.d.fact 12)
    F__law_pick := fun_of F22
    b__law_pick := (fun_of (st := s__law_pick) F22).binds (ps := ["stream", "things"]) fun _ _ _ _ _ _ us hl => match us, hl with | [_, _], _ => rfl
    a__law_mixed := He.ga K "_law_mixed"
    d__law_mixed := d23
    mg__law_mixed := He.glo_ok X G (c.d.fact 13)
    F__law_mixed := fun_of F23
    b__law_mixed := (fun_of (st := s__law_mixed) F23).binds (ps := ["stream", "things"]) fun _ _ _ _ _ _ us hl => match us, hl with | [_, _], _ => rfl
    a__law_same := He.ga K "_law_same"
    d__law_same := d24
    mg__law_same := He.glo_ok X G (c.d.fact 14)
    F__law_same := fun_of F24
    b__law_same := (fun_of (st := s__law_same) F24).binds (ps := ["found", "due"]) fun _ _ _ _ _ _ us hl => match us, hl with | [_, _], _ => rfl
    a__law_loose := He.ga K "_law_loose"
    d__law_loose := d25
    mg__law_loose := He.glo_ok X G (c.d.fact 15)
    F__law_loose := fun_of F25
    b__law_loose := (fun_of (st := s__law_loose) F25).binds (ps := ["stream", "thing"]) fun _ _ _ _ _ _ us hl => match us, hl with | [_, _], _ => rfl
    a__law_net := He.ga K "_law_net"
    d__law_net := d26
    mg__law_net := He.glo_ok X G (c.d.fact 16)
    F__law_net := fun_of F26
    b__law_net := (fun_of (st := s__law_net) F26).binds (ps := ["stream", "most", "many"]) fun _ _ _ _ _ _ us hl => match us, hl with | [_, _, _], _ => rfl
    a__law_made := He.ga K "_law_made"
    d__law_made := d27
    mg__law_made := He.glo_ok X G (c.d.fact 17)
    F__law_made := fun_of F27
    b__law_made := (fun_of (st := s__law_made) F27).binds (ps := ["stream", "net"]) fun _ _ _ _ _ _ us hl => match us, hl with | [_, _], _ => rfl
    a__law_is_whole := He.ga K "_law_is_whole"
    d__law_is_whole := d28
    mg__law_is_whole := He.glo_ok X G (c.d.fact 18)
    F__law_is_whole := fun_of F28
    b__law_is_whole := (fun_of (st := s__law_is_whole) F28).binds (ps := ["thing"]) fun _ _ _ _ _ _ us hl => match us, hl with | [_], _ => rfl
    a__law_cuts := He.ga K "_law_cuts"
    d__law_cuts := d29
    mg__law_cuts := He.glo_ok X G (c.d.fact 19)
    F__law_cuts := fun_of F29
    b__law_cuts := (fun_of (st := s__law_cuts) F29).binds (ps := ["net"]) fun _ _ _ _ _ _ us hl => match us, hl with | [_], _ => rfl
    a__law_room := He.ga K "_law_room"
    d__law_room := d30
    mg__law_room := He.glo_ok X G (c.d.fact 20)
    F__law_room := fun_of F30
    b__law_room := (fun_of (st := s__law_room) F30).binds (ps := ["roads", "some"]) fun _ _ _ _ _ _ us hl => match us, hl with | [_, _], _ => rfl
    a__law_is_cut := He.ga K "_law_is_cut"
    d__law_is_cut := d31
    mg__law_is_cut := He.glo_ok X G (c.d.fact 21)
    F__law_is_cut := fun_of F31
    b__law_is_cut := (fun_of (st := s__law_is_cut) F31).binds (ps := ["net", "thing"]) fun _ _ _ _ _ _ us hl => match us, hl with | [_, _], _ => rfl
    a__law_bent := He.ga K "_law_bent"
    d__law_bent := d32
    mg__law_bent := He.glo_ok X G (c.d.fact 22)
    F__law_bent := fun_of F32
    b__law_bent := (fun_of (st := s__law_bent) F32).binds (ps := ["stream", "net", "cut"]) fun _ _ _ _ _ _ us hl => match us, hl with | [_, _, _], _ => rfl
    a__law_met := He.ga K "_law_met"
    d__law_met := d33
    mg__law_met := He.glo_ok X G (c.d.fact 23)
    F__law_met := fun_of F33
    b__law_met := (fun_of (st := s__law_met) F33).binds (ps := ["made", "thing"]) fun _ _ _ _ _ _ us hl => match us, hl with | [_, _], _ => rfl
    a_law := He.ga K "law"
    d_law := d34
    mg_law := He.glo_ok X G (c.d.fact 24)
    F_law := fun_of F34
    b_law := (fun_of (st := s_law) F34).binds (ps := ["script"]) fun _ _ _ _ _ _ us hl => match us, hl with | [_], _ => rfl
    E_BadPlaces := exc_of X G (c.b 0)
    X_BadPlaces := by rfl
    E_BadRoads := exc_of X G (c.b 1)
    X_BadRoads := by rfl
    E_BadStart := exc_of X G (c.b 2)
    X_BadStart := by rfl
    E_BadEnd := exc_of X G (c.b 3)
    X_BadEnd := by rfl
    E_BadCut := exc_of X G (c.b 4)
    X_BadCut := by rfl
    xf_BadCut := xfB_ok (c.b 5)
    exm_BadCut := He.exm_ok (c.d.fact 25)
    ic_Net_list_tuple := isC_ok (c.b 6)
    cls_Net := He.cls_ok (c.d.fact 26)
    na_Net__places := He.noat_ok (c.d.fact 27)
    na_Net__end := He.noat_ok (c.d.fact 28)
    na_Net__start := He.noat_ok (c.d.fact 29)
    na_Net__roads := He.noat_ok (c.d.fact 30)
    me_Net__places := He.meth_ok (c.d.fact 31)
    me_Net__end := He.meth_ok (c.d.fact 32)
    me_Net__start := He.meth_ok (c.d.fact 33)
    me_Net__roads := He.meth_ok (c.d.fact 34)
    mk_Net := He.mkr_ok (c.d.fact 35)
    mgC_Net := He.glo_ok X G (c.d.fact 36)
    n_abs := He.free_ok X G (c.d.fact 37)
    n_all := He.free_ok X G (c.d.fact 38)
    n_any := He.free_ok X G (c.d.fact 39)
    n_bool := He.free_ok X G (c.d.fact 40)
    n_dict := He.free_ok X G (c.d.fact 41)
    n_enumerate := He.free_ok X G (c.d.fact 42)
    n_int := He.free_ok X G (c.d.fact 43)
    n_isinstance := He.free_ok X G (c.d.fact 44)
    n_len := He.free_ok X G (c.d.fact 45)
    n_list := He.free_ok X G (c.d.fact 46)
    n_max := He.free_ok X G (c.d.fact 47)
    n_min := He.free_ok X G (c.d.fact 48)
    n_range := He.free_ok X G (c.d.fact 49)
    n_repr := He.free_ok X G (c.d.fact 50)
    n_reversed := He.free_ok X G (c.d.fact 51)
    n_set := He.free_ok X G (c.d.fact 52)
    n_sorted := He.free_ok X G (c.d.fact 53)
    n_str := He.free_ok X G (c.d.fact 54)
    n_sum := He.free_ok X G (c.d.fact 55)
    n_tuple := He.free_ok X G (c.d.fact 56)
    n_zip := He.free_ok X G (c.d.fact 57) }, rfl⟩
def tf : List He.Defn := []
end Tw
end
section
set_option Elab.async false
set_option linter.all false
set_option maxRecDepth 100000
set_option maxHeartbeats 0
namespace Tw
open PySem PySem.Spec PyProof.Rows L2 DP
abbrev R : PySem.W.OpenRow := PySem.W.OpenLaw.row PySem.Challenge.rw_quickbythen_k42_cuts
def ex (K : KF) : Bool := fb.all fun f => f K
abbrev hk : PySem.W.Hook := He.hookX 5 fa fn [] tf ex
def ob (s : PySem.W.SharedT) : He.AlX := He.obsX 5 fa fn [] tf ex (HandSHeadRun.getT s)
theorem ob_eq (s : PySem.W.SharedT) : ob s = hk.obs s.abs := He.obsX_eq (HandSHeadRun.getT_eq s)
def loose0 : List PySem.Str := ["QuickError", "BadPlaces", "BadRoads", "BadStart", "BadEnd", "is_integer", "is_number", "is_count", "is_index", "is_list", "BadCut", "is_cut", "room_across", "room_of", "is_road", "told_roads", "Net", "_law_stream", "_law_draw", "_law_pick"]
def loose1 : List PySem.Str := ["_law_mixed", "_law_same", "_law_loose", "_law_net", "_law_made", "_law_is_whole", "_law_cuts", "_law_room", "_law_is_cut", "_law_bent", "_law_met"]
def loose : List PySem.Str := loose0 ++ loose1
theorem run (w : World) : HandSHeadRun.RunEq R (PySem.W.view R.prog [37]) hk ob 20000 loose w := by
  intro os
  kernel_rfl
end Tw
end
section
set_option Elab.async false
set_option linter.all false
set_option maxRecDepth 100000
namespace DP
open PySem PySem.Spec PyProof.Rows L2

/-! ### programs that end well: at most n draws, and then a value of which P is so -/
structure Tk {α : Type} (m : M α) (n : Nat) (P : α → Prop) : Prop where
  go : ∀ (b : Nat) (Q : Nat → α → Prop) (E : Nat → Str → T → Prop), n ≤ b → (∀ b' a, b ≤ b' + n → P a → Q b' a) → m.wp b Q E
section
variable {α β γ : Type} {m : M α} {n n' n1 n2 n3 : Nat} {P P' : α → Prop} {R : β → Prop} {S : γ → Prop} {f : α → M β}
theorem Tk.ret {a : α} (h : P a) : Tk (.ret a) 0 P := ⟨fun b Q E _ k => k b a (by omega) h⟩
theorem Tk.pure {a : α} (h : m = .ret a) : Tk m 0 (fun x => x = a) := by rw [h]; exact Tk.ret rfl
theorem Tk.eq {a : α} (h : m = .ret a) (p : P a) : Tk m 0 P := by rw [h]; exact Tk.ret p
theorem Tk.bind (h : Tk m n P) (k : ∀ a, P a → Tk (f a) n2 R) : Tk (m.bind f) (n + n2) R := ⟨fun b Q E hb kk =>
  M.wp_bind.mpr (h.go b _ E (by omega) fun b' a hb' pa => (k a pa).go b' Q E (by omega) fun b2 c h2 rc => kk b2 c (by omega) rc)⟩
theorem Tk.mono (h : Tk m n P) (hn : n ≤ n') (hp : ∀ a, P a → P' a) : Tk m n' P' := ⟨fun b Q E hb kk => h.go b Q E (by omega) fun b' a h1 pa => kk b' a (by omega) (hp a pa)⟩
theorem Tk.le (h : Tk m n P) (hn : n ≤ n') : Tk m n' P := h.mono hn fun _ p => p
theorem Tk.imp (h : Tk m n P) (hp : ∀ a, P a → P' a) : Tk m n P' := h.mono (Nat.le_refl _) hp
theorem Tk.draw {k : Int} {g : Int → M α} (h0 : 0 < k) (h : ∀ d, 0 ≤ d → d < k → Tk (g d) n P) : Tk (.draw k g) (n + 1) P := ⟨fun b Q E hb kk =>
  ⟨h0, by omega, fun d h1 h2 => (h d h1 h2).go (b - 1) Q E (by omega) fun b' a hb' pa => kk b' a (by omega) pa⟩⟩
theorem Tk.good {Q : Nat → α → Prop} {E : Nat → Str → T → Prop} {b : Nat} (h : Tk m n P) (hb : n ≤ b) (hq : ∀ b' a, P a → Q b' a) : m.wp b Q E := h.go b Q E hb fun b' a _ p => hq b' a p
theorem wp_noExc : ∀ {m : M α} {b : Nat} {Q : Nat → α → Prop} {E : Nat → Str → T → Prop}, m.wp b Q (fun _ _ _ => False) → (noExc m).wp b Q E
  | .ret _, _, _, _, h => h
  | .draw _ k, _, _, _, h => ⟨h.1, h.2.1, fun d h1 h2 => wp_noExc (m := k d) (h.2.2 d h1 h2)⟩
  | .exc _ _, _, _, _, h => h.elim
  | .stuck, _, _, _, h => h.elim
theorem Tk.noExc (h : Tk m n P) : Tk (noExc m) n P := ⟨fun b Q E hb kk => wp_noExc (h.go b Q _ hb kk)⟩
theorem wp_calm' : ∀ {m : M α} {b : Nat} {Q : Nat → α → Prop} {E : Nat → Str → T → Prop}, m.wp b Q (fun _ _ _ => False) → m.calm.wp b Q E
  | .ret _, _, _, _, h => h
  | .draw _ k, _, _, _, h => ⟨h.1, h.2.1, fun d h1 h2 => wp_calm' (m := k d) (h.2.2 d h1 h2)⟩
  | .exc _ _, _, _, _, h => h.elim
  | .stuck, _, _, _, h => h.elim
theorem Tk.calm (h : Tk m n P) : Tk m.calm n P := ⟨fun b Q E hb kk => wp_calm' (h.go b Q _ hb kk)⟩
end

/-! ### by the parts of a def -/
section
variable {n n1 n2 n3 c : Nat} {ρ : Env'} {P : T → Prop} {α β γ : Type}
theorem Tk.fn {st : Bool} {k : Nat} {G : Env' → M Fl} {ts : List T} (h : Tk (G (start' st k ts)) n (fun fl => ∃ t, fl = .ret t ∧ P t)) : Tk (fnM st k G ts) n P :=
  (Tk.bind (n2 := 0) h fun fl ⟨t, e, p⟩ => by rw [e]; exact Tk.ret p)
theorem Tk.sRet {f : Env' → M T} (h : Tk (f ρ) n P) : Tk (sRet f ρ) n (fun fl => ∃ t, fl = .ret t ∧ P t) := Tk.bind (n2 := 0) h fun t p => Tk.ret ⟨t, rfl, p⟩
theorem Tk.e1 {A : α → Prop} {B : β → Prop} {k : α → M β} {f : Env' → M α} (h : Tk (f ρ) n A) (hk : ∀ a, A a → Tk (k a) n2 B) : Tk (e1 k f ρ) (n + n2) B := Tk.bind h hk
theorem Tk.e2 {A : α → Prop} {B : β → Prop} {C : γ → Prop} {k : α → β → M γ} {f : Env' → M α} {g : Env' → M β} (h : Tk (f ρ) n1 A) (h2 : Tk (g ρ) n2 B) (hk : ∀ a b, A a → B b → Tk (k a b) n3 C) : Tk (e2 k f g ρ) (n1 + (n2 + n3)) C :=
  Tk.bind h fun a pa => Tk.bind h2 fun b pb => hk a b pa pb
/-- a loop: I holds behind so many turns -/
theorem Tk.forL {bd : T → Env' → Option Env'} {G : Env' → M Fl} (I : Nat → Env' → Prop) : ∀ (ts : List T) (i : Nat) (ρ : Env'), I i ρ →
    (∀ (j : Nat) (t : T) (ρ : Env'), ts[j]? = some t → I (i + j) ρ → ∃ ρ1, bd t ρ = some ρ1 ∧ Tk (G ρ1) c (fun fl => ∃ ρ', fl = .next ρ' ∧ I (i + j + 1) ρ')) →
    Tk (forL bd G ts ρ) (c * ts.length) (fun fl => ∃ ρ', fl = .next ρ' ∧ I (i + ts.length) ρ')
  | [], i, ρ, h, _ => Tk.ret ⟨ρ, rfl, h⟩
  | t :: ts, i, ρ, h, hs => by
    obtain ⟨ρ1, e, h1⟩ := hs 0 t ρ rfl h
    have h2 : Tk (DP.forL bd G (t :: ts) ρ) (c + c * ts.length) (fun fl => ∃ ρ', fl = .next ρ' ∧ I (i + (t :: ts).length) ρ') := by
      unfold DP.forL
      rw [e]
      refine Tk.bind h1 fun fl ⟨ρ', e', hi⟩ => ?_
      rw [e']
      refine (Tk.forL I ts (i + 1) ρ' hi fun j t ρ ht hj => ?_).imp fun fl ⟨ρ', e, h⟩ => ⟨ρ', e, by rw [List.length_cons]; rw [show i + (ts.length + 1) = i + 1 + ts.length by omega]; exact h⟩
      have := hs (j + 1) t ρ (by simpa using ht) (by rw [show i + (j + 1) = i + 1 + j by omega]; exact hj)
      rw [show i + (j + 1) + 1 = i + 1 + j + 1 by omega] at this
      exact this
    exact h2.le (by rw [List.length_cons, Nat.mul_add]; omega)
theorem Tk.sFor {fi : Env' → M (List T)} {bd : T → Env' → Option Env'} {G : Env' → M Fl} {A : List T → Prop} {L : Nat} (I : Nat → Env' → Prop) (h : Tk (fi ρ) n A) (hl : ∀ ts, A ts → ts.length ≤ L) (h0 : I 0 ρ)
    (hs : ∀ ts, A ts → ∀ (j : Nat) (t : T) (ρ : Env'), ts[j]? = some t → I j ρ → ∃ ρ1, bd t ρ = some ρ1 ∧ Tk (G ρ1) c (fun fl => ∃ ρ', fl = .next ρ' ∧ I (j + 1) ρ')) :
    Tk (sFor fi bd G ρ) (n + c * L) (fun fl => ∃ ρ' ts, fl = .next ρ' ∧ A ts ∧ I ts.length ρ') :=
  Tk.bind h fun ts ha => (Tk.forL I ts 0 ρ h0 fun j t ρ ht hj => by
    have := hs ts ha j t ρ ht (by rw [Nat.zero_add] at hj; exact hj)
    rw [Nat.zero_add]
    exact this).mono (Nat.mul_le_mul_left _ (hl ts ha)) fun fl ⟨ρ', e, h⟩ => ⟨ρ', ts, e, ha, by rw [Nat.zero_add] at h; exact h⟩
theorem Tk.seq {G1 G2 : Env' → M Fl} {I : Env' → Prop} {R : Fl → Prop} (h : Tk (G1 ρ) n (fun fl => ∃ ρ', fl = .next ρ' ∧ I ρ')) (k : ∀ ρ', I ρ' → Tk (G2 ρ') n2 R) : Tk (sSeq G1 G2 ρ) (n + n2) R :=
  Tk.bind h fun fl ⟨ρ', e, hi⟩ => by rw [e]; exact k ρ' hi
theorem Tk.sSet {i : Nat} {f : Env' → M T} (h : Tk (f ρ) n P) : Tk (sSet i f ρ) n (fun fl => ∃ ρ', fl = .next ρ' ∧ ∃ t, P t ∧ ρ' = ρ.set i (.val t)) := Tk.bind (n2 := 0) h fun t p => Tk.ret ⟨_, rfl, t, p, rfl⟩
theorem Tk.call {m : List T → M T} {f : Env' → M (List T)} {A : List T → Prop} (h : Tk (f ρ) n A) (k : ∀ ts, A ts → Tk (m ts) n2 P) : Tk (eCall m f ρ) (n + n2) P := Tk.bind h k
theorem Tk.callS {i : Nat} {m : List T → M T} {f : Env' → M (List T)} {A : List T → Prop} (hi : ρ[i]? = some .strm) (h : Tk (f ρ) n A) (k : ∀ ts, A ts → Tk (m ts) n2 P) : Tk (eCallS i m f ρ) (n + n2) P := by
  unfold eCallS
  rw [hi]
  exact Tk.bind h k
theorem Tk.cons {f : Env' → M T} {fs : Env' → M (List T)} {A : List T → Prop} (h : Tk (f ρ) n P) (h2 : Tk (fs ρ) n2 A) : Tk (aCons f fs ρ) (n + n2) (fun ts => ∃ t us, P t ∧ A us ∧ ts = t :: us) :=
  (Tk.e2 h h2 fun a b pa pb => Tk.ret ⟨a, b, pa, pb, rfl⟩).le (by omega)
theorem Tk.if_ {cnd : Env' → M Bool} {G1 G2 : Env' → M Fl} {B : Bool → Prop} {R : Fl → Prop} (h : Tk (cnd ρ) n B) (k1 : B true → Tk (G1 ρ) n2 R) (k2 : B false → Tk (G2 ρ) n2 R) : Tk (sIf cnd G1 G2 ρ) (n + n2) R := Tk.bind h fun b hb => by
  cases b with
  | true => rw [if_pos rfl]; exact k1 hb
  | false => rw [if_neg Bool.false_ne_true]; exact k2 hb
/-- a comprehension: R tells of item and element -/
theorem Tk.lcL {vs : List Nat} {bd : T → Env' → Option Env'} {cnd : Env' → M Bool} {f : Env' → M T} {ρ : Env'} (R : T → T → Prop) : ∀ (ts acc : List T), acc.length + ts.length ≤ 1000000 →
    (∀ t ∈ ts, ∃ ρ1, bd t (wipeE ρ vs) = some ρ1 ∧ cnd ρ1 = .ret true ∧ Tk (f ρ1) c (R t)) → Tk (lcL vs bd cnd f ρ ts acc) (c * ts.length) (fun us => ∃ ys, us = acc ++ ys ∧ Paired R ts ys)
  | [], acc, _, _ => Tk.ret ⟨[], by simp, .nil⟩
  | t :: ts, acc, hl, hs => by
    obtain ⟨ρ1, e, ec, h⟩ := hs t List.mem_cons_self
    have h2 : Tk (DP.lcL vs bd cnd f ρ (t :: ts) acc) (0 + (c + c * ts.length)) (fun us => ∃ ys, us = acc ++ ys ∧ Paired R (t :: ts) ys) := by
      unfold DP.lcL
      rw [e]
      refine Tk.bind (P := fun b => b = true) (by rw [ec]; exact Tk.ret rfl) fun b hb => ?_
      rw [hb, if_pos rfl]
      refine Tk.bind h.noExc fun y hy => ?_
      rw [if_pos (by unfold okLen; simp at hl ⊢; omega)]
      refine (Tk.lcL R ts (acc ++ [y]) (by simp at hl ⊢; omega) fun t ht => hs t (List.mem_cons_of_mem _ ht)).imp fun us ⟨ys, e, p⟩ => ⟨y :: ys, by rw [e]; simp, .cons hy p⟩
    exact h2.le (by rw [List.length_cons, Nat.mul_add]; omega)
theorem Tk.nLc {vs : List Nat} {fi : Env' → M (List T)} {bd : T → Env' → Option Env'} {cnd : Env' → M Bool} {f : Env' → M T} {ts : List T} (R : T → T → Prop) (h : fi ρ = .ret ts) (no : noOwnB vs ρ = true) (hl : ts.length ≤ 1000000)
    (hs : ∀ t ∈ ts, ∃ ρ1, bd t (wipeE ρ vs) = some ρ1 ∧ cnd ρ1 = .ret true ∧ Tk (f ρ1) c (R t)) : Tk (nLc vs fi bd cnd f ρ) (c * ts.length) (fun us => Paired R ts us) := by
  unfold DP.nLc
  rw [h]
  show Tk (if noOwnB vs ρ = true then DP.lcL vs bd cnd f ρ ts [] else .stuck) _ _
  rw [if_pos no]
  exact (Tk.lcL R ts [] (by simpa using hl) hs).imp fun us ⟨ys, e, p⟩ => by rw [e]; exact p
/-- .. that draws nothing -/
theorem lcL_eq {vs : List Nat} {bd : T → Env' → Option Env'} {cnd : Env' → M Bool} {f : Env' → M T} {ρ : Env'} (p : T → Bool) (g : T → T) : ∀ (ts acc : List T), acc.length + ts.length ≤ 1000000 →
    (∀ t ∈ ts, ∃ ρ1, bd t (wipeE ρ vs) = some ρ1 ∧ cnd ρ1 = .ret (p t) ∧ (p t = true → f ρ1 = .ret (g t))) → lcL vs bd cnd f ρ ts acc = .ret (acc ++ (ts.filter p).map g)
  | [], acc, _, _ => by simp [lcL]
  | t :: ts, acc, hl, hs => by
    obtain ⟨ρ1, e, ec, h⟩ := hs t List.mem_cons_self
    unfold lcL
    rw [e]
    dsimp only
    rw [ec]
    show (if p t = true then (noExc (f ρ1)).bind _ else _) = _
    cases hp : p t with
    | true =>
      rw [if_pos rfl, h hp]
      show (if okLen acc.length = true then lcL vs bd cnd f ρ ts (acc ++ [g t]) else .stuck) = _
      rw [if_pos (by unfold okLen; simp at hl ⊢; omega), lcL_eq p g ts _ (by simp at hl ⊢; omega) fun t ht => hs t (List.mem_cons_of_mem _ ht)]
      simp [hp]
    | false =>
      rw [if_neg Bool.false_ne_true, lcL_eq p g ts _ (by simp at hl ⊢; omega) fun t ht => hs t (List.mem_cons_of_mem _ ht)]
      simp [hp]
theorem nLc_eq {vs : List Nat} {fi : Env' → M (List T)} {bd : T → Env' → Option Env'} {cnd : Env' → M Bool} {f : Env' → M T} {ts : List T} (p : T → Bool) (g : T → T) (h : fi ρ = .ret ts) (no : noOwnB vs ρ = true) (hl : ts.length ≤ 1000000)
    (hs : ∀ t ∈ ts, ∃ ρ1, bd t (wipeE ρ vs) = some ρ1 ∧ cnd ρ1 = .ret (p t) ∧ (p t = true → f ρ1 = .ret (g t))) : nLc vs fi bd cnd f ρ = .ret ((ts.filter p).map g) := by
  unfold nLc
  rw [h]
  show (if noOwnB vs ρ = true then lcL vs bd cnd f ρ ts [] else .stuck) = _
  rw [if_pos no, lcL_eq p g ts [] (by simpa using hl) hs]
  rfl
end
theorem tk_draw {k : Int} (h0 : 0 < k) (h1 : k ≤ 1000000) : Tk (drawM [.int k]) 1 (fun t => ∃ d, t = .int d ∧ 0 ≤ d ∧ d < k) := by
  have hf : fit k = true := by
    unfold fit
    have : k.natAbs.log2 < 8000 := by
      have h : k.natAbs.log2 < 20 := (Nat.log2_lt (by omega)).mpr (by omega)
      omega
    simpa using this
  show Tk (if fit k = true then M.draw k fun d => M.ret (T.int d) else M.stuck) _ _
  rw [if_pos hf]
  exact Tk.draw h0 fun d h1 h2 => Tk.ret ⟨d, rfl, h1, h2⟩
end DP
end
section
set_option Elab.async false
set_option linter.all false
set_option maxRecDepth 100000
namespace Tw
open PySem PySem.Spec PyProof.Rows L2 DP
variable {cA : Str → Addr}
theorem erase_perm {α : Type} : ∀ {l : List α} {i : Nat} (h : i < l.length), (l[i] :: l.eraseIdx i).Perm l
  | _ :: _, 0, _ => .refl _
  | a :: l, i + 1, h => by
    have h' : i < l.length := by simpa using h
    exact (List.Perm.swap a l[i] (l.eraseIdx i)).trans ((erase_perm h').cons a)
theorem tk_pick {xs : List T} (h0 : xs ≠ []) (hl : xs.length ≤ 1000000) : Tk (m__law_pick cA [.lst xs]) 1 (fun t => t ∈ xs) := by
  have hp : 0 < xs.length := List.length_pos_iff.mpr h0
  refine (Tk.fn (Tk.sRet (Tk.e2 (n3 := 0) (A := fun p => p = (true, xs)) (B := fun t => ∃ d, t = .int d ∧ 0 ≤ d ∧ d < (xs.length : Int)) (Tk.pure rfl) (Tk.callS rfl (A := fun ts => ts = [.int xs.length]) (Tk.pure rfl) fun ts e => by rw [e]; exact tk_draw (by omega) (by omega)) fun p t hp ht => ?_))).le (by omega)
  obtain ⟨d, rfl, h1, h2⟩ := ht
  subst hp
  have e : atI xs d = some (xs[d.toNat]'(by omega)) := by
    unfold atI ixN
    rw [if_pos h1, if_pos h2]
    exact List.getElem?_eq_getElem (by omega)
  refine Tk.eq (a := xs[d.toNat]'(by omega)) ?_ (List.getElem_mem _)
  show (match atI xs d with | some t => M.ret t | none => M.stuck) = _
  rw [e]
/-- what is left and what is found are, together, what was there -/
def MixI (xs : List T) (i : Nat) (ρ : Env') : Prop := ∃ (l f : List T) (k : Sl), ρ = [.strm, .val (.lst xs), .own l, .own f, k] ∧ (f ++ l).Perm xs ∧ l.length + i = xs.length
theorem tk_mixed {xs : List T} (hl : xs.length ≤ 1000000) : Tk (m__law_mixed cA [.lst xs]) xs.length (fun t => ∃ ys, t = .lst ys ∧ ys.Perm xs) := by
  have hr : okR (xs.length : Int) = true := by unfold okR; simp; omega
  refine (Tk.fn ?_)
  refine (Tk.seq (n := 0) (n2 := 0 + 1 * xs.length + 0) (I := fun ρ => ρ = [.strm, .val (.lst xs), .own xs, .own [], .any]) (Tk.eq rfl ⟨_, rfl, rfl⟩) fun ρ' e => ?_).le (by omega)
  subst e
  refine Tk.seq (I := fun ρ' => MixI xs xs.length ρ') (n := 0 + 1 * xs.length) ((Tk.sFor (n := 0) (c := 1) (L := xs.length) (A := fun ts => ts.length = xs.length) (MixI xs) ?_ (fun ts h => Nat.le_of_eq h) ⟨xs, [], .any, rfl, by simp, rfl⟩ ?_).imp fun fl ⟨ρ', ts, e, h1, h2⟩ => ⟨ρ', e, by rw [h1] at h2; exact h2⟩) fun ρ' h => ?_
  · refine Tk.eq (a := (List.range (xs.length : Int).toNat).map fun k => T.int (0 + (k : Nat))) ?_ (by simp)
    show (if okR (xs.length : Int) = true then M.ret _ else M.stuck) = _
    rw [if_pos hr]
  · intro ts hts j t ρ ht ⟨l, f, k, e, pm, hj⟩
    subst e
    refine ⟨_, rfl, ?_⟩
    have hjl : j < ts.length := (List.getElem?_eq_some_iff.mp ht).1
    have lpos : 0 < l.length := by omega
    show Tk (if (ownL 3 [Sl.strm, .val (.lst xs), .own l, .own f, .val t]).isSome = true then _ else M.stuck) _ _
    rw [if_pos (by rfl)]
    refine (Tk.bind (n := 1 + 0) (n2 := 0) (P := fun p => ∃ (y : T) (l' : List T), p = (y, [Sl.strm, .val (.lst xs), .own l', .own f, .val t]) ∧ (y :: l').Perm l) ?_ fun p ⟨y, l', e, h⟩ => ?_).le (by omega)
    · show Tk (M.bind _ _) _ _
      refine Tk.bind (P := fun t => ∃ d, t = .int d ∧ 0 ≤ d ∧ d < (l.length : Int)) ?_ fun t2 ⟨d, e, h1, h2⟩ => ?_
      · exact (Tk.callS rfl (n := 0) (A := fun ts => ts = [.int l.length]) (Tk.pure rfl) fun ts e => by rw [e]; exact tk_draw (by omega) (by omega)).le (by omega)
      · subst e
        have hd : d.toNat < l.length := by omega
        have eg : l[d.toNat]? = some l[d.toNat] := List.getElem?_eq_getElem hd
        refine Tk.eq (a := (l[d.toNat], [Sl.strm, .val (.lst xs), .own (l.eraseIdx d.toNat), .own f, .val t])) ?_ ⟨_, _, rfl, (erase_perm hd)⟩
        show (match l[d.toNat]? with | some t => (if (decide (0 ≤ d) && okLen l.length) = true then M.ret (t, _) else M.stuck) | none => M.stuck) = _
        rw [eg]
        dsimp only
        rw [if_pos (by unfold okLen; simp; omega)]
        rfl
    · subst e
      have e2 : ownL 3 [Sl.strm, .val (.lst xs), .own l', .own f, .val t] = some f := rfl
      refine Tk.eq (a := Fl.next [Sl.strm, .val (.lst xs), .own l', .own (f ++ [y]), .val t]) ?_ ⟨_, rfl, l', f ++ [y], .val t, rfl, ?_, ?_⟩
      · have : f.length + l.length = xs.length := by have := pm.length_eq; simpa using this
        show (if okLen f.length = true then _ else M.stuck) = _
        rw [if_pos (by unfold okLen; simp; omega)]
        rfl
      · have h3 : (f ++ (y :: l')).Perm xs := (List.Perm.append_left f h).trans pm
        simpa using h3
      · have := h.length_eq
        simp at this
        omega
  · obtain ⟨l, f, k, e, pm, hj⟩ := h
    subst e
    have : l = [] := List.eq_nil_of_length_eq_zero (by omega)
    subst this
    exact Tk.eq rfl ⟨_, rfl, f, rfl, by simpa using pm⟩
end Tw
end
section
set_option Elab.async false
set_option linter.all false
set_option maxRecDepth 100000
namespace Tw
open PySem PySem.Spec PyProof.Rows L2 DP
variable {cA : Str → Addr}
theorem shaped_int (i : Int) : SeqAt.shaped (.int i) = true := by simp [SeqAt.shaped, PyData.canLay0, PyData.depth]
theorem eqT_int (i j : Int) : DP.eqT (.int i) (.int j) = .ret (.bl (decide (i = j))) := by
  unfold DP.eqT
  simp [dataT, shaped_int, PyData.eqv]
  by_cases h : i = j <;> simp [h]
theorem neT_int (i j : Int) : DP.neT (.int i) (.int j) = .ret (.bl (!decide (i = j))) := by
  unfold DP.neT
  simp [dataT, shaped_int, PyData.eqv]
  by_cases h : i = j <;> simp [h]
theorem Tk.eIf {n n2 : Nat} {ρ : Env'} {P : T → Prop} {cnd : Env' → M Bool} {f h : Env' → M T} {B : Bool → Prop} (hc : Tk (cnd ρ) n B) (k1 : B true → Tk (f ρ) n2 P) (k2 : B false → Tk (h ρ) n2 P) : Tk (eIf cnd f h ρ) (n + n2) P := Tk.bind hc fun b hb => by
  cases b with
  | true => rw [if_pos rfl]; exact k1 hb
  | false => rw [if_neg Bool.false_ne_true]; exact k2 hb
/-! ### kinds -/
theorem k_nl : kitB "NoneType" "list" = some false := by decide +kernel
theorem k_nt : kitB "NoneType" "tuple" = some false := by decide +kernel
theorem k_nd : kitB "NoneType" "dict" = some false := by decide +kernel
theorem k_nb : kitB "NoneType" "bool" = some false := by decide +kernel
theorem k_ni : kitB "NoneType" "int" = some false := by decide +kernel
theorem k_bl : kitB "bool" "list" = some false := by decide +kernel
theorem k_bt : kitB "bool" "tuple" = some false := by decide +kernel
theorem k_bd : kitB "bool" "dict" = some false := by decide +kernel
theorem k_bb : kitB "bool" "bool" = some true := by decide +kernel
theorem k_bi : kitB "bool" "int" = some true := by decide +kernel
theorem k_il : kitB "int" "list" = some false := by decide +kernel
theorem k_it : kitB "int" "tuple" = some false := by decide +kernel
theorem k_id : kitB "int" "dict" = some false := by decide +kernel
theorem k_ib : kitB "int" "bool" = some false := by decide +kernel
theorem k_ii : kitB "int" "int" = some true := by decide +kernel
theorem k_sl : kitB "str" "list" = some false := by decide +kernel
theorem k_st : kitB "str" "tuple" = some false := by decide +kernel
theorem k_sd : kitB "str" "dict" = some false := by decide +kernel
theorem k_sb : kitB "str" "bool" = some false := by decide +kernel
theorem k_si : kitB "str" "int" = some false := by decide +kernel
theorem k_tl : kitB "tuple" "list" = some false := by decide +kernel
theorem k_tt : kitB "tuple" "tuple" = some true := by decide +kernel
theorem k_td : kitB "tuple" "dict" = some false := by decide +kernel
theorem k_tb : kitB "tuple" "bool" = some false := by decide +kernel
theorem k_ti : kitB "tuple" "int" = some false := by decide +kernel
theorem k_ll : kitB "list" "list" = some true := by decide +kernel
theorem k_lt : kitB "list" "tuple" = some false := by decide +kernel
theorem k_ld : kitB "list" "dict" = some false := by decide +kernel
theorem k_lb : kitB "list" "bool" = some false := by decide +kernel
theorem k_li : kitB "list" "int" = some false := by decide +kernel
theorem k_dl : kitB "dict" "list" = some false := by decide +kernel
theorem k_dt : kitB "dict" "tuple" = some false := by decide +kernel
theorem k_dd : kitB "dict" "dict" = some true := by decide +kernel
theorem k_db : kitB "dict" "bool" = some false := by decide +kernel
theorem k_di : kitB "dict" "int" = some false := by decide +kernel
/-- a list or a tuple of these -/
def SeqOf (t : T) (ys : List T) : Prop := t = .lst ys ∨ t = .tup ys
theorem isi2_seq {t : T} {ys : List T} (h : SeqOf t ys) : isiT2 "list" "tuple" t = .ret (.bl true) := by
  rcases h with rfl | rfl
  · unfold isiT2
    simp only [tyName, k_ll, k_lt, Bool.or_false]
  · unfold isiT2
    simp only [tyName, k_tl, k_tt, Bool.or_true]
theorem isi2_flat {t : T} (h : t = .non ∨ (∃ b, t = .bl b) ∨ (∃ i, t = .int i) ∨ (∃ x, t = .str x) ∨ ∃ kvs, t = .dct kvs) : isiT2 "list" "tuple" t = .ret (.bl false) := by
  unfold isiT2
  rcases h with rfl | ⟨b, rfl⟩ | ⟨i, rfl⟩ | ⟨x, rfl⟩ | ⟨k, rfl⟩
  · simp only [tyName, k_nl, k_nt, Bool.or_false]
  · simp only [tyName, k_bl, k_bt, Bool.or_false]
  · simp only [tyName, k_il, k_it, Bool.or_false]
  · simp only [tyName, k_sl, k_st, Bool.or_false]
  · simp only [tyName, k_dl, k_dt, Bool.or_false]
theorem items_seq {t : T} {ys : List T} (h : SeqOf t ys) : itemsT t = .ret ys := by rcases h with rfl | rfl <;> rfl
theorem tk_loose_seq {rec : List T → M T} {t : T} {xs : List T} {c : Nat} (R : T → T → Prop) (ht : SeqOf t xs) (hl : xs.length ≤ 1000000) (hx : ∀ x ∈ xs, Tk (rec [x]) c (R x)) :
    Tk (fnM true 4 (G__law_loose cA rec) [t]) (c * xs.length + 1) (fun u => ∃ ys, SeqOf u ys ∧ Paired R xs ys) := by
  refine Tk.fn ?_
  show Tk (sSeq _ _ [.strm, .val t, .any, .any]) _ _
  unfold sSeq
  refine (Tk.bind (n := 0 + (c * xs.length + 1)) (n2 := 0) (P := fun fl => ∃ u, fl = .ret u ∧ ∃ ys, SeqOf u ys ∧ Paired R xs ys) ?_ fun fl ⟨u, e, h⟩ => by rw [e]; exact Tk.ret ⟨u, rfl, h⟩).le (by omega)
  refine Tk.if_ (B := fun b => b = true) (Tk.eq (a := true) ?_ rfl) (fun _ => ?_) fun h => nomatch h
  · show (isiT2 "list" "tuple" t).bind boolT = _
    rw [isi2_seq ht]
    rfl
  refine Tk.seq (n := c * xs.length) (n2 := 1) (I := fun ρ' => ∃ ys, Paired R xs ys ∧ ρ' = [.strm, .val t, .val (.lst ys), .any]) ?_ fun ρ' ⟨ys, hp, e⟩ => ?_
  · refine (Tk.sSet (P := fun u => ∃ ys, u = .lst ys ∧ Paired R xs ys) ?_).imp fun fl ⟨ρ', e, u, ⟨ys, eu, hp⟩, er⟩ => ⟨ρ', e, ys, hp, by rw [er, eu]; rfl⟩
    refine (Tk.e1 (n2 := 0) (Tk.nLc R (ts := xs) (c := c) ?_ rfl hl fun x hx' => ⟨_, rfl, rfl, ?_⟩) fun ys hp => Tk.ret ⟨ys, rfl, hp⟩)
    · show (M.ret t).bind itemsT = _
      exact items_seq ht
    · exact (Tk.callS rfl (n := 0) (A := fun ts => ts = [x]) (Tk.pure rfl) fun ts e => by rw [e]; exact hx x hx').le (by omega)
  · subst e
    refine Tk.sRet ?_
    refine (Tk.eIf (n := 1) (n2 := 0) (B := fun _ => True) ?_ (fun _ => Tk.eq rfl ⟨ys, .inl rfl, hp⟩) fun _ => Tk.eq rfl ⟨ys, .inr rfl, hp⟩)
    refine (Tk.e1 (n := 1) (n2 := 0) (A := fun u => ∃ b, u = .bl b) (Tk.e2 (n1 := 1) (n2 := 0) (n3 := 0) (A := fun u => ∃ d, u = .int d) (B := fun u => u = T.int 0) ?_ (Tk.eq (a := T.int 0) rfl rfl) fun a b ⟨d, e⟩ e2 => ?_) fun u ⟨b, e⟩ => by rw [e]; exact Tk.ret trivial)
    · exact (Tk.callS rfl (n := 0) (A := fun ts => ts = [.int 2]) (Tk.pure rfl) fun ts e => by rw [e]; exact (tk_draw (by decide) (by decide)).imp fun u ⟨d, e, _⟩ => ⟨d, e⟩).le (by omega)
    · subst e e2
      exact Tk.eq (eqT_int d 0) ⟨_, rfl⟩
theorem loose_int {rec : List T → M T} (i : Int) : fnM true 4 (G__law_loose cA rec) [.int i] = .ret (.int i) := by
  show M.bind ((M.bind (M.bind (M.bind (isiT2 "list" "tuple" (.int i)) boolT) _) _)) _ = _
  rw [isi2_flat (.inr (.inr (.inl ⟨i, rfl⟩)))]
  rfl
theorem paired_int {xs : List Int} {ys : List T} (h : Paired (fun x y => y = x) (xs.map T.int) ys) : ys = xs.map T.int := by
  generalize e : xs.map T.int = zs at h
  clear e
  induction h with
  | nil => rfl
  | cons r _ ih => rw [r, ih]
theorem tk_loose_ints {n : Nat} {t : T} {xs : List Int} (ht : SeqOf t (xs.map T.int)) (hl : xs.length ≤ 1000000) : Tk (m__law_loose cA (n + 2) [t]) 1 (fun u => SeqOf u (xs.map T.int)) := by
  refine (tk_loose_seq (cA := cA) (rec := m__law_loose cA (n + 1)) (c := 0) (fun x y => y = x) ht (by simpa using hl) fun x hx => ?_).mono (by omega) fun u ⟨ys, h1, h2⟩ => by rw [paired_int h2] at h1; exact h1
  obtain ⟨i, _, rfl⟩ := List.mem_map.mp hx
  exact Tk.pure (loose_int (cA := cA) (rec := m__law_loose cA n) i)
/-- rows of ints, told loosely -/
def RowOf (x y : T) : Prop := ∃ k : List Int, x = iT k ∧ SeqOf y (k.map T.int)
theorem tk_loose_rows {n : Nat} {t : T} {ks : List (List Int)} (ht : SeqOf t (ks.map iT)) (hl : ks.length ≤ 1000000) (hk : ∀ k ∈ ks, k.length ≤ 1000000) : Tk (m__law_loose cA (n + 3) [t]) (ks.length + 1) (fun u => ∃ ys, SeqOf u ys ∧ Paired RowOf (ks.map iT) ys) := by
  refine (tk_loose_seq (cA := cA) (rec := m__law_loose cA (n + 2)) (c := 1) RowOf ht (by simpa using hl) fun x hx => ?_).le (by simp)
  obtain ⟨k, hk', rfl⟩ := List.mem_map.mp hx
  exact (tk_loose_ints (.inr rfl) (hk k hk')).imp fun u h => ⟨k, rfl, h⟩
end Tw
end
section
set_option Elab.async false
set_option linter.all false
set_option maxRecDepth 100000
namespace DP
open PySem PySem.Spec PyProof.Rows L2
/-! ### what draws nothing, part by part -/
section
variable {ρ ρ' : Env'} {α β γ : Type} {a : α} {b : β} {c : γ} {t u : T} {ts us : List T} {cb cc : Bool} {i : Nat}
theorem v_var {x : T} (h : ρ[i]? = some (.val x)) : eV i ρ = .ret x := by unfold eV; rw [h]
theorem v_seq {p : Bool × List T} (h : ρ[i]? = some (.val t)) (hp : seqT t = .ret p) : eVS i ρ = .ret p := by unfold eVS; rw [h]; exact hp
theorem v_own (h : ρ[i]? = some (.own ts)) : eVS i ρ = .ret (true, ts) := by unfold eVS; rw [h]
theorem v_c : eC t ρ = .ret t := rfl
theorem v_1 {k : α → M β} {f : Env' → M α} (h : f ρ = .ret a) (hk : k a = .ret b) : e1 k f ρ = .ret b := by unfold e1; rw [h]; exact hk
theorem v_2 {k : α → β → M γ} {f : Env' → M α} {g : Env' → M β} (h : f ρ = .ret a) (h2 : g ρ = .ret b) (hk : k a b = .ret c) : e2 k f g ρ = .ret c := by
  unfold e2; rw [h]; show (g ρ).bind (k a) = _; rw [h2]; exact hk
theorem v_nil : aNil ρ = .ret [] := rfl
theorem v_cons {f : Env' → M T} {fs : Env' → M (List T)} (h : f ρ = .ret t) (h2 : fs ρ = .ret ts) : aCons f fs ρ = .ret (t :: ts) := v_2 h h2 rfl
theorem v_call {m : List T → M T} {f : Env' → M (List T)} (h : f ρ = .ret ts) (hm : m ts = .ret t) : eCall m f ρ = .ret t := by unfold eCall; rw [h]; exact hm
theorem v_tup {f : Env' → M (List T)} (h : f ρ = .ret ts) (hl : ts.length ≤ 1000000) : eTup f ρ = .ret (.tup ts) := by
  unfold eTup; rw [h]; show (if okLen ts.length = true then M.ret (T.tup ts) else .stuck) = _; rw [if_pos (by unfold okLen; simpa using hl)]
theorem v_lst {f : Env' → M (List T)} (h : f ρ = .ret ts) (hl : ts.length ≤ 1000000) : nLst f ρ = .ret ts := by
  unfold nLst; rw [h]; show (if okLen ts.length = true then M.ret ts else .stuck) = _; rw [if_pos (by unfold okLen; simpa using hl)]
theorem v_lstT {f : Env' → M (List T)} (h : f ρ = .ret ts) : e1 lstT f ρ = .ret (.lst ts) := v_1 h rfl
theorem v_bool {f : Env' → M T} (h : f ρ = .ret (.bl cb)) : e1 boolT f ρ = .ret cb := v_1 h rfl
theorem v_not {f : Env' → M Bool} (h : f ρ = .ret cb) : eNot f ρ = .ret (!cb) := by unfold eNot; rw [h]; rfl
theorem v_orT {f g : Env' → M Bool} (h : f ρ = .ret true) : eOr f g ρ = .ret true := by unfold eOr; rw [h]; rfl
theorem v_orF {f g : Env' → M Bool} (h : f ρ = .ret false) (h2 : g ρ = .ret cc) : eOr f g ρ = .ret cc := by unfold eOr; rw [h]; exact h2
theorem v_andT {f g : Env' → M Bool} (h : f ρ = .ret true) (h2 : g ρ = .ret cc) : eAnd f g ρ = .ret cc := by unfold eAnd; rw [h]; exact h2
theorem v_andF {f g : Env' → M Bool} (h : f ρ = .ret false) : eAnd f g ρ = .ret false := by unfold eAnd; rw [h]; rfl
theorem v_andVT {f g : Env' → M T} (h : f ρ = .ret (.bl true)) (h2 : g ρ = .ret t) : eAndV f g ρ = .ret t := by unfold eAndV; rw [h]; exact h2
theorem v_andVF {f g : Env' → M T} (h : f ρ = .ret (.bl false)) : eAndV f g ρ = .ret (.bl false) := by unfold eAndV; rw [h]; rfl
theorem v_notV {f : Env' → M T} (h : f ρ = .ret (.bl cb)) : eNotV f ρ = .ret (.bl (!cb)) := by unfold eNotV; rw [h]; rfl
theorem v_ifT {q : Env' → M Bool} {f g : Env' → M T} (h : q ρ = .ret true) (h2 : f ρ = .ret t) : eIf q f g ρ = .ret t := by unfold eIf; rw [h]; exact h2
theorem v_ifF {q : Env' → M Bool} {f g : Env' → M T} (h : q ρ = .ret false) (h2 : g ρ = .ret t) : eIf q f g ρ = .ret t := by unfold eIf; rw [h]; exact h2
variable {fl : Fl} {G1 G2 : Env' → M Fl}
theorem g_seq (h : G1 ρ = .ret (.next ρ')) (h2 : G2 ρ' = .ret fl) : sSeq G1 G2 ρ = .ret fl := by unfold sSeq; rw [h]; exact h2
theorem g_seqR (h : G1 ρ = .ret (.ret t)) : sSeq G1 G2 ρ = .ret (.ret t) := by unfold sSeq; rw [h]; rfl
theorem g_ifT {q : Env' → M Bool} (h : q ρ = .ret true) (h2 : G1 ρ = .ret fl) : sIf q G1 G2 ρ = .ret fl := by unfold sIf; rw [h]; exact h2
theorem g_ifF {q : Env' → M Bool} (h : q ρ = .ret false) (h2 : G2 ρ = .ret fl) : sIf q G1 G2 ρ = .ret fl := by unfold sIf; rw [h]; exact h2
theorem g_ret {f : Env' → M T} (h : f ρ = .ret t) : sRet f ρ = .ret (.ret t) := by unfold sRet; rw [h]; rfl
theorem g_set {f : Env' → M T} (h : f ρ = .ret t) : sSet i f ρ = .ret (.next (ρ.set i (.val t))) := by unfold sSet; rw [h]; rfl
theorem g_fn {st : Bool} {n : Nat} {G : Env' → M Fl} (h : G (start' st n ts) = .ret (.ret t)) : fnM st n G ts = .ret t := by unfold fnM; rw [h]; rfl
theorem g_for {fi : Env' → M (List T)} {bd : T → Env' → Option Env'} {G : Env' → M Fl} (h : fi ρ = .ret ts) (h2 : forL bd G ts ρ = .ret fl) : sFor fi bd G ρ = .ret fl := by unfold sFor; rw [h]; exact h2
theorem g_asg {f : Env' → M T} {bd : T → Env' → Option Env'} (h : f ρ = .ret t) (h2 : bd t ρ = some ρ') : sAsg f bd ρ = .ret (.next ρ') := by unfold sAsg; rw [h]; show (match bd t ρ with | some ρ' => M.ret (Fl.next ρ') | none => .stuck) = _; rw [h2]
theorem Tk.out {α : Type} {m : M α} {P : α → Prop} (h : Tk m 0 P) : ∃ a, m = .ret a ∧ P a := by
  have h := h.go 0 (fun _ a => P a) (fun _ _ _ => False) (Nat.le_refl _) fun _ _ _ p => p
  cases m with
  | ret a => exact ⟨a, rfl, h⟩
  | draw n k => exact absurd h.2.1 (Nat.lt_irrefl _)
  | exc _ _ => exact h.elim
  | stuck => exact h.elim
end
end DP
end
section
set_option Elab.async false
set_option linter.all false
set_option maxRecDepth 100000
namespace Tw
open PySem PySem.Spec PyProof.Rows L2 DP
variable {cA : Str → Addr}
theorem isi_int (i : Int) : isiT "int" (.int i) = .ret (.bl true) := by unfold isiT; simp only [tyName, k_ii]
theorem isb_int (i : Int) : isiT "bool" (.int i) = .ret (.bl false) := by unfold isiT; simp only [tyName, k_ib]
theorem isi_bl (i : Bool) : isiT "int" (.bl i) = .ret (.bl true) := by unfold isiT; simp only [tyName, k_bi]
theorem isb_bl (i : Bool) : isiT "bool" (.bl i) = .ret (.bl true) := by unfold isiT; simp only [tyName, k_bb]
/-- what is no integer, and no bool -/
def Odd (t : T) : Prop := t = .non ∨ (∃ x, t = .str x) ∨ (∃ ys, t = .lst ys) ∨ (∃ ys, t = .tup ys) ∨ ∃ kvs, t = .dct kvs
theorem isi_odd {t : T} (h : Odd t) : isiT "int" t = .ret (.bl false) := by
  rcases h with rfl | ⟨x, rfl⟩ | ⟨x, rfl⟩ | ⟨x, rfl⟩ | ⟨x, rfl⟩
  · unfold isiT; simp only [tyName, k_ni]
  · unfold isiT; simp only [tyName, k_si]
  · unfold isiT; simp only [tyName, k_li]
  · unfold isiT; simp only [tyName, k_ti]
  · unfold isiT; simp only [tyName, k_di]
theorem integer_int (i : Int) : m_is_integer cA [.int i] = .ret (.bl true) := by kernel_rfl
theorem integer_bl (i : Bool) : m_is_integer cA [.bl i] = .ret (.bl false) := by cases i <;> kernel_rfl
theorem integer_odd {t : T} (h : Odd t) : m_is_integer cA [t] = .ret (.bl false) := g_fn (g_ret (v_andVF (v_1 (v_var rfl) (isi_odd h))))
theorem number_int (i : Int) : m_is_number cA [.int i] = .ret (.bl (decide (0 ≤ i))) := by
  show M.bind (M.bind (M.bind (m_is_integer cA [.int i]) fun t => (boolT t).bind fun c => if c = true then _ else _) _) _ = _
  rw [integer_int]
  rfl
theorem number_not {t : T} (h : m_is_integer cA [t] = .ret (.bl false)) : m_is_number cA [t] = .ret (.bl false) := by
  show M.bind (M.bind (M.bind (m_is_integer cA [t]) fun t => (boolT t).bind fun c => if c = true then _ else _) _) _ = _
  rw [h]
  rfl
theorem index_int (i n : Int) : m_is_index cA [.int i, .int n] = .ret (.bl (decide (0 ≤ i) && decide (i < n))) := by
  show M.bind (M.bind (M.bind (m_is_number cA [.int i]) fun t => (boolT t).bind fun c => if c = true then _ else _) _) _ = _
  rw [number_int]
  by_cases h : 0 ≤ i
  · rw [decide_eq_true h]; rfl
  · rw [decide_eq_false h]; rfl
theorem index_not {t : T} {n : Int} (h : m_is_integer cA [t] = .ret (.bl false)) : m_is_index cA [t, .int n] = .ret (.bl false) := by
  show M.bind (M.bind (M.bind (m_is_number cA [t]) fun t => (boolT t).bind fun c => if c = true then _ else _) _) _ = _
  rw [number_not h]
  rfl
theorem count_int (i : Int) : m_is_count cA [.int i] = .ret (.bl (decide (1 ≤ i))) := by
  show M.bind (M.bind (M.bind (m_is_integer cA [.int i]) fun t => (boolT t).bind fun c => if c = true then _ else _) _) _ = _
  rw [integer_int]
  rfl
theorem list_seq {t : T} {ys : List T} (h : SeqOf t ys) : m_is_list cA [t] = .ret (.bl true) := by
  have e : isiO2 (cA "Net") "list" "tuple" t = isiT2 "list" "tuple" t := by rcases h with rfl | rfl <;> rfl
  show M.bind (M.bind (isiO2 (cA "Net") "list" "tuple" t) _) _ = _
  rw [e, isi2_seq h]
  rfl
theorem list_flat {t : T} (h : t = .non ∨ (∃ b, t = .bl b) ∨ (∃ i, t = .int i) ∨ (∃ x, t = .str x) ∨ ∃ kvs, t = .dct kvs) : m_is_list cA [t] = .ret (.bl false) := by
  have e : isiO2 (cA "Net") "list" "tuple" t = isiT2 "list" "tuple" t := by rcases h with rfl | ⟨_, rfl⟩ | ⟨_, rfl⟩ | ⟨_, rfl⟩ | ⟨_, rfl⟩ <;> rfl
  show M.bind (M.bind (isiO2 (cA "Net") "list" "tuple" t) _) _ = _
  rw [e, isi2_flat h]
  rfl
theorem list_obj {fs : List (Str × T)} : m_is_list cA [.obj (cA "Net") fs] = .ret (.bl false) := by
  show M.bind (M.bind (if cA "Net" = cA "Net" then M.ret (T.bl false) else M.stuck) _) _ = _
  rw [if_pos rfl]
  rfl
/-- a road between these places -/
structure RoadOk (p : Int) (k : List Int) : Prop where
  ex : ∃ a b l w : Int, k = [a, b, l, w] ∧ 0 ≤ a ∧ a < p ∧ 0 ≤ b ∧ b < p ∧ a ≠ b ∧ 1 ≤ l ∧ 1 ≤ w ∧ l ≤ 60 ∧ w ≤ 60
theorem road_ok {p : Int} {k : List Int} {y : T} (h : RoadOk p k) (hy : SeqOf y (k.map T.int)) : m_is_road cA [.int p, y] = .ret (.bl true) := by
  obtain ⟨a, b, l, w, rfl, h1, h2, h3, h4, h5, h6, h7, _⟩ := h.ex
  have hl := list_seq (cA := cA) hy
  have i1 := index_int (cA := cA) a p
  have i2 := index_int (cA := cA) b p
  rw [decide_eq_true h1, decide_eq_true h2] at i1
  rw [decide_eq_true h3, decide_eq_true h4] at i2
  have c1 := count_int (cA := cA) l
  have c2 := count_int (cA := cA) w
  rw [decide_eq_true h6] at c1
  rw [decide_eq_true h7] at c2
  have ne := neT_int a b
  rw [decide_eq_false h5] at ne
  have go : ∀ p0, seqT y = .ret (p0, [a, b, l, w].map T.int) → m_is_road cA [.int p, y] = .ret (.bl true) := fun p0 hs =>
    have vs : eVS 1 [.val (.int p), .val y] = .ret (p0, [a, b, l, w].map T.int) := v_seq rfl hs
    g_fn (g_seq (ρ' := [.val (.int p), .val y]) (g_ifF (v_orF (v_not (v_bool (v_call (v_cons (v_var rfl) v_nil) hl))) (v_bool (v_2 (v_1 vs rfl) v_c (neT_int 4 4)))) rfl)
      (g_seq (ρ' := [.val (.int p), .val y]) (g_ifF (v_orF (v_not (v_bool (v_call (v_cons (v_2 vs v_c rfl) (v_cons (v_var rfl) v_nil)) i1))) (v_not (v_bool (v_call (v_cons (v_2 vs v_c rfl) (v_cons (v_var rfl) v_nil)) i2)))) rfl)
      (g_ret (v_andVT (v_2 (v_2 vs v_c rfl) (v_2 vs v_c rfl) ne) (v_andVT (v_call (v_cons (v_2 vs v_c rfl) v_nil) c1) (v_call (v_cons (v_2 vs v_c rfl) v_nil) c2))))))
  rcases hy with rfl | rfl
  · exact go true rfl
  · exact go false rfl
end Tw
end
section
set_option Elab.async false
set_option linter.all false
set_option maxRecDepth 100000
namespace Tw
open PySem PySem.Spec PyProof.Rows L2 DP
variable {cA : Str → Addr}
theorem intsT_map : ∀ k : List Int, intsT (k.map T.int) = some k
  | [] => rfl
  | i :: k => by show (intsT (k.map T.int)).map (i :: ·) = _; rw [intsT_map k]; rfl
theorem tupsT_map : ∀ ks : List (List Int), tupsT (ks.map iT) = some ks
  | [] => rfl
  | k :: ks => by
    show (match tupI (iT k), tupsT (ks.map iT) with | some k, some ks => some (k :: ks) | _, _ => none) = _
    rw [tupsT_map ks, show tupI (iT k) = some k from intsT_map k]
theorem int_inj {k k' : List Int} (h : k.map T.int = k'.map T.int) : k = k' := by
  have := congrArg intsT h
  rw [intsT_map, intsT_map] at this
  exact Option.some.inj this
theorem iT_inj {k k' : List Int} (h : iT k = iT k') : k = k' := int_inj (T.tup.inj h)
theorem enum_get {ys : List T} {j : Nat} {t : T} (h : (enumL ys)[j]? = some t) : ∃ y, ys[j]? = some y ∧ t = .tup [.int (j : Nat), y] := by
  unfold enumL at h
  rw [List.getElem?_mapIdx] at h
  cases e : ys[j]? with
  | none => rw [e] at h; cases h
  | some y => rw [e] at h; cases h; exact ⟨y, rfl, rfl⟩
theorem fresh_at {α : Type} {ks : List α} {j : Nat} {k : α} (nd : ks.Nodup) (h : ks[j]? = some k) : k ∉ ks.take j := fun hm => by
  obtain ⟨hj, e⟩ := List.getElem?_eq_some_iff.mp h
  have split := List.take_append_drop j ks
  rw [List.drop_eq_getElem_cons hj, e] at split
  rw [← split] at nd
  exact (List.nodup_append.mp nd).2.2 k hm k List.mem_cons_self rfl
theorem take_rev {α : Type} {ks : List α} {j : Nat} {k : α} (h : ks[j]? = some k) : (ks.take (j + 1)).reverse = k :: (ks.take j).reverse := by
  rw [List.take_add_one, h]
  simp
def ToldI (p : Int) (t : T) (ks : List (List Int)) (j : Nat) (ρ : Env') : Prop := ∃ x y, ρ = [.val (.int p), .val t, .ownS (ks.take j).reverse, x, y]
theorem told_ok {p : Int} {t : T} {ys : List T} {ks js : List (List Int)} (ht : SeqOf t ys) (hp : Paired RowOf (ks.map iT) ys) (ok : ∀ k ∈ ks, RoadOk p k) (nd : ks.Nodup) (hl : ks.length < 60) (hs : sortK ks.reverse = some js) :
    m_told_roads cA [.int p, t] = .ret (.lst (js.map iT)) := by
  have len : ys.length = ks.length := by
    have : ∀ {xs ys : List T}, Paired RowOf xs ys → ys.length = xs.length := fun h => by
      induction h with
      | nil => rfl
      | cons _ _ ih => simp [ih]
    rw [this hp]; simp
  have he : enumB [t] = .ret (enumL ys) := by rcases ht with rfl | rfl <;> rfl
  have loop := Tk.out ((Tk.forL (c := 0) (bd := bTup (bCons (bName 3) (bCons (bName 4) bNil))) (G := (sSeq (sIf (eOr (eNot (e1 boolT (eCall (m_is_road cA) (aCons (eV 0) (aCons (eV 4) aNil))))) (e1 boolT (eInS false 2 (e1 tupT (eVS 4))))) (sRaise "BadRoads" (eV 3)) sNext)
      (sAddS 2 (e1 tupT (eVS 4))))) (ToldI p t ks) (enumL ys) 0 [.val (.int p), .val t, .ownS [], .any, .any] ⟨_, _, rfl⟩ fun j it ρ hit hI => ?_).le (by simp))
  · obtain ⟨fl, e, ρ', rfl, x, y, rfl⟩ := loop
    refine g_fn (g_seq (ρ' := [.val (.int p), .val t, .any, .any, .any]) (g_ifF (v_not (v_bool (v_call (v_cons (v_var rfl) v_nil) (list_seq ht)))) rfl) (g_seq (ρ' := [.val (.int p), .val t, .ownS [], .any, .any]) rfl
      (g_seq (g_for (v_1 (v_cons (v_var rfl) v_nil) he) e) (g_ret (v_lstT ?_)))))
    have : (ks.take (0 + (enumL ys).length)).reverse = ks.reverse := by rw [show (enumL ys).length = ks.length by simp [enumL, len]]; simp
    rw [this]
    show retK (sortK ks.reverse) = _
    rw [hs]
    rfl
  · rw [Nat.zero_add] at hI
    obtain ⟨x, y, rfl⟩ := hI
    obtain ⟨yj, hy, rfl⟩ := enum_get hit
    obtain ⟨xj, hx, k, rfl, hk⟩ := Paired.get1 hp hy
    have hkj : ks[j]? = some k := by
      rw [List.getElem?_map] at hx
      cases e : ks[j]? with
      | none => rw [e] at hx; cases hx
      | some k' => rw [e] at hx; rw [iT_inj (Option.some.inj hx)]
    have hmem := List.mem_of_getElem? hkj
    have tk : ∀ {ρ : Env'}, ρ[4]? = some (.val yj) → e1 tupT (eVS 4) ρ = .ret (iT k) := fun {ρ} h => by
      rcases hk with rfl | rfl
      · exact v_1 (v_seq h rfl) rfl
      · exact v_1 (v_seq h rfl) rfl
    have nin : k ∉ (ks.take j).reverse := by rw [List.mem_reverse]; exact fresh_at nd hkj
    generalize hseen : (ks.take j).reverse = seen at nin ⊢
    have big : seen.length + 1 < 64 := by rw [← hseen]; simp; omega
    have nxt : (ks.take (j + 1)).reverse = k :: seen := by rw [← hseen]; exact take_rev hkj
    have t1 : eInS false 2 (e1 tupT (eVS 4)) [.val (.int p), .val t, .ownS seen, .val (.int (j : Nat)), .val yj] = .ret (.bl false) := by
      unfold eInS
      rw [tk rfl]
      show (match tupI (iT k), some seen with | some k, some ks => M.ret (T.bl (if false = true then !decide (k ∈ ks) else decide (k ∈ ks))) | _, _ => M.stuck) = .ret (.bl false)
      rw [show tupI (iT k) = some k from intsT_map k]
      dsimp only
      rw [if_neg Bool.false_ne_true, decide_eq_false nin]
    have t2 : sAddS 2 (e1 tupT (eVS 4)) [.val (.int p), .val t, .ownS seen, .val (.int (j : Nat)), .val yj] = .ret (.next [.val (.int p), .val t, .ownS (k :: seen), .val (.int (j : Nat)), .val yj]) := by
      unfold sAddS
      show (M.bind (e1 tupT (eVS 4) _) _) = _
      rw [tk rfl]
      show (match tupI (iT k) with | some k => (if decide (seen.length + 1 < 64) = true then M.ret (Fl.next ([Sl.val (.int p), .val t, .ownS seen, .val (.int (j : Nat)), .val yj].set 2 (.ownS (if k ∈ seen then seen else k :: seen)))) else .stuck) | none => .stuck) = _
      rw [show tupI (iT k) = some k from intsT_map k]
      dsimp only
      rw [if_pos (decide_eq_true big), if_neg nin]
      rfl
    have t3 : (eNot (e1 boolT (eCall (m_is_road cA) (aCons (eV 0) (aCons (eV 4) aNil))))) [.val (.int p), .val t, .ownS seen, .val (.int (j : Nat)), .val yj] = .ret false := v_not (v_bool (v_call (v_cons (v_var rfl) (v_cons (v_var rfl) v_nil)) (road_ok (ok k hmem) hk)))
    have t4 : (sIf (eOr (eNot (e1 boolT (eCall (m_is_road cA) (aCons (eV 0) (aCons (eV 4) aNil))))) (e1 boolT (eInS false 2 (e1 tupT (eVS 4))))) (sRaise "BadRoads" (eV 3)) sNext) [.val (.int p), .val t, .ownS seen, .val (.int (j : Nat)), .val yj] = .ret (.next [.val (.int p), .val t, .ownS seen, .val (.int (j : Nat)), .val yj]) := g_ifF (v_orF t3 (v_bool t1)) rfl
    have key := g_seq t4 t2
    have fin : ToldI p t ks (j + 1) [.val (.int p), .val t, .ownS (k :: seen), .val (.int (j : Nat)), .val yj] := ⟨.val (.int (j : Nat)), .val yj, by rw [nxt]⟩
    rw [Nat.zero_add]
    refine ⟨[.val (.int p), .val t, .ownS seen, .val (.int (j : Nat)), .val yj], rfl, ?_⟩
    rw [key]
    exact Tk.ret ⟨_, rfl, fin⟩
/-- an instance of Net -/
def netT (cA : Str → Addr) (p : Int) (js : List (List Int)) (s e : Int) : T := .obj (cA "Net") [("_places", .int p), ("_roads", .lst (js.map iT)), ("_start", .int s), ("_end", .int e)]
theorem init_ok {p s e : Int} {t : T} {js : List (List Int)} (hp : 2 ≤ p) (hr : m_told_roads cA [.int p, t] = .ret (.lst (js.map iT))) (s0 : 0 ≤ s) (s1 : s < p) (e0 : 0 ≤ e) (e1' : e < p) (ne : s ≠ e) :
    m_Net____init__ cA [.int p, t, .int s, .int e] = .ret [("_places", .int p), ("_roads", .lst (js.map iT)), ("_start", .int s), ("_end", .int e)] := by
  have i1 := index_int (cA := cA) s p
  have i2 := index_int (cA := cA) e p
  rw [decide_eq_true s0, decide_eq_true s1] at i1
  rw [decide_eq_true e0, decide_eq_true e1'] at i2
  have q := eqT_int e s
  rw [decide_eq_false (Ne.symm ne)] at q
  have q1 : ∀ {ρ ρ' : Env'} {G1 : Env' → M Fl} {G2 : Env' → M (List (Str × T))} {us : List (Str × T)}, G1 ρ = .ret (.next ρ') → G2 ρ' = .ret us → qSeq G1 G2 ρ = .ret us := fun h h2 => by unfold qSeq; rw [h]; exact h2
  have hlt : DP.ltT (.int p) (.int 2) = .ret (.bl false) := by show M.ret (T.bl (decide (p < 2))) = _; rw [decide_eq_false (by omega)]
  show G_Net____init__ cA [.pin, .val (.int p), .val t, .val (.int s), .val (.int e), .any] = _
  unfold G_Net____init__
  refine q1 (ρ' := [.pin, .val (.int p), .val t, .val (.int s), .val (.int e), .any]) (g_ifF (v_orF (v_not (v_bool (v_call (v_cons (v_var rfl) v_nil) (integer_int p)))) (v_bool (v_2 (v_var rfl) v_c hlt))) rfl) ?_
  refine q1 (ρ' := [.pin, .val (.int p), .val t, .val (.int s), .val (.int e), .val (.lst (js.map iT))]) (g_set (v_call (v_cons (v_var rfl) (v_cons (v_var rfl) v_nil)) hr)) ?_
  refine q1 (ρ' := [.pin, .val (.int p), .val t, .val (.int s), .val (.int e), .val (.lst (js.map iT))]) (g_ifF (v_not (v_bool (v_call (v_cons (v_var rfl) (v_cons (v_var rfl) v_nil)) i1))) rfl) ?_
  refine q1 (ρ' := [.pin, .val (.int p), .val t, .val (.int s), .val (.int e), .val (.lst (js.map iT))]) (g_ifF (v_orF (v_not (v_bool (v_call (v_cons (v_var rfl) (v_cons (v_var rfl) v_nil)) i2))) (v_bool (v_2 (v_var rfl) (v_var rfl) q))) rfl) ?_
  rfl
end Tw
end
section
set_option Elab.async false
set_option linter.all false
set_option maxRecDepth 100000
namespace Tw
open PySem PySem.Spec PyProof.Rows L2 DP
variable {cA : Str → Addr}
/-! ### sorted roads -/
theorem foldmax_ge : ∀ (l : List Int) (a x : Int), (x = a ∨ x ∈ l) → x ≤ l.foldl max a
  | [], a, x, h => by rcases h with rfl | h; exact Int.le_refl _; simp at h
  | y :: l, a, x, h => by
    show x ≤ l.foldl max (max a y)
    rcases h with rfl | h
    · exact Int.le_trans (Int.le_max_left _ _) (foldmax_ge l _ _ (.inl rfl))
    · rcases List.mem_cons.mp h with rfl | h
      · exact Int.le_trans (Int.le_max_right _ _) (foldmax_ge l _ _ (.inl rfl))
      · exact foldmax_ge l _ _ (.inr h)
theorem foldmax_in : ∀ (l : List Int) (a : Int), l.foldl max a = a ∨ l.foldl max a ∈ l
  | [], a => .inl rfl
  | y :: l, a => by
    show l.foldl max (max a y) = a ∨ _
    rcases foldmax_in l (max a y) with h | h
    · rw [h]
      by_cases z : y ≤ a
      · exact .inl (Int.max_eq_left z)
      · exact .inr (by rw [List.foldl_cons, h, Int.max_eq_right (by omega)]; exact List.mem_cons_self)
    · exact .inr (List.mem_cons_of_mem _ h)
theorem foldmax_eq {l l' : List Int} (h : ∀ x, x ∈ l ↔ x ∈ l') : l.foldl max 0 = l'.foldl max 0 := by
  have go : ∀ {l l' : List Int}, (∀ x, x ∈ l ↔ x ∈ l') → l.foldl max 0 ≤ l'.foldl max 0 := fun {l l'} h => by
    rcases foldmax_in l 0 with e | e
    · rw [e]; exact foldmax_ge l' 0 0 (.inl rfl)
    · exact foldmax_ge l' 0 _ (.inr ((h _).mp e))
  exact Int.le_antisymm (go h) (go fun x => (h x).symm)
theorem topI_perm {ks ks' : List (List Int)} (h : ks.Perm ks') : topI ks = topI ks' := by
  unfold topI
  rw [foldmax_eq fun x => (List.mem_flatten.trans ⟨fun ⟨l, h1, h2⟩ => ⟨l, h.mem_iff.mp h1, h2⟩, fun ⟨l, h1, h2⟩ => ⟨l, h.mem_iff.mpr h1, h2⟩⟩).trans List.mem_flatten.symm]
theorem okC_rows {p : Int} {ks : List (List Int)} (h : ∀ k ∈ ks, RoadOk p k) : okC (dimI ks) (topI ks) ks = true := by
  have len : ∀ k ∈ ks, k.length = 4 := fun k hk => by obtain ⟨a, b, l, w, rfl, _⟩ := (h k hk).ex; rfl
  have d1 : 1 ≤ dimI ks := by
    unfold dimI
    cases ks with
    | nil => exact Nat.le_refl _
    | cons k ks => simp [len k List.mem_cons_self]
  unfold okC
  rw [Bool.and_eq_true, List.all_eq_true]
  refine ⟨decide_eq_true d1, fun k hk => ?_⟩
  have dk : dimI ks = 4 := by
    cases ks with
    | nil => simp at hk
    | cons k' ks => simp [dimI, len k' List.mem_cons_self]
  rw [Bool.and_eq_true, List.all_eq_true]
  refine ⟨decide_eq_true (by rw [len k hk, dk]), fun m hm => ?_⟩
  have m0 : 0 ≤ m := by
    obtain ⟨a, b, l, w, rfl, h1, h2, h3, h4, h5, h6, h7, _⟩ := (h k hk).ex
    simp at hm
    omega
  have := foldmax_ge ks.flatten 0 m (.inr (List.mem_flatten.mpr ⟨k, hk, hm⟩))
  rw [Bool.and_eq_true]
  refine ⟨decide_eq_true m0, decide_eq_true ?_⟩
  unfold topI
  omega
/-- the sorted roads are told by any order of them -/
def Srt (ks : List (List Int)) : Prop := ∀ us : List (List Int), us.Perm ks → sortK us = some ks
theorem sort_rows {p : Int} {ks : List (List Int)} (h : ∀ k ∈ ks, RoadOk p k) : ∃ js, sortK ks = some js ∧ js.Perm ks ∧ Srt js := by
  have e : ∀ us : List (List Int), us.Perm ks → sortK us = some (us.mergeSort (leC (topI us))) := fun us pm => by
    unfold sortK
    rw [if_pos (okC_rows (p := p) fun k hk => h k (pm.mem_iff.mp hk))]
  refine ⟨_, e ks (.refl _), List.mergeSort_perm _ _, fun us pm => ?_⟩
  have pm' := pm.trans (List.mergeSort_perm ks (leC (topI ks)))
  rw [e us pm']
  have t := topI_perm pm'
  rw [t]
  have ok : okC (dimI us) (topI ks) us = true := by rw [← t]; exact okC_rows (p := p) fun k hk => h k (pm'.mem_iff.mp hk)
  refine congrArg some (sort_uniq (ys := ks.mergeSort (leC (topI ks))) ok pm.symm ?_).symm
  refine (List.pairwise_mergeSort (le := leC (topI ks)) (fun a b c h1 h2 => ?_) (fun a b => ?_) ks).imp fun {a b} h => of_decide_eq_true h
  · have h1 := of_decide_eq_true h1
    have h2 := of_decide_eq_true h2
    exact decide_eq_true (by omega)
  · unfold leC
    rw [Bool.or_eq_true, decide_eq_true_eq, decide_eq_true_eq]
    omega
/-! ### drawn nets -/
structure NetOk (p s e : Int) (roads : List (List Int)) : Prop where
  p2 : 2 ≤ p
  p6 : p ≤ 6
  s0 : 0 ≤ s
  s1 : s < p
  e0 : 0 ≤ e
  e1 : e < p
  ne : s ≠ e
  rd : ∀ k ∈ roads, RoadOk p k
  nd : roads.Nodup
  few : roads.length ≤ 9
  srt : Srt roads
/-- the law's own net -/
def netV (p s e : Int) (roads : List (List Int)) : T := .tup [.int p, .lst (roads.map iT), .int s, .int e]
theorem ks_of {us : List T} {ks : List (List Int)} (h : us.Perm (ks.map iT)) : ∃ js : List (List Int), js.Perm ks ∧ us = js.map iT := reps_ks (K := []) (F := fun _ => none) h
theorem made_args {p s e : Int} {roads : List (List Int)} (N : NetOk p s e roads) :
    Tk ((aCons (eV 2) (aCons (eCallS 0 (m__law_loose cA 40) (aCons (eCallS 0 (m__law_mixed cA) (aCons (eV 3) aNil)) aNil)) (aCons (eV 4) (aCons (eV 5) aNil)))) [.strm, .val (netV p s e roads), .val (.int p), .val (.lst (roads.map iT)), .val (.int s), .val (.int e)]) 30
      (fun ts => ∃ u, ts = [.int p, u, .int s, .int e] ∧ ∃ (ks : List (List Int)) (ys : List T), ks.Perm roads ∧ SeqOf u ys ∧ Paired RowOf (ks.map iT) ys) := by
  have hl := N.few
  have a1 : Tk ((aCons (eV 3) aNil) [.strm, .val (netV p s e roads), .val (.int p), .val (.lst (roads.map iT)), .val (.int s), .val (.int e)]) 0 (fun ts => ts = [.lst (roads.map iT)]) := Tk.eq (v_cons (v_var rfl) v_nil) rfl
  have a2 : Tk ((eCallS 0 (m__law_mixed cA) (aCons (eV 3) aNil)) [.strm, .val (netV p s e roads), .val (.int p), .val (.lst (roads.map iT)), .val (.int s), .val (.int e)]) 9 (fun t => ∃ ks : List (List Int), ks.Perm roads ∧ t = .lst (ks.map iT)) := by
    refine (Tk.callS (n2 := 9) rfl a1 ?_).le (by decide)
    intro ts h
    rw [h]
    refine (tk_mixed (xs := roads.map iT) (by simp; omega)).mono (by simp; omega) ?_
    rintro t ⟨ys, h1, pm⟩
    obtain ⟨ks, p1, h2⟩ := ks_of pm
    exact ⟨ks, p1, by rw [h1, h2]⟩
  have a3 : Tk ((eCallS 0 (m__law_loose cA 40) (aCons (eCallS 0 (m__law_mixed cA) (aCons (eV 3) aNil)) aNil)) [.strm, .val (netV p s e roads), .val (.int p), .val (.lst (roads.map iT)), .val (.int s), .val (.int e)]) 19 (fun u => ∃ (ks : List (List Int)) (ys : List T), ks.Perm roads ∧ SeqOf u ys ∧ Paired RowOf (ks.map iT) ys) := by
    refine (Tk.callS (n2 := 10) rfl (Tk.cons a2 (n2 := 0) (A := fun ts => ts = []) (Tk.eq v_nil rfl)) ?_).le (by decide)
    rintro ts ⟨t, us, ⟨ks, pm, rfl⟩, rfl, rfl⟩
    refine (tk_loose_rows (n := 37) (t := .lst (ks.map iT)) (ks := ks) (.inl rfl) (by rw [pm.length_eq]; omega) ?_).mono (by rw [pm.length_eq]; omega) ?_
    · intro k hk
      obtain ⟨a, b, l, w, rfl, _⟩ := (N.rd k (pm.mem_iff.mp hk)).ex
      exact (by decide : 4 ≤ 1000000)
    · rintro u ⟨ys, h1, h2⟩
      exact ⟨ks, ys, pm, h1, h2⟩
  have a4 : Tk ((aCons (eV 4) (aCons (eV 5) aNil)) [.strm, .val (netV p s e roads), .val (.int p), .val (.lst (roads.map iT)), .val (.int s), .val (.int e)]) 0 (fun ts => ts = [.int s, .int e]) := Tk.eq (v_cons (v_var rfl) (v_cons (v_var rfl) v_nil)) rfl
  have a5 : Tk ((eV 2) [.strm, .val (netV p s e roads), .val (.int p), .val (.lst (roads.map iT)), .val (.int s), .val (.int e)]) 0 (fun t => t = .int p) := Tk.eq (v_var rfl) rfl
  refine (Tk.cons a5 (Tk.cons a3 a4)).mono (by decide) ?_
  rintro ts ⟨t, us, rfl, ⟨u, vs, h, rfl, rfl⟩, rfl⟩
  exact ⟨u, rfl, h⟩
theorem tk_made {p s e : Int} {roads : List (List Int)} (N : NetOk p s e roads) : Tk (m__law_made cA [netV p s e roads]) 30 (fun t => t = netT cA p roads s e) := by
  show Tk (fnM true 6 (G__law_made cA) [netV p s e roads]) 30 _
  refine Tk.fn ?_
  show Tk (G__law_made cA [.strm, .val (netV p s e roads), .any, .any, .any, .any]) (0 + 30) _
  unfold G__law_made
  refine Tk.seq (n := 0) (n2 := 30) (I := fun ρ => ρ = [.strm, .val (netV p s e roads), .val (.int p), .val (.lst (roads.map iT)), .val (.int s), .val (.int e)]) ?_ ?_
  · exact Tk.eq (g_asg (v_var rfl) rfl) ⟨_, rfl, rfl⟩
  intro ρ' h
  rw [h]
  refine Tk.sRet ?_
  refine Tk.bind (n := 30) (n2 := 0) (made_args N) ?_
  rintro ts ⟨u, rfl, ks, ys, pm, hu, hp⟩
  have told := told_ok (cA := cA) hu hp (fun k hk => N.rd k (pm.mem_iff.mp hk)) (pm.nodup_iff.mpr N.nd) (by rw [pm.length_eq]; have := N.few; omega) (N.srt ks.reverse ((List.reverse_perm ks).trans pm))
  have ini := init_ok N.p2 told N.s0 N.s1 N.e0 N.e1 N.ne
  refine Tk.eq (a := netT cA p roads s e) ?_ rfl
  rw [ini]
  rfl
end Tw
end
section
set_option Elab.async false
set_option linter.all false
set_option maxRecDepth 100000
namespace Tw
open PySem PySem.Spec PyProof.Rows L2 DP
variable {cA : Str → Addr}
/-! ### slices -/
theorem cut_from (ts : List T) (k : Nat) : cutT ts (some (k : Int)) none = ts.drop k := by
  unfold cutT
  rw [HT.sIx_nat, HT.sIx_none]
  by_cases h : k ≤ ts.length
  · rw [Nat.min_eq_left h, List.take_of_length_le (by simp)]
  · rw [Nat.min_eq_right (by omega)]
    simp
    omega
theorem cut_to (ts : List T) (k : Nat) : cutT ts none (some (k : Int)) = ts.take k := by
  unfold cutT
  rw [HT.sIx_nat, HT.sIx_none]
  simp
theorem v_slF {ρ : Env'} {f : Env' → M (Bool × List T)} {g : Env' → M T} {ts : List T} {k : Nat} (h : f ρ = .ret (true, ts)) (hg : g ρ = .ret (.int k)) : nSl f (oSome g) oNone ρ = .ret (ts.drop k) := by
  unfold nSl oSome oNone
  rw [h]
  show M.bind (M.bind (g ρ) _) _ = _
  rw [hg, ← cut_from]
  rfl
theorem v_slT {ρ : Env'} {f : Env' → M (Bool × List T)} {g : Env' → M T} {ts : List T} {k : Nat} (h : f ρ = .ret (true, ts)) (hg : g ρ = .ret (.int k)) : nSl f oNone (oSome g) ρ = .ret (ts.take k) := by
  unfold nSl oSome oNone
  rw [h]
  show M.bind (M.bind (g ρ) _) _ = _
  rw [hg, ← cut_to]
  rfl
theorem v_cat {ρ : Env'} {f g : Env' → M (Bool × List T)} {xs ys : List T} (h : f ρ = .ret (true, xs)) (h2 : g ρ = .ret (true, ys)) (hl : xs.length + ys.length ≤ 1000000) : e2 nCat f g ρ = .ret (xs ++ ys) := by
  refine v_2 h h2 ?_
  unfold nCat
  rw [if_pos]
  unfold okLen
  simpa using hl
theorem addT_int (i j : Int) : DP.addT (.int i) (.int j) = .ret (.int (i + j)) := rfl
/-- a drawn number, one more -/
theorem tk_one {ρ : Env'} {f : Env' → M T} {k : Int} (hs : ρ[0]? = some .strm) (hf : f ρ = .ret (.int k)) (h0 : 0 < k) (h1 : k ≤ 1000000) : Tk (e2 DP.addT (eC (.int 1)) (eCallS 0 (m__law_draw cA) (aCons f aNil)) ρ) 1 (fun t => ∃ d, t = .int d ∧ 1 ≤ d ∧ d ≤ k) := by
  refine (Tk.e2 (n1 := 0) (n2 := 1) (n3 := 0) (A := fun t => t = .int 1) (B := fun t => ∃ d, t = .int d ∧ 0 ≤ d ∧ d < k) (Tk.eq v_c rfl) ?_ ?_).le (by decide)
  · refine (Tk.callS (n := 0) (n2 := 1) hs (A := fun ts => ts = [.int k]) (Tk.eq (v_cons hf v_nil) rfl) ?_).le (by decide)
    rintro ts rfl
    exact tk_draw h0 h1
  · rintro a b rfl ⟨d, rfl, h2, h3⟩
    exact Tk.eq (addT_int 1 d) ⟨1 + d, rfl, by omega, by omega⟩
theorem tk_d {ρ : Env'} {f : Env' → M T} {k : Int} (hs : ρ[0]? = some .strm) (hf : f ρ = .ret (.int k)) (h0 : 0 < k) (h1 : k ≤ 1000000) : Tk (eCallS 0 (m__law_draw cA) (aCons f aNil) ρ) 1 (fun t => ∃ d, t = .int d ∧ 0 ≤ d ∧ d < k) := by
  refine (Tk.callS (n := 0) (n2 := 1) hs (A := fun ts => ts = [.int k]) (Tk.eq (v_cons hf v_nil) rfl) ?_).le (by decide)
  rintro ts rfl
  exact tk_draw h0 h1
/-- a drawn net's def, under way -/
def env (p : Int) (fs : List (List Int)) (os : List Int) (L W : Int) (a b c d e f : Sl) : Env' :=
  [.strm, .val (.int 6), .val (.int 9), .val (.int p), .own (fs.map iT), .val (.lst (os.map T.int)), .val (.int L), .val (.int W), a, b, c, d, e, f]
abbrev roadX (cA : Str → Addr) : Env' → M T := eTup (aCons (eV 10) (aCons (eV 11) (aCons (e2 addT (eC (.int 1)) (eCallS 0 (m__law_draw cA) (aCons (eV 6) aNil))) (aCons (e2 addT (eC (.int 1)) (eCallS 0 (m__law_draw cA) (aCons (eV 7) aNil))) aNil))))
structure Wid (p L W : Int) : Prop where
  p2 : 2 ≤ p
  p6 : p ≤ 6
  l1 : 1 ≤ L
  l6 : L ≤ 6
  w1 : 1 ≤ W
  w8 : W ≤ 8
theorem tk_road {p : Int} {fs : List (List Int)} {os : List Int} {L W : Int} {a b e f : Sl} {x y : Int} (w : Wid p L W) : Tk (roadX cA (env p fs os L W a b (.val (.int x)) (.val (.int y)) e f)) 2 (fun t => ∃ l w, t = iT [x, y, l, w] ∧ 1 ≤ l ∧ l ≤ 6 ∧ 1 ≤ w ∧ w ≤ 8) := by
  have t1 := tk_one (cA := cA) (ρ := env p fs os L W a b (.val (.int x)) (.val (.int y)) e f) (f := eV 6) rfl (v_var rfl) (by have := w.l1; omega) (by have := w.l6; omega)
  have t2 := tk_one (cA := cA) (ρ := env p fs os L W a b (.val (.int x)) (.val (.int y)) e f) (f := eV 7) rfl (v_var rfl) (by have := w.w1; omega) (by have := w.w8; omega)
  have ax : Tk ((eV 10) (env p fs os L W a b (.val (.int x)) (.val (.int y)) e f)) 0 (fun t => t = .int x) := Tk.eq (v_var rfl) rfl
  have ay : Tk ((eV 11) (env p fs os L W a b (.val (.int x)) (.val (.int y)) e f)) 0 (fun t => t = .int y) := Tk.eq (v_var rfl) rfl
  have args := Tk.cons ax (Tk.cons ay (Tk.cons t1 (Tk.cons t2 (Tk.eq (P := fun ts => ts = []) v_nil rfl))))
  refine (Tk.bind (n2 := 0) args ?_).le (by decide)
  rintro ts ⟨t, us, rfl, ⟨t, us, rfl, ⟨t, us, ⟨l, rfl, l1, l2⟩, ⟨t, us, ⟨v, rfl, v1, v2⟩, rfl, rfl⟩, rfl⟩, rfl⟩, rfl⟩
  refine Tk.eq (a := iT [x, y, l, v]) rfl ⟨l, v, rfl, l1, ?_, v1, ?_⟩
  · have := w.l6; omega
  · have := w.w8; omega
theorem roadOk_of {p x y l w : Int} (x0 : 0 ≤ x) (x1 : x < p) (y0 : 0 ≤ y) (y1 : y < p) (ne : x ≠ y) (l1 : 1 ≤ l) (l6 : l ≤ 6) (w1 : 1 ≤ w) (w8 : w ≤ 8) : RoadOk p [x, y, l, w] := ⟨x, y, l, w, rfl, x0, x1, y0, y1, ne, l1, w1, by omega, by omega⟩
/-- the roads found so far -/
def Inv (p : Int) (os : List Int) (L W : Int) (n : Nat) (ρ : Env') : Prop := ∃ fs a b c d e f, ρ = env p fs os L W a b c d e f ∧ (∀ k ∈ fs, RoadOk p k) ∧ fs.length ≤ n
theorem zip_get {xs ys : List T} {j : Nat} {t : T} (h : (zipL xs ys)[j]? = some t) : ∃ x y, xs[j]? = some x ∧ ys[j]? = some y ∧ t = .tup [x, y] := by
  unfold zipL at h
  rw [List.getElem?_zipWith] at h
  cases e1 : xs[j]? with
  | none => rw [e1] at h; simp at h
  | some x =>
    cases e2 : ys[j]? with
    | none => rw [e1, e2] at h; simp at h
    | some y => rw [e1, e2] at h; simp at h; exact ⟨x, y, rfl, rfl, h.symm⟩
abbrev innerG (cA : Str → Addr) : Env' → M Fl := sFor (e1 zipA (aCons (eV 9) (aCons (e1 lstT (nSl (eVS 9) (oSome (eC (.int 1))) oNone)) aNil))) (bTup (bCons (bName 10) (bCons (bName 11) bNil))) (sApp 4 (roadX cA))
theorem tk_inner {p : Int} {fs : List (List Int)} {os ln : List Int} {L W : Int} {a c d e f : Sl} (w : Wid p L W) (hf : ∀ k ∈ fs, RoadOk p k) (hl : fs.length ≤ 100) (nd : ln.Nodup) (hin : ∀ x ∈ ln, 0 ≤ x ∧ x < p) (hn : ln.length ≤ 5) :
    Tk (innerG cA (env p fs os L W a (.val (.lst (ln.map T.int))) c d e f)) 10 (fun fl => ∃ ρ', fl = .next ρ' ∧ Inv p os L W (fs.length + 5) ρ') := by
  refine (Tk.sFor (n := 0) (c := 2) (L := 5) (A := fun ts => ts = zipL (ln.map T.int) ((ln.map T.int).drop 1))
    (fun j ρ => ∃ fs' c d, ρ = env p fs' os L W a (.val (.lst (ln.map T.int))) c d e f ∧ (∀ k ∈ fs', RoadOk p k) ∧ fs'.length = fs.length + j) ?_ ?_ ⟨fs, c, d, rfl, hf, rfl⟩ ?_).mono (by decide) ?_
  · exact Tk.eq (v_1 (v_cons (v_var rfl) (v_cons (v_lstT (v_slF (k := 1) (v_seq rfl rfl) v_c)) v_nil)) rfl) rfl
  · rintro ts rfl
    simp [zipL]
    omega
  · rintro ts rfl j t ρ ht ⟨fs', c, d, rfl, h1, h2⟩
    obtain ⟨x, y, hx, hy, rfl⟩ := zip_get ht
    rw [List.getElem?_drop, List.getElem?_map] at hy
    rw [List.getElem?_map] at hx
    obtain ⟨x', hx', rfl⟩ := Option.map_eq_some_iff.mp hx
    obtain ⟨y', hy', rfl⟩ := Option.map_eq_some_iff.mp hy
    clear hx hy ht
    revert x' y'
    intro x hx y hy
    have ne : x ≠ y := fun z => by
      subst z
      have := (List.getElem?_inj (List.getElem?_eq_some_iff.mp hx).1 nd).mp (hx.trans hy.symm)
      omega
    have ix := hin x (List.mem_of_getElem? hx)
    have iy := hin y (List.mem_of_getElem? hy)
    have hj : j < 5 := by have := (List.getElem?_eq_some_iff.mp hx).1; omega
    refine ⟨env p fs' os L W a (.val (.lst (ln.map T.int))) (.val (.int x)) (.val (.int y)) e f, rfl, ?_⟩
    show Tk ((roadX cA _).bind _) 2 _
    refine Tk.bind (n2 := 0) (tk_road w) ?_
    rintro t ⟨l, v, rfl, l1, l6, v1, v8⟩
    refine Tk.eq (a := .next (env p (fs' ++ [[x, y, l, v]]) os L W a (.val (.lst (ln.map T.int))) (.val (.int x)) (.val (.int y)) e f)) ?_ ⟨_, rfl, _, _, _, rfl, ?_, by simp; omega⟩
    · show (if okLen (fs'.map iT).length = true then _ else M.stuck) = _
      rw [if_pos (by unfold okLen; simp; omega)]
      unfold env
      rw [List.map_append]
      rfl
    · intro k hk
      rcases List.mem_append.mp hk with hk | hk
      · exact h1 k hk
      · rw [List.mem_singleton.mp hk]
        exact roadOk_of ix.1 ix.2 iy.1 iy.2 ne l1 l6 v1 v8
  · rintro fl ⟨ρ', ts, rfl, rfl, fs', c, d, rfl, h1, h2⟩
    refine ⟨_, rfl, fs', a, _, c, d, e, f, rfl, h1, ?_⟩
    have : (zipL (ln.map T.int) ((ln.map T.int).drop 1)).length ≤ 5 := by simp [zipL]; omega
    omega
end Tw
end
section
set_option Elab.async false
set_option linter.all false
set_option maxRecDepth 100000
namespace Tw
open PySem PySem.Spec PyProof.Rows L2 DP
variable {cA : Str → Addr}
theorem cut_mid (ts : List T) (a b : Nat) : cutT ts (some (a : Int)) (some (b : Int)) = (ts.take b).drop a := by
  unfold cutT
  rw [HT.sIx_nat, HT.sIx_nat, List.drop_take]
  by_cases h : a ≤ ts.length
  · rw [Nat.min_eq_left h]
    by_cases h2 : b ≤ ts.length
    · rw [Nat.min_eq_left h2]
    · rw [Nat.min_eq_right (by omega), List.take_of_length_le (by simp), List.take_of_length_le (by simp; omega)]
  · have e1 : min a ts.length = ts.length := by omega
    rw [e1, List.drop_length, List.drop_eq_nil_of_le (show ts.length ≤ a by omega)]
    simp
theorem v_slM {ρ : Env'} {f : Env' → M (Bool × List T)} {g h : Env' → M T} {ts : List T} {a b : Nat} (hf : f ρ = .ret (true, ts)) (hg : g ρ = .ret (.int a)) (hh : h ρ = .ret (.int b)) : nSl f (oSome g) (oSome h) ρ = .ret ((ts.take b).drop a) := by
  unfold nSl oSome
  rw [hf]
  show M.bind (M.bind (g ρ) _) _ = _
  rw [hg]
  show M.bind (M.bind (h ρ) _) _ = _
  rw [hh, ← cut_mid]
  rfl
/-- the places in a drawn order: two, and the others -/
structure Ord (p : Int) (os : List Int) : Prop where
  ex : ∃ s e rest, os = s :: e :: rest
  nd : os.Nodup
  rng : ∀ x ∈ os, 0 ≤ x ∧ x < p
  len : os.length ≤ 6
/-- a way from the first place to the second one -/
structure Line (p : Int) (ln : List Int) : Prop where
  nd : ln.Nodup
  rng : ∀ x ∈ ln, 0 ≤ x ∧ x < p
  len : ln.length ≤ 5
abbrev lineF (cA : Str → Addr) : Env' → M T := e1 lstT (e2 nCat (e1 seqN (e2 nCat (e1 seqN (nSl (eVS 5) oNone (oSome (eC (.int 1))))) (e1 seqN (nSl (e1 seqT (eCallS 0 (m__law_mixed cA) (aCons (e1 lstT (nSl (eVS 5) (oSome (eC (.int 2))) oNone)) aNil))) oNone (oSome (eCallS 0 (m__law_draw cA) (aCons (eC (.int 4)) aNil))))))) (e1 seqN (nSl (eVS 5) (oSome (eC (.int 1))) (oSome (eC (.int 2))))))
theorem perm_ints {ys : List T} {xs : List Int} (h : ys.Perm (xs.map T.int)) : ∃ zs : List Int, zs.Perm xs ∧ ys = zs.map T.int := by
  generalize e : xs.map T.int = us at h
  induction h generalizing xs with
  | nil =>
    cases xs with
    | nil => exact ⟨[], .nil, rfl⟩
    | cons _ _ => cases e
  | cons x _ ih =>
    cases xs with
    | nil => cases e
    | cons k ks =>
      injection e with e1 e2
      obtain ⟨zs, p1, e3⟩ := ih e2
      exact ⟨k :: zs, p1.cons _, by rw [e3, ← e1]; rfl⟩
  | swap x y l =>
    cases xs with
    | nil => cases e
    | cons k ks =>
      cases ks with
      | nil => cases e
      | cons k' ks =>
        injection e with e1 e2
        injection e2 with e2 e3
        exact ⟨k' :: k :: ks, .swap _ _ _, by rw [← e1, ← e2, ← e3]; rfl⟩
  | trans _ _ ih1 ih2 =>
    obtain ⟨zs, p1, e1⟩ := ih2 e
    obtain ⟨ws, p2, e2⟩ := ih1 e1.symm
    exact ⟨ws, p2.trans p1, e2⟩
theorem tk_line {p : Int} {fs : List (List Int)} {os : List Int} {L W : Int} {a b c d e f : Sl} (o : Ord p os) : Tk (lineF cA (env p fs os L W a b c d e f)) 5 (fun t => ∃ ln, t = .lst (ln.map T.int) ∧ Line p ln) := by
  obtain ⟨s, t, rest, rfl⟩ := o.ex
  generalize hρ : env p fs (s :: t :: rest) L W a b c d e f = ρ
  have h5 : eVS 5 ρ = .ret (true, (s :: t :: rest).map T.int) := by rw [← hρ]; exact v_seq rfl rfl
  have h0 : ρ[0]? = some Sl.strm := by rw [← hρ]; rfl
  have len := o.len
  simp only [List.length_cons] at len
  have a1 : (e1 seqN (nSl (eVS 5) oNone (oSome (eC (.int 1))))) ρ = .ret (true, [.int s]) := v_1 (v_slT (k := 1) h5 v_c) rfl
  have a3 : (e1 seqN (nSl (eVS 5) (oSome (eC (.int 1))) (oSome (eC (.int 2))))) ρ = .ret (true, [.int t]) := v_1 (v_slM (a := 1) (b := 2) h5 v_c v_c) rfl
  have r1 : (aCons (e1 lstT (nSl (eVS 5) (oSome (eC (.int 2))) oNone)) aNil) ρ = .ret [.lst (rest.map T.int)] := v_cons (v_lstT (v_slF (k := 2) h5 v_c)) v_nil
  have r2 : Tk ((eCallS 0 (m__law_mixed cA) (aCons (e1 lstT (nSl (eVS 5) (oSome (eC (.int 2))) oNone)) aNil)) ρ) 4 (fun u => ∃ zs : List Int, zs.Perm rest ∧ u = .lst (zs.map T.int)) := by
    refine (Tk.callS (n := 0) (n2 := 4) h0 (A := fun ts => ts = [.lst (rest.map T.int)]) (Tk.eq r1 rfl) ?_).le (by decide)
    rintro ts rfl
    refine (tk_mixed (xs := rest.map T.int) (by simp; omega)).mono (by simp; omega) ?_
    rintro u ⟨ys, rfl, pm⟩
    obtain ⟨zs, p1, e1⟩ := perm_ints pm
    exact ⟨zs, p1, by rw [e1]⟩
  have r3 := tk_d (cA := cA) (ρ := ρ) (f := eC (.int 4)) (k := 4) h0 v_c (by decide) (by decide)
  have r4 : Tk ((e1 seqN (nSl (e1 seqT (eCallS 0 (m__law_mixed cA) (aCons (e1 lstT (nSl (eVS 5) (oSome (eC (.int 2))) oNone)) aNil))) oNone (oSome (eCallS 0 (m__law_draw cA) (aCons (eC (.int 4)) aNil))))) ρ) 5 (fun q => ∃ (zs : List Int) (k : Nat), zs.Perm rest ∧ k ≤ 3 ∧ q = (true, (zs.take k).map T.int)) := by
    refine (Tk.e1 (n := 5) (n2 := 0) (A := fun ts => ∃ (zs : List Int) (k : Nat), zs.Perm rest ∧ k ≤ 3 ∧ ts = (zs.take k).map T.int) ?_ ?_)
    · unfold nSl
      refine (Tk.bind (n := 4) (n2 := 1) (P := fun q => ∃ zs : List Int, zs.Perm rest ∧ q = (true, zs.map T.int)) ?_ ?_)
      · refine (Tk.e1 (n := 4) (n2 := 0) r2 ?_)
        rintro u ⟨zs, pm, rfl⟩
        exact Tk.eq rfl ⟨zs, pm, rfl⟩
      · rintro q ⟨zs, pm, rfl⟩
        show Tk (M.bind _ _) 1 _
        unfold oNone oSome
        refine (Tk.bind (n := 0) (n2 := 1) (Tk.eq (P := fun o => o = none) rfl rfl) ?_).le (by decide)
        rintro _ rfl
        refine (Tk.bind (n := 1) (n2 := 0) (P := fun o => ∃ d : Int, o = some d ∧ 0 ≤ d ∧ d < 4) (Tk.bind (n := 1) (n2 := 0) r3 ?_) ?_)
        · rintro u ⟨d, rfl, h⟩
          exact Tk.eq rfl ⟨d, rfl, h⟩
        · rintro o ⟨d, rfl, d0, d1⟩
          obtain ⟨k, rfl⟩ := Int.eq_ofNat_of_zero_le d0
          refine Tk.eq (a := cutT (zs.map T.int) none (some (k : Int))) rfl ⟨zs, k, pm, by omega, ?_⟩
          rw [cut_to, List.map_take]
    · rintro ts ⟨zs, k, pm, hk, rfl⟩
      exact Tk.eq rfl ⟨zs, k, pm, hk, rfl⟩
  refine (Tk.e1 (n := 5) (n2 := 0) (A := fun ts => ∃ ln : List Int, ts = ln.map T.int ∧ Line p ln) ?_ ?_)
  · have step : Tk ((e2 nCat (e1 seqN (nSl (eVS 5) oNone (oSome (eC (.int 1))))) (e1 seqN (nSl (e1 seqT (eCallS 0 (m__law_mixed cA) (aCons (e1 lstT (nSl (eVS 5) (oSome (eC (.int 2))) oNone)) aNil))) oNone (oSome (eCallS 0 (m__law_draw cA) (aCons (eC (.int 4)) aNil)))))) ρ) 5 (fun ts => ∃ (zs : List Int) (k : Nat), zs.Perm rest ∧ k ≤ 3 ∧ ts = (s :: zs.take k).map T.int) := by
      refine (Tk.e2 (n1 := 0) (n2 := 5) (n3 := 0) (A := fun q => q = (true, [.int s])) (Tk.eq a1 rfl) r4 ?_)
      rintro q1 q2 rfl ⟨zs, k, pm, hk, rfl⟩
      refine Tk.eq (a := (s :: zs.take k).map T.int) ?_ ⟨zs, k, pm, hk, rfl⟩
      unfold nCat
      rw [if_pos (by unfold okLen; simp; omega)]
      rfl
    refine (Tk.e2 (n1 := 5) (n2 := 0) (n3 := 0) (Tk.e1 (n := 5) (n2 := 0) (B := fun q : Bool × List T => ∃ (zs : List Int) (k : Nat), zs.Perm rest ∧ k ≤ 3 ∧ q = (true, (s :: zs.take k).map T.int)) step ?_) (B := fun q => q = (true, [.int t])) (Tk.eq a3 rfl) ?_)
    · rintro ts ⟨zs, k, pm, hk, rfl⟩
      exact Tk.eq rfl ⟨zs, k, pm, hk, rfl⟩
    · rintro q1 q2 ⟨zs, k, pm, hk, rfl⟩ rfl
      have lz := pm.length_eq
      refine Tk.eq (a := (s :: zs.take k ++ [t]).map T.int) ?_ ⟨_, rfl, ?_, ?_, ?_⟩
      · unfold nCat
        rw [if_pos (by unfold okLen; simp; omega)]
        simp
      · have nd := o.nd
        have n1 := List.nodup_cons.mp nd
        have n2 := List.nodup_cons.mp n1.2
        have sub : ∀ x ∈ zs.take k, x ∈ rest := fun x hx => pm.mem_iff.mp (List.mem_of_mem_take hx)
        have nz : (zs.take k).Nodup := (List.take_sublist k zs).nodup (pm.nodup_iff.mpr n2.2)
        show (s :: (zs.take k ++ [t])).Nodup
        refine List.nodup_cons.mpr ⟨fun h => ?_, List.nodup_append.mpr ⟨nz, by simp, fun x hx y hy e => ?_⟩⟩
        · rcases List.mem_append.mp h with h | h
          · exact n1.1 (List.mem_cons_of_mem _ (sub s h))
          · exact n1.1 (by rw [List.mem_singleton.mp h]; exact List.mem_cons_self)
        · rw [List.mem_singleton.mp hy] at e
          rw [e] at hx
          exact n2.1 (sub t hx)
      · intro x hx
        refine o.rng x ?_
        simp only [List.cons_append, List.mem_cons, List.mem_append, List.mem_singleton, List.not_mem_nil, or_false] at hx ⊢
        rcases hx with h | h | h
        · exact .inl h
        · exact .inr (.inr (pm.mem_iff.mp (List.mem_of_mem_take h)))
        · exact .inr (.inl h)
      · simp
        omega
  · rintro ts ⟨ln, rfl, h⟩
    exact Tk.eq rfl ⟨ln, rfl, h⟩
end Tw
end
section
set_option Elab.async false
set_option linter.all false
set_option maxRecDepth 100000
namespace Tw
open PySem PySem.Spec PyProof.Rows L2 DP
variable {cA : Str → Addr}
theorem tk_par {ρ : Env'} {i j n n2 : Nat} {f g : Env' → M T} {P R : T → Prop} (h : Tk (f ρ) n P) (h2 : Tk (g ρ) n2 R) : Tk (sPar i j (pCons f (pCons g pNil)) ρ) (n + n2) (fun fl => ∃ ρ', fl = .next ρ' ∧ ∃ t u, P t ∧ R u ∧ ρ' = (ρ.set i (.val t)).set j (.val u)) := by
  refine (Tk.bind (n := n + n2) (n2 := 0) (P := fun ds => ∃ t u, P t ∧ R u ∧ ds = [.val t, .val u]) ?_ ?_)
  · refine (Tk.e2 (n1 := n) (n2 := n2) (n3 := 0) (B := fun ds => ∃ u, R u ∧ ds = [.val u]) h ?_ ?_).le (by omega)
    · refine (Tk.e2 (n1 := n2) (n2 := 0) (n3 := 0) (B := fun ds => ds = []) h2 (Tk.eq (a := []) rfl rfl) ?_).le (by omega)
      rintro u ds hu rfl
      exact Tk.ret ⟨u, hu, rfl⟩
    · rintro t ds ht ⟨u, hu, rfl⟩
      exact Tk.ret ⟨t, u, ht, hu, rfl⟩
  · rintro ds ⟨t, u, ht, hu, rfl⟩
    exact Tk.eq rfl ⟨_, rfl, t, u, ht, hu, rfl⟩
theorem tk_parN {ρ : Env'} {i j n : Nat} {f : Env' → M T} {g : Env' → M (List T)} {P : T → Prop} {us : List T} (h : Tk (f ρ) n P) (h2 : g ρ = .ret us) : Tk (sPar i j (pCons f (pConsN g pNil)) ρ) n (fun fl => ∃ ρ', fl = .next ρ' ∧ ∃ t, P t ∧ ρ' = (ρ.set i (.val t)).set j (.own us)) := by
  refine (Tk.bind (n := n) (n2 := 0) (P := fun ds => ∃ t, P t ∧ ds = [.val t, .own us]) ?_ ?_)
  · refine (Tk.e2 (n1 := n) (n2 := 0) (n3 := 0) (B := fun ds => ds = [.own us]) h (Tk.eq (a := [.own us]) (v_2 h2 rfl rfl) rfl) ?_).le (by omega)
    rintro t ds ht rfl
    exact Tk.ret ⟨t, ht, rfl⟩
  · rintro ds ⟨t, ht, rfl⟩
    exact Tk.eq rfl ⟨_, rfl, t, ht, rfl⟩
/-- a range of a drawn number -/
theorem tk_rng {ρ : Env'} {f : Env' → M T} {n K : Nat} (h : Tk (f ρ) n (fun t => ∃ d, t = .int d ∧ 0 ≤ d ∧ d ≤ (K : Int))) (hK : K ≤ 1000000) : Tk (e1 rng1 (aCons f aNil) ρ) n (fun ts => ts.length ≤ K ∧ ∀ t ∈ ts, ∃ i, t = .int i) := by
  refine (Tk.e1 (n := n) (n2 := 0) (Tk.cons h (n2 := 0) (A := fun ts => ts = []) (Tk.eq v_nil rfl)) ?_)
  rintro ts ⟨t, us, ⟨d, rfl, d0, d1⟩, rfl, rfl⟩
  refine Tk.eq (a := (List.range d.toNat).map fun k => T.int (0 + (k : Nat))) ?_ ⟨by simp; omega, ?_⟩
  · show (if okR d = true then M.ret _ else M.stuck) = _
    rw [if_pos (by unfold okR; simp; omega)]
  · intro t ht
    obtain ⟨k, _, rfl⟩ := List.mem_map.mp ht
    exact ⟨_, rfl⟩
abbrev outerG (cA : Str → Addr) : Env' → M Fl := sFor (e1 rng1 (aCons (e2 addT (eC (.int 1)) (eCallS 0 (m__law_draw cA) (aCons (eC (.int 3)) aNil))) aNil)) (bName 8) (sSeq (sSet 9 (lineF cA)) (innerG cA))
theorem tk_outer {p : Int} {os : List Int} {L W : Int} {a b c d e f : Sl} (w : Wid p L W) (o : Ord p os) : Tk (outerG cA (env p [] os L W a b c d e f)) 46 (fun fl => ∃ ρ', fl = .next ρ' ∧ Inv p os L W 15 ρ') := by
  have t3 := tk_one (cA := cA) (ρ := env p [] os L W a b c d e f) (f := eC (.int 3)) (k := 3) rfl v_c (by decide) (by decide)
  refine (Tk.sFor (n := 1) (c := 15) (L := 3) (fun j ρ => Inv p os L W (5 * j) ρ) (tk_rng (K := 3) (t3.imp ?_) (by decide)) (fun ts h => h.1) ⟨[], _, _, _, _, _, _, rfl, by simp, by simp⟩ ?_).mono (by decide) ?_
  · rintro t ⟨d, rfl, d0, d1⟩
    exact ⟨d, rfl, by omega, d1⟩
  · rintro ts ⟨hl, hi⟩ j t ρ ht ⟨fs, a, b, c, d, e, f, rfl, hf, hn⟩
    have hj : j < 3 := by have := (List.getElem?_eq_some_iff.mp ht).1; omega
    refine ⟨env p fs os L W (.val t) b c d e f, rfl, ?_⟩
    refine Tk.seq (n := 5) (n2 := 10) (I := fun ρ' => ∃ ln, ρ' = env p fs os L W (.val t) (.val (.lst (ln.map T.int))) c d e f ∧ Line p ln) ?_ ?_
    · refine (Tk.sSet (tk_line o)).imp ?_
      rintro fl ⟨ρ', rfl, u, ⟨ln, rfl, hln⟩, rfl⟩
      exact ⟨_, rfl, ln, rfl, hln⟩
    · rintro ρ' ⟨ln, rfl, hln⟩
      refine (tk_inner w hf (by omega) hln.nd hln.rng hln.len).imp ?_
      rintro fl ⟨ρ', rfl, fs', a, b, c, d, e, f, rfl, h1, h2⟩
      exact ⟨_, rfl, fs', a, b, c, d, e, f, rfl, h1, by omega⟩
  · rintro fl ⟨ρ', ts, rfl, ⟨hl, _⟩, fs, a, b, c, d, e, f, rfl, h1, h2⟩
    exact ⟨_, rfl, fs, a, b, c, d, e, f, rfl, h1, by omega⟩
abbrev moreG (cA : Str → Addr) : Env' → M Fl := sFor (e1 rng1 (aCons (eCallS 0 (m__law_draw cA) (aCons (eC (.int 4)) aNil)) aNil)) (bName 8) (sSeq (sPar 10 11 (pCons (eCallS 0 (m__law_draw cA) (aCons (eV 3) aNil)) (pCons (eCallS 0 (m__law_draw cA) (aCons (eV 3) aNil)) pNil)))
  (sExt 4 (e1 seqT (eIf (e1 boolT (e2 neT (eV 10) (eV 11))) (e1 lstT (nLst (aCons (roadX cA) aNil))) (e1 lstT (nLst aNil))))))
theorem tk_ext {ρ : Env'} {i n : Nat} {f : Env' → M (Bool × List T)} {ts : List T} {P : List T → Prop} (ho : ownL i ρ = some ts) (h : Tk (f ρ) n (fun q => ∃ us, q = (true, us) ∧ P us ∧ ts.length + us.length ≤ 1000000)) : Tk (sExt i f ρ) n (fun fl => ∃ us, fl = .next (ρ.set i (.own (ts ++ us))) ∧ P us) := by
  unfold sExt
  rw [ho]
  refine Tk.bind (n2 := 0) h ?_
  rintro q ⟨us, rfl, hp, hl⟩
  refine Tk.eq (a := .next (ρ.set i (.own (ts ++ us)))) ?_ ⟨us, rfl, hp⟩
  show (if (true && okLen (ts.length + us.length)) = true then _ else M.stuck) = _
  rw [if_pos (by unfold okLen; simpa using hl)]
theorem tk_more {p : Int} {os : List Int} {L W : Int} {ρ : Env'} (w : Wid p L W) (hI : Inv p os L W 15 ρ) : Tk (moreG cA ρ) 13 (fun fl => ∃ ρ', fl = .next ρ' ∧ Inv p os L W 18 ρ') := by
  obtain ⟨fs, a, b, c, d, e, f, rfl, hf, hn⟩ := hI
  have t4 := tk_d (cA := cA) (ρ := env p fs os L W a b c d e f) (f := eC (.int 4)) (k := 4) rfl v_c (by decide) (by decide)
  refine (Tk.sFor (n := 1) (c := 4) (L := 3) (fun j ρ => Inv p os L W (15 + j) ρ) (tk_rng (K := 3) (t4.imp ?_) (by decide)) (fun ts h => h.1) ⟨fs, a, b, c, d, e, f, rfl, hf, hn⟩ ?_).mono (by decide) ?_
  · rintro t ⟨d, rfl, d0, d1⟩
    exact ⟨d, rfl, d0, by omega⟩
  · rintro ts ⟨hl, hi⟩ j t ρ ht ⟨fs, a, b, c, d, e, f, rfl, hf, hn⟩
    have hj : j < 3 := by have := (List.getElem?_eq_some_iff.mp ht).1; omega
    have pp := w.p2
    have p6 := w.p6
    refine ⟨env p fs os L W (.val t) b c d e f, rfl, ?_⟩
    refine Tk.seq (n := 2) (n2 := 2) (I := fun ρ' => ∃ x y, ρ' = env p fs os L W (.val t) b (.val (.int x)) (.val (.int y)) e f ∧ 0 ≤ x ∧ x < p ∧ 0 ≤ y ∧ y < p) ?_ ?_
    · refine (tk_par (n := 1) (n2 := 1) (tk_d (k := p) rfl (v_var rfl) (by omega) (by omega)) (tk_d (k := p) rfl (v_var rfl) (by omega) (by omega))).imp ?_
      rintro fl ⟨ρ', rfl, t, u, ⟨x, rfl, x0, x1⟩, ⟨y, rfl, y0, y1⟩, rfl⟩
      exact ⟨_, rfl, x, y, rfl, x0, x1, y0, y1⟩
    · rintro ρ' ⟨x, y, rfl, x0, x1, y0, y1⟩
      refine (tk_ext (i := 4) (n := 2) (ts := fs.map iT) (P := fun us => ∃ ks : List (List Int), us = ks.map iT ∧ ks.length ≤ 1 ∧ ∀ k ∈ ks, RoadOk p k) rfl ?_).imp ?_
      · have tst : (e1 boolT (e2 neT (eV 10) (eV 11))) (env p fs os L W (.val t) b (.val (.int x)) (.val (.int y)) e f) = .ret (!decide (x = y)) := v_bool (v_2 (v_var rfl) (v_var rfl) (neT_int x y))
        refine (Tk.e1 (n := 2) (n2 := 0) (A := fun u => ∃ ks : List (List Int), u = .lst (ks.map iT) ∧ ks.length ≤ 1 ∧ ∀ k ∈ ks, RoadOk p k) ?_ ?_)
        · by_cases hxy : x = y
          · rw [decide_eq_true hxy] at tst
            exact (Tk.eq (v_ifF tst (v_lstT (v_lst v_nil (by decide)))) ⟨[], rfl, by decide, by simp⟩).le (by decide)
          · rw [decide_eq_false hxy] at tst
            refine (Tk.eIf (n := 0) (n2 := 2) (B := fun b => b = true) (Tk.eq tst rfl) ?_ (fun h => nomatch h)).le (by decide)
            intro _
            refine (Tk.e1 (n := 2) (n2 := 0) (A := fun us => ∃ ks : List (List Int), us = ks.map iT ∧ ks.length ≤ 1 ∧ ∀ k ∈ ks, RoadOk p k) ?_ ?_)
            · refine (Tk.bind (n := 2) (n2 := 0) (Tk.cons (tk_road w) (n2 := 0) (A := fun ts => ts = []) (Tk.eq v_nil rfl)) ?_)
              rintro ts ⟨u, us, ⟨l, v, rfl, l1, l6, v1, v8⟩, rfl, rfl⟩
              refine Tk.eq (a := [iT [x, y, l, v]]) rfl ⟨[[x, y, l, v]], rfl, by simp, ?_⟩
              intro k hk
              rw [List.mem_singleton.mp hk]
              exact roadOk_of x0 x1 y0 y1 hxy l1 l6 v1 v8
            · rintro us ⟨ks, rfl, h⟩
              exact Tk.eq rfl ⟨ks, rfl, h⟩
        · rintro u ⟨ks, rfl, h1, h2⟩
          exact Tk.eq rfl ⟨ks.map iT, rfl, ⟨ks, rfl, h1, h2⟩, by simp; omega⟩
      · rintro fl ⟨us, rfl, ks, rfl, h1, h2⟩
        refine ⟨_, rfl, fs ++ ks, .val t, b, .val (.int x), .val (.int y), e, f, ?_, ?_, by simp; omega⟩
        · unfold env
          rw [List.map_append]
          rfl
        · intro k hk
          exact (List.mem_append.mp hk).elim (hf k) (h2 k)
  · rintro fl ⟨ρ', ts, rfl, ⟨hl, _⟩, fs, a, b, c, d, e, f, rfl, h1, h2⟩
    exact ⟨_, rfl, fs, a, b, c, d, e, f, rfl, h1, by omega⟩
end Tw
end
section
set_option Elab.async false
set_option linter.all false
set_option maxRecDepth 100000
namespace Tw
open PySem PySem.Spec PyProof.Rows L2 DP
variable {cA : Str → Addr}
/-! ### data of rows -/
theorem dataTs_ints : ∀ k : List Int, dataTs (k.map T.int) = some (k.map PyData.int)
  | [] => rfl
  | i :: k => by
    show ((dataT (.int i)).bind fun d => (dataTs (k.map T.int)).map fun ds => d :: ds) = _
    rw [dataTs_ints k]
    rfl
theorem data_row (k : List Int) : dataT (iT k) = some (.tuple (k.map PyData.int)) := by
  show (dataTs (k.map T.int)).map PyData.tuple = _
  rw [dataTs_ints]
  rfl
theorem dataTs_rows : ∀ ks : List (List Int), dataTs (ks.map iT) = some (ks.map fun k => PyData.tuple (k.map PyData.int))
  | [] => rfl
  | k :: ks => by
    show ((dataT (iT k)).bind fun d => (dataTs (ks.map iT)).map fun ds => d :: ds) = _
    rw [dataTs_rows ks, data_row]
    rfl
theorem lay_ints (k : List Int) : PyData.canLayAll0 (k.map PyData.int) = true := by
  induction k with
  | nil => simp [PyData.canLayAll0]
  | cons i k ih => simp [PyData.canLayAll0, PyData.canLay0, ih]
theorem depth_ints (k : List Int) : PyData.depthAll (k.map PyData.int) = 0 := by
  induction k with
  | nil => simp [PyData.depthAll]
  | cons i k ih => simp [PyData.depthAll, PyData.depth, ih]
theorem shaped_row (k : List Int) : SeqAt.shaped (.tuple (k.map PyData.int)) = true := by simp [SeqAt.shaped, PyData.canLay0, PyData.depth, lay_ints, depth_ints]
theorem shaped_ints (k : List Int) : SeqAt.shaped (.list (k.map PyData.int)) = true := by simp [SeqAt.shaped, PyData.canLay0, PyData.depth, lay_ints, depth_ints]
theorem shaped_rows (ks : List (List Int)) : SeqAt.shaped (.list (ks.map fun k => PyData.tuple (k.map PyData.int))) = true := by
  have h2 : PyData.depthAll (ks.map fun k => PyData.tuple (k.map PyData.int)) ≤ 1 := by
    induction ks with
    | nil => simp [PyData.depthAll]
    | cons i k ih =>
      have e : PyData.depth (.tuple (i.map PyData.int)) = 1 := by simp [PyData.depth, depth_ints]
      simp only [List.map_cons, PyData.depthAll, e]
      exact Nat.max_le.mpr ⟨Nat.le_refl _, ih⟩
  have h1 : PyData.canLayAll0 (ks.map fun k => PyData.tuple (k.map PyData.int)) = true := by
    clear h2
    induction ks with
    | nil => simp [PyData.canLayAll0]
    | cons i k ih => simp [PyData.canLayAll0, PyData.canLay0, lay_ints, ih]
  simp [SeqAt.shaped, PyData.canLay0, PyData.depth, h1]
  omega
theorem eqvAll_ints : ∀ k k' : List Int, PyData.eqvAll (k.map PyData.int) (k'.map PyData.int) = decide (k = k')
  | [], [] => by simp [PyData.eqvAll]
  | [], _ :: _ => by simp [PyData.eqvAll]
  | _ :: _, [] => by simp [PyData.eqvAll]
  | i :: k, j :: k' => by
    simp only [List.map_cons, PyData.eqvAll, PyData.eqv, eqvAll_ints k k', List.cons.injEq]
    by_cases h : i = j <;> by_cases h2 : k = k' <;> simp [h, h2]
theorem eqv_row (k k' : List Int) : PyData.eqv (.tuple (k.map PyData.int)) (.tuple (k'.map PyData.int)) = decide (k = k') := by simp only [PyData.eqv, eqvAll_ints]
theorem nin_rows (q : Bool) (k : List Int) (ks : List (List Int)) : inT true (iT k) (q, ks.map iT) = .ret (.bl (!decide (k ∈ ks))) := by
  unfold inT
  rw [data_row, show dataTs (q, ks.map iT).2 = _ from dataTs_rows ks]
  dsimp only
  rw [if_pos (by rw [shaped_row, shaped_rows]; rfl), if_pos rfl]
  congr 3
  induction ks with
  | nil => simp
  | cons k' ks ih =>
    rw [List.map_cons, List.any_cons, eqv_row, ih]
    by_cases h : k' = k
    · simp [h]
    · have : ¬ k = k' := fun e => h e.symm
      simp [h, this]
theorem ix_at {q : Bool} {ts : List T} {k : Nat} {t : T} (h : ts[k]? = some t) : ixT (q, ts) (.int (k : Nat)) = .ret t := by
  have hk := (List.getElem?_eq_some_iff.mp h).1
  have e : atI ts (k : Int) = some t := by
    unfold atI ixN
    rw [if_pos (by omega), if_pos (by omega)]
    exact h
  show (match atI ts (k : Int) with | some t => M.ret t | none => M.stuck) = _
  rw [e]
/-! ### unlike roads -/
def unl (p : Int) (fs : List (List Int)) (os : List Int) (L W : Int) (a b c d e f : Sl) : Env' :=
  [.strm, .val (.int 6), .val (.int 9), .val (.int p), .val (.lst (fs.map iT)), .val (.lst (os.map T.int)), .val (.int L), .val (.int W), a, b, c, d, e, f]
abbrev unlG : Env' → M Fl := sFor (e1 itemsT (eV 4)) (bName 13) (sExt 12 (e1 seqT (eIf (e1 boolT (e2 (inT true) (eV 13) (eVS 12))) (e1 lstT (nLst (aCons (eV 13) aNil))) (e1 lstT (nLst aNil)))))
theorem tk_unl {p : Int} {fs : List (List Int)} {os : List Int} {L W : Int} {a b c d f : Sl} (hn : fs.length ≤ 18) : Tk (unlG (unl p fs os L W a b c d (.own []) f)) 0 (fun fl => ∃ (us : List (List Int)) (f' : Sl), fl = .next (unl p fs os L W a b c d (.own (us.map iT)) f') ∧ us.Nodup ∧ ∀ k ∈ us, k ∈ fs) := by
  refine (Tk.sFor (n := 0) (c := 0) (L := fs.length) (A := fun ts => ts = fs.map iT) (fun j ρ => ∃ (us : List (List Int)) (f' : Sl), ρ = unl p fs os L W a b c d (.own (us.map iT)) f' ∧ us.Nodup ∧ (∀ k ∈ us, k ∈ fs) ∧ us.length ≤ j) (Tk.eq (v_1 (v_var rfl) rfl) rfl) ?_ ⟨[], f, rfl, .nil, by simp, by simp⟩ ?_).mono (by simp) ?_
  · rintro ts rfl
    simp
  · rintro ts rfl j t ρ ht ⟨us, f', rfl, nd, sub, hl⟩
    rw [List.getElem?_map] at ht
    obtain ⟨k, hk, rfl⟩ := Option.map_eq_some_iff.mp ht
    have hm := List.mem_of_getElem? hk
    have hj : j < fs.length := (List.getElem?_eq_some_iff.mp hk).1
    clear ht
    refine ⟨unl p fs os L W a b c d (.own (us.map iT)) (.val (iT k)), rfl, ?_⟩
    have tst : (e1 boolT (e2 (inT true) (eV 13) (eVS 12))) (unl p fs os L W a b c d (.own (us.map iT)) (.val (iT k))) = .ret (!decide (k ∈ us)) := v_bool (v_2 (v_var rfl) (v_own rfl) (nin_rows true k us))
    by_cases h : k ∈ us
    · rw [decide_eq_true h] at tst
      refine (tk_ext (i := 12) (n := 0) (ts := us.map iT) (P := fun u => u = []) rfl (Tk.eq (a := (true, [])) (v_1 (v_ifF tst (v_lstT (v_lst v_nil (by decide)))) rfl) ⟨[], rfl, rfl, by simp; omega⟩)).imp ?_
      rintro fl ⟨u, rfl, rfl⟩
      exact ⟨_, rfl, us, .val (iT k), by unfold unl; simp, nd, sub, by omega⟩
    · rw [decide_eq_false h] at tst
      refine (tk_ext (i := 12) (n := 0) (ts := us.map iT) (P := fun u => u = [iT k]) rfl (Tk.eq (a := (true, [iT k])) (v_1 (v_ifT tst (v_lstT (v_lst (v_cons (v_var rfl) v_nil) (by simp)))) rfl) ⟨[iT k], rfl, rfl, by simp; omega⟩)).imp ?_
      rintro fl ⟨u, rfl, rfl⟩
      refine ⟨_, rfl, us ++ [k], .val (iT k), ?_, ?_, ?_, by simp; omega⟩
      · unfold unl
        rw [List.map_append]
        rfl
      · refine List.nodup_append.mpr ⟨nd, by simp, fun x hx y hy e => ?_⟩
        rw [List.mem_singleton.mp hy] at e
        rw [e] at hx
        exact h hx
      · intro x hx
        rcases List.mem_append.mp hx with hx | hx
        · exact sub x hx
        · rw [List.mem_singleton.mp hx]; exact hm
  · rintro fl ⟨ρ', ts, rfl, rfl, us, f', rfl, nd, sub, _⟩
    exact ⟨us, f', rfl, nd, sub⟩
/-- what is told at last -/
abbrev lastG : Env' → M Fl := sRet (eTup (aCons (eV 3) (aCons (e1 lstT (e1 nSort (e1 seqN (nSl (eVS 12) oNone (oSome (eV 2)))))) (aCons (e2 ixT (eVS 5) (eC (.int 0))) (aCons (e2 ixT (eVS 5) (eC (.int 1))) aNil)))))
theorem sort_told {p : Int} {ks : List (List Int)} (h : ∀ k ∈ ks, RoadOk p k) (hl : ks.length < 64) : ∃ js, nSort (true, ks.map iT) = .ret (js.map iT) ∧ js.Perm ks ∧ Srt js := by
  obtain ⟨js, e, pm, sr⟩ := sort_rows h
  refine ⟨js, ?_, pm, sr⟩
  unfold nSort
  rw [if_pos rfl]
  cases ks with
  | nil =>
    have : js = [] := by simpa using pm
    subst this
    show M.ret ((sortI []).map T.int) = _
    unfold sortI
    simp
  | cons k ks =>
    show (match (none : Option (List Int)) with | some ns => M.ret ((sortI ns).map T.int) | none => (match tupsT ((k :: ks).map iT) with | some ks => (if decide (ks.length < 64) = true then (match sortK ks with | some js => M.ret (js.map iT) | none => .stuck) else .stuck) | none => .stuck)) = _
    dsimp only
    rw [tupsT_map]
    dsimp only
    rw [if_pos (decide_eq_true hl), e]
theorem last_ok {p : Int} {fs us : List (List Int)} {os : List Int} {L W : Int} {a b c d f : Sl} (w : Wid p L W) (o : Ord p os) (nd : us.Nodup) (hf : ∀ k ∈ us, RoadOk p k) : ∃ s e roads, lastG (unl p fs os L W a b c d (.own (us.map iT)) f) = .ret (.ret (netV p s e roads)) ∧ NetOk p s e roads := by
  obtain ⟨s, e, rest, rfl⟩ := o.ex
  have hk : ∀ k ∈ us.take 9, RoadOk p k := fun k h => hf k (List.mem_of_mem_take h)
  obtain ⟨js, e1', pm, sr⟩ := sort_told hk (by simp; omega)
  have ln := pm.length_eq
  generalize hρ : unl p fs (s :: e :: rest) L W a b c d (.own (us.map iT)) f = ρ
  have h3 : eV 3 ρ = .ret (.int p) := by rw [← hρ]; exact v_var rfl
  have h2 : eV 2 ρ = .ret (.int 9) := by rw [← hρ]; exact v_var rfl
  have h12 : eVS 12 ρ = .ret (true, us.map iT) := by rw [← hρ]; exact v_own rfl
  have h5 : eVS 5 ρ = .ret (true, (s :: e :: rest).map T.int) := by rw [← hρ]; exact v_seq rfl rfl
  have srt : (e1 lstT (e1 nSort (e1 seqN (nSl (eVS 12) oNone (oSome (eV 2)))))) ρ = .ret (.lst (js.map iT)) := v_lstT (v_1 (v_1 (v_slT (k := 9) h12 h2) rfl) (by rw [← List.map_take]; exact e1'))
  refine ⟨s, e, js, g_ret (v_tup (v_cons h3 (v_cons srt (v_cons (v_2 h5 v_c (ix_at (k := 0) rfl)) (v_cons (v_2 h5 v_c (ix_at (k := 1) rfl)) v_nil)))) (by simp)), ?_⟩
  · have rs := o.rng s (by simp)
    have re := o.rng e (by simp)
    refine ⟨w.p2, w.p6, rs.1, rs.2, re.1, re.2, fun z => ?_, fun k h => hk k (pm.mem_iff.mp h), pm.nodup_iff.mpr ((List.take_sublist 9 us).nodup nd), by rw [ln]; simp; omega, sr⟩
    have n1 := List.nodup_cons.mp o.nd
    exact n1.1 (by rw [z]; exact List.mem_cons_self)
end Tw
end
section
set_option Elab.async false
set_option linter.all false
set_option maxRecDepth 100000
namespace Tw
open PySem PySem.Spec PyProof.Rows L2 DP
variable {cA : Str → Addr}
def rangeI (p : Int) : List Int := (List.range p.toNat).map fun i : Nat => (i : Int)
theorem Tk.fz {i n : Nat} {ρ : Env'} {G : Env' → M Fl} {R : Fl → Prop} (h : Tk (G (fz i ρ)) n R) : Tk (sFz i G ρ) n R := h
theorem tk_net : Tk (m__law_net cA [.int 6, .int 9]) 100 (fun t => ∃ p s e roads, t = netV p s e roads ∧ NetOk p s e roads) := by
  show Tk (fnM true 14 (G__law_net cA) [.int 6, .int 9]) 100 _
  refine Tk.fn ?_
  show Tk (G__law_net cA [.strm, .val (.int 6), .val (.int 9), .any, .any, .any, .any, .any, .any, .any, .any, .any, .any, .any]) (1 + (99)) _
  unfold G__law_net
  refine Tk.seq (n := 1) (n2 := 99) (I := fun ρ => ∃ p : Int, 2 ≤ p ∧ p ≤ 6 ∧ ρ = [.strm, .val (.int 6), .val (.int 9), .val (.int p), .own [], .any, .any, .any, .any, .any, .any, .any, .any, .any]) ?_ ?_
  · refine (tk_parN (n := 1) (us := []) (P := fun t => ∃ p, t = .int p ∧ 2 ≤ p ∧ p ≤ 6) ?_ (v_lst v_nil (by decide))).imp ?_
    · refine (Tk.e2 (n1 := 0) (n2 := 1) (n3 := 0) (A := fun t => t = .int 2) (Tk.eq v_c rfl) (tk_d (k := 5) rfl (v_2 (v_var rfl) v_c rfl) (by decide) (by decide)) ?_).le (by decide)
      rintro a b rfl ⟨d, rfl, d0, d1⟩
      exact Tk.eq (addT_int 2 d) ⟨2 + d, rfl, by omega, by omega⟩
    · rintro fl ⟨ρ', rfl, t, ⟨p, rfl, h1, h2⟩, rfl⟩
      exact ⟨_, rfl, p, h1, h2, rfl⟩
  rintro ρ' ⟨p, p2, p6, rfl⟩
  refine (Tk.seq (n := 6) (n2 := 93) (I := fun ρ => ∃ os, Ord p os ∧ ρ = [.strm, .val (.int 6), .val (.int 9), .val (.int p), .own [], .val (.lst (os.map T.int)), .any, .any, .any, .any, .any, .any, .any, .any]) ?_ ?_)
  · refine (Tk.sSet (n := 6) (P := fun t => ∃ os, Ord p os ∧ t = .lst (os.map T.int)) ?_).imp ?_
    · have arg : (aCons (e1 lstT (e1 nRg1 (eV 3))) aNil) [.strm, .val (.int 6), .val (.int 9), .val (.int p), .own [], .any, .any, .any, .any, .any, .any, .any, .any, .any] = .ret [.lst ((rangeI p).map T.int)] := by
        refine v_cons (v_lstT (v_1 (v_var rfl) ?_)) v_nil
        show (if okRg 0 p = true then M.ret (rgT 0 p) else .stuck) = _
        rw [if_pos (by unfold okRg; simp; omega)]
        unfold rgT rangeI
        rw [List.map_map]
        congr 1
        simp
      refine (Tk.callS (n := 0) (n2 := 6) rfl (A := fun ts => ts = [.lst ((rangeI p).map T.int)]) (Tk.eq arg rfl) ?_).le (by decide)
      rintro ts rfl
      refine (tk_mixed (by simp [rangeI]; omega)).mono (by simp [rangeI]; omega) ?_
      rintro t ⟨ys, rfl, pm⟩
      obtain ⟨os, p1, rfl⟩ := perm_ints pm
      have len : os.length = p.toNat := by rw [p1.length_eq]; simp [rangeI]
      refine ⟨os, ⟨?_, ?_, ?_, by omega⟩, rfl⟩
      · rcases os with _ | ⟨a, _ | ⟨b, r⟩⟩
        · simp at len; omega
        · simp at len; omega
        · exact ⟨a, b, r, rfl⟩
      · refine p1.nodup_iff.mpr ?_
        refine List.Pairwise.map _ (fun a b h => ?_) (List.nodup_range)
        omega
      · intro x hx
        have := p1.mem_iff.mp hx
        simp [rangeI] at this
        obtain ⟨a, h, rfl⟩ := this
        omega
    · rintro fl ⟨ρ', rfl, t, ⟨os, o, rfl⟩, rfl⟩
      exact ⟨_, rfl, os, o, rfl⟩
  rintro ρ' ⟨os, o, rfl⟩
  refine (Tk.seq (n := 2) (n2 := 91) (I := fun ρ => ∃ L W, Wid p L W ∧ ρ = env p [] os L W .any .any .any .any .any .any) ?_ ?_)
  · refine (tk_par (n := 1) (n2 := 1) (P := fun t => ∃ L, t = .int L ∧ 1 ≤ L ∧ L ≤ 6) (R := fun t => ∃ W, t = .int W ∧ 1 ≤ W ∧ W ≤ 8) ?_ ?_).imp ?_
    · refine (Tk.callS (n := 0) (n2 := 1) rfl (A := fun ts => ts = [.lst [.int 1, .int 3, .int 3, .int 6]]) (Tk.eq (v_cons (v_lstT (v_lst (v_cons v_c (v_cons v_c (v_cons v_c (v_cons v_c v_nil)))) (by decide))) v_nil) rfl) ?_).le (by decide)
      rintro ts rfl
      refine (tk_pick (by simp) (by decide)).imp ?_
      intro t ht
      simp at ht
      rcases ht with rfl | rfl | rfl
      · exact ⟨1, rfl, by decide, by decide⟩
      · exact ⟨3, rfl, by decide, by decide⟩
      · exact ⟨6, rfl, by decide, by decide⟩
    · refine (Tk.callS (n := 0) (n2 := 1) rfl (A := fun ts => ts = [.lst [.int 1, .int 3, .int 3, .int 8]]) (Tk.eq (v_cons (v_lstT (v_lst (v_cons v_c (v_cons v_c (v_cons v_c (v_cons v_c v_nil)))) (by decide))) v_nil) rfl) ?_).le (by decide)
      rintro ts rfl
      refine (tk_pick (by simp) (by decide)).imp ?_
      intro t ht
      simp at ht
      rcases ht with rfl | rfl | rfl
      · exact ⟨1, rfl, by decide, by decide⟩
      · exact ⟨3, rfl, by decide, by decide⟩
      · exact ⟨8, rfl, by decide, by decide⟩
    · rintro fl ⟨ρ', rfl, t, u, ⟨L, rfl, l1, l6⟩, ⟨W, rfl, w1, w8⟩, rfl⟩
      exact ⟨_, rfl, L, W, ⟨p2, p6, l1, l6, w1, w8⟩, rfl⟩
  rintro ρ' ⟨L, W, w, rfl⟩
  refine (Tk.seq (n := 46) (n2 := 45) (I := fun ρ => Inv p os L W 15 ρ) (tk_outer w o) ?_)
  intro ρ' hI
  refine (Tk.seq (n := 13) (n2 := 32) (I := fun ρ => Inv p os L W 18 ρ) (tk_more w hI) ?_)
  rintro ρ' ⟨fs, a, b, c, d, e, f, rfl, hf, hn⟩
  refine (Tk.seq (n := 0) (n2 := 32) (I := fun ρ => ρ = env p fs os L W a b c d (.own []) f) (Tk.eq (a := .next (env p fs os L W a b c d (.own []) f)) rfl ⟨_, rfl, rfl⟩) ?_)
  rintro ρ' rfl
  refine Tk.fz ?_
  show Tk (sSeq unlG lastG (unl p fs os L W a b c d (.own []) f)) (0 + 32) _
  refine (Tk.seq (n := 0) (n2 := 32) (I := fun ρ => ∃ (us : List (List Int)) (f' : Sl), ρ = unl p fs os L W a b c d (.own (us.map iT)) f' ∧ us.Nodup ∧ ∀ k ∈ us, k ∈ fs) ((tk_unl hn).imp ?_) ?_)
  · rintro fl ⟨us, f', rfl, h⟩
    exact ⟨_, rfl, us, f', rfl, h⟩
  rintro ρ' ⟨us, f', rfl, nd, sub⟩
  obtain ⟨s, e', roads, h, N⟩ := last_ok (fs := fs) (a := a) (b := b) (c := c) (d := d) (f := f') w o nd fun k hk => hf k (sub k hk)
  exact (Tk.eq h ⟨_, rfl, p, s, e', roads, rfl, N⟩).le (by decide)
end Tw
end
section
set_option Elab.async false
set_option linter.all false
set_option maxRecDepth 100000
namespace Tw
open PySem PySem.Spec PyProof.Rows L2 DP
variable {cA : Str → Addr}
/-! ### all cuts -/
def lT (c : List Int) : T := .lst (c.map T.int)
structure CutOk (p s e : Int) (c : List Int) : Prop where
  asc : c.Pairwise (· < ·)
  rng : ∀ x ∈ c, 0 ≤ x ∧ x < p
  start : s ∈ c
  stop : e ∉ c
structure CutsI (s e : Int) (j : Nat) (cs : List (List Int)) : Prop where
  asc : ∀ c ∈ cs, c.Pairwise (· < ·)
  rng : ∀ c ∈ cs, ∀ x ∈ c, 0 ≤ x ∧ x < (j : Int)
  start : s < (j : Int) → ∀ c ∈ cs, s ∈ c
  stop : ∀ c ∈ cs, e ∉ c
  some : cs ≠ []
  few : cs.length ≤ 2 ^ j
theorem filter_yes {α : Type} (l : List α) : (l.filter fun _ => true) = l := List.filter_eq_self.mpr fun _ _ => rfl
theorem app_comp {ρ : Env'} {cs : List (List Int)} {i : Int} {a b d : Sl} (hl : cs.length ≤ 1000) (hc : ∀ c ∈ cs, c.length ≤ 1000) :
    (e1 lstT (nLc [4] (e1 itemsT (eV 1)) (bName 4) cYes (e1 lstT (e2 nCat (eVS 4) (e1 seqN (nLst (aCons (eV 2) aNil))))))) [a, .val (.lst (cs.map lT)), .val (.int i), b, .any] = .ret (.lst ((cs.map (· ++ [i])).map lT)) := by
  refine v_lstT ?_
  rw [nLc_eq (ts := cs.map lT) (fun _ => true) (fun t => match t with | .lst xs => .lst (xs ++ [.int i]) | t => t) (v_1 (v_var rfl) rfl) rfl (by simp; omega) ?_]
  · rw [filter_yes, List.map_map, List.map_map]
    congr 1
    refine List.map_congr_left fun c _ => ?_
    simp [lT]
  · intro t ht
    obtain ⟨c, hc', rfl⟩ := List.mem_map.mp ht
    refine ⟨[a, .val (.lst (cs.map lT)), .val (.int i), b, .val (lT c)], rfl, rfl, fun _ => ?_⟩
    refine v_lstT (v_cat (xs := c.map T.int) (ys := [.int i]) (v_seq rfl rfl) (v_1 (v_lst (v_cons (v_var rfl) v_nil) (by simp)) rfl) ?_)
    have := hc c hc'
    simp
    omega
theorem asc_len : ∀ {c : List Int} {a b : Int}, c.Pairwise (· < ·) → (∀ x ∈ c, a ≤ x ∧ x < b) → a ≤ b → (c.length : Int) ≤ b - a
  | [], a, b, _, _, h => by simp; omega
  | x :: c, a, b, hp, hr, h => by
    have p := List.pairwise_cons.mp hp
    have hx := hr x List.mem_cons_self
    have := asc_len (a := x + 1) (b := b) p.2 (fun y hy => ⟨by have := p.1 y hy; omega, (hr y (List.mem_cons_of_mem _ hy)).2⟩) (by omega)
    simp
    omega
theorem cuts_ok {p s e : Int} {roads : List (List Int)} (N : NetOk p s e roads) : ∃ cs, m__law_cuts cA [netV p s e roads] = .ret (.lst (cs.map lT)) ∧ (∀ c ∈ cs, CutOk p s e c) ∧ cs ≠ [] ∧ cs.length ≤ 64 := by
  have p2 := N.p2
  have p6 := N.p6
  have loop := Tk.out ((Tk.forL (c := 0) (bd := bName 2) (G := (sSeq (sSet 3 (eIf (e1 boolT (e2 eqT (eV 2) (e2 ixT (eVS 0) (eC (.int 2))))) (e1 lstT (nLst aNil)) (eV 1)))
      (sSet 1 (e2 addT (eV 3) (eIf (e1 boolT (e2 eqT (eV 2) (e2 ixT (eVS 0) (eC (.int 3))))) (e1 lstT (nLst aNil)) (e1 lstT (nLc [4] (e1 itemsT (eV 1)) (bName 4) cYes (e1 lstT (e2 nCat (eVS 4) (e1 seqN (nLst (aCons (eV 2) aNil))))))))))))
      (fun j ρ => ∃ (cs : List (List Int)) (a b : Sl), ρ = [.val (netV p s e roads), .val (.lst (cs.map lT)), a, b, .any] ∧ CutsI s e j cs) ((rangeI p).map T.int) 0 [.val (netV p s e roads), .val (.lst [lT []]), .any, .any, .any] ?_ ?_).le (by simp))
  · obtain ⟨fl, h, ρ', rfl, cs, a, b, rfl, I⟩ := loop
    have len : ((rangeI p).map T.int).length = p.toNat := by simp [rangeI]
    rw [Nat.zero_add, len] at I
    have hp : ((p.toNat : Nat) : Int) = p := by omega
    refine ⟨cs, ?_, fun c hc => ⟨I.asc c hc, fun x hx => by have := I.rng c hc x hx; omega, I.start (by have := N.s1; omega) c hc, I.stop c hc⟩, I.some, ?_⟩
    · show fnM false 5 (G__law_cuts cA) _ = _
      refine g_fn ?_
      show G__law_cuts cA [.val (netV p s e roads), .any, .any, .any, .any] = _
      unfold G__law_cuts
      refine g_seq (ρ' := [.val (netV p s e roads), .val (.lst [lT []]), .any, .any, .any]) (g_set (v_lstT (v_lst (v_cons (v_lstT (v_lst v_nil (by decide))) v_nil) (by decide)))) (g_seq (g_for (ts := (rangeI p).map T.int) (v_1 (v_cons (v_2 (v_seq rfl rfl) v_c (ix_at (k := 0) rfl)) v_nil) ?_) h) (g_ret (v_var rfl)))
      show (if okR p = true then M.ret ((List.range p.toNat).map fun k => T.int (0 + (k : Nat))) else .stuck) = _
      rw [if_pos (by unfold okR; simp; omega)]
      unfold rangeI
      rw [List.map_map]
      congr 1
      simp
    · refine Nat.le_trans I.few ?_
      exact Nat.le_trans (Nat.pow_le_pow_right (by decide) (by omega : p.toNat ≤ 6)) (by decide)
  · refine ⟨[[]], .any, .any, rfl, ⟨by simp, by simp, fun h => ?_, by simp, by simp, by simp⟩⟩
    have := N.s0
    simp at h
    omega
  · rintro j t ρ ht ⟨cs, a, b, rfl, I⟩
    rw [Nat.zero_add] at I
    have hj : (j : Int) < p := by have := (List.getElem?_eq_some_iff.mp ht).1; simp [rangeI] at this; omega
    have et : t = .int j := by
      rw [List.getElem?_map] at ht
      unfold rangeI at ht
      rw [List.getElem?_map, List.getElem?_range (by omega)] at ht
      simpa using ht.symm
    subst et
    have few : cs.length ≤ 64 := Nat.le_trans I.few (Nat.le_trans (Nat.pow_le_pow_right (by decide) (by omega : j ≤ 6)) (by decide))
    have short : ∀ c ∈ cs, c.length ≤ 1000 := fun c hc => by
      have := asc_len (a := 0) (b := (j : Int)) (I.asc c hc) (I.rng c hc) (by omega)
      omega
    refine ⟨[.val (netV p s e roads), .val (.lst (cs.map lT)), .val (.int j), b, .any], rfl, ?_⟩
    have q2 : ∀ {ρ : Env'}, ρ[0]? = some (.val (netV p s e roads)) → ρ[2]? = some (.val (.int j)) → (e1 boolT (e2 eqT (eV 2) (e2 ixT (eVS 0) (eC (.int 2))))) ρ = .ret (decide ((j : Int) = s)) := fun h1 h2 => v_bool (v_2 (v_var h2) (v_2 (v_seq h1 rfl) v_c (ix_at (k := 2) rfl)) (eqT_int j s))
    have q3 : ∀ {ρ : Env'}, ρ[0]? = some (.val (netV p s e roads)) → ρ[2]? = some (.val (.int j)) → (e1 boolT (e2 eqT (eV 2) (e2 ixT (eVS 0) (eC (.int 3))))) ρ = .ret (decide ((j : Int) = e)) := fun h1 h2 => v_bool (v_2 (v_var h2) (v_2 (v_seq h1 rfl) v_c (ix_at (k := 3) rfl)) (eqT_int j e))
    have wo : ∃ ws : List (List Int), (eIf (e1 boolT (e2 eqT (eV 2) (e2 ixT (eVS 0) (eC (.int 2))))) (e1 lstT (nLst aNil)) (eV 1)) [.val (netV p s e roads), .val (.lst (cs.map lT)), .val (.int j), b, .any] = .ret (.lst (ws.map lT)) ∧ ((j : Int) = s ∧ ws = [] ∨ (j : Int) ≠ s ∧ ws = cs) := by
      have h := q2 (ρ := [.val (netV p s e roads), .val (.lst (cs.map lT)), .val (.int j), b, .any]) rfl rfl
      by_cases z : (j : Int) = s
      · rw [decide_eq_true z] at h
        exact ⟨[], v_ifT h (v_lstT (v_lst v_nil (by decide))), .inl ⟨z, rfl⟩⟩
      · rw [decide_eq_false z] at h
        exact ⟨cs, v_ifF h (v_var rfl), .inr ⟨z, rfl⟩⟩
    obtain ⟨ws, hw, hws⟩ := wo
    have wi : ∃ vs : List (List Int), (eIf (e1 boolT (e2 eqT (eV 2) (e2 ixT (eVS 0) (eC (.int 3))))) (e1 lstT (nLst aNil)) (e1 lstT (nLc [4] (e1 itemsT (eV 1)) (bName 4) cYes (e1 lstT (e2 nCat (eVS 4) (e1 seqN (nLst (aCons (eV 2) aNil)))))))) [.val (netV p s e roads), .val (.lst (cs.map lT)), .val (.int j), .val (.lst (ws.map lT)), .any] = .ret (.lst (vs.map lT)) ∧ ((j : Int) = e ∧ vs = [] ∨ (j : Int) ≠ e ∧ vs = cs.map (· ++ [(j : Int)])) := by
      have h := q3 (ρ := [.val (netV p s e roads), .val (.lst (cs.map lT)), .val (.int j), .val (.lst (ws.map lT)), .any]) rfl rfl
      by_cases z : (j : Int) = e
      · rw [decide_eq_true z] at h
        exact ⟨[], v_ifT h (v_lstT (v_lst v_nil (by decide))), .inl ⟨z, rfl⟩⟩
      · rw [decide_eq_false z] at h
        exact ⟨_, v_ifF h (app_comp (ρ := []) (d := .any) (by omega) short), .inr ⟨z, rfl⟩⟩
    obtain ⟨vs, hv, hvs⟩ := wi
    have lw : ws.length ≤ cs.length := by rcases hws with ⟨_, rfl⟩ | ⟨_, rfl⟩ <;> simp
    have lv : vs.length ≤ cs.length := by rcases hvs with ⟨_, rfl⟩ | ⟨_, rfl⟩ <;> simp
    have run : (sSeq (sSet 3 (eIf (e1 boolT (e2 eqT (eV 2) (e2 ixT (eVS 0) (eC (.int 2))))) (e1 lstT (nLst aNil)) (eV 1)))
      (sSet 1 (e2 addT (eV 3) (eIf (e1 boolT (e2 eqT (eV 2) (e2 ixT (eVS 0) (eC (.int 3))))) (e1 lstT (nLst aNil)) (e1 lstT (nLc [4] (e1 itemsT (eV 1)) (bName 4) cYes (e1 lstT (e2 nCat (eVS 4) (e1 seqN (nLst (aCons (eV 2) aNil)))))))))))  [.val (netV p s e roads), .val (.lst (cs.map lT)), .val (.int j), b, .any] = .ret (.next [.val (netV p s e roads), .val (.lst ((ws ++ vs).map lT)), .val (.int j), .val (.lst (ws.map lT)), .any]) := by
      refine g_seq (ρ' := [.val (netV p s e roads), .val (.lst (cs.map lT)), .val (.int j), .val (.lst (ws.map lT)), .any]) (g_set hw) (g_set (v_2 (v_var rfl) hv ?_))
      show (if okLen ((ws.map lT).length + (vs.map lT).length) = true then M.ret (T.lst (ws.map lT ++ vs.map lT)) else .stuck) = _
      rw [if_pos (by unfold okLen; simp; omega), List.map_append]
    rw [run]
    refine Tk.ret ⟨_, rfl, ws ++ vs, _, _, rfl, ?_⟩
    rw [Nat.zero_add]
    have mem : ∀ c ∈ ws ++ vs, (c ∈ cs ∧ (j : Int) ≠ s) ∨ ∃ c' ∈ cs, c = c' ++ [(j : Int)] ∧ (j : Int) ≠ e := fun c hc => by
      rcases List.mem_append.mp hc with h | h
      · rcases hws with ⟨_, rfl⟩ | ⟨z, rfl⟩
        · simp at h
        · exact .inl ⟨h, z⟩
      · rcases hvs with ⟨_, rfl⟩ | ⟨z, rfl⟩
        · simp at h
        · obtain ⟨c', h1, h2⟩ := List.mem_map.mp h
          exact .inr ⟨c', h1, h2.symm, z⟩
    refine ⟨fun c hc => ?_, fun c hc x hx => ?_, fun hs c hc => ?_, fun c hc => ?_, ?_, ?_⟩
    · rcases mem c hc with ⟨h, _⟩ | ⟨c', h, rfl, _⟩
      · exact I.asc c h
      · refine List.pairwise_append.mpr ⟨I.asc c' h, by simp, fun x hx y hy => ?_⟩
        rw [List.mem_singleton.mp hy]
        exact (I.rng c' h x hx).2
    · rcases mem c hc with ⟨h, _⟩ | ⟨c', h, rfl, _⟩
      · have := I.rng c h x hx; omega
      · rcases List.mem_append.mp hx with hx | hx
        · have := I.rng c' h x hx; omega
        · rw [List.mem_singleton.mp hx]; omega
    · rcases mem c hc with ⟨h, z⟩ | ⟨c', h, rfl, _⟩
      · exact I.start (by omega) c h
      · by_cases z : (j : Int) = s
        · rw [z]; simp
        · exact List.mem_append_left _ (I.start (by omega) c' h)
    · rcases mem c hc with ⟨h, _⟩ | ⟨c', h, rfl, z⟩
      · exact I.stop c h
      · intro hm
        rcases List.mem_append.mp hm with hm | hm
        · exact I.stop c' h hm
        · exact z (List.mem_singleton.mp hm).symm
    · intro z
      have z1 := List.append_eq_nil_iff.mp z
      rcases hvs with ⟨he, _⟩ | ⟨_, rfl⟩
      · rcases hws with ⟨hs, _⟩ | ⟨_, rfl⟩
        · exact N.ne (by omega)
        · exact I.some z1.1
      · exact I.some (by simpa using z1.2)
    · have := I.few
      rw [List.length_append, Nat.pow_succ]
      omega
end Tw
end
section
set_option Elab.async false
set_option linter.all false
set_option maxRecDepth 100000
namespace Tw
open PySem PySem.Spec PyProof.Rows L2 DP
variable {cA : Str → Addr}
/-! ### whether things are cuts -/
def Item (x : T) : Prop := (∃ i, x = .int i) ∨ (∃ b, x = .bl b) ∨ Odd x
theorem Item.whole {x : T} (h : Item x) : (∃ i, x = .int i) ∨ (m_is_integer cA [x] = .ret (.bl false) ∧ ∀ i, x ≠ .int i) := by
  rcases h with h | ⟨b, rfl⟩ | h
  · exact .inl h
  · exact .inr ⟨integer_bl b, fun i h => nomatch h⟩
  · refine .inr ⟨integer_odd h, fun i e => ?_⟩
    subst e
    rcases h with h | ⟨_, h⟩ | ⟨_, h⟩ | ⟨_, h⟩ | ⟨_, h⟩ <;> cases h
theorem intsT_none {x : T} {xs : List T} (h : ∀ i, x ≠ .int i) : intsT (x :: xs) = none := by
  cases x with
  | int i => exact absurd rfl (h i)
  | _ => rfl
structure Cut (p s e : Int) (ks : List Int) : Prop where
  rng : ∀ k ∈ ks, 0 ≤ k ∧ k < p
  asc : ks.Pairwise (· < ·)
def scan (p : Int) : Option Int → List T → Bool
  | _, [] => true
  | l, .int k :: r => decide (0 ≤ k) && (decide (k < p) && ((match l with | none => true | some l => decide (l < k)) && scan p (some k) r))
  | _, _ :: _ => false
theorem scan_iff {p : Int} : ∀ {xs : List T} {l : Option Int}, scan p l xs = true ↔ ∃ ks, intsT xs = some ks ∧ (∀ k ∈ ks, 0 ≤ k ∧ k < p) ∧ ks.Pairwise (· < ·) ∧ ∀ m, l = some m → ∀ k ∈ ks, m < k
  | [], l => by
    refine ⟨fun _ => ⟨[], rfl, by simp, .nil, by simp⟩, fun _ => rfl⟩
  | x :: xs, l => by
    by_cases hx : ∃ i, x = .int i
    · obtain ⟨k, rfl⟩ := hx
      have ih := scan_iff (p := p) (xs := xs) (l := some k)
      show (decide (0 ≤ k) && (decide (k < p) && ((match l with | none => true | some l => decide (l < k)) && scan p (some k) xs))) = true ↔ _
      rw [Bool.and_eq_true, Bool.and_eq_true, Bool.and_eq_true, decide_eq_true_eq, decide_eq_true_eq, ih]
      constructor
      · rintro ⟨h0, h1, h2, ks, e, hr, hp, hl⟩
        refine ⟨k :: ks, ?_, ?_, List.pairwise_cons.mpr ⟨fun a ha => hl k rfl a ha, hp⟩, ?_⟩
        · show (intsT xs).map (k :: ·) = _
          rw [e]; rfl
        · intro a ha
          rcases List.mem_cons.mp ha with rfl | ha
          · exact ⟨h0, h1⟩
          · exact hr a ha
        · rintro m rfl a ha
          have h2 : m < k := of_decide_eq_true h2
          rcases List.mem_cons.mp ha with rfl | ha
          · exact h2
          · exact Int.lt_trans h2 (hl k rfl a ha)
      · rintro ⟨ks, e, hr, hp, hl⟩
        have e : (intsT xs).map (k :: ·) = some ks := e
        obtain ⟨ks', e1, e2⟩ := Option.map_eq_some_iff.mp e
        subst e2
        have hp' := List.pairwise_cons.mp hp
        refine ⟨(hr k List.mem_cons_self).1, (hr k List.mem_cons_self).2, ?_, ks', e1, fun a ha => hr a (List.mem_cons_of_mem _ ha), hp'.2, fun m hm a ha => by cases hm; exact hp'.1 a ha⟩
        cases l with
        | none => rfl
        | some m => exact decide_eq_true (hl m rfl k List.mem_cons_self)
    · have hn : ∀ i, x ≠ .int i := fun i h => hx ⟨i, h⟩
      have e : scan p l (x :: xs) = false := by
        cases x with
        | int i => exact absurd rfl (hn i)
        | _ => rfl
      rw [e, intsT_none hn]
      simp
/-- a cut, by what stands in a list -/
def isCutB (p s e : Int) (xs : List T) : Bool := match intsT xs with
  | none => false
  | some ks => scan p none xs && (decide (s ∈ ks) && !decide (e ∈ ks))
theorem net_places {p s e : Int} {roads : List (List Int)} : m_Net__places cA [netT cA p roads s e] = .ret (.int p) := by
  show M.bind (M.bind (if cA "Net" = cA "Net" then _ else M.stuck) _) _ = _
  rw [if_pos rfl]
  rfl
theorem net_start {p s e : Int} {roads : List (List Int)} : m_Net__start cA [netT cA p roads s e] = .ret (.int s) := by
  show M.bind (M.bind (if cA "Net" = cA "Net" then _ else M.stuck) _) _ = _
  rw [if_pos rfl]
  rfl
theorem net_end {p s e : Int} {roads : List (List Int)} : m_Net__end cA [netT cA p roads s e] = .ret (.int e) := by
  show M.bind (M.bind (if cA "Net" = cA "Net" then _ else M.stuck) _) _ = _
  rw [if_pos rfl]
  rfl
theorem net_roads {p s e : Int} {roads : List (List Int)} : m_Net__roads cA [netT cA p roads s e] = .ret (.lst (roads.map iT)) := by
  show M.bind (M.bind (M.bind (M.bind (M.bind (if cA "Net" = cA "Net" then _ else M.stuck) _) _) _) _) _ = _
  rw [if_pos rfl]
  rfl
theorem meth_ {ρ : Env'} {i : Nat} {mn : Str} {m : List T → M T} {fs : List (Str × T)} {t : T} (h : ρ[i]? = some (.val (.obj (cA "Net") fs))) (hn : (fs.lookup mn).isNone = true) (hm : m [.obj (cA "Net") fs] = .ret t) : e1 (methT (cA "Net") mn m []) (eV i) ρ = .ret t := by
  refine v_1 (v_var h) ?_
  show (if cA "Net" = cA "Net" then (if (fs.lookup mn).isNone = true then (m [.obj (cA "Net") fs]).calm else .stuck) else .stuck) = _
  rw [if_pos rfl, if_pos hn, hm]
  rfl
abbrev cutG (cA : Str → Addr) : Env' → M Fl := sIf (eOr (eNot (e1 boolT (eCall (m_is_index cA) (aCons (eV 3) (aCons (e1 (methT (cA "Net") "places" (m_Net__places cA) []) (eV 0)) aNil))))) (eAnd (e1 boolT (e2 gtT (eV 2) (eC (.int 0)))) (e1 boolT (e2 leT (eV 3) (e2 ixT (eVS 1) (e2 subT (eV 2) (eC (.int 1)))))))) (sRet (eC (.bl false))) sNext
theorem enum_drop {xs : List T} {j : Nat} {x : T} (h : xs[j]? = some x) : (enumL xs).drop j = .tup [.int (j : Nat), x] :: (enumL xs).drop (j + 1) := by
  obtain ⟨hj, e⟩ := List.getElem?_eq_some_iff.mp h
  have hj' : j < (enumL xs).length := by simpa [enumL] using hj
  rw [List.drop_eq_getElem_cons hj']
  congr 1
  simp [enumL, e]
theorem cut_loop {p s e : Int} {roads : List (List Int)} {t : T} {xs : List T} (ht : SeqOf t xs) : ∀ (r : List T) (pre : List Int) (a b : Sl), xs = pre.map T.int ++ r → (∀ x ∈ r, Item x) →
    if scan p pre.getLast? r = true then ∃ a' b', forL (bTup (bCons (bName 2) (bCons (bName 3) bNil))) (cutG cA) ((enumL xs).drop pre.length) [.val (netT cA p roads s e), .val t, a, b] = .ret (.next [.val (netT cA p roads s e), .val t, a', b'])
    else forL (bTup (bCons (bName 2) (bCons (bName 3) bNil))) (cutG cA) ((enumL xs).drop pre.length) [.val (netT cA p roads s e), .val t, a, b] = .ret (.ret (.bl false)) := by
  intro r
  induction r with
  | nil =>
    intro pre a b hx _
    have : (enumL xs).drop pre.length = [] := List.drop_eq_nil_of_le (by rw [hx]; simp [enumL])
    rw [this]
    show if true = true then _ else _
    rw [if_pos rfl]
    exact ⟨a, b, rfl⟩
  | cons x r ih =>
    intro pre a b hx hr
    have hj : xs[pre.length]? = some x := by rw [hx, List.getElem?_append_right (by simp)]; simp
    rw [enum_drop hj]
    have places : ∀ {c d : Sl}, (e1 (methT (cA "Net") "places" (m_Net__places cA) []) (eV 0)) [.val (netT cA p roads s e), .val t, c, d] = .ret (.int p) := fun {c d} => meth_ rfl (by rfl) net_places
    have unf : ∀ {fl : Fl}, cutG cA [.val (netT cA p roads s e), .val t, .val (.int (pre.length : Nat)), .val x] = .ret fl →
        forL (bTup (bCons (bName 2) (bCons (bName 3) bNil))) (cutG cA) (.tup [.int (pre.length : Nat), x] :: (enumL xs).drop (pre.length + 1)) [.val (netT cA p roads s e), .val t, a, b] =
          (match fl with | .next ρ' => forL (bTup (bCons (bName 2) (bCons (bName 3) bNil))) (cutG cA) ((enumL xs).drop (pre.length + 1)) ρ' | .cont ρ' => forL (bTup (bCons (bName 2) (bCons (bName 3) bNil))) (cutG cA) ((enumL xs).drop (pre.length + 1)) ρ' | .brk ρ' => .ret (.next ρ') | .ret t => .ret (.ret t)) := fun {fl} h => by
      show ((cutG cA [.val (netT cA p roads s e), .val t, .val (.int (pre.length : Nat)), .val x]).bind _) = _
      rw [h]
      rfl
    have no : m_is_index cA [x, .int p] = .ret (.bl false) → cutG cA [.val (netT cA p roads s e), .val t, .val (.int (pre.length : Nat)), .val x] = .ret (.ret (.bl false)) := fun h =>
      g_ifT (v_orT (v_not (v_bool (v_call (v_cons (v_var rfl) (v_cons places v_nil)) h)))) (g_ret v_c)
    rcases Item.whole (cA := cA) (hr x List.mem_cons_self) with ⟨k, rfl⟩ | ⟨hw, hn⟩
    · by_cases hk : 0 ≤ k ∧ k < p
      · have ix : m_is_index cA [.int k, .int p] = .ret (.bl true) := by rw [index_int, decide_eq_true hk.1, decide_eq_true hk.2]; rfl
        have t1 : (eNot (e1 boolT (eCall (m_is_index cA) (aCons (eV 3) (aCons (e1 (methT (cA "Net") "places" (m_Net__places cA) []) (eV 0)) aNil))))) [.val (netT cA p roads s e), .val t, .val (.int (pre.length : Nat)), .val (.int k)] = .ret false := v_not (v_bool (v_call (v_cons (v_var rfl) (v_cons places v_nil)) ix))
        have goon : (match pre.getLast? with | none => true | some l => decide (l < k)) = true → cutG cA [.val (netT cA p roads s e), .val t, .val (.int (pre.length : Nat)), .val (.int k)] = .ret (.next [.val (netT cA p roads s e), .val t, .val (.int (pre.length : Nat)), .val (.int k)]) := fun hl => by
          refine g_ifF (v_orF t1 ?_) rfl
          rcases List.eq_nil_or_concat pre with rfl | ⟨q, l, hp⟩
          · exact v_andF (v_bool (v_2 (v_var rfl) v_c rfl))
          · rw [List.concat_eq_append] at hp
            subst hp
            have hl : l < k := by simpa using hl
            have at_ : (e2 ixT (eVS 1) (e2 subT (eV 2) (eC (.int 1)))) [.val (netT cA p roads s e), .val t, .val (.int ((q ++ [l]).length : Nat)), .val (.int k)] = .ret (.int l) := by
              have hq : ((((q ++ [l]).length : Nat) : Int) - 1) = ((q.length : Nat) : Int) := by simp
              have hxl : xs[q.length]? = some (.int l) := by rw [hx]; simp
              rcases ht with rfl | rfl
              · exact v_2 (v_seq rfl rfl) (v_2 (v_var rfl) v_c (show M.ret (T.int _) = _ from by rw [hq])) (ix_at hxl)
              · exact v_2 (v_seq rfl rfl) (v_2 (v_var rfl) v_c (show M.ret (T.int _) = _ from by rw [hq])) (ix_at hxl)
            have gt : DP.gtT (.int ((q ++ [l]).length : Nat)) (.int 0) = .ret (.bl true) := by show M.ret (T.bl (decide _)) = _; rw [decide_eq_true (by simp)]
            have le : DP.leT (.int k) (.int l) = .ret (.bl false) := by show M.ret (T.bl (decide _)) = _; rw [decide_eq_false (by omega)]
            exact v_andT (v_bool (v_2 (v_var rfl) v_c gt)) (v_bool (v_2 (v_var rfl) at_ le))
        have halt : ∀ q l, pre = q ++ [l] → ¬ l < k → cutG cA [.val (netT cA p roads s e), .val t, .val (.int (pre.length : Nat)), .val (.int k)] = .ret (.ret (.bl false)) := fun q l hp hl => by
          subst hp
          refine g_ifT (v_orF t1 ?_) (g_ret v_c)
          have at_ : (e2 ixT (eVS 1) (e2 subT (eV 2) (eC (.int 1)))) [.val (netT cA p roads s e), .val t, .val (.int ((q ++ [l]).length : Nat)), .val (.int k)] = .ret (.int l) := by
            have hq : ((((q ++ [l]).length : Nat) : Int) - 1) = ((q.length : Nat) : Int) := by simp
            have hxl : xs[q.length]? = some (.int l) := by rw [hx]; simp
            rcases ht with rfl | rfl
            · exact v_2 (v_seq rfl rfl) (v_2 (v_var rfl) v_c (show M.ret (T.int _) = _ from by rw [hq])) (ix_at hxl)
            · exact v_2 (v_seq rfl rfl) (v_2 (v_var rfl) v_c (show M.ret (T.int _) = _ from by rw [hq])) (ix_at hxl)
          have gt : DP.gtT (.int ((q ++ [l]).length : Nat)) (.int 0) = .ret (.bl true) := by show M.ret (T.bl (decide _)) = _; rw [decide_eq_true (by simp)]
          have le : DP.leT (.int k) (.int l) = .ret (.bl true) := by show M.ret (T.bl (decide _)) = _; rw [decide_eq_true (by omega)]
          exact v_andT (v_bool (v_2 (v_var rfl) v_c gt)) (v_bool (v_2 (v_var rfl) at_ le))
        have sc : scan p pre.getLast? (.int k :: r) = ((match pre.getLast? with | none => true | some l => decide (l < k)) && scan p (some k) r) := by
          show (decide (0 ≤ k) && (decide (k < p) && _)) = _
          rw [decide_eq_true hk.1, decide_eq_true hk.2]
          rfl
        rw [sc]
        cases hm : (match pre.getLast? with | none => true | some l => decide (l < k)) with
        | true =>
          have next := ih (pre ++ [k]) (.val (.int (pre.length : Nat))) (.val (.int k)) (by rw [hx]; simp) fun y hy => hr y (List.mem_cons_of_mem _ hy)
          rw [List.getLast?_concat] at next
          rw [Bool.true_and, unf (goon hm)]
          simpa using next
        | false =>
          rw [Bool.false_and, if_neg Bool.false_ne_true]
          rcases List.eq_nil_or_concat pre with rfl | ⟨q, l, hp⟩
          · cases hm
          · rw [List.concat_eq_append] at hp
            have hl : ¬ l < k := by
              rw [hp] at hm
              simpa using hm
            rw [unf (halt q l hp hl)]
      · have ix : m_is_index cA [.int k, .int p] = .ret (.bl false) := by
          rw [index_int]
          by_cases h0 : 0 ≤ k
          · rw [decide_eq_true h0, decide_eq_false (fun h => hk ⟨h0, h⟩)]; rfl
          · rw [decide_eq_false h0]; rfl
        have sc : scan p pre.getLast? (.int k :: r) = false := by
          show (decide (0 ≤ k) && (decide (k < p) && _)) = _
          by_cases h0 : 0 ≤ k
          · rw [decide_eq_true h0, decide_eq_false (fun h => hk ⟨h0, h⟩)]; rfl
          · rw [decide_eq_false h0]; rfl
        rw [sc, if_neg Bool.false_ne_true, unf (no ix)]
    · have sc : scan p pre.getLast? (x :: r) = false := by
        cases x with
        | int i => exact absurd rfl (hn i)
        | _ => rfl
      rw [sc, if_neg Bool.false_ne_true, unf (no (index_not hw))]
end Tw
end
section
set_option Elab.async false
set_option linter.all false
set_option maxRecDepth 100000
namespace Tw
open PySem PySem.Spec PyProof.Rows L2 DP
variable {cA : Str → Addr}
/-! ### small things: how they are shown, and that each is as it is -/
def leaves : List T := [.non, .bl true, .bl false, .int (-1), .int 0, .int 1, .int 2, .int 3, .int 4, .int 5, .int 6, .str "", .str "01", .str "0", .str "1", .str "2", .str "3", .str "4", .str "5", .str "6", .str "cut", .str "a", .str "late"]
inductive Nice : Nat → T → Prop
  | leaf {n : Nat} {t : T} : t ∈ leaves → Nice n t
  | seq {n : Nat} {t : T} {xs : List T} : SeqOf t xs → xs.length ≤ 12 → (∀ x ∈ xs, Nice n x) → Nice (n + 1) t
structure DOk (n : Nat) (d : PyData) : Prop where
  lay : PyData.canLay0 d = true
  dep : d.depth ≤ n
  shw : d.showable = true
  len : d.shown.length ≤ 20 * 20 ^ n
  eqv : PyData.eqv d d = true
  txt : PyData.strOk d.shown = true
def leafB (t : T) : Bool := match dataT t with
  | some d => PyData.canLay0 d && (decide (d.depth = 0) && (d.showable && (decide (d.shown.length ≤ 20) && (PyData.eqv d d && PyData.strOk d.shown))))
  | none => false
theorem leaves_ok : leaves.all leafB = true := by decide +kernel
def kindB : T → Bool
  | .non => true
  | .bl _ => true
  | .int i => decide (-1 ≤ i ∧ i ≤ 6)
  | .str x => PyData.strOk x
  | _ => false
theorem leaves_kind : leaves.all kindB = true := by decide +kernel
theorem leaf_kind {t : T} (h : t ∈ leaves) : t = .non ∨ (∃ b, t = .bl b) ∨ (∃ i : Int, t = .int i) ∨ ∃ x, t = .str x ∧ PyData.strOk x = true := by
  have h := List.all_eq_true.mp leaves_kind t h
  cases t with
  | non => exact .inl rfl
  | bl b => exact .inr (.inl ⟨b, rfl⟩)
  | int i => exact .inr (.inr (.inl ⟨i, rfl⟩))
  | str x => exact .inr (.inr (.inr ⟨x, rfl, h⟩))
  | _ => cases h
theorem leaf_int {i : Int} (h : -1 ≤ i) (h2 : i ≤ 6) : T.int i ∈ leaves := by
  have : i = -1 ∨ i = 0 ∨ i = 1 ∨ i = 2 ∨ i = 3 ∨ i = 4 ∨ i = 5 ∨ i = 6 := by omega
  unfold leaves
  rcases this with rfl | rfl | rfl | rfl | rfl | rfl | rfl | rfl <;> simp
theorem leaf_bl (b : Bool) : T.bl b ∈ leaves := by
  unfold leaves
  cases b <;> simp
theorem leaf_data {n : Nat} {t : T} (h : t ∈ leaves) : ∃ d, dataT t = some d ∧ DOk n d := by
  have h := List.all_eq_true.mp leaves_ok t h
  unfold leafB at h
  cases e : dataT t with
  | none => rw [e] at h; cases h
  | some d =>
    rw [e] at h
    have h : (PyData.canLay0 d && (decide (d.depth = 0) && (d.showable && (decide (d.shown.length ≤ 20) && (PyData.eqv d d && PyData.strOk d.shown))))) = true := h
    rw [Bool.and_eq_true, Bool.and_eq_true, Bool.and_eq_true, Bool.and_eq_true, Bool.and_eq_true, decide_eq_true_eq, decide_eq_true_eq] at h
    obtain ⟨h1, h2, h3, h4, h5, h6⟩ := h
    refine ⟨d, rfl, h1, by omega, h3, ?_, h5, h6⟩
    have : 1 ≤ 20 ^ n := Nat.one_le_pow _ _ (by decide)
    omega
theorem datas_of {n : Nat} : ∀ {xs : List T}, (∀ x ∈ xs, ∃ d, dataT x = some d ∧ DOk n d) → ∃ ds, dataTs xs = some ds ∧ ds.length = xs.length ∧ ∀ d ∈ ds, DOk n d
  | [], _ => ⟨[], rfl, rfl, by simp⟩
  | x :: xs, h => by
    obtain ⟨d, e, hd⟩ := h x List.mem_cons_self
    obtain ⟨ds, e2, l, hds⟩ := datas_of fun x hx => h x (List.mem_cons_of_mem _ hx)
    refine ⟨d :: ds, ?_, by simp [l], fun d' h' => ?_⟩
    · show ((dataT x).bind fun d => (dataTs xs).map fun ds => d :: ds) = _
      rw [e, e2]
      rfl
    · rcases List.mem_cons.mp h' with rfl | h'
      · exact hd
      · exact hds d' h'
theorem join_len {B : Nat} : ∀ {ts : List Str}, (∀ t ∈ ts, t.length ≤ B) → (Str.join ", " ts).length ≤ ts.length * (B + 2)
  | [], _ => by show (0 : Nat) ≤ _; omega
  | [x], h => by
    have := h x List.mem_cons_self
    show x.length ≤ _
    simp
    omega
  | x :: y :: r, h => by
    have ih := join_len (ts := y :: r) fun t ht => h t (List.mem_cons_of_mem _ ht)
    have hx := h x List.mem_cons_self
    show (x ++ ", " ++ Str.join ", " (y :: r)).length ≤ _
    rw [Str.length_append, Str.length_append]
    have e : (", " : Str).length = 2 := by decide +kernel
    rw [e]
    have e2 : (x :: y :: r).length = (y :: r).length + 1 := rfl
    rw [e2, Nat.add_mul]
    omega
theorem ok_app {a b : Str} (ha : PyData.strOk a = true) (hb : PyData.strOk b = true) : PyData.strOk (a ++ b) = true := by
  unfold PyData.strOk at *
  rw [Str.cps_append, Array.all_append, ha, hb]
  rfl
theorem join_ok : ∀ {ts : List Str}, (∀ t ∈ ts, PyData.strOk t = true) → PyData.strOk (Str.join ", " ts) = true
  | [], _ => by decide +kernel
  | [x], h => h x List.mem_cons_self
  | x :: y :: r, h => by
    show PyData.strOk (x ++ ", " ++ Str.join ", " (y :: r)) = true
    exact ok_app (ok_app (h x List.mem_cons_self) (by decide +kernel)) (join_ok fun t ht => h t (List.mem_cons_of_mem _ ht))
theorem all_ok {n : Nat} : ∀ {ds : List PyData}, (∀ d ∈ ds, DOk n d) → PyData.canLayAll0 ds = true ∧ PyData.depthAll ds ≤ n ∧ PyData.showableAll ds = true ∧ (∀ t ∈ PyData.shownAll ds, t.length ≤ 20 * 20 ^ n) ∧ PyData.eqvAll ds ds = true ∧ ∀ t ∈ PyData.shownAll ds, PyData.strOk t = true
  | [], _ => ⟨by simp [PyData.canLayAll0], by simp [PyData.depthAll], by simp [PyData.showableAll], by simp [PyData.shownAll], by simp [PyData.eqvAll], by simp [PyData.shownAll]⟩
  | d :: ds, h => by
    obtain ⟨a, b, c, e, f, o⟩ := all_ok fun d hd => h d (List.mem_cons_of_mem _ hd)
    have z := h d List.mem_cons_self
    refine ⟨?_, ?_, ?_, ?_, ?_, ?_⟩
    · simp only [PyData.canLayAll0, z.lay, a, Bool.and_self]
    · simp only [PyData.depthAll]; exact Nat.max_le.mpr ⟨z.dep, b⟩
    · simp only [PyData.showableAll, z.shw, c, Bool.and_self]
    · intro t ht
      rw [PyData.shownAll_cons] at ht
      rcases List.mem_cons.mp ht with rfl | ht
      · exact z.len
      · exact e t ht
    · simp only [PyData.eqvAll, z.eqv, f, Bool.and_self]
    · intro t ht
      rw [PyData.shownAll_cons] at ht
      rcases List.mem_cons.mp ht with rfl | ht
      · exact z.txt
      · exact o t ht
theorem nice_data {n : Nat} {t : T} (h : Nice n t) : ∃ d, dataT t = some d ∧ DOk n d := by
  induction h with
  | leaf h => exact leaf_data h
  | @seq n t xs ht hl _ ih =>
    obtain ⟨ds, e, l, hd⟩ := datas_of ih
    obtain ⟨a, b, c, f, g, o⟩ := all_ok hd
    have jo := join_ok o
    have j := join_len f
    rw [PyData.shownAll_length, l] at j
    have j2 : xs.length * (20 * 20 ^ n + 2) ≤ 12 * (20 * 20 ^ n + 2) := Nat.mul_le_mul_right _ hl
    have p1 : 1 ≤ 20 ^ n := Nat.one_le_pow _ _ (by decide)
    have p2 : 20 ^ (n + 1) = 20 ^ n * 20 := Nat.pow_succ ..
    rcases ht with rfl | rfl
    · refine ⟨.list ds, ?_, ?_, ?_, ?_, ?_, ?_, ?_⟩
      · show (dataTs xs).map PyData.list = _
        rw [e]; rfl
      · simp only [PyData.canLay0, a]
      · simp only [PyData.depth]; omega
      · simp only [PyData.showable, c]
      · rw [PyData.shown_list, Str.length_append, Str.length_append]
        have e1 : ("[" : Str).length = 1 := by decide +kernel
        have e2 : ("]" : Str).length = 1 := by decide +kernel
        rw [e1, e2]
        omega
      · simp only [PyData.eqv, g]
      · rw [PyData.shown_list]
        exact ok_app (ok_app (by decide +kernel) jo) (by decide +kernel)
    · refine ⟨.tuple ds, ?_, ?_, ?_, ?_, ?_, ?_, ?_⟩
      · show (dataTs xs).map PyData.tuple = _
        rw [e]; rfl
      · simp only [PyData.canLay0, a]
      · simp only [PyData.depth]; omega
      · simp only [PyData.showable, c]
      · rw [PyData.shown_tuple, Str.length_append, Str.length_append]
        have e1 : ("(" : Str).length = 1 := by decide +kernel
        have e2 : ((if ds.length == 1 then ",)" else ")" : String) : Str).length ≤ 2 := by
          by_cases z : ds.length == 1
          · rw [if_pos z]; decide +kernel
          · rw [if_neg z]; decide +kernel
        rw [e1]
        omega
      · simp only [PyData.eqv, g]
      · rw [PyData.shown_tuple]
        refine ok_app (ok_app (by decide +kernel) jo) ?_
        by_cases z : ds.length == 1
        · rw [if_pos z]; decide +kernel
        · rw [if_neg z]; decide +kernel
theorem nice_repr {n : Nat} {t : T} (h : Nice n t) (hn : n ≤ 3) : ∃ x, reprT [t] = .ret (.str x) ∧ PyData.strOk x = true := by
  obtain ⟨d, e, k⟩ := nice_data h
  have e2 : dataR t = some d := by
    cases t with
    | dct kvs => cases e
    | _ => exact e
  refine ⟨d.shown, ?_, k.txt⟩
  show (match dataR t with | some d => (if (d.showable && decide (d.shown.length ≤ 1000000) && decide (d.depth ≤ 64)) = true then M.ret (T.str d.shown) else .stuck) | none => .stuck) = _
  rw [e2]
  show (if _ then _ else _) = _
  have l : d.shown.length ≤ 1000000 := by
    have := k.len
    have p : 20 ^ n ≤ 20 ^ 3 := Nat.pow_le_pow_right (by decide) hn
    omega
  have dp : d.depth ≤ 64 := by have := k.dep; omega
  rw [if_pos (by rw [k.shw, decide_eq_true l, decide_eq_true dp]; rfl)]
theorem nice_eqT {n : Nat} {t : T} (h : Nice n t) (hn : n ≤ 3) : DP.eqT t t = .ret (.bl true) := by
  obtain ⟨d, e, k⟩ := nice_data h
  unfold DP.eqT
  rw [e]
  have sh : SeqAt.shaped d = true := by
    have := k.dep
    simp [SeqAt.shaped, k.lay]
    omega
  show (if _ then _ else _) = _
  rw [if_pos (by rw [sh]; rfl), k.eqv]
end Tw
end
section
set_option Elab.async false
set_option linter.all false
set_option maxRecDepth 100000
namespace Tw
open PySem PySem.Spec PyProof.Rows L2 DP
variable {cA : Str → Addr}
/-! ### what is the same as itself -/
theorem neT_bl (a b : Bool) : DP.neT (.bl a) (.bl b) = .ret (.bl (!(a == b))) := by
  unfold DP.neT
  simp [dataT, SeqAt.shaped, PyData.canLay0, PyData.depth, PyData.eqv]
def Refl (cA : Str → Addr) (n : Nat) (t : T) : Prop := m__law_same cA n [t, t] = .ret (.bl true)
theorem all_true : ∀ ts : List T, blsT (ts.map fun _ => T.bl true) = some (ts.map fun _ => true)
  | [] => rfl
  | t :: ts => by
    show (blsT (ts.map fun _ => T.bl true)).map (true :: ·) = _
    rw [all_true ts]
    rfl
theorem zip_self {xs : List T} {t : T} (h : t ∈ zipL xs xs) : ∃ x ∈ xs, t = .tup [x, x] := by
  obtain ⟨j, hj, e⟩ := List.mem_iff_getElem.mp h
  obtain ⟨x, y, h1, h2, h3⟩ := zip_get (xs := xs) (ys := xs) (j := j) (t := t) (by rw [← e]; exact List.getElem?_eq_getElem hj)
  rw [h1] at h2
  cases h2
  exact ⟨x, List.mem_of_getElem? h1, h3⟩
theorem isi_any {n : String} {t : T} (h : ∃ b, isiT n t = .ret (.bl b)) : DP.neT (.bl true) (.bl true) = .ret (.bl false) := by rw [neT_bl]; rfl
theorem refl_seq {n : Nat} {t : T} {xs : List T} (ht : SeqOf t xs) (h : ∀ x ∈ xs, Refl cA n x) (hl : xs.length ≤ 1000000) : Refl cA (n + 1) t := by
  have lt : ∃ b, isiT "list" t = .ret (.bl b) := by
    rcases ht with rfl | rfl
    · exact ⟨true, by unfold isiT; simp only [tyName, k_ll]⟩
    · exact ⟨false, by unfold isiT; simp only [tyName, k_tl]⟩
  have tt : ∃ b, isiT "tuple" t = .ret (.bl b) := by
    rcases ht with rfl | rfl
    · exact ⟨false, by unfold isiT; simp only [tyName, k_lt]⟩
    · exact ⟨true, by unfold isiT; simp only [tyName, k_tt]⟩
  obtain ⟨b1, lt⟩ := lt
  obtain ⟨b2, tt⟩ := tt
  have sq : ∃ q, seqT t = .ret (q, xs) := by
    rcases ht with rfl | rfl
    · exact ⟨true, rfl⟩
    · exact ⟨false, rfl⟩
  obtain ⟨q, sq⟩ := sq
  have zp : zipA [t, t] = .ret (zipL xs xs) := by rcases ht with rfl | rfl <;> rfl
  have zl : (zipL xs xs).length ≤ 1000000 := by simp [zipL]; omega
  have ne1 := neT_bl b1 b1
  have ne2 := neT_bl b2 b2
  rw [show (!(b1 == b1)) = false by simp] at ne1
  rw [show (!(b2 == b2)) = false by simp] at ne2
  show fnM false 4 (G__law_same cA (m__law_same cA n)) [t, t] = _
  refine g_fn ?_
  show G__law_same cA (m__law_same cA n) [.val t, .val t, .any, .any] = _
  unfold G__law_same
  refine g_seqR (g_ifT (v_bool (v_1 (v_var rfl) (isi2_seq ht))) (g_seq (ρ' := [.val t, .val t, .any, .any]) (g_ifF (v_orF (v_bool (v_2 (v_1 (v_var rfl) lt) (v_1 (v_var rfl) lt) ne1)) (v_bool (v_2 (v_1 (v_var rfl) tt) (v_1 (v_var rfl) tt) ne2))) rfl) (g_ret ?_)))
  have le : DP.eqT (.int (xs.length : Nat)) (.int (xs.length : Nat)) = .ret (.bl true) := by rw [eqT_int, decide_eq_true rfl]
  refine v_andVT (v_2 (v_1 (v_seq rfl sq) rfl) (v_1 (v_seq rfl sq) rfl) le) ?_
  refine v_1 (a := (true, (zipL xs xs).map fun _ => T.bl true)) (v_1 (a := (zipL xs xs).map fun _ => T.bl true) ?_ rfl) ?_
  · rw [nLc_eq (ts := zipL xs xs) (fun _ => true) (fun _ => .bl true) (v_1 (v_cons (v_var rfl) (v_cons (v_var rfl) v_nil)) zp) rfl zl ?_]
    · rw [filter_yes]
    · intro u hu
      obtain ⟨x, hx, rfl⟩ := zip_self hu
      exact ⟨[.val t, .val t, .val x, .val x], rfl, rfl, fun _ => v_call (v_cons (v_var rfl) (v_cons (v_var rfl) v_nil)) (h x hx)⟩
  · show (match blsT ((zipL xs xs).map fun _ => T.bl true) with | some bs => (if true = true then M.ret (T.bl (bs.all id)) else .stuck) | none => .stuck) = _
    rw [all_true]
    show M.ret (T.bl (List.all _ id)) = _
    congr 2
    simp
theorem isd_flat {t : T} (h : t = .non ∨ (∃ b, t = .bl b) ∨ (∃ i, t = .int i) ∨ (∃ x, t = .str x)) : isiT "dict" t = .ret (.bl false) := by
  unfold isiT
  rcases h with rfl | ⟨b, rfl⟩ | ⟨i, rfl⟩ | ⟨x, rfl⟩
  · simp only [tyName, k_nd]
  · simp only [tyName, k_bd]
  · simp only [tyName, k_id]
  · simp only [tyName, k_sd]
theorem isi3_flat {t : T} (h : t = .non ∨ (∃ b, t = .bl b) ∨ (∃ i, t = .int i) ∨ (∃ x, t = .str x)) : isiT3 "list" "tuple" "dict" t = .ret (.bl false) := by
  unfold isiT3
  rcases h with rfl | ⟨b, rfl⟩ | ⟨i, rfl⟩ | ⟨x, rfl⟩
  · simp only [tyName, k_nl, k_nt, k_nd, Bool.or_false]
  · simp only [tyName, k_bl, k_bt, k_bd, Bool.or_false]
  · simp only [tyName, k_il, k_it, k_id, Bool.or_false]
  · simp only [tyName, k_sl, k_st, k_sd, Bool.or_false]
theorem refl_plain {n : Nat} {t : T} (h : t = .non ∨ (∃ b, t = .bl b) ∨ (∃ i, t = .int i) ∨ (∃ x, t = .str x)) (hb : isiT "bool" t = .ret (.bl false)) (he : DP.eqT t t = .ret (.bl true)) : Refl cA (n + 1) t := by
  have h2 : t = .non ∨ (∃ b, t = .bl b) ∨ (∃ i, t = .int i) ∨ (∃ x, t = .str x) ∨ ∃ kvs, t = .dct kvs := by
    rcases h with h | h | h | h
    · exact .inl h
    · exact .inr (.inl h)
    · exact .inr (.inr (.inl h))
    · exact .inr (.inr (.inr (.inl h)))
  show fnM false 4 (G__law_same cA (m__law_same cA n)) [t, t] = _
  refine g_fn ?_
  show G__law_same cA (m__law_same cA n) [.val t, .val t, .any, .any] = _
  unfold G__law_same
  exact g_seq (ρ' := [.val t, .val t, .any, .any]) (g_ifF (v_bool (v_1 (v_var rfl) (isi2_flat h2))) rfl) (g_seq (ρ' := [.val t, .val t, .any, .any]) (g_ifF (v_bool (v_1 (v_var rfl) (isd_flat h))) rfl) (g_seq (ρ' := [.val t, .val t, .any, .any]) (g_ifF (v_orF (v_bool (v_1 (v_var rfl) hb)) (v_bool (v_1 (v_var rfl) hb))) rfl) (g_ret (v_andVT (v_notV (v_1 (v_var rfl) (isi3_flat h))) (v_2 (v_var rfl) (v_var rfl) he)))))
theorem eqT_bl (b : Bool) : DP.eqT (.bl b) (.bl b) = .ret (.bl true) := nice_eqT (n := 0) (.leaf (leaf_bl b)) (by decide)
theorem refl_bl {n : Nat} (b : Bool) : Refl cA (n + 1) (.bl b) := by
  show fnM false 4 (G__law_same cA (m__law_same cA n)) [.bl b, .bl b] = _
  refine g_fn ?_
  show G__law_same cA (m__law_same cA n) [.val (.bl b), .val (.bl b), .any, .any] = _
  unfold G__law_same
  exact g_seq (ρ' := [.val (.bl b), .val (.bl b), .any, .any]) (g_ifF (v_bool (v_1 (v_var rfl) (isi2_flat (.inr (.inl ⟨b, rfl⟩))))) rfl) (g_seq (ρ' := [.val (.bl b), .val (.bl b), .any, .any]) (g_ifF (v_bool (v_1 (v_var rfl) (isd_flat (.inr (.inl ⟨b, rfl⟩))))) rfl) (g_seqR (g_ifT (v_orT (v_bool (v_1 (v_var rfl) (isb_bl b)))) (g_ret (v_andVT (v_1 (v_var rfl) (isb_bl b)) (v_andVT (v_1 (v_var rfl) (isb_bl b)) (v_2 (v_var rfl) (v_var rfl) (eqT_bl b))))))))
theorem refl_int {n : Nat} (i : Int) : Refl cA (n + 1) (.int i) := refl_plain (.inr (.inr (.inl ⟨i, rfl⟩))) (isb_int i) (by rw [eqT_int, decide_eq_true rfl])
theorem refl_leaf {n : Nat} {t : T} (h : t ∈ leaves) : Refl cA (n + 1) t := by
  have e := nice_eqT (n := 0) (.leaf h) (by decide)
  rcases leaf_kind h with rfl | ⟨b, rfl⟩ | ⟨i, rfl⟩ | ⟨x, rfl, _⟩
  · exact refl_plain (.inl rfl) (by unfold isiT; simp only [tyName, k_nb]) e
  · exact refl_bl b
  · exact refl_int i
  · exact refl_plain (.inr (.inr (.inr ⟨x, rfl⟩))) (by unfold isiT; simp only [tyName, k_sb]) e
theorem refl_nice {n : Nat} {t : T} (h : Nice n t) (k : Nat) : Refl cA (k + n + 1) t := by
  induction h with
  | leaf h => exact refl_leaf h
  | @seq n t xs ht hl _ ih => exact refl_seq ht (fun x hx => ih x hx) (by omega)
theorem refl_dict {n : Nat} {kvs : List (Key × T)} (h : Refl cA n (.lst (kvs.map fun q => .tup [kT q.1, q.2]))) : Refl cA (n + 1) (.dct kvs) := by
  show fnM false 4 (G__law_same cA (m__law_same cA n)) [.dct kvs, .dct kvs] = _
  refine g_fn ?_
  show G__law_same cA (m__law_same cA n) [.val (.dct kvs), .val (.dct kvs), .any, .any] = _
  unfold G__law_same
  have d : isiT "dict" (.dct kvs) = .ret (.bl true) := by unfold isiT; simp only [tyName, k_dd]
  exact g_seq (ρ' := [.val (.dct kvs), .val (.dct kvs), .any, .any]) (g_ifF (v_bool (v_1 (v_var rfl) (isi2_flat (.inr (.inr (.inr (.inr ⟨kvs, rfl⟩))))))) rfl) (g_seqR (g_ifT (v_bool (v_1 (v_var rfl) d)) (g_ret (v_andVT (v_1 (v_var rfl) d) (v_call (v_cons (v_1 (v_1 (v_var rfl) rfl) rfl) (v_cons (v_1 (v_1 (v_var rfl) rfl) rfl) v_nil)) h)))))
end Tw
end
section
set_option Elab.async false
set_option linter.all false
set_option maxRecDepth 100000
namespace Tw
open PySem PySem.Spec PyProof.Rows L2 DP
variable {cA : Str → Addr}
/-! ### is_cut, by the program and by the law -/
def SeqQ (q : Bool) (t : T) (xs : List T) : Prop := seqT t = .ret (q, xs)
theorem seqQ {t : T} {xs : List T} (h : SeqOf t xs) : ∃ q, seqT t = .ret (q, xs) := by
  rcases h with rfl | rfl
  · exact ⟨true, rfl⟩
  · exact ⟨false, rfl⟩
theorem in_ints (neg q : Bool) (i : Int) (ks : List Int) : inT neg (.int i) (q, ks.map T.int) = .ret (.bl (if neg = true then !decide (i ∈ ks) else decide (i ∈ ks))) := by
  unfold inT
  rw [show dataTs (q, ks.map T.int).2 = _ from dataTs_ints ks]
  show (if _ then _ else _) = _
  rw [if_pos (by rw [shaped_int, shaped_ints]; rfl)]
  have e : (ks.map PyData.int).any (fun z => PyData.eqv z (.int i)) = decide (i ∈ ks) := by
    induction ks with
    | nil => simp
    | cons k ks ih =>
      rw [List.map_cons, List.any_cons, ih]
      by_cases h : k = i
      · simp [h, PyData.eqv]
      · have : ¬ i = k := fun e => h e.symm
        simp [h, this, PyData.eqv]
  rw [e]
def isCutK (p s e : Int) (ks : List Int) : Bool := decide (∀ k ∈ ks, 0 ≤ k ∧ k < p) && (decide (ks.Pairwise (· < ·)) && (decide (s ∈ ks) && !decide (e ∈ ks)))
def isCutT (p s e : Int) (xs : List T) : Bool := match intsT xs with
  | none => false
  | some ks => isCutK p s e ks
theorem intsT_eq : ∀ {xs : List T} {ks : List Int}, intsT xs = some ks → xs = ks.map T.int
  | [], ks, h => by cases h; rfl
  | x :: xs, ks, h => by
    cases x with
    | int i =>
      have h : (intsT xs).map (i :: ·) = some ks := h
      obtain ⟨ks', e1, e2⟩ := Option.map_eq_some_iff.mp h
      subst e2
      rw [intsT_eq e1]
      rfl
    | _ => cases h
theorem scan_none {p : Int} {xs : List T} : scan p none xs = true ↔ ∃ ks, intsT xs = some ks ∧ (∀ k ∈ ks, 0 ≤ k ∧ k < p) ∧ ks.Pairwise (· < ·) := by
  rw [scan_iff]
  constructor
  · rintro ⟨ks, a, b, c, _⟩; exact ⟨ks, a, b, c⟩
  · rintro ⟨ks, a, b, c⟩; exact ⟨ks, a, b, c, by simp⟩
theorem is_cut_seq {p s e : Int} {roads : List (List Int)} {t : T} {xs : List T} (ht : SeqOf t xs) (hx : ∀ x ∈ xs, Item x) : m_is_cut cA [netT cA p roads s e, t] = .ret (.bl (isCutT p s e xs)) := by
  obtain ⟨q, sq⟩ := seqQ ht
  have en : enumB [t] = .ret (enumL xs) := by rcases ht with rfl | rfl <;> rfl
  have hl := list_seq (cA := cA) ht
  have loop := cut_loop (cA := cA) (p := p) (s := s) (e := e) (roads := roads) ht xs [] .any .any rfl hx
  show fnM false 4 (G_is_cut cA) _ = _
  refine g_fn ?_
  show G_is_cut cA [.val (netT cA p roads s e), .val t, .any, .any] = _
  unfold G_is_cut
  refine g_seq (ρ' := [.val (netT cA p roads s e), .val t, .any, .any]) (g_ifF (v_not (v_bool (v_call (v_cons (v_var rfl) v_nil) hl))) rfl) ?_
  have e0 : ([] : List Int).getLast? = none := rfl
  rw [e0] at loop
  by_cases hs : scan p none xs = true
  · rw [if_pos hs] at loop
    obtain ⟨a, b, loop⟩ := loop
    obtain ⟨ks, hk, h1, h2⟩ := scan_none.mp hs
    have hxs := intsT_eq hk
    refine g_seq (g_for (v_1 (v_cons (v_var rfl) v_nil) en) loop) (g_ret ?_)
    have i1 := in_ints false q s ks
    have i2 := in_ints true q e ks
    rw [← hxs] at i1 i2
    have ec : isCutT p s e xs = (decide (s ∈ ks) && !decide (e ∈ ks)) := by
      unfold isCutT isCutK
      rw [hk]
      show (decide _ && (decide _ && _)) = _
      rw [decide_eq_true h1, decide_eq_true h2]
      rfl
    rw [ec]
    have st : (e1 (methT (cA "Net") "start" (m_Net__start cA) []) (eV 0)) [.val (netT cA p roads s e), .val t, a, b] = .ret (.int s) := meth_ rfl (by rfl) net_start
    have nd : (e1 (methT (cA "Net") "end" (m_Net__end cA) []) (eV 0)) [.val (netT cA p roads s e), .val t, a, b] = .ret (.int e) := meth_ rfl (by rfl) net_end
    by_cases hh : s ∈ ks
    · rw [decide_eq_true hh] at i1 ⊢
      rw [Bool.true_and]
      exact v_andVT (v_2 st (v_seq rfl sq) i1) (v_2 nd (v_seq rfl sq) i2)
    · rw [decide_eq_false hh] at i1 ⊢
      rw [Bool.false_and]
      exact v_andVF (v_2 st (v_seq rfl sq) i1)
  · rw [if_neg hs] at loop
    have ec : isCutT p s e xs = false := by
      unfold isCutT
      cases hk : intsT xs with
      | none => rfl
      | some ks =>
        show isCutK p s e ks = false
        unfold isCutK
        by_cases h1 : ∀ k ∈ ks, 0 ≤ k ∧ k < p
        · by_cases h2 : ks.Pairwise (· < ·)
          · exact absurd (scan_none.mpr ⟨ks, hk, h1, h2⟩) hs
          · rw [decide_eq_false h2]; simp
        · rw [decide_eq_false h1]; simp
    rw [ec]
    exact g_seqR (g_for (v_1 (v_cons (v_var rfl) v_nil) en) loop)
theorem is_cut_no {p s e : Int} {roads : List (List Int)} {t : T} (h : m_is_list cA [t] = .ret (.bl false)) : m_is_cut cA [netT cA p roads s e, t] = .ret (.bl false) := by
  show fnM false 4 (G_is_cut cA) _ = _
  refine g_fn ?_
  show G_is_cut cA [.val (netT cA p roads s e), .val t, .any, .any] = _
  unfold G_is_cut
  exact g_seqR (g_ifT (v_not (v_bool (v_call (v_cons (v_var rfl) v_nil) h))) (g_ret v_c))
/-! the law's -/
theorem whole_int (i : Int) : m__law_is_whole cA [.int i] = .ret (.bl true) := by
  show fnM false 1 (G__law_is_whole cA) _ = _
  exact g_fn (g_ret (v_andVT (v_1 (v_var rfl) (isi_int i)) (v_notV (v_1 (v_var rfl) (isb_int i)))))
theorem whole_not {x : T} (h : Item x) (hn : ∀ i, x ≠ .int i) : m__law_is_whole cA [x] = .ret (.bl false) := by
  show fnM false 1 (G__law_is_whole cA) _ = _
  rcases h with ⟨i, rfl⟩ | ⟨b, rfl⟩ | h
  · exact absurd rfl (hn i)
  · exact g_fn (g_ret (v_andVT (v_1 (v_var rfl) (isi_bl b)) (v_notV (v_1 (v_var rfl) (isb_bl b)))))
  · exact g_fn (g_ret (v_andVF (v_1 (v_var rfl) (isi_odd h))))
def okI (p : Int) : T → Bool
  | .int k => decide (0 ≤ k ∧ k < p)
  | _ => false
theorem okI_all {p : Int} : ∀ {xs : List T}, xs.all (okI p) = true ↔ ∃ ks, intsT xs = some ks ∧ ∀ k ∈ ks, 0 ≤ k ∧ k < p
  | [] => ⟨fun _ => ⟨[], rfl, by simp⟩, fun _ => rfl⟩
  | x :: xs => by
    rw [List.all_cons, Bool.and_eq_true, okI_all (xs := xs)]
    constructor
    · rintro ⟨a, ks, b, c⟩
      cases x with
      | int i =>
        have a : 0 ≤ i ∧ i < p := of_decide_eq_true a
        refine ⟨i :: ks, ?_, fun k hk => ?_⟩
        · show (intsT xs).map (i :: ·) = _
          rw [b]; rfl
        · rcases List.mem_cons.mp hk with rfl | hk
          · exact a
          · exact c k hk
      | _ => cases a
    · rintro ⟨ks, a, b⟩
      cases x with
      | int i =>
        have a : (intsT xs).map (i :: ·) = some ks := a
        obtain ⟨ks', e1, e2⟩ := Option.map_eq_some_iff.mp a
        subst e2
        exact ⟨decide_eq_true (b i List.mem_cons_self), ks', e1, fun k hk => b k (List.mem_cons_of_mem _ hk)⟩
      | _ => cases a
theorem bls_map (f : T → Bool) : ∀ xs : List T, blsT (xs.map fun x => T.bl (f x)) = some (xs.map f)
  | [] => rfl
  | x :: xs => by
    show (blsT (xs.map fun x => T.bl (f x))).map (f x :: ·) = _
    rw [bls_map f xs]
    rfl
theorem law_cut_seq {p s e : Int} {roads : List (List Int)} {t : T} {xs : List T} (ht : SeqOf t xs) (hx : ∀ x ∈ xs, Item x) (hl : xs.length ≤ 50) : m__law_is_cut cA [netV p s e roads, t] = .ret (.bl (isCutT p s e xs)) := by
  obtain ⟨q, sq⟩ := seqQ ht
  show fnM false 3 (G__law_is_cut cA) _ = _
  refine g_fn ?_
  show G__law_is_cut cA [.val (netV p s e roads), .val t, .any] = _
  unfold G__law_is_cut
  have all : (e1 allT (e1 seqN (nLc [2] (e1 itemsT (eV 1)) (bName 2) cYes (eAndV (eCall (m__law_is_whole cA) (aCons (eV 2) aNil)) (eChain leT ltT (eC (.int 0)) (eV 2) (e2 ixT (eVS 0) (eC (.int 0)))))))) [.val (netV p s e roads), .val t, .any] = .ret (.bl (xs.all (okI p))) := by
    refine v_1 (a := (true, xs.map fun x => T.bl (okI p x))) (v_1 (a := xs.map fun x => T.bl (okI p x)) ?_ rfl) ?_
    · rw [nLc_eq (ts := xs) (fun _ => true) (fun x => .bl (okI p x)) (v_1 (v_var rfl) (items_seq ht)) rfl (by omega) ?_]
      · rw [filter_yes]
      · intro x hx'
        refine ⟨[.val (netV p s e roads), .val t, .val x], rfl, rfl, fun _ => ?_⟩
        by_cases hi : ∃ i, x = .int i
        · obtain ⟨i, rfl⟩ := hi
          refine v_andVT (v_call (v_cons (v_var rfl) v_nil) (whole_int i)) ?_
          show M.bind (M.bind (M.ret (T.bl (decide ((0 : Int) ≤ i)))) _) _ = _
          by_cases h0 : 0 ≤ i
          · rw [decide_eq_true h0]
            show M.ret (T.bl (decide (i < p))) = M.ret (T.bl (decide _))
            congr 2
            simp [h0]
          · rw [decide_eq_false h0]
            show M.ret (T.bl false) = M.ret (T.bl (decide _))
            rw [decide_eq_false fun h => h0 h.1]
        · have hn : ∀ i, x ≠ .int i := fun i h => hi ⟨i, h⟩
          have e : okI p x = false := by
            cases x with
            | int i => exact absurd rfl (hn i)
            | _ => rfl
          rw [e]
          exact v_andVF (v_call (v_cons (v_var rfl) v_nil) (whole_not (hx x hx') hn))
    · show (match blsT (xs.map fun x => T.bl (okI p x)) with | some bs => (if true = true then M.ret (T.bl (bs.all id)) else .stuck) | none => .stuck) = _
      rw [bls_map]
      show M.ret (T.bl (List.all _ id)) = _
      congr 2
      rw [List.all_map]
      rfl
  by_cases ha : xs.all (okI p) = true
  · obtain ⟨ks, hk, h1⟩ := okI_all.mp ha
    have hxs := intsT_eq hk
    rw [ha] at all
    refine g_seq (ρ' := [.val (netV p s e roads), .val t, .any]) (g_ifF (v_orF (v_not (v_bool (v_1 (v_var rfl) (isi2_seq ht)))) (v_not (v_bool all))) rfl) (g_ret ?_)
    have i1 := in_ints false q s ks
    have i2 := in_ints true q e ks
    rw [← hxs] at i1 i2
    have so : nSortD (q, xs) = .ret ((sortD ks).map T.int) := by
      unfold nSortD
      rw [show intsT (q, xs).2 = _ from hk]
      show (if _ then _ else _) = _
      rw [if_pos (decide_eq_true (by rw [hxs] at hl; simp at hl; omega))]
    have eq : DP.eqT (.lst xs) (.lst ((sortD ks).map T.int)) = .ret (.bl (decide (ks = sortD ks))) := by
      unfold DP.eqT
      rw [hxs, show dataT (.lst (ks.map T.int)) = some (.list (ks.map PyData.int)) by unfold dataT; rw [dataTs_ints]; rfl, show dataT (.lst ((sortD ks).map T.int)) = some (.list ((sortD ks).map PyData.int)) by unfold dataT; rw [dataTs_ints]; rfl]
      show (if _ then _ else _) = _
      rw [if_pos (by rw [shaped_ints, shaped_ints]; rfl)]
      simp only [PyData.eqv, eqvAll_ints]
    have es : decide (ks = sortD ks) = decide (ks.Pairwise (· < ·)) := by
      by_cases h2 : ks.Pairwise (· < ·)
      · rw [decide_eq_true h2, decide_eq_true (asc_eq h2 (sortD_asc ks) fun k => sortD_mem.symm)]
      · rw [decide_eq_false h2, decide_eq_false fun h => h2 (by rw [h]; exact sortD_asc ks)]
    have ec : isCutT p s e xs = (decide (ks.Pairwise (· < ·)) && (decide (s ∈ ks) && !decide (e ∈ ks))) := by
      unfold isCutT isCutK
      rw [hk]
      show (decide _ && _) = _
      rw [decide_eq_true h1, Bool.true_and]
    rw [ec]
    rw [es] at eq
    have g1 : (e2 DP.eqT (e1 lstT (e1 nList (eVS 1))) (e1 lstT (e1 nSortD (eVS 1)))) [.val (netV p s e roads), .val t, .any] = .ret (.bl (decide (ks.Pairwise (· < ·)))) := v_2 (v_1 (v_1 (v_seq rfl sq) rfl) rfl) (v_1 (v_1 (v_seq rfl sq) so) rfl) eq
    have st : (e2 ixT (eVS 0) (eC (.int 2))) [.val (netV p s e roads), .val t, .any] = .ret (.int s) := v_2 (v_seq rfl rfl) v_c (ix_at (k := 2) rfl)
    have nd : (e2 ixT (eVS 0) (eC (.int 3))) [.val (netV p s e roads), .val t, .any] = .ret (.int e) := v_2 (v_seq rfl rfl) v_c (ix_at (k := 3) rfl)
    by_cases h2 : ks.Pairwise (· < ·)
    · rw [decide_eq_true h2] at g1 ⊢
      rw [Bool.true_and]
      refine v_andVT g1 ?_
      by_cases hh : s ∈ ks
      · rw [decide_eq_true hh] at i1 ⊢
        rw [Bool.true_and]
        exact v_andVT (v_2 st (v_seq rfl sq) i1) (v_2 nd (v_seq rfl sq) i2)
      · rw [decide_eq_false hh] at i1 ⊢
        rw [Bool.false_and]
        exact v_andVF (v_2 st (v_seq rfl sq) i1)
    · rw [decide_eq_false h2] at g1 ⊢
      rw [Bool.false_and]
      exact v_andVF g1
  · have ha : xs.all (okI p) = false := by simpa using ha
    rw [ha] at all
    have ec : isCutT p s e xs = false := by
      unfold isCutT
      cases hk : intsT xs with
      | none => rfl
      | some ks =>
        show isCutK p s e ks = false
        unfold isCutK
        by_cases h1 : ∀ k ∈ ks, 0 ≤ k ∧ k < p
        · rw [okI_all.mpr ⟨ks, hk, h1⟩] at ha
          cases ha
        · rw [decide_eq_false h1]; rfl
    rw [ec]
    exact g_seqR (g_ifT (v_orF (v_not (v_bool (v_1 (v_var rfl) (isi2_seq ht)))) (v_not (v_bool all))) (g_ret v_c))
theorem law_cut_no {p s e : Int} {roads : List (List Int)} {t : T} (h : isiT2 "list" "tuple" t = .ret (.bl false)) : m__law_is_cut cA [netV p s e roads, t] = .ret (.bl false) := by
  show fnM false 3 (G__law_is_cut cA) _ = _
  refine g_fn ?_
  show G__law_is_cut cA [.val (netV p s e roads), .val t, .any] = _
  unfold G__law_is_cut
  exact g_seqR (g_ifT (v_orT (v_not (v_bool (v_1 (v_var rfl) h)))) (g_ret v_c))
end Tw
end
section
set_option Elab.async false
set_option linter.all false
set_option maxRecDepth 100000
namespace Tw
open PySem PySem.Spec PyProof.Rows L2 DP
variable {cA : Str → Addr}
/-! ### rooms -/
def acrB (ks : List Int) : T → Bool
  | .tup [.int a, .int b, _, _] => decide (a ∈ ks) && !decide (b ∈ ks)
  | _ => false
def widT : T → T
  | .tup [_, _, _, w] => w
  | t => t
def roomI (roads : List (List Int)) (ks : List Int) : Int := ((roads.filter fun k => acrB ks (iT k)).map fun k => k.getD 3 0).sum
theorem room_list {p : Int} {roads : List (List Int)} {ks : List Int} (h : ∀ k ∈ roads, RoadOk p k) : ((roads.map iT).filter (acrB ks)).map widT = ((roads.filter fun k => acrB ks (iT k)).map fun k => k.getD 3 0).map T.int := by
  induction roads with
  | nil => rfl
  | cons k r ih =>
    have ih := ih fun k hk => h k (List.mem_cons_of_mem _ hk)
    obtain ⟨a, b, l, w, e, _⟩ := (h k List.mem_cons_self).ex
    rw [List.map_cons]
    by_cases z : acrB ks (iT k) = true
    · rw [List.filter_cons_of_pos z, List.filter_cons_of_pos (by exact z), List.map_cons, List.map_cons, List.map_cons, ih]
      subst e
      rfl
    · rw [List.filter_cons_of_neg z, List.filter_cons_of_neg (by exact z), ih]
theorem sum_room {p : Int} {roads : List (List Int)} {ks : List Int} (h : ∀ k ∈ roads, RoadOk p k) : sumT [.lst (((roads.map iT).filter (acrB ks)).map widT)] = .ret (.int (roomI roads ks)) := by
  rw [room_list h]
  show (match intsT (((roads.filter fun k => acrB ks (iT k)).map fun k => k.getD 3 0).map T.int) with | some ns => M.ret (T.int ns.sum) | none => .stuck) = _
  rw [intsT_map]
  rfl
theorem in_both {ρ : Env'} {f g : Env' → M T} {i : Nat} {q : Bool} {a b : Int} {ks : List Int} {t : T} (hf : f ρ = .ret (.int a)) (hg : g ρ = .ret (.int b)) (ht : ρ[i]? = some (.val t)) (sq : seqT t = .ret (q, ks.map T.int)) :
    (eAnd (e1 boolT (e2 (inT false) f (eVS i))) (e1 boolT (e2 (inT true) g (eVS i)))) ρ = .ret (decide (a ∈ ks) && !decide (b ∈ ks)) := by
  have i1 := in_ints false q a ks
  have i2 := in_ints true q b ks
  by_cases hh : a ∈ ks
  · rw [decide_eq_true hh] at i1 ⊢
    exact v_andT (v_bool (v_2 hf (v_seq ht sq) i1)) (v_bool (v_2 hg (v_seq ht sq) i2))
  · rw [decide_eq_false hh] at i1 ⊢
    exact v_andF (v_bool (v_2 hf (v_seq ht sq) i1))
theorem across_eq {p s e : Int} {roads : List (List Int)} {t : T} {ks : List Int} (N : NetOk p s e roads) (ht : SeqOf t (ks.map T.int)) : m_room_across cA [netT cA p roads s e, t] = .ret (.int (roomI roads ks)) := by
  obtain ⟨q, sq⟩ := seqQ ht
  have few := N.few
  show fnM false 6 (G_room_across cA) _ = _
  refine g_fn ?_
  show G_room_across cA [.val (netT cA p roads s e), .val t, .any, .any, .any, .any] = _
  unfold G_room_across
  refine g_ret (v_1 (v_cons (v_1 (a := ((roads.map iT).filter (acrB ks)).map widT) ?_ rfl) v_nil) (sum_room N.rd))
  have it : (e1 itemsT (e1 (methT (cA "Net") "roads" (m_Net__roads cA) []) (eV 0))) [.val (netT cA p roads s e), .val t, .any, .any, .any, .any] = .ret (roads.map iT) := v_1 (meth_ rfl (by rfl) net_roads) rfl
  refine nLc_eq (acrB ks) widT it rfl (by simp; omega) fun x hx => ?_
  obtain ⟨k, hk, rfl⟩ := List.mem_map.mp hx
  obtain ⟨a, b, l, w, rfl, _⟩ := (N.rd k hk).ex
  exact ⟨[.val (netT cA p roads s e), .val t, .val (.int a), .val (.int b), .val (.int l), .val (.int w)], rfl, in_both (v_var rfl) (v_var rfl) rfl sq, fun _ => v_var rfl⟩
theorem law_room_eq {p s e : Int} {roads : List (List Int)} {t : T} {ks : List Int} (N : NetOk p s e roads) (ht : SeqOf t (ks.map T.int)) : m__law_room cA [.lst (roads.map iT), t] = .ret (.int (roomI roads ks)) := by
  obtain ⟨q, sq⟩ := seqQ ht
  have few := N.few
  show fnM false 3 (G__law_room cA) _ = _
  refine g_fn ?_
  show G__law_room cA [.val (.lst (roads.map iT)), .val t, .any] = _
  unfold G__law_room
  refine g_ret (v_1 (v_cons (v_1 (a := ((roads.map iT).filter (acrB ks)).map widT) ?_ rfl) v_nil) (sum_room N.rd))
  refine nLc_eq (acrB ks) widT (v_1 (v_var rfl) rfl) rfl (by simp; omega) fun x hx => ?_
  obtain ⟨k, hk, rfl⟩ := List.mem_map.mp hx
  obtain ⟨a, b, l, w, rfl, _⟩ := (N.rd k hk).ex
  have at_ : ∀ (i : Nat) (z : Int), [a, b, l, w][i]? = some z → (e2 ixT (eVS 2) (eC (.int (i : Nat)))) [.val (.lst (roads.map iT)), .val t, .val (iT [a, b, l, w])] = .ret (.int z) := fun i z hz => v_2 (v_seq rfl rfl) v_c (ix_at (by rw [List.getElem?_map, hz]; rfl))
  exact ⟨[.val (.lst (roads.map iT)), .val t, .val (iT [a, b, l, w])], rfl, in_both (at_ 0 a rfl) (at_ 1 b rfl) rfl sq, fun _ => at_ 3 w rfl⟩
theorem room_yes {p s e : Int} {roads : List (List Int)} {t : T} {ks : List Int} (N : NetOk p s e roads) (ht : SeqOf t (ks.map T.int)) (h : m_is_cut cA [netT cA p roads s e, t] = .ret (.bl true)) : m_room_of cA [netT cA p roads s e, t] = .ret (.int (roomI roads ks)) := by
  show fnM false 2 (G_room_of cA) _ = _
  refine g_fn ?_
  show G_room_of cA [.val (netT cA p roads s e), .val t] = _
  unfold G_room_of
  exact g_seq (ρ' := [.val (netT cA p roads s e), .val t]) (g_ifF (v_not (v_bool (v_call (v_cons (v_var rfl) (v_cons (v_var rfl) v_nil)) h))) rfl) (g_ret (v_call (v_cons (v_var rfl) (v_cons (v_var rfl) v_nil)) (across_eq N ht)))
theorem x_fn {st : Bool} {n : Nat} {G : Env' → M Fl} {ts : List T} {c : Str} {t : T} (h : G (start' st n ts) = .exc c t) : fnM st n G ts = .exc c t := by unfold fnM; rw [h]; rfl
theorem x_seq {ρ : Env'} {G1 G2 : Env' → M Fl} {c : Str} {t : T} (h : G1 ρ = .exc c t) : sSeq G1 G2 ρ = .exc c t := by unfold sSeq; rw [h]; rfl
theorem x_ifT {ρ : Env'} {q : Env' → M Bool} {G1 G2 : Env' → M Fl} {c : Str} {t : T} (h : q ρ = .ret true) (h2 : G1 ρ = .exc c t) : sIf q G1 G2 ρ = .exc c t := by unfold sIf; rw [h]; exact h2
theorem x_raise {ρ : Env'} {x : Str} {f : Env' → M T} {t : T} (h : f ρ = .ret t) : sRaise x f ρ = .exc x t := by unfold sRaise; rw [h]; rfl
theorem x_call {ρ : Env'} {m : List T → M T} {f : Env' → M (List T)} {ts : List T} {c : Str} {t : T} (h : f ρ = .ret ts) (hm : m ts = .exc c t) : eCall m f ρ = .exc c t := by unfold eCall; rw [h]; exact hm
theorem x_cons1 {ρ : Env'} {f : Env' → M T} {fs : Env' → M (List T)} {c : Str} {t : T} (h : f ρ = .exc c t) : aCons f fs ρ = .exc c t := by unfold aCons e2; rw [h]; rfl
theorem x_cons2 {ρ : Env'} {f : Env' → M T} {fs : Env' → M (List T)} {c : Str} {t u : T} (h0 : f ρ = .ret u) (h : fs ρ = .exc c t) : aCons f fs ρ = .exc c t := by
  unfold aCons e2
  rw [h0]
  show (fs ρ).bind _ = _
  rw [h]
  rfl
theorem x_tup {ρ : Env'} {f : Env' → M (List T)} {c : Str} {t : T} (h : f ρ = .exc c t) : eTup f ρ = .exc c t := by unfold eTup; rw [h]; rfl
theorem x_try {ρ : Env'} {c : Str} {L : List Str} {i : Nat} {f : Env' → M T} {hd : T → Env' → M T} {t u : T} (h : f ρ = .exc c t) (h2 : hd t (forget i ρ) = .ret u) : sTryR c L i f hd ρ = .ret (.ret u) := by
  unfold sTryR
  rw [h]
  show (if c = c then (hd t (forget i ρ)).calm else _).bind _ = _
  rw [if_pos rfl, h2]
  rfl
theorem x_xf {ρ : Env'} {i : Nat} {t : T} (h : ρ[i]? = some .pin) : eXf i t ρ = .ret t := by unfold eXf; rw [h]
theorem room_no {p s e : Int} {roads : List (List Int)} {t : T} (h : m_is_cut cA [netT cA p roads s e, t] = .ret (.bl false)) : m_room_of cA [netT cA p roads s e, t] = .exc "BadCut" t := by
  show fnM false 2 (G_room_of cA) _ = _
  refine x_fn ?_
  show G_room_of cA [.val (netT cA p roads s e), .val t] = _
  unfold G_room_of
  exact x_seq (x_ifT (v_not (v_bool (v_call (v_cons (v_var rfl) (v_cons (v_var rfl) v_nil)) h))) (x_raise (v_var rfl)))
theorem met_no {p s e : Int} {roads : List (List Int)} {t : T} (h : m_is_cut cA [netT cA p roads s e, t] = .ret (.bl false)) : m__law_met cA [netT cA p roads s e, t] = .ret (.tup [.str "cut", t]) := by
  show fnM false 3 (G__law_met cA) _ = _
  refine g_fn ?_
  show G__law_met cA [.val (netT cA p roads s e), .val t, .any] = _
  unfold G__law_met
  exact x_try (x_tup (x_cons2 v_c (x_cons1 (x_call (v_cons (v_var rfl) (v_cons (v_var rfl) v_nil)) (room_no h))))) (v_tup (v_cons v_c (v_cons (x_xf rfl) v_nil)) (by simp))
theorem list_of {t : T} {b : Bool} (h : isiO2 (cA "Net") "list" "tuple" t = .ret (.bl b)) : m_is_list cA [t] = .ret (.bl b) := by
  show M.bind (M.bind (isiO2 (cA "Net") "list" "tuple" t) _) _ = _
  rw [h]
  rfl
/-- the list that is kept -/
theorem is_cut_pn {p s e : Int} {roads : List (List Int)} {a : Addr} : m_is_cut cA [netT cA p roads s e, .pn a [.str "a"]] = .ret (.bl false) := by
  have lp : m_is_list cA [.pn a [.str "a"]] = .ret (.bl true) := by
    have e : isiO2 (cA "Net") "list" "tuple" (.pn a [.str "a"]) = isiT2 "list" "tuple" (.pn a [.str "a"]) := rfl
    have : isiT2 "list" "tuple" (.pn a [.str "a"]) = .ret (.bl true) := by
      unfold isiT2
      simp only [tyName, k_ll, k_lt, Bool.or_false]
    exact list_of (e.trans this)
  have no : m_is_index cA [.str "a", .int p] = .ret (.bl false) := index_not (integer_odd (.inr (.inl ⟨_, rfl⟩)))
  have pl : (e1 (methT (cA "Net") "places" (m_Net__places cA) []) (eV 0)) [.val (netT cA p roads s e), .val (.pn a [.str "a"]), .val (.int 0), .val (.str "a")] = .ret (.int p) := meth_ rfl (by rfl) net_places
  have g : cutG cA [.val (netT cA p roads s e), .val (.pn a [.str "a"]), .val (.int 0), .val (.str "a")] = .ret (.ret (.bl false)) := g_ifT (v_orT (v_not (v_bool (v_call (v_cons (v_var rfl) (v_cons pl v_nil)) no)))) (g_ret v_c)
  show fnM false 4 (G_is_cut cA) _ = _
  refine g_fn ?_
  show G_is_cut cA [.val (netT cA p roads s e), .val (.pn a [.str "a"]), .any, .any] = _
  unfold G_is_cut
  refine g_seq (ρ' := [.val (netT cA p roads s e), .val (.pn a [.str "a"]), .any, .any]) (g_ifF (v_not (v_bool (v_call (v_cons (v_var rfl) v_nil) lp))) rfl) (g_seqR (g_for (ts := [.tup [.int 0, .str "a"]]) (v_1 (v_cons (v_var rfl) v_nil) rfl) ?_))
  show ((cutG cA [.val (netT cA p roads s e), .val (.pn a [.str "a"]), .val (.int 0), .val (.str "a")]).bind _) = _
  rw [g]
  rfl
end Tw
end
section
set_option Elab.async false
set_option linter.all false
set_option maxRecDepth 100000
namespace Tw
open PySem PySem.Spec PyProof.Rows L2 DP
variable {cA : Str → Addr}
/-! ### bent things -/
inductive Thing : T → Prop
  | nice {t : T} : Nice 2 t → Thing t
  | dct0 : Thing (.dct [])
  | dct1 {i : Int} : 0 ≤ i → i < 6 → Thing (.dct [(.inl i, .int 1)])
theorem item_leaf {x : T} (h : x ∈ leaves) : Item x := by
  rcases leaf_kind h with rfl | ⟨b, rfl⟩ | ⟨i, rfl⟩ | ⟨x, rfl, _⟩
  · exact .inr (.inr (.inl rfl))
  · exact .inr (.inl ⟨b, rfl⟩)
  · exact .inl ⟨i, rfl⟩
  · exact .inr (.inr (.inr (.inl ⟨x, rfl⟩)))
theorem item_nice {n : Nat} {x : T} (h : Nice n x) : Item x := by
  cases h with
  | leaf h => exact item_leaf h
  | seq ht _ _ =>
    rcases ht with rfl | rfl
    · exact .inr (.inr (.inr (.inr (.inl ⟨_, rfl⟩))))
    · exact .inr (.inr (.inr (.inr (.inr (.inl ⟨_, rfl⟩)))))
theorem thing_cut {p s e : Int} {roads : List (List Int)} {t : T} (h : Thing t) : ∃ b, m_is_cut cA [netT cA p roads s e, t] = .ret (.bl b) ∧ m__law_is_cut cA [netV p s e roads, t] = .ret (.bl b) := by
  have flat : (t = .non ∨ (∃ b, t = .bl b) ∨ (∃ i, t = .int i) ∨ (∃ x, t = .str x) ∨ ∃ kvs, t = .dct kvs) → ∃ b, m_is_cut cA [netT cA p roads s e, t] = .ret (.bl b) ∧ m__law_is_cut cA [netV p s e roads, t] = .ret (.bl b) := fun f => ⟨false, is_cut_no (list_flat f), law_cut_no (isi2_flat f)⟩
  cases h with
  | nice h =>
    cases h with
    | leaf h =>
      refine flat ?_
      rcases leaf_kind h with h | h | h | ⟨x, h, _⟩
      · exact .inl h
      · exact .inr (.inl h)
      · exact .inr (.inr (.inl h))
      · exact .inr (.inr (.inr (.inl ⟨x, h⟩)))
    | @seq _ _ xs ht hl hx => exact ⟨isCutT p s e xs, is_cut_seq ht fun x h => item_nice (hx x h), law_cut_seq ht (fun x h => item_nice (hx x h)) (by omega)⟩
  | dct0 => exact flat (.inr (.inr (.inr (.inr ⟨_, rfl⟩))))
  | dct1 _ _ => exact flat (.inr (.inr (.inr (.inr ⟨_, rfl⟩))))
theorem eqT_str {x : Str} (h : PyData.strOk x = true) : DP.neT (.str x) (.str x) = .ret (.bl false) := by
  unfold DP.neT
  simp [dataT, SeqAt.shaped, PyData.canLay0, PyData.depth, PyData.eqv, h]
def dctB (i : Int) : Bool := match dataR (.dct [(.inl i, .int 1)]) with
  | some d => d.showable && decide (d.shown.length ≤ 1000000) && decide (d.depth ≤ 64) && PyData.strOk d.shown
  | none => false
theorem dct_ok {t : T} (h : ∃ d, dataR t = some d ∧ (d.showable && decide (d.shown.length ≤ 1000000) && decide (d.depth ≤ 64) && PyData.strOk d.shown) = true) : ∃ x, reprT [t] = .ret (.str x) ∧ PyData.strOk x = true := by
  obtain ⟨d, e, k⟩ := h
  rw [Bool.and_eq_true] at k
  refine ⟨d.shown, ?_, k.2⟩
  show (match dataR t with | some d => (if (d.showable && decide (d.shown.length ≤ 1000000) && decide (d.depth ≤ 64)) = true then M.ret (T.str d.shown) else .stuck) | none => .stuck) = _
  rw [e]
  show (if _ then _ else _) = _
  rw [if_pos k.1]
theorem thing_repr {t : T} (h : Thing t) : ∃ x, reprT [t] = .ret (.str x) ∧ PyData.strOk x = true := by
  cases h with
  | nice h => exact nice_repr h (by decide)
  | dct0 => exact dct_ok ⟨.dict [], rfl, by decide +kernel⟩
  | @dct1 i h0 h1 =>
    have e : i = 0 ∨ i = 1 ∨ i = 2 ∨ i = 3 ∨ i = 4 ∨ i = 5 := by omega
    refine dct_ok ⟨.dict [(.int i, .int 1)], rfl, ?_⟩
    rcases e with rfl | rfl | rfl | rfl | rfl | rfl <;> decide +kernel
theorem thing_refl {t : T} (h : Thing t) : Refl cA 40 (.tup [.str "cut", t]) := by
  refine refl_seq (n := 39) (.inr rfl) (fun x hx => ?_) (by simp)
  rcases List.mem_cons.mp hx with rfl | hx
  · exact refl_leaf (n := 38) (by unfold leaves; simp)
  rw [List.mem_singleton.mp hx]
  cases h with
  | nice h => exact refl_nice h 36
  | dct0 => exact refl_dict (n := 38) (refl_seq (n := 37) (.inl rfl) (by simp) (by simp))
  | @dct1 i h0 h1 =>
    refine refl_dict (n := 38) (refl_seq (n := 37) (.inl rfl) (fun x hx => ?_) (by simp))
    have hx : x = .tup [.int i, .int 1] := List.mem_singleton.mp hx
    rw [hx]
    refine refl_seq (n := 36) (.inr rfl) (fun x hx => ?_) (by simp)
    rcases List.mem_cons.mp hx with rfl | hx
    · exact refl_int (n := 35) i
    · rw [List.mem_singleton.mp hx]; exact refl_int (n := 35) 1
/-! how they are made -/
def Ev (f : Env' → M T) (ρ : Env') : Prop := ∃ t, f ρ = .ret t ∧ Thing t
def EvL (fs : Env' → M (List T)) (ρ : Env') (n : Nat) : Prop := ∃ ts, fs ρ = .ret ts ∧ ts.length = n ∧ ∀ x ∈ ts, Thing x
def EvI (f : Env' → M (List T)) (ρ : Env') (n : Nat) : Prop := ∃ xs, f ρ = .ret xs ∧ xs.length ≤ n ∧ ∀ x ∈ xs, x ∈ leaves
def EvS (f : Env' → M (Bool × List T)) (ρ : Env') (n : Nat) : Prop := ∃ xs, f ρ = .ret (true, xs) ∧ xs.length ≤ n ∧ ∀ x ∈ xs, x ∈ leaves
section
variable {ρ : Env'} {f g : Env' → M T} {fs gs : Env' → M (List T)} {fq gq : Env' → M (Bool × List T)} {n m : Nat}
theorem ev_nil : EvL aNil ρ 0 := ⟨[], rfl, rfl, by simp⟩
theorem ev_cons (h : Ev f ρ) (h2 : EvL fs ρ n) : EvL (aCons f fs) ρ (n + 1) := by
  obtain ⟨t, e, ht⟩ := h
  obtain ⟨ts, e2, l, hts⟩ := h2
  refine ⟨t :: ts, v_cons e e2, by simp [l], fun x hx => ?_⟩
  rcases List.mem_cons.mp hx with rfl | hx
  · exact ht
  · exact hts x hx
theorem ev_leaf {t : T} (h : t ∈ leaves) : Ev (eC t) ρ := ⟨t, v_c, .nice (.leaf h)⟩
theorem nice_ints {t : T} {xs : List T} (ht : SeqOf t xs) (hl : xs.length ≤ 12) (hx : ∀ x ∈ xs, x ∈ leaves) (n : Nat) : Nice (n + 1) t := .seq ht hl fun x h => .leaf (hx x h)
theorem ev_ints (h : EvI fs ρ n) (hn : n ≤ 12) : Ev (e1 lstT fs) ρ := by
  obtain ⟨xs, e, l, hx⟩ := h
  exact ⟨.lst xs, v_lstT e, .nice (nice_ints (.inl rfl) (by omega) hx 1)⟩
theorem evs (h : EvI fs ρ n) : EvS (e1 seqN fs) ρ n := by
  obtain ⟨xs, e, l, hx⟩ := h
  exact ⟨xs, v_1 e rfl, l, hx⟩
theorem evi_one {t : T} (h : f ρ = .ret t) (ht : t ∈ leaves) : EvI (nLst (aCons f aNil)) ρ 1 := ⟨[t], v_lst (v_cons h v_nil) (by simp), by simp, fun x hx => by rw [List.mem_singleton.mp hx]; exact ht⟩
theorem evi_cat (h : EvS fq ρ n) (h2 : EvS gq ρ m) (hl : n + m ≤ 12) : EvI (e2 nCat fq gq) ρ (n + m) := by
  obtain ⟨xs, e, l, hx⟩ := h
  obtain ⟨ys, e2, l2, hy⟩ := h2
  refine ⟨xs ++ ys, v_cat e e2 (by omega), by simp; omega, fun x hxy => ?_⟩
  rcases List.mem_append.mp hxy with h | h
  · exact hx x h
  · exact hy x h
theorem evi_rev (h : EvS fq ρ n) : EvI (e1 nRev fq) ρ n := by
  obtain ⟨xs, e, l, hx⟩ := h
  exact ⟨xs.reverse, v_1 e rfl, by simpa using l, fun x h => hx x (List.mem_reverse.mp h)⟩
theorem cut_sub {ts : List T} {lo hi : Option Int} : (cutT ts lo hi).length ≤ ts.length ∧ ∀ x ∈ cutT ts lo hi, x ∈ ts := by
  unfold cutT
  refine ⟨?_, fun x hx => List.mem_of_mem_drop (List.mem_of_mem_take hx)⟩
  simp only [List.length_take, List.length_drop]
  omega
theorem evi_cut {lo hi : Env' → M (Option Int)} {a b : Option Int} (h : EvS fq ρ n) (hl : lo ρ = .ret a) (hh : hi ρ = .ret b) : EvI (nSl fq lo hi) ρ n := by
  obtain ⟨xs, e, l, hx⟩ := h
  refine ⟨cutT xs a b, ?_, Nat.le_trans cut_sub.1 l, fun x h => hx x (cut_sub.2 x h)⟩
  unfold nSl
  rw [e]
  show (lo ρ).bind _ = _
  rw [hl]
  show (hi ρ).bind _ = _
  rw [hh]
  rfl
end
theorem str_leaf {i : Int} (h0 : 0 ≤ i) (h1 : i < 6) : strI [.int i] = .ret (.str (toString i)) ∧ T.str (toString i) ∈ leaves := by
  have e : i = 0 ∨ i = 1 ∨ i = 2 ∨ i = 3 ∨ i = 4 ∨ i = 5 := by omega
  have z0 : ((toString (0 : Int) : String) : Str) = "0" := by decide +kernel
  have z1 : ((toString (1 : Int) : String) : Str) = "1" := by decide +kernel
  have z2 : ((toString (2 : Int) : String) : Str) = "2" := by decide +kernel
  have z3 : ((toString (3 : Int) : String) : Str) = "3" := by decide +kernel
  have z4 : ((toString (4 : Int) : String) : Str) = "4" := by decide +kernel
  have z5 : ((toString (5 : Int) : String) : Str) = "5" := by decide +kernel
  refine ⟨?_, ?_⟩
  · show (if decide (i.natAbs.log2 < 1920) = true then M.ret (T.str (toString i)) else .stuck) = _
    rcases e with rfl | rfl | rfl | rfl | rfl | rfl <;> rw [if_pos (by decide +kernel)]
  · unfold leaves
    rcases e with rfl | rfl | rfl | rfl | rfl | rfl
    · rw [z0]; simp
    · rw [z1]; simp
    · rw [z2]; simp
    · rw [z3]; simp
    · rw [z4]; simp
    · rw [z5]; simp
end Tw
end
section
set_option Elab.async false
set_option linter.all false
set_option maxRecDepth 100000
namespace Tw
open PySem PySem.Spec PyProof.Rows L2 DP
variable {cA : Str → Addr}
theorem nSort_ints (ns : List Int) : nSort (true, ns.map T.int) = .ret ((sortI ns).map T.int) := by
  unfold nSort
  rw [if_pos rfl]
  dsimp only
  rw [intsT_map]
abbrev bE (p s e : Int) (roads : List (List Int)) (c : List Int) (y : Sl) : Env' := [.strm, .val (netV p s e roads), .val (lT c), y, .any]
section
variable {p s e : Int} {roads : List (List Int)} {c : List Int} {y : Sl}
theorem cut_leaves (N : NetOk p s e roads) (C : CutOk p s e c) : c.length ≤ 6 ∧ ∀ x ∈ c.map T.int, x ∈ leaves := by
  have p2 := N.p2
  have p6 := N.p6
  refine ⟨?_, fun x hx => ?_⟩
  · have := asc_len (a := 0) (b := p) C.asc C.rng (by omega)
    omega
  · obtain ⟨i, hi, rfl⟩ := List.mem_map.mp hx
    have := C.rng i hi
    exact leaf_int (by omega) (by omega)
theorem b_c (N : NetOk p s e roads) (C : CutOk p s e c) : EvS (eVS 2) (bE p s e roads c y) 6 := ⟨c.map T.int, v_seq rfl rfl, by have := (cut_leaves N C).1; simpa using this, (cut_leaves N C).2⟩
theorem b_at {k : Nat} {z : Int} (h : [T.int p, .lst (roads.map iT), .int s, .int e][k]? = some (.int z)) : (e2 ixT (eVS 1) (eC (.int (k : Nat)))) (bE p s e roads c y) = .ret (.int z) := v_2 (v_seq rfl rfl) v_c (ix_at h)
theorem b_first (N : NetOk p s e roads) (C : CutOk p s e c) : EvL (aCons (eC .non) (aCons (eC (.int 5)) (aCons (eC (.str "")) (aCons (eC (.str "01")) (aCons (eC (.dct [])) (aCons (eTup aNil) (aCons (e1 lstT (nLst aNil)) (aCons (eC (.bl true)) (aCons (e2 dct1 (e2 ixT (eVS 1) (eC (.int 2))) (eC (.int 1))) (aCons (e1 lstT (nLst (aCons (eV 2) aNil))) (aCons (e1 lstT (e1 nRev (eVS 2))) (aCons (e1 lstT (e2 nCat (eVS 2) (e1 seqN (nSl (eVS 2) (oSome (e1 negT (eC (.int 1)))) oNone)))) (aCons (e1 lstT (e2 nCat (eVS 2) (e1 seqN (nLst (aCons (e2 ixT (eVS 1) (eC (.int 3))) aNil))))) aNil))))))))))))) (bE p s e roads c y) 13 := by
  have hc := b_c (y := y) N C
  have cl := cut_leaves N C
  have p6 := N.p6
  have s0 := N.s0
  have s1 := N.s1
  have e0 := N.e0
  have e1' := N.e1
  refine ev_cons (ev_leaf (by unfold leaves; simp)) (ev_cons (ev_leaf (by unfold leaves; simp)) (ev_cons (ev_leaf (by unfold leaves; simp)) (ev_cons (ev_leaf (by unfold leaves; simp)) (ev_cons ⟨_, v_c, .dct0⟩ (ev_cons ⟨_, v_tup v_nil (by simp), .nice (.seq (.inr rfl) (by simp) (by simp))⟩ (ev_cons ⟨_, v_lstT (v_lst v_nil (by simp)), .nice (.seq (.inl rfl) (by simp) (by simp))⟩ (ev_cons (ev_leaf (by unfold leaves; simp)) (ev_cons ⟨_, v_2 (b_at (k := 2) rfl) v_c rfl, .dct1 s0 (by omega)⟩ (ev_cons ⟨_, v_lstT (v_lst (v_cons (v_var rfl) v_nil) (by simp)), .nice (.seq (.inl rfl) (by simp) fun x hx => ?_)⟩ (ev_cons (ev_ints (evi_rev hc) (by decide)) (ev_cons (ev_ints (evi_cat hc (evs (evi_cut hc (a := some (-1)) (b := none) ?_ rfl)) (by decide)) (by decide)) (ev_cons (ev_ints (evi_cat hc (evs (evi_one (b_at (k := 3) rfl) (leaf_int (by omega) (by omega)))) (by decide)) (by decide)) ev_nil))))))))))))
  · rw [List.mem_singleton.mp hx]
    exact nice_ints (.inl rfl) (by simp; omega) cl.2 0
  · rfl
theorem b_filter (N : NetOk p s e roads) (C : CutOk p s e c) {L : List T} : EvI (nLc [4] (e1 itemsT (eV 2)) (bName 4) (e1 boolT (e2 DP.neT (eV 4) (e2 ixT (eVS 1) (eC (.int 2))))) (eV 4)) (bE p s e roads c (.own L)) 6 := by
  have cl := cut_leaves N C
  refine ⟨((c.map T.int).filter fun t => match t with | .int i => !decide (i = s) | _ => false).map fun t => t, ?_, ?_, ?_⟩
  · refine nLc_eq _ _ (v_1 (v_var rfl) rfl) rfl (by simp; omega) fun x hx => ?_
    obtain ⟨i, _, rfl⟩ := List.mem_map.mp hx
    refine ⟨[.strm, .val (netV p s e roads), .val (lT c), .own L, .val (.int i)], rfl, ?_, fun _ => v_var rfl⟩
    exact v_bool (v_2 (v_var rfl) (v_2 (v_seq rfl rfl) v_c (ix_at (k := 2) rfl)) (neT_int i s))
  · have := List.length_filter_le (fun t : T => match t with | .int i => !decide (i = s) | _ => false) (c.map T.int)
    simp only [List.length_map] at this ⊢
    omega
  · intro x hx
    rw [List.map_id'] at hx
    exact cl.2 x (List.mem_filter.mp hx).1
theorem b_map (N : NetOk p s e roads) (C : CutOk p s e c) {L : List T} {f : Env' → M T} (g : T → T) (hf : ∀ i : Int, 0 ≤ i → i < 6 → f [.strm, .val (netV p s e roads), .val (lT c), .own L, .val (.int i)] = .ret (g (.int i)) ∧ g (.int i) ∈ leaves) : EvI (nLc [4] (e1 itemsT (eV 2)) (bName 4) cYes f) (bE p s e roads c (.own L)) 6 := by
  have cl := cut_leaves N C
  have p6 := N.p6
  refine ⟨(c.map T.int).map g, ?_, by simp; omega, ?_⟩
  · rw [nLc_eq (ts := c.map T.int) (fun _ => true) g (v_1 (v_var rfl) rfl) rfl (by simp; omega) fun x hx => ?_, filter_yes]
    obtain ⟨i, hi, rfl⟩ := List.mem_map.mp hx
    have := C.rng i hi
    exact ⟨_, rfl, rfl, fun _ => (hf i this.1 (by omega)).1⟩
  · intro x hx
    obtain ⟨t, ht, rfl⟩ := List.mem_map.mp hx
    obtain ⟨i, hi, rfl⟩ := List.mem_map.mp ht
    have := C.rng i hi
    exact (hf i this.1 (by omega)).2
theorem b_sort (N : NetOk p s e roads) (C : CutOk p s e c) : EvI (e1 nSort (e1 seqN (e2 nCat (eVS 2) (e1 seqN (nLst (aCons (e2 ixT (eVS 1) (eC (.int 3))) aNil)))))) (bE p s e roads c y) 7 := by
  have cl := cut_leaves N C
  have p6 := N.p6
  have e0 := N.e0
  have e1' := N.e1
  have cat : (e2 nCat (eVS 2) (e1 seqN (nLst (aCons (e2 ixT (eVS 1) (eC (.int 3))) aNil)))) (bE p s e roads c y) = .ret ((c ++ [e]).map T.int) := by
    rw [List.map_append]
    exact v_cat (v_seq rfl rfl) (v_1 (v_lst (v_cons (b_at (k := 3) rfl) v_nil) (by simp)) rfl) (by simp; omega)
  have pm : (sortI (c ++ [e])).Perm (c ++ [e]) := List.mergeSort_perm _ _
  refine ⟨(sortI (c ++ [e])).map T.int, v_1 (v_1 cat rfl) ?_, ?_, fun x hx => ?_⟩
  · exact nSort_ints _
  · rw [List.length_map, pm.length_eq]
    simp
    omega
  · obtain ⟨i, hi, rfl⟩ := List.mem_map.mp hx
    rcases List.mem_append.mp (pm.mem_iff.mp hi) with h | h
    · exact cl.2 _ (List.mem_map.mpr ⟨i, h, rfl⟩)
    · rw [List.mem_singleton.mp h]; exact leaf_int (by omega) (by omega)
theorem b_range (N : NetOk p s e roads) : (e1 nRg1 (e2 ixT (eVS 1) (eC (.int 0)))) (bE p s e roads c y) = .ret ((rangeI p).map T.int) := by
  have p2 := N.p2
  have p6 := N.p6
  refine v_1 (b_at (k := 0) rfl) ?_
  show (if okRg 0 p = true then M.ret (rgT 0 p) else .stuck) = _
  rw [if_pos (by unfold okRg; simp; omega)]
  unfold rgT rangeI
  rw [List.map_map]
  congr 1
  simp
theorem range_leaves (N : NetOk p s e roads) : (rangeI p).length ≤ 6 ∧ ∀ x ∈ (rangeI p).map T.int, x ∈ leaves := by
  have p6 := N.p6
  refine ⟨by unfold rangeI; simp; omega, fun x hx => ?_⟩
  obtain ⟨i, hi, rfl⟩ := List.mem_map.mp hx
  unfold rangeI at hi
  obtain ⟨k, hk, rfl⟩ := List.mem_map.mp hi
  have := List.mem_range.mp hk
  exact leaf_int (by omega) (by omega)
end
theorem g_own {ρ : Env'} {i n : Nat} {fs : Env' → M (List T)} (h : EvL fs ρ n) (hn : n ≤ 1000) : ∃ ts, sOwn i (nLst fs) ρ = .ret (.next (ρ.set i (.own ts))) ∧ ts.length = n ∧ ∀ x ∈ ts, Thing x := by
  obtain ⟨ts, e, l, ht⟩ := h
  refine ⟨ts, ?_, l, ht⟩
  unfold sOwn
  rw [v_lst e (by omega)]
  rfl
theorem g_ext {ρ : Env'} {i n : Nat} {fs : Env' → M (List T)} {L : List T} (ho : ρ[i]? = some (.own L)) (hL : L.length ≤ 1000 ∧ ∀ x ∈ L, Thing x) (h : EvL fs ρ n) (hn : n ≤ 1000) : ∃ ts, sExt i (e1 seqN (nLst fs)) ρ = .ret (.next (ρ.set i (.own ts))) ∧ ts.length = L.length + n ∧ ∀ x ∈ ts, Thing x := by
  obtain ⟨ts, e, l, ht⟩ := h
  refine ⟨L ++ ts, ?_, by simp [l], fun x hx => (List.mem_append.mp hx).elim (hL.2 x) (ht x)⟩
  unfold sExt ownL
  rw [ho]
  show ((e1 seqN (nLst fs)) ρ).bind _ = _
  have e2 : (e1 seqN (nLst fs)) ρ = .ret (true, ts) := v_1 (v_lst e (by omega)) rfl
  rw [e2]
  show (if (true && okLen (L.length + ts.length)) = true then _ else _) = _
  rw [if_pos (by unfold okLen; simp; omega)]
theorem g_app {ρ : Env'} {i : Nat} {f : Env' → M T} {L : List T} (ho : ρ[i]? = some (.own L)) (hL : L.length ≤ 1000 ∧ ∀ x ∈ L, Thing x) (h : Ev f ρ) : ∃ ts, sApp i f ρ = .ret (.next (ρ.set i (.own ts))) ∧ ts.length = L.length + 1 ∧ ∀ x ∈ ts, Thing x := by
  obtain ⟨t, e, ht⟩ := h
  refine ⟨L ++ [t], ?_, by simp, fun x hx => (List.mem_append.mp hx).elim (hL.2 x) fun h => by rw [List.mem_singleton.mp h]; exact ht⟩
  unfold sApp ownL
  rw [ho]
  show (f ρ).bind _ = _
  rw [e]
  show (if okLen L.length = true then _ else _) = _
  rw [if_pos (by unfold okLen; simp; omega)]
end Tw
end
section
set_option Elab.async false
set_option linter.all false
set_option maxRecDepth 100000
namespace Tw
open PySem PySem.Spec PyProof.Rows L2 DP
variable {cA : Str → Addr}
theorem tk_app {ρ : Env'} {i n : Nat} {f : Env' → M T} {L : List T} {P : T → Prop} (ho : ρ[i]? = some (.own L)) (h : Tk (f ρ) n P) (hL : L.length ≤ 1000000) : Tk (sApp i f ρ) n (fun fl => ∃ t, P t ∧ fl = .next (ρ.set i (.own (L ++ [t])))) := by
  unfold sApp ownL
  rw [ho]
  refine (Tk.bind (n := n) (n2 := 0) h fun t ht => ?_)
  rw [if_pos (by unfold okLen; simpa using hL)]
  exact Tk.ret ⟨t, ht, rfl⟩
def bolT : T → T
  | .int i => if i < 2 then .bl (i != 0) else .int i
  | t => t
def strT : T → T
  | .int i => .str (toString i)
  | t => t
theorem tk_bent {p s e : Int} {roads : List (List Int)} {c : List Int} (N : NetOk p s e roads) (C : CutOk p s e c) : Tk (m__law_bent cA [netV p s e roads, lT c]) 7 (fun t => ∃ ts, t = .lst ts ∧ ∀ x ∈ ts, Thing x) := by
  have p2 := N.p2
  have p6 := N.p6
  have cl := cut_leaves N C
  obtain ⟨T1, g1, l1, h1⟩ := g_own (i := 3) (b_first (y := .any) N C) (by decide)
  have c2 : ∀ {L : List T}, EvS (eVS 2) (bE p s e roads c (.own L)) 6 := b_c N C
  have m1 : ∀ {L : List T}, EvI (nLst (aCons (e1 negT (eC (.int 1))) aNil)) (bE p s e roads c (.own L)) 1 := evi_one (t := .int (-1)) (v_1 v_c rfl) (leaf_int (by decide) (by decide))
  have at0 : ∀ {L : List T}, EvI (nLst (aCons (e2 ixT (eVS 1) (eC (.int 0))) aNil)) (bE p s e roads c (.own L)) 1 := evi_one (b_at (k := 0) rfl) (leaf_int (by omega) (by omega))
  have no : ∀ {L : List T}, EvI (nLst (aCons (eC .non) aNil)) (bE p s e roads c (.own L)) 1 := evi_one v_c (by unfold leaves; simp)
  obtain ⟨T2, g2, l2, h2⟩ := g_ext (i := 3) (ρ := bE p s e roads c (.own T1)) rfl ⟨by omega, h1⟩ (ev_cons (ev_ints (b_filter N C) (by decide)) (ev_cons (ev_ints (b_sort N C) (by decide)) (ev_cons (ev_ints (evi_cat c2 (evs at0) (by decide)) (by decide)) (ev_cons (ev_ints (evi_cat (evs m1) c2 (by decide)) (by decide)) ev_nil)))) (by decide)
  obtain ⟨T3, g3, l3, h3⟩ := g_app (i := 3) (ρ := bE p s e roads c (.own T2)) rfl ⟨by omega, h2⟩ (ev_ints (evi_cat c2 (evs no) (by decide)) (by decide))
  have bo : ∀ {L : List T}, EvI (nLc [4] (e1 itemsT (eV 2)) (bName 4) cYes (eIf (e1 boolT (e2 DP.ltT (eV 4) (eC (.int 2)))) (e1 boolI (aCons (eV 4) aNil)) (eV 4))) (bE p s e roads c (.own L)) 6 := b_map N C bolT fun i i0 i6 => by
    have lt : DP.ltT (.int i) (.int 2) = .ret (.bl (decide (i < 2))) := rfl
    by_cases z : i < 2
    · rw [decide_eq_true z] at lt
      have e : bolT (.int i) = .bl (i != 0) := if_pos z
      rw [e]
      exact ⟨v_ifT (v_bool (v_2 (v_var rfl) v_c lt)) (v_1 (v_cons (v_var rfl) v_nil) rfl), leaf_bl _⟩
    · rw [decide_eq_false z] at lt
      have e : bolT (.int i) = .int i := if_neg z
      rw [e]
      exact ⟨v_ifF (v_bool (v_2 (v_var rfl) v_c lt)) (v_var rfl), leaf_int (by omega) (by omega)⟩
  have st : ∀ {L : List T}, EvI (nLc [4] (e1 itemsT (eV 2)) (bName 4) cYes (e1 strI (aCons (eV 4) aNil))) (bE p s e roads c (.own L)) 6 := b_map N C strT fun i i0 i6 => ⟨v_1 (v_cons (v_var rfl) v_nil) (str_leaf i0 i6).1, (str_leaf i0 i6).2⟩
  have rl := range_leaves N
  have rg : ∀ {L : List T}, EvI (e1 nRg1 (e2 ixT (eVS 1) (eC (.int 0)))) (bE p s e roads c (.own L)) 6 := ⟨_, b_range N, by simpa using rl.1, rl.2⟩
  obtain ⟨T4, g4, l4, h4⟩ := g_ext (i := 3) (ρ := bE p s e roads c (.own T3)) rfl ⟨by omega, h3⟩ (ev_cons (ev_ints bo (by decide)) (ev_cons (ev_ints st (by decide)) (ev_cons (ev_ints rg (by decide)) ev_nil))) (by decide)
  refine Tk.fn ?_
  show Tk (G__law_bent cA (bE p s e roads c .any)) 7 _
  unfold G__law_bent
  have nx : ∀ {n : Nat} {ρ ρ' : Env'} {G1 G2 : Env' → M Fl} {R : Fl → Prop}, G1 ρ = .ret (.next ρ') → Tk (G2 ρ') n R → Tk (sSeq G1 G2 ρ) n R := fun {n ρ ρ' G1 G2 R} h k => by
    unfold sSeq
    rw [h]
    exact k
  refine nx g1 (nx g2 (nx g3 (nx g4 ?_)))
  show Tk (sSeq _ _ (bE p s e roads c (.own T4))) 7 _
  refine (Tk.seq (n := 7) (n2 := 0) (I := fun ρ' => ∃ ts, ρ' = bE p s e roads c (.own ts) ∧ ∀ x ∈ ts, Thing x) ?_ ?_)
  · have mix : Tk ((eCallS 0 (m__law_mixed cA) (aCons (e1 lstT (e1 nRg1 (e2 ixT (eVS 1) (eC (.int 0))))) aNil)) (bE p s e roads c (.own T4))) 6 (fun u => ∃ zs : List T, zs.length ≤ 6 ∧ (∀ x ∈ zs, x ∈ leaves) ∧ u = .lst zs) := by
      refine (Tk.callS (n := 0) (n2 := 6) rfl (A := fun ts => ts = [.lst ((rangeI p).map T.int)]) (Tk.eq (v_cons (v_lstT (b_range N)) v_nil) rfl) ?_).le (by decide)
      rintro ts rfl
      refine (tk_mixed (xs := (rangeI p).map T.int) (by simp; omega)).mono (by simp; omega) ?_
      rintro u ⟨ys, rfl, pm⟩
      exact ⟨ys, by rw [pm.length_eq]; simpa using rl.1, fun x hx => rl.2 x (pm.mem_iff.mp hx), rfl⟩
    have dr := tk_d (cA := cA) (ρ := bE p s e roads c (.own T4)) (f := (e2 DP.addT (e2 ixT (eVS 1) (eC (.int 0))) (eC (.int 1)))) (k := p + 1) rfl (v_2 (b_at (k := 0) rfl) v_c rfl) (by omega) (by omega)
    have last : Tk ((e1 lstT (nSl (e1 seqT (eCallS 0 (m__law_mixed cA) (aCons (e1 lstT (e1 nRg1 (e2 ixT (eVS 1) (eC (.int 0))))) aNil))) oNone (oSome (eCallS 0 (m__law_draw cA) (aCons (e2 DP.addT (e2 ixT (eVS 1) (eC (.int 0))) (eC (.int 1))) aNil))))) (bE p s e roads c (.own T4))) 7 Thing := by
      refine (Tk.e1 (n := 7) (n2 := 0) (A := fun ts => ts.length ≤ 12 ∧ ∀ x ∈ ts, x ∈ leaves) ?_ ?_)
      · unfold nSl
        refine (Tk.bind (n := 6) (n2 := 1) (P := fun q => ∃ zs : List T, zs.length ≤ 6 ∧ (∀ x ∈ zs, x ∈ leaves) ∧ q = (true, zs)) ?_ ?_)
        · refine (Tk.e1 (n := 6) (n2 := 0) mix ?_)
          rintro u ⟨zs, hl, hz, rfl⟩
          exact Tk.eq rfl ⟨zs, hl, hz, rfl⟩
        · rintro q ⟨zs, hl, hz, rfl⟩
          show Tk (M.bind _ _) 1 _
          unfold oNone oSome
          refine (Tk.bind (n := 0) (n2 := 1) (Tk.eq (P := fun o => o = none) rfl rfl) ?_).le (by decide)
          rintro _ rfl
          refine (Tk.bind (n := 1) (n2 := 0) (P := fun o => ∃ d : Int, o = some d) (Tk.bind (n := 1) (n2 := 0) dr ?_) ?_)
          · rintro u ⟨d, rfl, h⟩
            exact Tk.eq rfl ⟨d, rfl⟩
          · rintro o ⟨d, rfl⟩
            refine Tk.eq (a := cutT zs none (some d)) rfl ⟨?_, fun x hx => hz x (cut_sub.2 x hx)⟩
            have := (cut_sub (ts := zs) (lo := none) (hi := some d)).1
            omega
      · rintro ts ⟨hl, hx⟩
        exact Tk.eq rfl (.nice (nice_ints (.inl rfl) hl hx 1))
    refine (tk_app (ρ := bE p s e roads c (.own T4)) (i := 3) rfl last (by omega)).imp ?_
    rintro fl ⟨t, ht, rfl⟩
    exact ⟨_, rfl, T4 ++ [t], rfl, fun x hx => (List.mem_append.mp hx).elim (h4 x) fun h => by rw [List.mem_singleton.mp h]; exact ht⟩
  · rintro ρ' ⟨ts, rfl, ht⟩
    refine Tk.fz ?_
    exact Tk.sRet (Tk.eq (a := .lst ts) rfl ⟨ts, rfl, ht⟩)
end Tw
end
section
set_option Elab.async false
set_option linter.all false
set_option maxRecDepth 100000
namespace Tw
open PySem PySem.Spec PyProof.Rows L2 DP
variable {cA : Str → Addr}
noncomputable abbrev rG := (e1 rng1 (aCons (eC (.int 4)) aNil))
noncomputable abbrev aG (cA : Str → Addr) := (sSet 3 (eCallS 1 (m__law_net cA) (aCons (eC (.int 6)) (aCons (eC (.int 9)) aNil))))
noncomputable abbrev bG (cA : Str → Addr) := (sPar 4 5 (pCons (eCallS 1 (m__law_made cA) (aCons (eV 3) aNil)) (pCons (eCall (m__law_cuts cA) (aCons (eV 3) aNil)) pNil)))
noncomputable abbrev n1G (cA : Str → Addr) := (e1 itemsT (e1 lstT (nSl (e1 seqT (eCallS 1 (m__law_mixed cA) (aCons (eV 5) aNil))) oNone (oSome (eC (.int 8))))))
noncomputable abbrev q0G (cA : Str → Addr) := (sSet 7 (eCallS 1 (m__law_loose cA 40) (aCons (e1 lstT (e1 nList (eVS 6))) aNil)))
noncomputable abbrev q1G (cA : Str → Addr) := (sIf (eNot (e1 boolT (eCall (m__law_same cA 40) (aCons (e1 lstT (nLst (aCons (eCall (m_is_cut cA) (aCons (eV 4) (aCons (eV 7) aNil))) (aCons (eCall (m_room_of cA) (aCons (eV 4) (aCons (eV 7) aNil))) aNil)))) (aCons (e1 lstT (nLst (aCons (eC (.bl true)) (aCons (eCall (m__law_room cA) (aCons (e2 ixT (eVS 3) (eC (.int 1))) (aCons (eV 6) aNil))) aNil)))) aNil))))) (sRet (eC (.bl false))) sNext)
noncomputable abbrev q2G := (sIf (e1 boolT (e2 neT (e1 lstT (e1 nList (eVS 7))) (eV 6))) (sRet (eC (.bl false))) sNext)
noncomputable abbrev n2G (cA : Str → Addr) := (e1 itemsT (eCallS 1 (m__law_bent cA) (aCons (eV 3) (aCons (eCallS 1 (m__law_pick cA) (aCons (eV 5) aNil)) aNil))))
noncomputable abbrev t0G (cA : Str → Addr) := (sPar 9 10 (pCons (eCall (m__law_is_cut cA) (aCons (eV 3) (aCons (eV 8) aNil))) (pCons (e1 reprT (aCons (eV 8) aNil)) pNil)))
noncomputable abbrev t1G (cA : Str → Addr) := (sIf (eOr (eNot (e1 boolT (eCall (m__law_same cA 40) (aCons (eCallK swp (m_is_cut cA) (aCons (eV 8) (aCons (eV 4) aNil))) (aCons (eV 9) aNil))))) (e1 boolT (e2 neT (e1 reprT (aCons (eV 8) aNil)) (eV 10)))) (sRet (eC (.bl false))) sNext)
noncomputable abbrev t2G (cA : Str → Addr) := (sIf (eAnd (eNot (e1 boolT (eV 9))) (eNot (e1 boolT (eCall (m__law_same cA 40) (aCons (eCall (m__law_met cA) (aCons (eV 4) (aCons (eV 8) aNil))) (aCons (eTup (aCons (eC (.str "cut")) (aCons (eV 8) aNil))) aNil)))))) (sRet (eC (.bl false))) sNext)
noncomputable abbrev h0G := (sOwn 11 (nLst (aCons (eC (.str "a")) aNil)))
noncomputable abbrev h1G (cA : Str → Addr) := (sHeld 11 12 (eCall (m__law_met cA) (aCons (eV 4) (aCons (eV 11) aNil))) "cut" "late")
noncomputable abbrev h2G (cA : Str → Addr) := (sIf (eNot (e1 boolT (eCall (m__law_same cA 40) (aCons (e1 lstT (nLst (aCons (eV 12) (aCons (eCall (m_is_cut cA) (aCons (eV 4) (aCons (eV 4) aNil))) aNil)))) (aCons (e1 lstT (nLst (aCons (eTup (aCons (eC (.str "cut")) (aCons (e1 lstT (nLst (aCons (eC (.str "a")) (aCons (eC (.str "late")) aNil)))) aNil))) (aCons (eC (.bl false)) aNil)))) aNil))))) (sRet (eC (.bl false))) sNext)
noncomputable abbrev l1G (cA : Str → Addr) := sSeq (q0G cA) (sSeq (q1G cA) (q2G))
noncomputable abbrev l2G (cA : Str → Addr) := sSeq (t0G cA) (sSeq (t1G cA) (t2G cA))
noncomputable abbrev l3G (cA : Str → Addr) := sSeq (h0G) (sSeq (h1G cA) (h2G cA))
noncomputable abbrev turnG (cA : Str → Addr) := sSeq (aG cA) (sSeq (bG cA) (sSeq (sFor (n1G cA) (bName 6) (l1G cA)) (sSeq (sFor (n2G cA) (bName 8) (l2G cA)) (l3G cA))))
theorem g_law : G_law cA = sSeq (sFor rG (bName 2) (turnG cA)) (sRet (eC (.bl true))) := by
  unfold G_law
  rfl
theorem ne_cut (c : List Int) : DP.neT (lT c) (lT c) = .ret (.bl false) := by
  unfold DP.neT lT
  rw [show dataT (.lst (c.map T.int)) = some (.list (c.map PyData.int)) from by
    show (dataTs (c.map T.int)).map PyData.list = _
    rw [dataTs_ints]
    rfl]
  show (if _ then _ else _) = _
  rw [if_pos (by rw [shaped_ints]; rfl)]
  congr 2
  simp [PyData.eqv, eqvAll_ints]
theorem v_callK {ρ : Env'} {π : List T → List T} {m : List T → M T} {f : Env' → M (List T)} {ts : List T} {t : T} (h : f ρ = .ret ts) (hm : m (π ts) = .ret t) : eCallK π m f ρ = .ret t := by unfold eCallK; rw [h]; exact hm
theorem g_if2 {ρ : Env'} {q : Env' → M Bool} {G1 G2 : Env' → M Fl} {fl : Fl} (h : q ρ = .ret false) (h2 : G2 ρ = .ret fl) : sIf q G1 G2 ρ = .ret fl := g_ifF h h2
theorem nextR (ρ : Env') : sNext ρ = .ret (.next ρ) := rfl
theorem set_eq {ρ : Env'} {i : Nat} {x : Sl} (h : i < ρ.length) : (ρ.set i x)[i]? = some x := by simp [h]
theorem set_ne {ρ : Env'} {i j : Nat} {x y : Sl} (h : i ≠ j) (hy : ρ[j]? = some y) : (ρ.set i x)[j]? = some y := by rw [List.getElem?_set_ne h]; exact hy
section
variable {ρ : Env'} {p s e : Int} {roads : List (List Int)} {c : List Int}
/-- the same, as a test that fails -/
theorem t_same {f g : Env' → M T} {t : T} (hf : f ρ = .ret t) (hg : g ρ = .ret t) (h : Refl cA 40 t) : (eNot (e1 boolT (eCall (m__law_same cA 40) (aCons f (aCons g aNil))))) ρ = .ret false :=
  v_not (cb := true) (v_bool (v_call (v_cons hf (v_cons hg v_nil)) h))
theorem q1_ok (N : NetOk p s e roads) (C : CutOk p s e c) {u : T} (h3 : ρ[3]? = some (.val (netV p s e roads))) (h4 : ρ[4]? = some (.val (netT cA p roads s e))) (h6 : ρ[6]? = some (.val (lT c))) (h7 : ρ[7]? = some (.val u)) (hu : SeqOf u (c.map T.int)) (yes : m_is_cut cA [netT cA p roads s e, u] = .ret (.bl true)) : q1G cA ρ = .ret (.next ρ) := by
  have r := room_yes N hu yes
  have lr := law_room_eq (cA := cA) N (t := lT c) (ks := c) (.inl rfl)
  have ix : (e2 ixT (eVS 3) (eC (.int 1))) ρ = .ret (.lst (roads.map iT)) := v_2 (v_seq h3 rfl) v_c (ix_at (k := 1) rfl)
  have b1 : (e1 lstT (nLst (aCons (eCall (m_is_cut cA) (aCons (eV 4) (aCons (eV 7) aNil))) (aCons (eCall (m_room_of cA) (aCons (eV 4) (aCons (eV 7) aNil))) aNil)))) ρ = .ret (.lst [.bl true, .int (roomI roads c)]) := v_lstT (v_lst (v_cons (v_call (v_cons (v_var h4) (v_cons (v_var h7) v_nil)) yes) (v_cons (v_call (v_cons (v_var h4) (v_cons (v_var h7) v_nil)) r) v_nil)) (by simp))
  have b2 : (e1 lstT (nLst (aCons (eC (.bl true)) (aCons (eCall (m__law_room cA) (aCons (e2 ixT (eVS 3) (eC (.int 1))) (aCons (eV 6) aNil))) aNil)))) ρ = .ret (.lst [.bl true, .int (roomI roads c)]) := v_lstT (v_lst (v_cons v_c (v_cons (v_call (v_cons ix (v_cons (v_var h6) v_nil)) lr) v_nil)) (by simp))
  have rf : Refl cA 40 (.lst [.bl true, .int (roomI roads c)]) := refl_seq (n := 39) (.inl rfl) (fun x hx => by
    rcases List.mem_cons.mp hx with rfl | hx
    · exact refl_bl (n := 38) true
    · rw [List.mem_singleton.mp hx]; exact refl_int (n := 38) _) (by simp)
  exact g_ifF (t_same b1 b2 rf) (nextR ρ)
theorem q2_ok {u : T} (h6 : ρ[6]? = some (.val (lT c))) (h7 : ρ[7]? = some (.val u)) (hu : SeqOf u (c.map T.int)) : q2G ρ = .ret (.next ρ) := by
  obtain ⟨q, sq⟩ := seqQ hu
  exact g_ifF (v_bool (v_2 (v_1 (v_1 (v_seq h7 sq) rfl) rfl) (v_var h6) (ne_cut c))) (nextR ρ)
end
end Tw
end
section
set_option Elab.async false
set_option linter.all false
set_option maxRecDepth 100000
namespace Tw
open PySem PySem.Spec PyProof.Rows L2 DP
variable {cA : Str → Addr}
/-- what stands in the slots all through a turn -/
structure St (cA : Str → Addr) (p s e : Int) (roads cs : List (List Int)) (ρ : Env') : Prop where
  len : ρ.length = 13
  h1 : ρ[1]? = some .strm
  h3 : ρ[3]? = some (.val (netV p s e roads))
  h4 : ρ[4]? = some (.val (netT cA p roads s e))
  h5 : ρ[5]? = some (.val (.lst (cs.map lT)))
  no : ∀ y ∈ ρ, y.isOwn = false
theorem no_set {ρ : Env'} {i : Nat} {x : Sl} (h : ∀ y ∈ ρ, y.isOwn = false) (hx : x.isOwn = false) : ∀ y ∈ ρ.set i x, y.isOwn = false := fun y hy => by
  rcases List.mem_or_eq_of_mem_set hy with h' | rfl
  · exact h y h'
  · exact hx
variable {p s e : Int} {roads cs : List (List Int)} {ρ : Env'}
theorem St.set {i : Nat} {t : T} (S : St cA p s e roads cs ρ) (h1 : i ≠ 1) (h3 : i ≠ 3) (h4 : i ≠ 4) (h5 : i ≠ 5) : St cA p s e roads cs (ρ.set i (.val t)) :=
  ⟨by rw [List.length_set]; exact S.len, set_ne h1 S.h1, set_ne h3 S.h3, set_ne h4 S.h4, set_ne h5 S.h5, no_set S.no rfl⟩
theorem cut_yes {c : List Int} {u : T} (C : CutOk p s e c) (hu : SeqOf u (c.map T.int)) : m_is_cut cA [netT cA p roads s e, u] = .ret (.bl true) := by
  rw [is_cut_seq hu (fun x hx => by obtain ⟨i, _, rfl⟩ := List.mem_map.mp hx; exact .inl ⟨i, rfl⟩)]
  unfold isCutT
  rw [intsT_map]
  show M.ret (T.bl (isCutK p s e c)) = _
  unfold isCutK
  rw [decide_eq_true C.rng, decide_eq_true C.asc, decide_eq_true C.start, decide_eq_false C.stop]
  rfl
theorem tk_q0 {c : List Int} (h1 : ρ[1]? = some .strm) (h6 : ρ[6]? = some (.val (lT c))) (hl : c.length ≤ 1000000) : Tk (q0G cA ρ) 1 (fun fl => ∃ ρ', fl = .next ρ' ∧ ∃ u, SeqOf u (c.map T.int) ∧ ρ' = ρ.set 7 (.val u)) := by
  have arg : (aCons (e1 lstT (e1 nList (eVS 6))) aNil) ρ = .ret [lT c] := v_cons (v_1 (v_1 (v_seq h6 rfl) rfl) rfl) v_nil
  refine (Tk.sSet (n := 1) ?_)
  refine (Tk.callS (n := 0) (n2 := 1) h1 (A := fun ts => ts = [lT c]) (Tk.eq arg rfl) ?_).le (by decide)
  rintro ts rfl
  exact tk_loose_ints (n := 38) (.inl rfl) (by simpa using hl)
theorem run_cut {c : List Int} (N : NetOk p s e roads) (C : CutOk p s e c) (S : St cA p s e roads cs ρ) (h6 : ρ[6]? = some (.val (lT c))) : Tk (l1G cA ρ) 1 (fun fl => ∃ ρ', fl = .next ρ' ∧ St cA p s e roads cs ρ') := by
  have cl := (cut_leaves N C).1
  refine (Tk.seq (n := 1) (n2 := 0) (tk_q0 S.h1 h6 (by omega)) ?_)
  rintro ρ' ⟨u, hu, rfl⟩
  have S7 : St cA p s e roads cs (ρ.set 7 (.val u)) := S.set (by decide) (by decide) (by decide) (by decide)
  have h7 : (ρ.set 7 (.val u))[7]? = some (.val u) := set_eq (by rw [S.len]; decide)
  have h6' : (ρ.set 7 (.val u))[6]? = some (.val (lT c)) := set_ne (by decide) h6
  generalize ρ.set 7 (.val u) = ρ7 at S7 h7 h6'
  have key : (sSeq (q1G cA) q2G) ρ7 = .ret (.next ρ7) := g_seq (q1_ok N C S7.h3 S7.h4 h6' h7 hu (cut_yes C hu)) (q2_ok h6' h7 hu)
  exact Tk.eq key ⟨_, rfl, S7⟩
theorem g_par {i j : Nat} {f g : Env' → M T} {t u : T} (hf : f ρ = .ret t) (hg : g ρ = .ret u) : sPar i j (pCons f (pCons g pNil)) ρ = .ret (.next ((ρ.set i (.val t)).set j (.val u))) := by
  unfold sPar
  rw [show (pCons f (pCons g pNil)) ρ = .ret [.val t, .val u] from v_2 hf (v_2 hg rfl rfl) rfl]
  rfl
theorem run_thing {x : T} (X : Thing x) (S : St cA p s e roads cs ρ) (h8 : ρ[8]? = some (.val x)) : ∃ ρ', l2G cA ρ = .ret (.next ρ') ∧ St cA p s e roads cs ρ' := by
  obtain ⟨b, c1, c2⟩ := thing_cut (cA := cA) (p := p) (s := s) (e := e) (roads := roads) X
  obtain ⟨r, hr, ok⟩ := thing_repr X
  have a0 : (eCall (m__law_is_cut cA) (aCons (eV 3) (aCons (eV 8) aNil))) ρ = .ret (.bl b) := v_call (v_cons (v_var S.h3) (v_cons (v_var h8) v_nil)) c2
  have r0 : (e1 reprT (aCons (eV 8) aNil)) ρ = .ret (.str r) := v_1 (v_cons (v_var h8) v_nil) hr
  have g0 : t0G cA ρ = .ret (.next ((ρ.set 9 (.val (.bl b))).set 10 (.val (.str r)))) := g_par a0 r0
  have S2 : St cA p s e roads cs ((ρ.set 9 (.val (.bl b))).set 10 (.val (.str r))) := (S.set (by decide) (by decide) (by decide) (by decide)).set (by decide) (by decide) (by decide) (by decide)
  have h8' : ((ρ.set 9 (.val (.bl b))).set 10 (.val (.str r)))[8]? = some (.val x) := set_ne (by decide) (set_ne (by decide) h8)
  have h9 : ((ρ.set 9 (.val (.bl b))).set 10 (.val (.str r)))[9]? = some (.val (.bl b)) := set_ne (by decide) (set_eq (by rw [S.len]; decide))
  have h10 : ((ρ.set 9 (.val (.bl b))).set 10 (.val (.str r)))[10]? = some (.val (.str r)) := set_eq (by rw [List.length_set, S.len]; decide)
  refine ⟨_, ?_, S2⟩
  refine g_seq g0 ?_
  generalize (ρ.set 9 (.val (.bl b))).set 10 (.val (.str r)) = ρ2 at S2 h8' h9 h10
  have ck : (eCallK swp (m_is_cut cA) (aCons (eV 8) (aCons (eV 4) aNil))) ρ2 = .ret (.bl b) := v_callK (ts := [x, netT cA p roads s e]) (v_cons (v_var h8') (v_cons (v_var S2.h4) v_nil)) c1
  have t1 : t1G cA ρ2 = .ret (.next ρ2) := g_ifF (v_orF (t_same ck (v_var h9) (refl_bl (n := 39) b)) (v_bool (v_2 (v_1 (v_cons (v_var h8') v_nil) hr) (v_var h10) (eqT_str ok)))) (nextR ρ2)
  have t2 : t2G cA ρ2 = .ret (.next ρ2) := by
    refine g_ifF ?_ (nextR ρ2)
    cases b with
    | true => exact v_andF (v_not (cb := true) (v_bool (v_var h9)))
    | false =>
      have m : (eCall (m__law_met cA) (aCons (eV 4) (aCons (eV 8) aNil))) ρ2 = .ret (.tup [.str "cut", x]) := v_call (v_cons (v_var S2.h4) (v_cons (v_var h8') v_nil)) (met_no c1)
      have w : (eTup (aCons (eC (.str "cut")) (aCons (eV 8) aNil))) ρ2 = .ret (.tup [.str "cut", x]) := v_tup (v_cons v_c (v_cons (v_var h8') v_nil)) (by simp)
      exact v_andT (v_not (cb := false) (v_bool (v_var h9))) (t_same m w (thing_refl X))
  exact g_seq t1 t2
theorem run_held (S : St cA p s e roads cs ρ) : ∃ ρ', l3G cA ρ = .ret (.next ρ') ∧ St cA p s e roads cs ρ' := by
  have ho : h0G ρ = .ret (.next (ρ.set 11 (.own [.str "a"]))) := by
    show M.bind (nLst (aCons (eC (.str "a")) aNil) ρ) _ = _
    rw [v_lst (v_cons v_c v_nil) (by simp)]
    rfl
  have l1 : (ρ.set 11 (.own [.str "a"]))[11]? = some (.own [.str "a"]) := set_eq (by rw [S.len]; decide)
  have e11 : ∀ x : Sl, (ρ.set 11 (.own [.str "a"])).set 11 x = ρ.set 11 x := fun x => List.set_set ..
  have hh : h1G cA (ρ.set 11 (.own [.str "a"])) = .ret (.next ((ρ.set 11 .any).set 12 (.val (.tup [.str "cut", .lst [.str "a", .str "late"]])))) := by
    show sHeld 11 12 _ _ _ _ = _
    unfold sHeld
    rw [show ownL 11 (ρ.set 11 (.own [.str "a"])) = some [.str "a"] from by unfold ownL; rw [l1]]
    dsimp only
    have c1 : ∀ a : Addr, eCall (m__law_met cA) (aCons (eV 4) (aCons (eV 11) aNil)) ((ρ.set 11 (.own [.str "a"])).set 11 (.val (.pn a [.str "a"]))) = .ret (.tup [.str "cut", .pn a [.str "a"]]) := fun a => by
      rw [e11]
      have k4 : (ρ.set 11 (.val (.pn a [.str "a"])))[4]? = some (.val (netT cA p roads s e)) := set_ne (by decide) S.h4
      have k11 : (ρ.set 11 (.val (.pn a [.str "a"])))[11]? = some (.val (.pn a [.str "a"])) := set_eq (by rw [S.len]; decide)
      exact v_call (v_cons (v_var k4) (v_cons (v_var k11) v_nil)) (met_no is_cut_pn)
    have c2 : (okLen [T.str "a"].length && ((ρ.set 11 (.own [.str "a"])).set 11 .any).all fun y => !y.isOwn) = true := by
      rw [e11]
      refine Bool.and_eq_true_iff.mpr ⟨by decide, List.all_eq_true.mpr fun y hy => ?_⟩
      rw [no_set S.no (x := .any) rfl y hy]
      rfl
    refine (if_pos ⟨c1, c2⟩).trans ?_
    rw [e11]
    rfl
  have S2 : St cA p s e roads cs ((ρ.set 11 .any).set 12 (.val (.tup [.str "cut", .lst [.str "a", .str "late"]]))) := by
    refine St.set ?_ (by decide) (by decide) (by decide) (by decide)
    exact ⟨by rw [List.length_set]; exact S.len, set_ne (by decide) S.h1, set_ne (by decide) S.h3, set_ne (by decide) S.h4, set_ne (by decide) S.h5, no_set S.no rfl⟩
  have h12 : ((ρ.set 11 .any).set 12 (.val (.tup [.str "cut", .lst [.str "a", .str "late"]])))[12]? = some (.val (.tup [.str "cut", .lst [.str "a", .str "late"]])) := set_eq (by rw [List.length_set, S.len]; decide)
  refine ⟨_, g_seq ho (g_seq hh ?_), S2⟩
  generalize (ρ.set 11 .any).set 12 (.val (.tup [.str "cut", .lst [.str "a", .str "late"]])) = ρ2 at S2 h12
  have nc : m_is_cut cA [netT cA p roads s e, netT cA p roads s e] = .ret (.bl false) := is_cut_no list_obj
  have b1 : (e1 lstT (nLst (aCons (eV 12) (aCons (eCall (m_is_cut cA) (aCons (eV 4) (aCons (eV 4) aNil))) aNil)))) ρ2 = .ret (.lst [.tup [.str "cut", .lst [.str "a", .str "late"]], .bl false]) := v_lstT (v_lst (v_cons (v_var h12) (v_cons (v_call (v_cons (v_var S2.h4) (v_cons (v_var S2.h4) v_nil)) nc) v_nil)) (by simp))
  have b2 : (e1 lstT (nLst (aCons (eTup (aCons (eC (.str "cut")) (aCons (e1 lstT (nLst (aCons (eC (.str "a")) (aCons (eC (.str "late")) aNil)))) aNil))) (aCons (eC (.bl false)) aNil)))) ρ2 = .ret (.lst [.tup [.str "cut", .lst [.str "a", .str "late"]], .bl false]) := v_lstT (v_lst (v_cons (v_tup (v_cons v_c (v_cons (v_lstT (v_lst (v_cons v_c (v_cons v_c v_nil)) (by simp))) v_nil)) (by simp)) (v_cons v_c v_nil)) (by simp))
  have lf : ∀ x : Str, x = "cut" ∨ x = "a" ∨ x = "late" → ∀ n, Refl cA (n + 1) (.str x) := fun x hx n => refl_leaf (by unfold leaves; rcases hx with rfl | rfl | rfl <;> simp)
  have r3 : Refl cA 38 (.lst [.str "a", .str "late"]) := refl_seq (n := 37) (.inl rfl) (fun x hx => by
    rcases List.mem_cons.mp hx with rfl | hx
    · exact lf _ (.inr (.inl rfl)) 36
    · rw [List.mem_singleton.mp hx]; exact lf _ (.inr (.inr rfl)) 36) (by simp)
  have r2 : Refl cA 39 (.tup [.str "cut", .lst [.str "a", .str "late"]]) := refl_seq (n := 38) (.inr rfl) (fun x hx => by
    rcases List.mem_cons.mp hx with rfl | hx
    · exact lf _ (.inl rfl) 37
    · rw [List.mem_singleton.mp hx]; exact r3) (by simp)
  have r1 : Refl cA 40 (.lst [.tup [.str "cut", .lst [.str "a", .str "late"]], .bl false]) := refl_seq (n := 39) (.inl rfl) (fun x hx => by
    rcases List.mem_cons.mp hx with rfl | hx
    · exact r2
    · rw [List.mem_singleton.mp hx]; exact refl_bl (n := 38) false) (by simp)
  exact g_ifF (t_same b1 b2 r1) (nextR ρ2)
end Tw
end
section
set_option Elab.async false
set_option linter.all false
set_option maxRecDepth 100000
namespace Tw
open PySem PySem.Spec PyProof.Rows L2 DP
variable {cA : Str → Addr} {p s e : Int} {roads cs : List (List Int)} {ρ : Env'}
/-- a loop without draws in its turns: however many there are -/
theorem Tk.sFor0 {n : Nat} {fi : Env' → M (List T)} {bd : T → Env' → Option Env'} {G : Env' → M Fl} {A : List T → Prop} (I : Env' → Prop) (h : Tk (fi ρ) n A) (h0 : I ρ)
    (hs : ∀ ts, A ts → ∀ (t : T) (ρ : Env'), t ∈ ts → I ρ → ∃ ρ1, bd t ρ = some ρ1 ∧ Tk (G ρ1) 0 (fun fl => ∃ ρ', fl = .next ρ' ∧ I ρ')) :
    Tk (sFor fi bd G ρ) n (fun fl => ∃ ρ', fl = .next ρ' ∧ I ρ') :=
  (Tk.bind (n2 := 0) h fun ts ha => (Tk.forL (c := 0) (fun _ => I) ts 0 ρ h0 fun j t ρ ht hj => hs ts ha t ρ (List.mem_of_getElem? ht) hj).mono (by omega) fun fl h => h)
theorem tk_items (S : St cA p s e roads cs ρ) (hl : cs.length ≤ 64) : Tk (n1G cA ρ) 64 (fun ts => ts.length ≤ 64 ∧ ∀ t ∈ ts, ∃ c ∈ cs, t = lT c) := by
  have mix : Tk ((eCallS 1 (m__law_mixed cA) (aCons (eV 5) aNil)) ρ) 64 (fun u => ∃ zs : List T, zs.length ≤ 64 ∧ (∀ x ∈ zs, ∃ c ∈ cs, x = lT c) ∧ u = .lst zs) := by
    refine (Tk.callS (n := 0) (n2 := 64) S.h1 (A := fun ts => ts = [.lst (cs.map lT)]) (Tk.eq (v_cons (v_var S.h5) v_nil) rfl) ?_).le (by decide)
    rintro ts rfl
    refine (tk_mixed (xs := cs.map lT) (by simp; omega)).mono (by simp; omega) ?_
    rintro u ⟨ys, rfl, pm⟩
    refine ⟨ys, by rw [pm.length_eq]; simpa using hl, fun x hx => ?_, rfl⟩
    obtain ⟨c, hc, rfl⟩ := List.mem_map.mp (pm.mem_iff.mp hx)
    exact ⟨c, hc, rfl⟩
  refine (Tk.e1 (n := 64) (n2 := 0) (A := fun u => ∃ zs : List T, zs.length ≤ 64 ∧ (∀ x ∈ zs, ∃ c ∈ cs, x = lT c) ∧ u = .lst zs) ?_ ?_)
  · refine (Tk.e1 (n := 64) (n2 := 0) (A := fun zs => zs.length ≤ 64 ∧ ∀ x ∈ zs, ∃ c ∈ cs, x = lT c) ?_ ?_)
    · unfold nSl
      refine (Tk.bind (n := 64) (n2 := 0) (P := fun q => ∃ zs : List T, zs.length ≤ 64 ∧ (∀ x ∈ zs, ∃ c ∈ cs, x = lT c) ∧ q = (true, zs)) ?_ ?_)
      · refine (Tk.e1 (n := 64) (n2 := 0) mix ?_)
        rintro u ⟨zs, h1, h2, rfl⟩
        exact Tk.eq rfl ⟨zs, h1, h2, rfl⟩
      · rintro q ⟨zs, h1, h2, rfl⟩
        refine Tk.eq (a := cutT zs none (some 8)) rfl ⟨?_, fun x hx => h2 x (cut_sub.2 x hx)⟩
        have := (cut_sub (ts := zs) (lo := none) (hi := some 8)).1
        omega
    · rintro zs ⟨h1, h2⟩
      exact Tk.eq rfl ⟨zs, h1, h2, rfl⟩
  · rintro u ⟨zs, h1, h2, rfl⟩
    exact Tk.eq rfl ⟨h1, h2⟩
theorem tk_things (N : NetOk p s e roads) (S : St cA p s e roads cs ρ) (hc : ∀ c ∈ cs, CutOk p s e c) (ne : cs ≠ []) (hl : cs.length ≤ 64) : Tk (n2G cA ρ) 8 (fun ts => ∀ t ∈ ts, Thing t) := by
  have pk : Tk ((eCallS 1 (m__law_pick cA) (aCons (eV 5) aNil)) ρ) 1 (fun t => ∃ c, CutOk p s e c ∧ t = lT c) := by
    refine (Tk.callS (n := 0) (n2 := 1) S.h1 (A := fun ts => ts = [.lst (cs.map lT)]) (Tk.eq (v_cons (v_var S.h5) v_nil) rfl) ?_).le (by decide)
    rintro ts rfl
    refine (tk_pick (xs := cs.map lT) (by simpa using ne) (by simp; omega)).imp fun t ht => ?_
    obtain ⟨c, h, rfl⟩ := List.mem_map.mp ht
    exact ⟨c, hc c h, rfl⟩
  refine (Tk.e1 (n := 8) (n2 := 0) (A := fun t => ∃ ts, t = .lst ts ∧ ∀ x ∈ ts, Thing x) ?_ ?_)
  · refine (Tk.callS (n := 1) (n2 := 7) S.h1 (A := fun ts => ∃ c, CutOk p s e c ∧ ts = [netV p s e roads, lT c]) ?_ ?_)
    · refine (Tk.cons (n := 0) (n2 := 1) (P := fun t => t = netV p s e roads) (A := fun us => ∃ c, CutOk p s e c ∧ us = [lT c]) (Tk.eq (v_var S.h3) rfl) ?_).mono (by decide) ?_
      · refine (Tk.cons (n := 1) (n2 := 0) (A := fun us => us = []) pk (Tk.eq v_nil rfl)).mono (by decide) ?_
        rintro ts ⟨t, us, ⟨c, C, rfl⟩, rfl, rfl⟩
        exact ⟨c, C, rfl⟩
      · rintro ts ⟨t, us, rfl, ⟨c, C, rfl⟩, rfl⟩
        exact ⟨c, C, rfl⟩
    · rintro ts ⟨c, C, rfl⟩
      exact tk_bent N C
  · rintro t ⟨ts, rfl, h⟩
    exact Tk.eq rfl h
/-- what stands in the slots between the turns -/
structure Be (ρ : Env') : Prop where
  len : ρ.length = 13
  h1 : ρ[1]? = some .strm
  no : ∀ y ∈ ρ, y.isOwn = false
theorem Be.set {i : Nat} {t : T} (B : Be ρ) (h1 : i ≠ 1) : Be (ρ.set i (.val t)) := ⟨by rw [List.length_set]; exact B.len, set_ne h1 B.h1, no_set B.no rfl⟩
theorem tk_turn (B : Be ρ) : Tk (turnG cA ρ) 1000 (fun fl => ∃ ρ', fl = .next ρ' ∧ Be ρ') := by
  refine (Tk.seq (n := 100) (n2 := 900) (I := fun ρ' => ∃ p s e roads, NetOk p s e roads ∧ Be ρ' ∧ ρ'[3]? = some (.val (netV p s e roads))) ?_ ?_)
  · have nt : Tk ((eCallS 1 (m__law_net cA) (aCons (eC (.int 6)) (aCons (eC (.int 9)) aNil))) ρ) 100 (fun t => ∃ p s e roads, t = netV p s e roads ∧ NetOk p s e roads) := by
      refine (Tk.callS (n := 0) (n2 := 100) B.h1 (A := fun ts => ts = [.int 6, .int 9]) (Tk.eq (v_cons v_c (v_cons v_c v_nil)) rfl) ?_).le (by decide)
      rintro ts rfl
      exact tk_net
    refine (Tk.sSet nt).imp ?_
    rintro fl ⟨ρ', rfl, t, ⟨p, s, e, roads, rfl, N⟩, rfl⟩
    exact ⟨_, rfl, p, s, e, roads, N, B.set (by decide), set_eq (by rw [B.len]; decide)⟩
  rintro ρ1 ⟨p, s, e, roads, N, B1, h3⟩
  obtain ⟨cs, ec, hc, ne, hl⟩ := cuts_ok (cA := cA) N
  refine (Tk.seq (n := 30) (n2 := 800) (I := St cA p s e roads cs) ?_ ?_).le (by decide)
  · have md : Tk ((eCallS 1 (m__law_made cA) (aCons (eV 3) aNil)) ρ1) 30 (fun t => t = netT cA p roads s e) := by
      refine (Tk.callS (n := 0) (n2 := 30) B1.h1 (A := fun ts => ts = [netV p s e roads]) (Tk.eq (v_cons (v_var h3) v_nil) rfl) ?_).le (by decide)
      rintro ts rfl
      exact tk_made N
    have ct : (eCall (m__law_cuts cA) (aCons (eV 3) aNil)) ρ1 = .ret (.lst (cs.map lT)) := v_call (v_cons (v_var h3) v_nil) ec
    refine (tk_par (n := 30) (n2 := 0) md (R := fun u => u = .lst (cs.map lT)) (Tk.eq ct rfl)).imp ?_
    rintro fl ⟨ρ', rfl, t, u, rfl, rfl, rfl⟩
    have B2 : Be ((ρ1.set 4 (.val (netT cA p roads s e))).set 5 (.val (.lst (cs.map lT)))) := (B1.set (by decide)).set (by decide)
    exact ⟨_, rfl, B2.len, B2.h1, set_ne (by decide) (set_ne (by decide) h3), set_ne (by decide) (set_eq (by rw [B1.len]; decide)), set_eq (by rw [List.length_set, B1.len]; decide), B2.no⟩
  intro ρ2 S2
  refine (Tk.seq (n := 64 + 1 * 64) (n2 := 600) (I := St cA p s e roads cs) ?_ ?_).le (by decide)
  · refine (Tk.sFor (n := 64) (c := 1) (L := 64) (fun _ => St cA p s e roads cs) (tk_items S2 hl) (fun ts h => h.1) S2 ?_).imp ?_
    · intro ts h j t ρ ht S
      obtain ⟨c, hcc, rfl⟩ := h.2 t (List.mem_of_getElem? ht)
      exact ⟨_, rfl, run_cut N (hc c hcc) (S.set (by decide) (by decide) (by decide) (by decide)) (set_eq (by rw [S.len]; decide))⟩
    · rintro fl ⟨ρ', ts, rfl, _, S⟩
      exact ⟨ρ', rfl, S⟩
  intro ρ3 S3
  refine (Tk.seq (n := 8) (n2 := 0) (I := St cA p s e roads cs) ?_ ?_).le (by decide)
  · refine (Tk.sFor0 (n := 8) (St cA p s e roads cs) (tk_things N S3 hc ne hl) S3 ?_)
    intro ts h t ρ ht S
    refine ⟨_, rfl, ?_⟩
    obtain ⟨ρ', e', S'⟩ := run_thing (h t ht) (S.set (i := 8) (t := t) (by decide) (by decide) (by decide) (by decide)) (set_eq (by rw [S.len]; decide))
    exact Tk.eq e' ⟨ρ', rfl, S'⟩
  intro ρ4 S4
  obtain ⟨ρ', e', S'⟩ := run_held S4
  exact Tk.eq e' ⟨ρ', rfl, S'.len, S'.h1, S'.no⟩
theorem good {cA : Str → Addr} : (G_law cA ((List.replicate 13 Sl.any).set 1 .strm)).wp (10 ^ 13) (fun _ fl => fl = .ret (.bl true)) fun _ _ _ => False := by
  rw [g_law]
  have B0 : Be ((List.replicate 13 Sl.any).set 1 .strm) := ⟨rfl, rfl, by decide⟩
  generalize (List.replicate 13 Sl.any).set 1 .strm = ρ0 at B0
  have h : Tk (sSeq (sFor rG (bName 2) (turnG cA)) (sRet (eC (.bl true))) ρ0) 4000 (fun fl => fl = .ret (.bl true)) := by
    refine (Tk.seq (n := 0 + 1000 * 4) (n2 := 0) (I := fun _ => True) ?_ ?_).le (by decide)
    · refine (Tk.sFor (n := 0) (c := 1000) (L := 4) (A := fun ts => ts.length ≤ 4) (fun _ => Be) ?_ (fun ts h => h) B0 ?_).imp ?_
      · refine (tk_rng (n := 0) (K := 4) (Tk.eq (a := .int 4) rfl ⟨4, rfl, by decide, by decide⟩) (by decide)).imp fun ts h => h.1
      · intro ts h j t ρ ht B
        exact ⟨_, rfl, tk_turn (B.set (by decide))⟩
      · rintro fl ⟨ρ', ts, rfl, _, _⟩
        exact ⟨ρ', rfl, trivial⟩
    · intro ρ' _
      exact Tk.eq (g_ret v_c) rfl
  exact h.good (by decide) fun b' a ha => ha
end Tw
end
set_option Elab.async false
set_option linter.all false
set_option maxRecDepth 100000
set_option maxHeartbeats 0
open PySem PySem.W PySem.Calls PyProof.Rows DP
theorem PySem.Challenge.cw_quickbythen_k42_cuts_holds : PySem.Challenge.rw_quickbythen_k42_cuts.Holds := by
  w_on; o_law
  refine HandSHeadRun.head_any (r := OpenLaw.row PySem.Challenge.rw_quickbythen_k42_cuts) (q := view (OpenLaw.row PySem.Challenge.rw_quickbythen_k42_cuts).prog [37]) (H := Tw.hk) (ob := Tw.ob) (M := 20000) (loose := Tw.loose) (d := HandSHeadRun.topDef (OpenLaw.row PySem.Challenge.rw_quickbythen_k42_cuts).prog 37) (kwd := []) Tw.ob_eq
    (by kernel_rfl) (fun s => by kernel_rfl) Tw.run (by kernel_rfl) (by kernel_rfl) (by kernel_rfl) (by rfl) (by first | assumption | decide +kernel) (by decide +kernel) ⟨rfl, rfl, rfl, rfl, rfl, by decide +kernel⟩ ?hw ?hc
  case hw => w_witness2
  case hc =>
    refine walk_topT (l := PySem.Challenge.rw_quickbythen_k42_cuts) (n := 63) (x := "script") rfl (by decide) (by kernel_rfl) ?F
    intro w mg fa h Y G hmg0
    obtain ⟨K, KX, cx⟩ := Y
    have c := saysF_of cx
    have hmg : mg ("law" : PySem.Str) = some (.ref fa) := by
      have e : (HandSHeadRun.topDef (OpenLaw.row PySem.Challenge.rw_quickbythen_k42_cuts).prog 37).name = ("law" : PySem.Str) := by kernel_rfl
      rw [← e]
      exact hmg0
    obtain ⟨Y, aL⟩ := Tw.txa KX G c
    have e := hmg.symm.trans Y.mg_law
    cases e
    skip
    refine ⟨K, Y.d_law, spLawT K [], [], KX, fun p hp => ?_, fun p hp => ?_, fun p hp => ?_, bt_of (y := "script") Y.F_law fun _ _ _ _ _ _ us hl => match us, hl with | [_], _ => rfl, fun H a ns hl hT hS => ⟨fun p hp => ?_, a, ns, rfl, hS, fun _ => rfl⟩, fun base TB => Tw.ok_law Y Tw.good⟩
    all_goals cases hp
